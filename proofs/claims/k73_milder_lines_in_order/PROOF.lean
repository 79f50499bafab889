import PyProof.Rows.All
import Wide.All
import OpenK.AllK
import Wide.FinOn
import PyProof.EqAt
import PyProof.EqKinds
import PyProof.TupleCall
import HandS.Base
import HandS.Call
import HandS.List
import HandS.Comp
import HandS.Ends
import HandS.Words
import HandS.WordsList
import HandS.Exc
import HandS.ExcInit
import HandS.ExcIs
import HandS.OwnEq
import HandS.IsInst
import HandS.ExcOwn
import HandS.ExcField
import HandS.WordsExc
import HandS.TryOnly
import HandS.TryMany
import HandS.CallSlots
import HandS.Wide
import HandS.Codes
import KE.KTupSum
import PyProof.ListRange
import KE.GoesEnum
import HandS.Iter
import HandS.Walk
import HandS.HotCalls
import KE.KEqNest
import HandS.MakeKwOnly
import HandS.TupAny
import HandS.Strs
import HandS.Deep
import HandS.Zip
import HandS.Star
import HandS.Conv
import HandS.IterVal
import HandS.ListItems
import KE.KDictZip
import KE.DataFind
import HandS.GenCall
import HandS.GenList
import KE.DataMinMax
import HandS.SortKw
import KE.KExcInit
import HandS.SetFor
import HandS.Style
import KE.GoesZip
import KE.GoesMore
import HandS.Remove
import HandS.SlotsOwn
import KE.GoesEnumKw
import PyProof.Rows.CallKwBuiltin
import PyProof.Rows.ReprR
import OpenK.KMeth
import HandS.SetKeys
import HandS.Defaults
import HandS.Evl
import HandS.NoneIn
import PySem.Challenge.RW_wholeline_k73_milder_lines_in_order
set_option Elab.async false
set_option maxRecDepth 100000
set_option maxHeartbeats 4000000
namespace PySem.W
open PySem PySem.Calls PyProof.Rows
section
variable {prog : Program} {w : World} {A : Around} {E : Value → Shared → Prop} {s : Shared} {K : Frag} {x C L f : Addr} {h₀ : Heap} {m : Str → Option Value} {ox : Obj} {od : Option Obj} {b tb : Value}
theorem objNe_K {Q : Fin → Shared → Prop} (hu : A.units < cLine) (X : K.In s.heap) (I : InstAt s.heap x ox C od)
    (hs : findIn K (.ref C) "__eq__" = some (some (.ref f))) (hf : isFn K (.ref f) = true)
    (h : wpAny (model prog w) A (call (.ref f) [.ref x, b]) (fun v s' => ∃ r, v = .bool r ∧ Q (.done (.ret (.bool (!r)))) s') E s) :
    wpAny (model prog w) A (Builtin.«object.__ne__» ⟨[.ref x, b], []⟩) Q E s := by
  obtain ⟨hp, g, d, tk, os⟩ := s
  unfold Builtin.«object.__ne__»
  repeat (first
    | with_reducible refine wpAny_cRoomFor hu ?_
    | (refine wpAny_bind (m := callSpecialIfBound? (.ref x) (Str.ofString "__eq__") [b])
        (ifBound_K X I hs hf (wpAny_mono h (fun r s' hr => by
          obtain ⟨b, rfl, hq⟩ := hr
          repeat (first | exact hq | exact wpAny_pure hq | exact wpAny_truthy_bool hq | (refine wpAny_bind (m := truthy (.bool _)) (wpAny_truthy_bool ?_)) | wp_step)) fun _ _ e => e)))
    | wp_step)
theorem cmpNe_K {Q : Value → Shared → Prop} (hu : A.units + 1 < cLine) (F : Fr h₀ L s.heap m) (X₀ : K.In h₀) (I : InstAt s.heap x ox C od) (hb : Looks (model prog w) s.heap (typeOf b) tb) (hn : notFirst K C tb = true)
    (hne : findIn K (.ref C) "__ne__" = some (some (.builtin "object.__ne__"))) (hm : mroIn K C (.type "object") = some true)
    (hs : findIn K (.ref C) "__eq__" = some (some (.ref f))) (hf : isFn K (.ref f) = true)
    (h : wpAny (model prog w) A.in1 (call (.ref f) [.ref x, b]) (fun v s' => ∃ r, v = .bool r ∧ Q (.bool (!r)) s') E s) : wpAny (model prog w) A (richCompare .NotEq (.ref x) b) Q E s := by
  have X := X₀.keeps F.keep
  have sub : Looks (model prog w) s.heap (isInstance (.ref x) (.type "object")) true := I.type.andThen (looks_mroIn X hm)
  have one : wpAny (model prog w) A (tryCompare (.ref x) "__ne__" b) (fun r s' => ∃ v, r = some v ∧ Q v s') E s := by
    unfold tryCompare
    refine wpAny_bind ?_
    simp only [callSpecialIfBound?, bindSpecialIfBound?]
    refine wpAny_holding (wpAny_bind (wpAny_bind (wpAny_bind (I.type.here ((looks_findIn X hne).here ?_)))))
    simp only [PySem.F.cmp_object.ne.bind]
    refine wpAny_bind (wpAny_askSetting (wpAny_ite ?_))
    have fin : wpAny (model prog w) A (call (.builtin "object.__ne__") ([.ref x] ++ [b]) >>= fun v => pure (some v)) (fun r s' => wpAny (model prog w) A (match r with
        | some .notImplemented | none => pure none
        | some v => pure (some v)) (fun r s' => ∃ v, r = some v ∧ Q v s') E s') E s := by
      refine wpAny_bind (wpAny_call (codeAny_call_builtin PySem.F.cmp_object.ne.plain PySem.F.cmpEntry_ne (check_slot PySem.F.cmpKind_ne PySem.F.cmpSplit_ne sub (PySem.F.cmpArgs_ne _ _)
        (objNe_K (A := A.in1) hu X I hs hf (wpAny_mono h (fun v s' hv => ?_) fun _ _ e => e)))))
      obtain ⟨r, rfl, hq⟩ := hv
      first | exact ⟨r, rfl, wpAny_pure (wpAny_pure ⟨_, rfl, hq⟩)⟩ | exact ⟨r, rfl, wpAny_pure ⟨_, rfl, hq⟩⟩
    split
    · repeat (first | exact fin | with_reducible refine wpAny_pure ?_ | with_reducible refine wpAny_bind ?_ | with_reducible refine wpAny_tryCatch ?_)
    · refine wpAny_tryCatch ?_
      repeat (first | exact fin | with_reducible refine wpAny_pure ?_ | with_reducible refine wpAny_bind ?_)
  unfold richCompare
  simp only [oneThing_ref]
  refine wpAny_holding (wpAny_bind (wpAny_cRoomFor (Nat.lt_of_succ_lt hu) ?_))
  refine wpAny_bind (I.type.here (wpAny_bind (hb.here ?_)))
  split
  · rename_i q
    have e : subIn K tb (.ref C) = some false := by
      rcases Bool.or_eq_true_iff.mp hn with e | e
      · rw [beq_iff_eq.mp e] at q; simp at q
      · exact beq_iff_eq.mp e
    refine wpAny_bind ((looks_subIn X e).here ?_)
    simp only [Bool.false_eq_true, if_false]
    refine wpAny_bind (wpAny_mono one (fun r s' z => ?_) fun _ _ e => e)
    obtain ⟨v, rfl, hq⟩ := z
    exact wpAny_pure hq
  · refine wpAny_bind (wpAny_pure ?_)
    simp only [Bool.false_eq_true, if_false]
    refine wpAny_bind (wpAny_mono one (fun r s' z => ?_) fun _ _ e => e)
    obtain ⟨v, rfl, hq⟩ := z
    exact wpAny_pure hq
end
end PySem.W

set_option Elab.async false
set_option maxRecDepth 100000
set_option maxHeartbeats 4000000
namespace L2
open PySem PySem.Spec PyProof.Rows
section
variable {X : Cx} {CX : CXT} {k : Nat} {f C : Addr} {fd : FuncData} {ps : List Str} {sp : Sp}
/-- the own method f, called at some frame below with room -/
theorem run_at {A : Around} {pins : List (Addr × Obj)} {σ : St} {H : Hp} {s : Shared} {Q : VK} {us : List Value} {vs : List V} (F : FnOk X.prog X.w X.K X.mg X.base CX k f fd ps sp) (hr : Room k A) (hA : A.frames = X.A.frames) (hb : Binds X.K fd ps []) (hx : Passes CX X E0)
    (I : Inv X pins σ H s) (r : Vals vs us) (h : sp vs H Q E0) : wpAny (model X.prog X.w) A (call (.ref f) us) (EP X pins σ Q) X.xe s := by
  have hl : us.length = ps.length := by rw [← r.length]; exact F.len _ _ _ _ h
  have e0 : Env0 X.prog X.w X.K X.mg X.base A X.stack s H := by
    have e := I.env0
    exact ⟨by rw [hA]; exact e.frames, e.mod, e.bs, e.bsz, e.funs, e.frf, e.hok, e.bare⟩
  refine wpAny_call (codeAny_mono (F.run A X.stack s H ⟨us, []⟩ us vs Q E0 hr e0 (by
    have := hb s us I.kIn (by simpa using hl)
    simpa using this) r h) fun r s' hq => ?_)
  cases r with
  | error e => exact hx pins σ H s e s' I hq
  | ok fl =>
    cases fl with
    | ret u => exact I.after hq
    | next => exact False.elim hq
    | brk => exact False.elim hq
    | cont => exact False.elim hq
/-- x == y, x an instance of the class at C, by its own ==; y anything whose type is known -/
def rEqO (K : PySem.W.Frag) (C : Addr) (sp : Sp) : R2 := fun x y H Q => ∃ a dx fs t, x = .ref a ∧ H a = some (.ins C dx fs) ∧ TyX K H y t ∧ PySem.W.notFirst K C t = true ∧ sp [x, y] H (fun v H' => ∃ b, v = .bl b ∧ Q (.bl b) H') E0
def rNeO (K : PySem.W.Frag) (C : Addr) (sp : Sp) : R2 := fun x y H Q => ∃ a dx fs t, x = .ref a ∧ H a = some (.ins C dx fs) ∧ TyX K H y t ∧ PySem.W.notFirst K C t = true ∧ sp [x, y] H (fun v H' => ∃ b, v = .bl b ∧ Q (.bl (!b)) H') E0
structure EqM (K : PySem.W.Frag) (C f : Addr) : Prop where
  eq : PySem.W.findIn K (.ref C) "__eq__" = some (some (.ref f))
  fn : PySem.W.isFn K (.ref f) = true
  ne : PySem.W.findIn K (.ref C) "__ne__" = some (some (.builtin "object.__ne__"))
  ob : PySem.W.mroIn K C (.type "object") = some true
theorem op_eqO (F : FnOk X.prog X.w X.K X.mg X.base CX k f fd ps sp) (M : EqM X.K C f) (hr : Room k X.A) (hb : Binds X.K fd ps []) (hx : Passes CX X E0) : OpR X (compareOp .Eq) (rEqO X.K C sp) := by
  intro pins s σ H x y v u Q I rx ry hq
  obtain ⟨a, dx, fs, t, rfl, ha, ty, hn, q⟩ := hq
  cases (show v = Value.ref a from rx)
  obtain ⟨P, Z, p, _⟩ := kit_of I ry ty
  obtain ⟨mA, J, _⟩ := ins_get I.hok ha
  obtain ⟨od, J, _⟩ := J.look
  obtain ⟨m, hF⟩ := I.fr
  show wpAny (model X.prog X.w) X.A (richCompare .Eq (.ref a) u) (EP X pins σ Q) X.xe s
  refine PySem.W.cmp_K (op := .Eq) (tb := t) hr.units0 hF I.ok.mod.kin J (Z.ty _ _ I.kIn p) hn M.eq M.fn ?_
  refine wpAny_mono (run_at (vs := [.ref a, y]) F hr rfl hb hx I (.cons rfl (.cons ry .nil)) q) (fun v' s' z => ?_) fun _ _ e => e
  obtain ⟨w', H', I', rv, b, rfl, q'⟩ := z
  cases rv
  exact ⟨.bl b, H', I', rfl, q'⟩
theorem op_neO (F : FnOk X.prog X.w X.K X.mg X.base CX k f fd ps sp) (M : EqM X.K C f) (hr : Room (k + 1) X.A) (hb : Binds X.K fd ps []) (hx : Passes CX X E0) : OpR X (compareOp .NotEq) (rNeO X.K C sp) := by
  intro pins s σ H x y v u Q I rx ry hq
  obtain ⟨a, dx, fs, t, rfl, ha, ty, hn, q⟩ := hq
  cases (show v = Value.ref a from rx)
  obtain ⟨P, Z, p, _⟩ := kit_of I ry ty
  obtain ⟨mA, J, _⟩ := ins_get I.hok ha
  obtain ⟨od, J, _⟩ := J.look
  obtain ⟨m, hF⟩ := I.fr
  show wpAny (model X.prog X.w) X.A (richCompare .NotEq (.ref a) u) (EP X pins σ Q) X.xe s
  refine PySem.W.cmpNe_K (tb := t) (by have := hr.units; omega) hF I.ok.mod.kin J (Z.ty _ _ I.kIn p) hn M.ne M.ob M.eq M.fn ?_
  refine wpAny_mono (run_at (vs := [.ref a, y]) F hr.in1 rfl hb hx I (.cons rfl (.cons ry .nil)) q) (fun v' s' z => ?_) fun _ _ e => e
  obtain ⟨w', H', I', rv, b, rfl, q'⟩ := z
  cases rv
  exact ⟨b, rfl, .bl (!b), H', I', rfl, q'⟩
/-- len(o), o an instance of the class at C with an own __len__ -/
def rLenO (C : Addr) (sp : Sp) : List V → Hp → VK → Prop := fun xs H Q => ∃ a dx fs, xs = [.ref a] ∧ H a = some (.ins C dx fs) ∧ sp [.ref a] H (fun v H' => ∃ n : Int, v = .int n ∧ (0 ≤ n ∧ n < 2 ^ 63) ∧ Q (.int n) H') E0
theorem call_lenO (F : FnOk X.prog X.w X.K X.mg X.base CX k f fd ps sp) (hs : PySem.W.findIn X.K (.ref C) "__len__" = some (some (.ref f))) (hf : PySem.W.isFn X.K (.ref f) = true) (hr : Room (k + 1) X.A) (hb : Binds X.K fd ps []) (hx : Passes CX X E0) :
    CallR X (.builtin "len") (rLenO C sp) := by
  intro pins s σ H xs us Q I r h
  obtain ⟨a, dx, fs, rfl, ha, q⟩ := h
  cases r with
  | cons rx rr =>
    rename_i u us'
    cases rr
    cases (show u = Value.ref a from rx)
    obtain ⟨mA, J, _⟩ := ins_get I.hok ha
    obtain ⟨od, J, _⟩ := J.look
    obtain ⟨m, hF⟩ := I.fr
    refine PySem.W.len_K hF I.ok.mod.kin J hs hf ?_
    refine wpAny_mono (run_at (vs := [.ref a]) F hr.in1 rfl hb hx I (.cons rfl .nil) q) (fun v' s' z => ?_) fun _ _ e => e
    obtain ⟨w', H', I', rv, n, rfl, hn, q'⟩ := z
    obtain ⟨t, rfl⟩ := (show ∃ t, v' = Value.int n t from rv)
    exact ⟨hn, .int n, H', I'.tok _, ⟨_, rfl⟩, q'⟩
end
end L2

set_option Elab.async false
set_option maxRecDepth 100000
set_option maxHeartbeats 4000000
namespace PySem.W
open PySem PySem.Spec PySem.Calls PyProof.Rows
section
variable {K : Frag} {C : Addr}
theorem findObj_dat {od : Option Obj} {name : Str} {a g : Value} (hc : (clsIn K C).isSome = true) (ha : findIn K (.ref C) name = some (some a)) (hg : specialIn K a "__get__" = some (some g)) (ht : takesIn K a = some true) :
    findObj K C od name = some (.bind g a) := by
  obtain ⟨cd, hc⟩ := Option.isSome_iff_exists.mp hc
  simp [findObj, hc, ha, hg, ht]
variable {prog : Program} {w : World} {A : Around} {E : Value → Shared → Prop} {s : Shared} {x D : Addr} {ox : Obj}
theorem kin_classD {od : Option Obj} {Q : Option Value → Shared → Prop} (T : L2.ExcC K D)
    (X : K.In s.heap) (I : InstAt s.heap x ox D od) (h : Q (some (.ref D)) { s with toks := s.toks + 1 }) : wpAny (model prog w) A (getAttr? (.ref x) "__class__") Q E s := by
  have hf : findObj K D od "__class__" = some (.bind (.builtin "getset_descriptor.__get__") (.builtin "object.__class__")) :=
    findObj_dat (by obtain ⟨cd, hc, _⟩ := any_some T.hd; rw [hc]; rfl) T.ha T.hn T.ht
  obtain ⟨hp, g, d, t, os⟩ := s
  have L0 := I.type (M := model prog w)
  have L1 := looks_findIn (M := model prog w) X T.hg
  have L2 := looks_findIn (M := model prog w) X T.hk
  have L3 := looks_find (M := model prog w) X I hf
  have sub : Looks (model prog w) hp (isInstance (.ref x) (.type "BaseException")) true := L0.andThen (looks_subIn X T.hs)
  have hx0 : (false && onTheHeap (Value.builtin "BaseException.__getattribute__")) = false := rfl
  have hx2 : (Value.builtin "BaseException.__getattribute__" == Value.builtin "object.__getattribute__") = false := by decide +kernel
  have hx1 : (onTheHeap (Value.ref D) && Value.builtin "BaseException.__getattribute__" == Value.builtin "object.__getattribute__") = false := by rw [hx2]; rfl
  unfold getAttr? getAttrBy? getAttrBy
  refine wpAny_bind (wpAny_mkText (wpAny_bind (wpAny_attempt (wpAny_holding (wpAny_bind (L0.at (wpAny_bind (L1.at ?_))))))))
  show wpAny _ _ (if (onTheHeap (Value.ref D) && Value.builtin "BaseException.__getattribute__" == Value.builtin "object.__getattribute__") = true then _ else _) _ _ _
  rw [hx1, if_neg Bool.false_ne_true]
  unfold getAttrByItsOwn hookBefore
  refine wpAny_bind ?_
  rw [if_pos (show onTheHeap (Value.ref D) = true from rfl)]
  refine L2.at ?_
  refine wpAny_bind (wpAny_attempt (wpAny_holding ?_))
  unfold callGetattribute
  rw [hx0, if_neg Bool.false_ne_true]
  unfold boundAndCalled
  rw [PySem.F.excAttr_ValueError.ga.bind (.ref x)]
  refine wpAny_bind (wpAny_pure ?_)
  show wpAny _ _ (call (.builtin "BaseException.__getattribute__") [.ref x, .str "__class__" t]) _ _ _
  refine wpAny_call (codeAny_call_builtin PySem.F.excAttr_ValueError.ga.plain PySem.F.entry_bexc_ga ?_)
  refine @check_slot (model prog w) _ _ ⟨hp, g, d, t + 1, os⟩ "BaseException.__getattribute__" "BaseException" "__getattribute__" (.ref x) [.str "__class__" t] [] _ (by decide +kernel) (by decide +kernel) sub (PySem.F.args_bexc_ga (.ref x) (.str "__class__" t)) ?_
  unfold Builtin.«object.__getattribute__»
  refine wpAny_bind (wpAny_of_eq (a := ((Value.ref x : Value), [Value.str "__class__" t])) (by first | rfl | (simp only [slotArgs]; rfl)) ?_)
  refine wpAny_bind (wpAny_pure (wpAny_bind (L0.at (wpAny_bind (L3.at ?_)))))
  show wpAny _ _ (holding [Value.builtin "object.__class__"] (call (.builtin "getset_descriptor.__get__") [.builtin "object.__class__", .ref x, .ref D]) >>= ret) _ _ _
  refine wpAny_bind (wpAny_holding (wpAny_call (class_get (s := ⟨hp, g, d, t + 1, os⟩) (ox := ox) (od := od) X I T.hm ?_)))
  refine wpAny_pure ?_
  show wpAny _ _ (handedOut (.ref D)) _ _ _
  rw [handedOut_of (v := .ref D) rfl]
  first
    | exact wpAny_pure (wpAny_pure h)
    | exact wpAny_pure h
    | exact wpAny_pure (wpAny_bind (wpAny_pure (wpAny_pure h)))
theorem kitx_excD (T : L2.ExcC K D) : KitX K (.ref x) (.ref D) (fun h => ∃ od, InstAt h x ox D od) where
  ty := fun _ _ _ I => by
    obtain ⟨_, I⟩ := I
    exact I.type
  it := fun M h X _ => by
    obtain ⟨cdD, hcD, _⟩ := any_some T.hd
    unfold clsIn at hcD
    split at hcD
    · rename_i c' d' cd' sl' ho
      intro A' Q' E' s' k q
      unfold isType loadHead
      exact wpAny_bind (wpAny_loadPart (k _ _ (X _ _ ho)) (wpAny_pure q))
    · cases hcD
  ne := fun h tp dd its n sl X htp => by
    obtain ⟨cdD, hcD, _⟩ := any_some T.hd
    refine Bool.eq_false_iff.mpr fun q => ?_
    have e : D = tp := Value.ref.inj (beq_iff_eq.mp q)
    subst e
    unfold clsIn at hcD
    split at hcD
    · rename_i c' d' cd' sl' ho
      have z := (X _ _ ho).symm.trans htp
      cases z
    · cases hcD
  ca := fun X I k => by
    obtain ⟨_, I⟩ := I
    exact kin_classD T X I k
end
end PySem.W
namespace L2
open PySem PySem.Spec PyProof.Rows
section
variable {X : Cx}
/-- isinstance(e, c), e the exception that the suite holds, with a dict or without -/
theorem call_isED {a D : Addr} {d : Option Addr} {oe : Obj} {pn : List (Addr × Obj)} (C : ExcC X.K D) (hz : Zc (.ref D) d oe) (hf : ∃ vs, oe.data = .fields vs) (hd : ∀ (pins : List (Addr × Obj)) (σ : St) (H : Hp) (s : Shared), Inv (X.suite a ((a, oe) :: pn)) pins σ H s → ∀ dd, d = some dd → ∃ od, s.heap.get? dd = some od) :
    CallR (X.suite a ((a, oe) :: pn)) (.builtin "isinstance") (rIsE X.K D a) := by
  intro pins s σ H xs us Q I r h
  obtain ⟨c, cv, b, rfl, hcv, e, q⟩ := h
  cases r with
  | cons rx rr =>
    cases rr with
    | cons rt rr =>
      cases rr
      cases rx
      have ec := hcv _ rt
      subst ec
      obtain ⟨hget, _⟩ := I.pin (a, oe) (List.mem_append.mpr (.inl List.mem_cons_self))
      obtain ⟨vs, hv⟩ := hf
      have J : ∃ od, PySem.W.InstAt s.heap a oe D od := by
        have hd' := hd pins σ H s I
        obtain ⟨oc, od, oda, osl⟩ := oe
        obtain ⟨h1, h2⟩ := hz
        dsimp only at h1 h2 hv
        subst h1 h2 hv
        cases od with
        | none => exact ⟨none, hget, rfl, rfl, trivial⟩
        | some dd =>
          obtain ⟨o, ho⟩ := hd' dd rfl
          exact ⟨some o, hget, rfl, rfl, ho⟩
      exact PySem.W.kia_one (PySem.W.kitx_excD C) I.kIn J e (fun z => nomatch z) fun tk => ⟨.bl b, H, I.kept (t' := tk) fun _ _ z => z, rfl, q⟩
/-- the same where the dict is tracked: the reading asks it -/
def rIsED (K : PySem.W.Frag) (D a : Addr) (cls : Value) (d : Option Addr) : List V → Hp → VK → Prop := fun xs H Q => cls = .ref D ∧ (∀ dd, d = some dd → ∃ fs, H dd = some (.xd fs)) ∧ ∃ (c : V) (cv : Value) (b : Bool), xs = [.ref a, c] ∧ (∀ u, RelV c u → u = cv) ∧ PySem.W.kitOne K (.ref D) cv = some b ∧ Q (.bl b) H
theorem call_isEX {a D : Addr} {cls : Value} {d : Option Addr} {oe : Obj} {pn : List (Addr × Obj)} (C : ExcC X.K D) (hz : Zc cls d oe) (hf : ∃ vs, oe.data = .fields vs) : CallR (X.suite a ((a, oe) :: pn)) (.builtin "isinstance") (rIsED X.K D a cls d) := by
  intro pins s σ H xs us Q I r h
  obtain ⟨ec0, hdd, c, cv, b, rfl, hcv, e, q⟩ := h
  subst ec0
  cases r with
  | cons rx rr =>
    cases rr with
    | cons rt rr =>
      cases rr
      cases rx
      have ec := hcv _ rt
      subst ec
      obtain ⟨hget, _⟩ := I.pin (a, oe) (List.mem_append.mpr (.inl List.mem_cons_self))
      obtain ⟨vs, hv⟩ := hf
      have J : ∃ od, PySem.W.InstAt s.heap a oe D od := by
        obtain ⟨oc, od, oda, osl⟩ := oe
        obtain ⟨h1, h2⟩ := hz
        dsimp only at h1 h2 hv
        subst h1 h2 hv
        cases od with
        | none => exact ⟨none, hget, rfl, rfl, trivial⟩
        | some dd =>
          obtain ⟨fs, hfs⟩ := hdd dd rfl
          obtain ⟨mA, hns, _⟩ := (show ObjOk X.prog X.w H s.heap dd (.xd fs) from I.hok dd _ hfs)
          obtain ⟨od, ho, _⟩ := lookIn_ns hns
          exact ⟨some od, hget, rfl, rfl, ho⟩
      exact PySem.W.kia_one (PySem.W.kitx_excD C) I.kIn J e (fun z => nomatch z) fun tk => ⟨.bl b, H, I.kept (t' := tk) fun _ _ z => z, rfl, q⟩
end
section
variable {X : Cx} {CX : CXT} {k : Nat} {f C : Addr} {fd : FuncData} {ps : List Str} {sp : Sp} {dvs : List V} {ds : List Value} {E : St → XK} {x m : Str} {p pos apos : Pos} {e o : Expr} {es : List Expr} {ta : TE} {t : TA}
/-- C(e, ..) where what is raised is wished for at the slots as they stand -/
def tMakeS (C : Addr) (sp : Sp) (dvs : List V) (E : St → XK) (t : TA) : TE := fun σ H Q => t σ H fun vs H1 => ∀ x dx, H1 x = none → H1 dx = none → dx ≠ x →
  sp (.ref x :: (vs ++ dvs)) (upd (upd H1 dx (.own x)) x (.ins C dx [])) (fun v H2 => v = .non ∧ Q (.ref x) H2) (fun cls d H2 => E σ cls d H2)
theorem run_makeS {pins : List (Addr × Obj)} {σ : St} {H : Hp} {s : Shared} {Q : VK} {us : List Value} {vs : List V} (M : Mk X.K C f) (F : FnOk X.prog X.w X.K X.mg X.base CX k f fd ps sp) (hr : Room (k + 1) X.A) (hb : Binds X.K fd ps ds) (hd : Vals dvs ds)
    (hx : PassesAt CX X σ (E σ)) (I : Inv X pins σ H s) (r : Vals vs us)
    (h : ∀ x dx, H x = none → H dx = none → dx ≠ x → sp (.ref x :: (vs ++ dvs)) (upd (upd H dx (.own x)) x (.ins C dx [])) (fun v H2 => v = .non ∧ Q (.ref x) H2) (E σ)) :
    wpAny (model X.prog X.w) X.A (call (.ref C) us) (EP X pins σ Q) X.xe s := by
  have hq := h (s.heap.objs.size + 1) s.heap.objs.size (I.hok.fresh (Nat.le_succ _)) (I.hok.fresh (Nat.le_refl _)) (Nat.ne_of_lt (Nat.lt_succ_self _))
  have I2 := Inv.made (C := C) I
  have r2 : Vals (V.ref (s.heap.objs.size + 1) :: (vs ++ dvs)) (Value.ref (s.heap.objs.size + 1) :: (us ++ ds)) := .cons rfl (r.append hd)
  have hl : (Value.ref (s.heap.objs.size + 1) :: us ++ ds).length = ps.length := by
    have e := r2.length
    rw [F.len _ _ _ _ hq] at e
    exact e.symm
  refine wpAny_call (make_map (f := f) I.kIn M.makes M.init (beq_iff_eq.mp M.fn) (codeAny_mono (F.run _ X.stack _ _ ⟨Value.ref (s.heap.objs.size + 1) :: us, []⟩ (Value.ref (s.heap.objs.size + 1) :: (us ++ ds)) _ _ (E σ) (hr.make C us [])
    (I2.env0.make C us []) (hb _ (Value.ref (s.heap.objs.size + 1) :: us) I2.kIn hl) r2 hq) fun r s' hq' => ?_))
  cases r with
  | error e => exact hx pins _ _ e s' I2 hq'
  | ok fl =>
    cases fl with
    | ret u =>
      obtain ⟨v, H', I3, rv, ev, q3⟩ := I2.after hq'
      subst ev
      exact ⟨rv, ⟨V.ref (s.heap.objs.size + 1), H', I3, rfl, q3⟩⟩
    | next => exact False.elim hq'
    | brk => exact False.elim hq'
    | cont => exact False.elim hq'
theorem pe_makeS (M : Mk X.K C f) (F : FnOk X.prog X.w X.K X.mg X.base CX k f fd ps sp) (hr : Room (k + 1) X.A) (hg : Gl X x) (hm : X.mg x = some (.ref C)) (hb : Binds X.K fd ps ds) (hd : Vals dvs ds) (hx : ∀ σ, PassesAt CX X σ (E σ))
    (ha : PA X (e :: es) t) (hdb : (x == ("__debug__" : Str)) = false := by decide) (he : starEach (e :: es) X.env = (false, eval e X.env) :: starEach es X.env := by rfl) (hpl : (backTo pos (starEach es X.env)).any (·.1) = false := by rfl) :
    PE X (.Call (.Name x p) (e :: es) [] pos) (tMakeS C sp dvs E t) := by
  refine ⟨fun pins s σ H Q I h => ?_⟩
  refine wpAny_Call_Name_kw (ld_glob I hg hm ?_ hdb)
  refine PySem.W.callWith_K (h₀ := X.base) I.ok.mod.kin M.kp (thn (ha.run pos pins s σ H _ I h) fun us s1 ⟨vs, H1, I1, r, q⟩ => ⟨I1.kIn, ?_⟩) he hpl
  exact run_makeS M F hr hb hd (hx σ) I1 r q
/-- o.m(e, ..) | o.m() likewise -/
def tMethSD (C : Addr) (m : Str) (sp : Sp) (dvs : List V) (E : St → XK) (ta : TE) (t : TA) : TE := fun σ H Q => ta σ H fun x H1 => ∃ a dx fs, x = .ref a ∧ H1 a = some (.ins C dx fs) ∧ fs.lookup m = none ∧
  t σ H1 fun vs H2 => sp (x :: (vs ++ dvs)) H2 Q (E σ)
theorem pe_methSD {pl : Sem Bool} (he : PE X o ta) (c : Cls X.K C) (hm : Meth X.K C m f) (F : FnOk X.prog X.w X.K X.mg X.base CX k f fd ps sp) (hr : Room k X.A) (hb : Binds X.K fd ps ds) (hd : Vals dvs ds) (hx : ∀ σ, PassesAt CX X σ (E σ)) (ha : PA X (e :: es) t)
    (hst : starEach (e :: es) X.env = (false, eval e X.env) :: starEach es X.env := by rfl) (hpl : (backTo pos (starEach es X.env)).any (·.1) = false := by rfl)
    (ht : eval (.Call (.Attribute o m apos) (e :: es) [] pos) X.env = (do
      let ov ← eval o X.env
      standAt apos.atName
      let (f, first) ← holding [ov] (getMethod ov m pl)
      callWith pos f first (backTo pos (starEach (e :: es) X.env)) (backToKw pos (keywordEach [] X.env))) := by rfl) :
    PE X (.Call (.Attribute o m apos) (e :: es) [] pos) (tMethSD C m sp dvs E ta t) := by
  refine ⟨fun pins s σ H Q I h => ?_⟩
  refine PySem.W.methodCall_KW (pl := pl) (thn (he.run pins s σ H _ I h) fun u s1 ⟨x, H1, I1, rx, a, dx, fs, ex, ea, l, q⟩ => ?_) ht
  subst ex
  obtain rfl : u = Value.ref a := rx
  refine getmeth_ok I1 ea c hm l ?_
  refine PySem.W.callWith_K (first := [.ref a]) (h₀ := X.base) I.ok.mod.kin hm.kp (thn (ha.run pos pins s1 σ H1 _ I1 q) fun us s2 ⟨vs, H2, I2, r, q2⟩ => ⟨I2.kIn, ?_⟩) hst hpl
  exact run_fnSD (us := .ref a :: us) (vs := .ref a :: vs) F hr hb hd (hx σ) I2 (.cons rfl r) q2
theorem pe_methSD0 {pl : Sem Bool} (he : PE X o ta) (c : Cls X.K C) (hm : Meth X.K C m f) (F : FnOk X.prog X.w X.K X.mg X.base CX k f fd ps sp) (hr : Room k X.A) (hb : Binds X.K fd ps ds) (hd : Vals dvs ds) (hx : ∀ σ, PassesAt CX X σ (E σ))
    (ht : eval (.Call (.Attribute o m apos) [] [] pos) X.env = (do
      let ov ← eval o X.env
      standAt apos.atName
      let (f, first) ← holding [ov] (getMethod ov m pl)
      callWith pos f first (backTo pos (starEach [] X.env)) (backToKw pos (keywordEach [] X.env))) := by rfl) :
    PE X (.Call (.Attribute o m apos) [] [] pos) (tMethSD C m sp dvs E ta tNil) := by
  refine ⟨fun pins s σ H Q I h => ?_⟩
  refine PySem.W.methodCall_KW (pl := pl) (thn (he.run pins s σ H _ I h) fun u s1 ⟨x, H1, I1, rx, a, dx, fs, ex, ea, l, q⟩ => ?_) ht
  subst ex
  obtain rfl : u = Value.ref a := rx
  refine getmeth_ok I1 ea c hm l ?_
  exact PySem.W.callWith_K0 (first := [.ref a]) I1.kIn hm.kp (run_fnSD (us := [.ref a]) (vs := [.ref a]) F hr hb hd (hx σ) I1 (.cons rfl .nil) q)
end

/-! ### own errors with one field -/
/-- what __init__ of such an error does: self.f = v -/
def spXI (C : Addr) (f : Str) : Sp := fun vs H Q _ => ∃ (a : Addr) (y : V), vs = [.ref a, y] ∧ H a = some (exo a C none) ∧ ∀ dx, H dx = none → dx ≠ a → Q .non (upd (upd H dx (exd dx [(f, y)])) a (exo a C (some dx)))
/-- all that is asked of the class x of errors at C, whose field is f -/
structure XCls (P : Program) (w : World) (K : PySem.W.Frag) (mg : Str → Option Value) (base : Heap) (x f : Str) (C : Addr) : Prop where
  ox : OexC K C
  gC : mg x = some (.ref C)
  noA : PySem.W.findIn K (.ref C) f = some none
  ec : ExcC K C
  ini : ∃ (fI : Addr) (fd : FuncData), PySem.W.findIn K (.ref C) "__init__" = some (some (.ref fI)) ∧ PySem.W.typeIn K (.ref fI) = some (.type "function") ∧ FnOk P w K mg base CX0 1 fI fd ["self", f] (spXI C f) ∧ Binds K fd ["self", f] []
theorem XCls.xf {P : Program} {w : World} {K : PySem.W.Frag} {mg : Str → Option Value} {base : Heap} {x f : Str} {C : Addr} (T : XCls P w K mg base x f C) : XfC K C := ⟨T.ec.hg, T.ec.hk, T.ec.hs, T.ec.hd⟩
section
variable {X : Cx} {C : Addr} {x f : Str} {e : Expr} {te : TE} {p pos pos2 : Pos}
theorem pmk_X (T : XCls X.prog X.w X.K X.mg X.base x f C) (hr : Room 2 X.A) (he : PE X e te) (hg : Gl X x) (hdb : (x == ("__debug__" : Str)) = false := by decide)
    (hs : starEach [e] X.env = (false, eval e X.env) :: starEach [] X.env := by rfl) (hpl : (backTo pos (starEach [] X.env)).any (·.1) = false := by rfl) :
    PMk X (.Call (.Name x p) [e] [] pos) (tMkO C (spXI C f) [] (tCons te tNil)) := by
  obtain ⟨fI, fd, i1, i2, F, b⟩ := T.ini
  exact pmk_oex (dvs := []) (ds := []) T.ox i1 i2 F hr b .nil pass0 hg T.gC (pa_cons he pa_nil hs) hdb hs hpl
/-- what is left to be shown behind the argument y -/
theorem mkX_fin {H1 : Hp} {y : V} {Q : XK} (h : ∀ d, H1 d = none → Q (.ref C) (some d) (upd H1 d (.xd [(f, y)]))) :
    [y].length ≤ 1000 ∧ ∀ a, H1 a = none → spXI C f (.ref a :: ([y] ++ [])) (upd H1 a (exo a C none))
      (fun v H2 => v = .non ∧ ∃ (d : Addr) (fs : List (Str × V)), H2 a = some (exo a C (some d)) ∧ H2 d = some (exd d fs) ∧ H1 d = none ∧ Q (.ref C) (some d) (upd (del H2 a) d (.xd fs))) (fun _ _ _ => False) := by
  refine ⟨by show 1 ≤ 1000; decide, fun a ha => ⟨a, y, rfl, upd_same, fun dx hdx hne => ⟨rfl, dx, [(f, y)], upd_same, ?_, ?_, ?_⟩⟩⟩
  · rw [upd_ne hne, upd_same]
  · rw [upd_ne hne] at hdx
    exact hdx
  · have hdx' : H1 dx = none := by
      rw [upd_ne hne] at hdx
      exact hdx
    have e : upd (del (upd (upd (upd H1 a (exo a C none)) dx (exd dx [(f, y)])) a (exo a C (some dx))) a) dx (.xd [(f, y)]) = upd H1 dx (.xd [(f, y)]) := by
      funext b
      by_cases hb : b = dx
      · rw [hb, upd_same, upd_same]
      · rw [upd_ne hb, upd_ne hb]
        by_cases hba : b = a
        · rw [hba, del_same, ha]
        · rw [del_ne hba, upd_ne hba, upd_ne hb, upd_ne hba]
    rw [e]
    exact h dx hdx'
end
end L2

set_option Elab.async false
set_option maxRecDepth 100000
set_option maxHeartbeats 4000000
namespace L2
open PySem PySem.Spec PyProof.Rows
section
variable (P : Program) (w : World) (K : PySem.W.Frag) (mg : Str → Option Value) (base : Heap)
/-- a def of the top, as the text has it -/
structure DefAt (x : Str) (st : Stmt) (ps : List Str) : Prop where
  ex : ∃ (f : Addr) (fd : FuncData), Fun K x x st f fd ∧ mg x = some (.ref f) ∧ Binds K fd ps []
/-- a def of the top that keeps its promise -/
structure Own (CX : CXT) (x : Str) (k : Nat) (ps : List Str) (sp : Sp) : Prop where
  ex : ∃ (f : Addr) (fd : FuncData), FnOk P w K mg base CX k f fd ps sp ∧ mg x = some (.ref f) ∧ PySem.W.keepIn K (.ref f) = true ∧ Binds K fd ps []
/-- a method of the class at C, as the text has it; one that keeps its promise -/
structure MethAt (C : Addr) (m qual : Str) (st : Stmt) (ps : List Str) : Prop where
  ex : ∃ (f : Addr) (fd : FuncData), Fun K m qual st f fd ∧ PySem.W.findIn K (.ref C) m = some (some (.ref f)) ∧ PySem.W.isFn K (.ref f) = true ∧ Binds K fd ps []
structure OwnM (CX : CXT) (C : Addr) (m : Str) (k : Nat) (ps : List Str) (sp : Sp) : Prop where
  ex : ∃ (f : Addr) (fd : FuncData), FnOk P w K mg base CX k f fd ps sp ∧ Meth K C m f ∧ PySem.W.isFn K (.ref f) = true ∧ Binds K fd ps []
/-- a class of the top with an own __init__ that keeps its promise -/
structure OwnC (CX : CXT) (x : Str) (C : Addr) (k : Nat) (ps : List Str) (sp : Sp) : Prop where
  ex : ∃ (f : Addr) (fd : FuncData), FnOk P w K mg base CX k f fd ps sp ∧ Mk K C f ∧ mg x = some (.ref C) ∧ Binds K fd ps []
end
section
variable {P : Program} {w : World} {K : PySem.W.Frag} {mg : Str → Option Value} {base : Heap} {CX : CXT} {x m qual : Str} {k : Nat} {ps : List Str} {sp : Sp} {st : Stmt} {C : Addr}
theorem DefAt.own (D : DefAt K mg x st ps) (h : ∀ f fd, Fun K x x st f fd → FnOk P w K mg base CX k f fd ps sp) : Own P w K mg base CX x k ps sp := by
  obtain ⟨f, fd, F, hm, hb⟩ := D.ex
  exact ⟨f, fd, h f fd F, hm, F.kp, hb⟩
theorem MethAt.own (D : MethAt K C m qual st ps) (h : ∀ f fd, Fun K m qual st f fd → FnOk P w K mg base CX k f fd ps sp) : OwnM P w K mg base CX C m k ps sp := by
  obtain ⟨f, fd, F, hm, hi, hb⟩ := D.ex
  exact ⟨f, fd, h f fd F, ⟨hm, hi, F.kp⟩, hi, hb⟩
theorem MethAt.cls (D : MethAt K C "__init__" qual st ps) (h : ∀ f fd, Fun K "__init__" qual st f fd → FnOk P w K mg base CX k f fd ps sp) (m1 : PySem.W.makesIn K C = true) (m2 : PySem.W.keepIn K (.ref C) = true) (m3 : mg x = some (.ref C)) :
    OwnC P w K mg base CX x C k ps sp := by
  obtain ⟨f, fd, F, hm, hi, hb⟩ := D.ex
  exact ⟨f, fd, h f fd F, ⟨m1, hm, hi, m2⟩, m3, hb⟩
end
section
variable {X : Cx} {CX : CXT} {x m : Str} {k : Nat} {ps : List Str} {sp : Sp} {e o : Expr} {es : List Expr} {t : TA} {ta : TE} {p pos apos : Pos} {C : Addr}
theorem pe_own (O : Own X.prog X.w X.K X.mg X.base CX x k ps sp) (hr : Room k X.A) (hx : Passes CX X E0) (ha : PA X (e :: es) t) (hg : Gl X x := by rfl) (hdb : (x == ("__debug__" : Str)) = false := by decide)
    (he : starEach (e :: es) X.env = (false, eval e X.env) :: starEach es X.env := by rfl) (hpl : (backTo pos (starEach es X.env)).any (·.1) = false := by rfl) : PE X (.Call (.Name x p) (e :: es) [] pos) (tCall sp [] E0 t) := by
  obtain ⟨f, fd, F, hm, hk, hb⟩ := O.ex
  exact pe_call F hr hg hm hk hb .nil hx ha hdb he hpl
theorem pe_own0 (O : Own X.prog X.w X.K X.mg X.base CX x k ps sp) (hr : Room k X.A) (hx : Passes CX X E0) (hg : Gl X x := by rfl) (hdb : (x == ("__debug__" : Str)) = false := by decide) : PE X (.Call (.Name x p) [] [] pos) (tCall sp [] E0 tNil) := by
  obtain ⟨f, fd, F, hm, hk, hb⟩ := O.ex
  exact pe_call0 F hr hg hm hk hb .nil hx hdb
/-- one that may raise; W is wished for what it raises -/
theorem pe_ownS {W : WX} (O : Own X.prog X.w X.K X.mg X.base (L2.CX X.prog X.w) x k ps sp) (hr : Room k X.A) (tk : Takes X W) (ha : PA X (e :: es) t) (hg : Gl X x := by rfl) (hdb : (x == ("__debug__" : Str)) = false := by decide)
    (he : starEach (e :: es) X.env = (false, eval e X.env) :: starEach es X.env := by rfl) (hpl : (backTo pos (starEach es X.env)).any (·.1) = false := by rfl) : PE X (.Call (.Name x p) (e :: es) [] pos) (tCallS sp (WE W) t) := by
  obtain ⟨f, fd, F, hm, hk, hb⟩ := O.ex
  exact pe_callS F hr hg hm hk hb (fun σ => passAt tk σ) ha hdb he hpl
theorem pe_new (O : OwnC X.prog X.w X.K X.mg X.base CX x C k ps sp) (hr : Room (k + 1) X.A) (hx : Passes CX X E0) (ha : PA X (e :: es) t) (hg : Gl X x := by rfl) (hdb : (x == ("__debug__" : Str)) = false := by decide)
    (he : starEach (e :: es) X.env = (false, eval e X.env) :: starEach es X.env := by rfl) (hpl : (backTo pos (starEach es X.env)).any (·.1) = false := by rfl) : PE X (.Call (.Name x p) (e :: es) [] pos) (tMake C sp [] E0 t) := by
  obtain ⟨f, fd, F, M, hm, hb⟩ := O.ex
  exact pe_make M F hr hg hm hb .nil hx ha hdb he hpl
theorem pe_newS {W : WX} (O : OwnC X.prog X.w X.K X.mg X.base (L2.CX X.prog X.w) x C k ps sp) (hr : Room (k + 1) X.A) (tk : Takes X W) (ha : PA X (e :: es) t) (hg : Gl X x := by rfl) (hdb : (x == ("__debug__" : Str)) = false := by decide)
    (he : starEach (e :: es) X.env = (false, eval e X.env) :: starEach es X.env := by rfl) (hpl : (backTo pos (starEach es X.env)).any (·.1) = false := by rfl) : PE X (.Call (.Name x p) (e :: es) [] pos) (tMakeS C sp [] (WE W) t) := by
  obtain ⟨f, fd, F, M, hm, hb⟩ := O.ex
  exact pe_makeS M F hr hg hm hb .nil (fun σ => passAt tk σ) ha hdb he hpl
theorem pe_gint {n : Int} (hm : ∃ t, X.mg x = some (.int n t)) (hg : Gl X x := by rfl) (hd : (x == ("__debug__" : Str)) = false := by decide) : PE X (.Name x pos) (tC (.int n)) := by
  obtain ⟨t, hm⟩ := hm
  exact pe_glob hg hm ⟨t, rfl⟩ hd
theorem pe_gcls (hm : X.mg x = some (.ref C)) (hg : Gl X x := by rfl) (hd : (x == ("__debug__" : Str)) = false := by decide) : PE X (.Name x pos) (tC (.ref C)) := pe_glob hg hm rfl hd
end
/-! ### ==, != by own methods, len -/
section
variable {X : Cx} {CX : CXT} {k : Nat} {C : Addr} {ps : List Str} {sp : Sp}
structure NeM (K : PySem.W.Frag) (C : Addr) : Prop where
  ne : PySem.W.findIn K (.ref C) "__ne__" = some (some (.builtin "object.__ne__"))
  ob : PySem.W.mroIn K C (.type "object") = some true
theorem eqO (O : OwnM X.prog X.w X.K X.mg X.base CX C "__eq__" k ps sp) (N : NeM X.K C) (hr : Room k X.A) (hx : Passes CX X E0) : OpR X (compareOp .Eq) (rEqO X.K C sp) := by
  obtain ⟨f, fd, F, M, hi, hb⟩ := O.ex
  exact op_eqO F ⟨M.at_, hi, N.ne, N.ob⟩ hr hb hx
theorem neO (O : OwnM X.prog X.w X.K X.mg X.base CX C "__eq__" k ps sp) (N : NeM X.K C) (hr : Room (k + 1) X.A) (hx : Passes CX X E0) : OpR X (compareOp .NotEq) (rNeO X.K C sp) := by
  obtain ⟨f, fd, F, M, hi, hb⟩ := O.ex
  exact op_neO F ⟨M.at_, hi, N.ne, N.ob⟩ hr hb hx
theorem lenO (O : OwnM X.prog X.w X.K X.mg X.base CX C "__len__" k ps sp) (hr : Room (k + 1) X.A) (hx : Passes CX X E0) : CallR X (.builtin "len") (rLenO C sp) := by
  obtain ⟨f, fd, F, M, hi, hb⟩ := O.ex
  exact call_lenO F M.at_ hi hr hb hx
end
end L2

set_option Elab.async false
set_option maxRecDepth 100000
set_option maxHeartbeats 4000000
/-! kinds of plain values; their isinstance -/
namespace L2
open PySem PySem.Spec PyProof.Rows
inductive Knd | int | bool | none | str | list | tuple
  deriving DecidableEq
def Knd.name : Knd → String
  | .int => "int" | .bool => "bool" | .none => "NoneType" | .str => "str" | .list => "list" | .tuple => "tuple"
def KndOf (H : Hp) (v : V) : Knd → Prop
  | .int => ∃ n, v = .int n
  | .bool => ∃ b, v = .bl b
  | .none => v = .non
  | .str => ∃ s, v = .str s
  | .list => ∃ a xs, v = .ref a ∧ H a = some (.lst xs)
  | .tuple => ∃ a xs, v = .ref a ∧ H a = some (.tup xs)
def Knd.isInt : Knd → Bool | .int => true | .bool => true | _ => false
def Knd.isBool : Knd → Bool | .bool => true | _ => false
def Knd.isSeq : Knd → Bool | .list => true | .tuple => true | _ => false
def Knd.isTup : Knd → Bool | .tuple => true | _ => false
def Knd.isList : Knd → Bool | .list => true | _ => false
def Knd.isStr : Knd → Bool | .str => true | _ => false
section
variable {K : PySem.W.Frag} {H : Hp} {v : V} {k : Knd}
theorem knd_ty (h : KndOf H v k) : TyX K H v (.type k.name) := by
  cases k with
  | int => obtain ⟨n, rfl⟩ := h; exact .base (.int n)
  | bool => obtain ⟨n, rfl⟩ := h; exact .base (.bl n)
  | none => cases h; exact .base .non
  | str => obtain ⟨n, rfl⟩ := h; exact .base (.str n)
  | list => obtain ⟨a, xs, rfl, e⟩ := h; exact .base (.lst e)
  | tuple => obtain ⟨a, xs, rfl, e⟩ := h; exact .base (.tup e)
theorem knd_int : PySem.W.kitOne K (.type k.name) (.type "int") = some k.isInt := by cases k <;> exact kit_ty (by decide +kernel)
theorem knd_bool : PySem.W.kitOne K (.type k.name) (.type "bool") = some k.isBool := by cases k <;> exact kit_ty (by decide +kernel)
theorem knd_tup : PySem.W.kitOne K (.type k.name) (.type "tuple") = some k.isTup := by cases k <;> exact kit_ty (by decide +kernel)
theorem knd_list : PySem.W.kitOne K (.type k.name) (.type "list") = some k.isList := by cases k <;> exact kit_ty (by decide +kernel)
theorem knd_str : PySem.W.kitOne K (.type k.name) (.type "str") = some k.isStr := by cases k <;> exact kit_ty (by decide +kernel)
theorem knd_seq : PySem.W.kitAny K (.type k.name) [.type "list", .type "tuple"] = some k.isSeq := by
  cases k
  case list => exact kitAny_cons knd_list (by intro h; cases h) (fun _ => rfl)
  case tuple => exact kitAny_cons knd_list (fun _ => kitAny_cons knd_tup (by intro h; cases h) (fun _ => rfl)) (by intro h; cases h)
  all_goals exact kitAny_cons knd_list (fun _ => kitAny_cons knd_tup (fun _ => kitAny_nil) (by intro h; cases h)) (by intro h; cases h)
theorem KndOf.ext {H' : Hp} (h : KndOf H v k) (e : Ext H H') : KndOf H' v k := by
  cases k with
  | list => obtain ⟨a, xs, r, q⟩ := h; exact ⟨a, xs, r, e _ _ q⟩
  | tuple => obtain ⟨a, xs, r, q⟩ := h; exact ⟨a, xs, r, e _ _ q⟩
  | _ => exact h
theorem ki (n : Int) : KndOf H (.int n) .int := ⟨n, rfl⟩
theorem kb (n : Bool) : KndOf H (.bl n) .bool := ⟨n, rfl⟩
theorem kn : KndOf H .non .none := rfl
theorem ks (n : Str) : KndOf H (.str n) .str := ⟨n, rfl⟩
end
/-- a value that is an int from a to b -/
def betw (v : V) (a b : Int) : Bool := match v with
  | .int n => decide (a ≤ n) && decide (n ≤ b)
  | _ => false
theorem betw_int {n a b : Int} : betw (.int n) a b = (decide (a ≤ n) && decide (n ≤ b)) := rfl
theorem betw_not {H : Hp} {v : V} {k : Knd} {a b : Int} (h : KndOf H v k) (hk : (k.isInt && !k.isBool) = false) : betw v a b = false := by
  cases k with
  | int => cases hk
  | bool => obtain ⟨n, rfl⟩ := h; rfl
  | none => cases h; rfl
  | str => obtain ⟨n, rfl⟩ := h; rfl
  | list => obtain ⟨n, xs, rfl, _⟩ := h; rfl
  | tuple => obtain ⟨n, xs, rfl, _⟩ := h; rfl
theorem knd_yes {k : Knd} (h : (k.isInt && !k.isBool) = true) : k = .int := by cases k <;> first | rfl | cases h
/-! ### isinstance, read -/
section
variable {K : PySem.W.Frag} {σ : St} {H : Hp} {v : V} {k : Knd} {Q : VK} {te : TE}
theorem v_isI (hk : KndOf H v k) {b : Bool} {c : String} (e : PySem.W.kitOne K (.type k.name) (.type c) = some b) (q : Q (.bl b) H) : rIsi K [v, .ty c] H Q :=
  ⟨v, .ty c, .type k.name, .type c, b, rfl, .ty c, knd_ty hk, e, q⟩
end
end L2

set_option Elab.async false
set_option maxRecDepth 100000
set_option maxHeartbeats 4000000
namespace L2
open PySem PySem.Spec PyProof.Rows
section
variable {K : PySem.W.Frag} {C : Addr}
theorem no_ref (l : List String) : (l.map Value.type).contains (Value.ref C) = false := by
  induction l with
  | nil => rfl
  | cons a l ih =>
    rw [List.map_cons, List.contains_cons, ih]
    rfl
theorem sub_ty_ref {T : String} (h : (fastFind? T).isSome = true) : PySem.W.subIn K (.type T) (.ref C) = some false := by
  obtain ⟨r, hr⟩ := Option.isSome_iff_exists.mp h
  show (fastBuiltinMro T).map (·.contains (Value.ref C)) = some false
  unfold fastBuiltinMro
  rw [hr]
  show some ((r.mro.map Value.type).contains (Value.ref C)) = some false
  rw [no_ref]
theorem knd_find (k : Knd) : (fastFind? k.name).isSome = true := by cases k <;> decide +kernel
/-- all that is asked of an own plain class x at C -/
structure ClsX (K : PySem.W.Frag) (mg : Str → Option Value) (x : Str) (C : Addr) : Prop where
  gC : mg x = some (.ref C)
  cl : Cls K C
  ha : PySem.W.findIn K (.ref C) "__class__" = some (some (.builtin "object.__class__"))
  hn : PySem.W.specialIn K (.builtin "object.__class__") "__get__" = some (some (.builtin "getset_descriptor.__get__"))
  htk : PySem.W.takesIn K (.builtin "object.__class__") = some true
  hm : PySem.W.mroIn K C (.type "object") = some true
  ne : PySem.W.findIn K (.ref C) "__ne__" = some (some (.builtin "object.__ne__"))
  is : PySem.W.isClsIn K C = true
  ty : PySem.W.typeIn K (.ref C) = some (.type "type")
  tup : PySem.W.subIn K (.ref C) (.type "tuple") = some false
  lst : PySem.W.subIn K (.ref C) (.type "list") = some false
  int : PySem.W.subIn K (.ref C) (.type "int") = some false
  str : PySem.W.subIn K (.ref C) (.type "str") = some false
variable {mg : Str → Option Value} {x : Str}
theorem ClsX.neM (T : ClsX K mg x C) : NeM K C := ⟨T.ne, T.hm⟩
theorem ClsX.tyOf (T : ClsX K mg x C) {H : Hp} {a dx : Addr} {fs : List (Str × V)} (e : H a = some (.ins C dx fs)) : TyX K H (.ref a) (.ref C) := .base (.ins e T.cl T.ha T.hn T.htk T.hm)
theorem ClsX.me (_ : ClsX K mg x C) : PySem.W.kitOne K (.ref C) (.ref C) = some true := if_pos (beq_self_eq_true _)
theorem ClsX.nfMe (_ : ClsX K mg x C) : PySem.W.notFirst K C (.ref C) = true := by
  show (Value.ref C == Value.ref C || _) = true
  rw [beq_self_eq_true]
  rfl
theorem ClsX.kitB (T : ClsX K mg x C) {t : Value} {b : Bool} (h : PySem.W.subIn K t (.ref C) = some b) (hne : (t == .ref C) = false) : PySem.W.kitOne K t (.ref C) = some b := by
  have e : ((PySem.W.clsIn K C).isSome && PySem.W.typeIn K (.ref C) == some (.type "type")) = true := by
    have h1 : (PySem.W.clsIn K C).isSome = true := T.is
    rw [h1, T.ty]
    rfl
  show (if (t == Value.ref C) = true then some true else if ((PySem.W.clsIn K C).isSome && PySem.W.typeIn K (.ref C) == some (.type "type")) = true then PySem.W.subIn K t (.ref C) else none) = some b
  rw [hne, if_neg Bool.false_ne_true, if_pos e]
  exact h
theorem ClsX.kitK (T : ClsX K mg x C) (k : Knd) : PySem.W.kitOne K (.type k.name) (.ref C) = some false := T.kitB (sub_ty_ref (knd_find k)) rfl
theorem ClsX.nfK (_ : ClsX K mg x C) (k : Knd) : PySem.W.notFirst K C (.type k.name) = true := by
  show (Value.type k.name == Value.ref C || PySem.W.subIn K (.type k.name) (.ref C) == some false) = true
  rw [sub_ty_ref (knd_find k)]
  exact Bool.or_eq_true_iff.mpr (.inr (by decide))
theorem kit_meta {T : String} {b : Bool} (h : PySem.W.subIn K (.ref C) (.type T) = some b) (hm : PySem.W.kitMeta T = true) : PySem.W.kitOne K (.ref C) (.type T) = some b := by
  show (if (Value.ref C == Value.type T) = true then some true else if PySem.W.kitMeta T = true then PySem.W.subIn K (.ref C) (.type T) else none) = some b
  rw [show (Value.ref C == Value.type T) = false from rfl, if_neg Bool.false_ne_true, if_pos hm]
  exact h
theorem ClsX.kTup (T : ClsX K mg x C) : PySem.W.kitOne K (.ref C) (.type "tuple") = some false := kit_meta T.tup (by decide +kernel)
theorem ClsX.kInt (T : ClsX K mg x C) : PySem.W.kitOne K (.ref C) (.type "int") = some false := kit_meta T.int (by decide +kernel)
theorem ClsX.kLst (T : ClsX K mg x C) : PySem.W.kitOne K (.ref C) (.type "list") = some false := kit_meta T.lst (by decide +kernel)
theorem ClsX.kStr (T : ClsX K mg x C) : PySem.W.kitOne K (.ref C) (.type "str") = some false := kit_meta T.str (by decide +kernel)
end
/-! ### an own error's class, from what the top has written -/
section
variable {P : Program} {w : World} {K : PySem.W.Frag} {mg : Str → Option Value} {base : Heap} {x f : Str} {C : Addr}
/-- what k_is finds of the class -/
structure XAt (K : PySem.W.Frag) (mg : Str → Option Value) (x f : Str) (C : Addr) (st : Stmt) (qual : Str) : Prop where
  ox : OexC K C
  gC : mg x = some (.ref C)
  noA : PySem.W.findIn K (.ref C) f = some none
  ec : ExcC K C
  tI : ∃ fI, PySem.W.findIn K (.ref C) "__init__" = some (some (.ref fI)) ∧ PySem.W.typeIn K (.ref fI) = some (.type "function") ∧ ∃ fd, Fun K "__init__" qual st fI fd ∧ Binds K fd ["self", f] []
theorem XAt.cls {st : Stmt} {qual : Str} (T : XAt K mg x f C st qual) (h : ∀ fI fd, Fun K "__init__" qual st fI fd → FnOk P w K mg base CX0 1 fI fd ["self", f] (spXI C f)) : XCls P w K mg base x f C := by
  obtain ⟨fI, i1, i2, fd, F, b⟩ := T.tI
  exact ⟨T.ox, T.gC, T.noA, T.ec, fI, fd, i1, i2, h fI fd F, b⟩
end
/-! ### fields -/
section
theorem lk_put {f g : Str} {v : V} {fs : List (Str × V)} : List.lookup g ((f, v) :: fs) = if (g == f) = true then some v else List.lookup g fs := by
  simp only [List.lookup]
  split
  · rename_i h; rw [h, if_pos rfl]
  · rename_i h; rw [h, if_neg Bool.false_ne_true]
end
end L2

set_option Elab.async false
set_option maxRecDepth 100000
set_option maxHeartbeats 4000000
/-! plain data: lists and tuples of flat values, compared -/
namespace L2
open PySem PySem.Spec PyProof.Rows
def pd : V → PyData
  | .int i => .int i
  | .bl b => .bool b
  | .str s => .str s
  | _ => .none
/-- flat, its text (if it is one) within the model's signs -/
def Fl : V → Prop
  | .int _ => True
  | .bl _ => True
  | .non => True
  | .str s => PySem.PyData.canLay0 (.str s) = true
  | _ => False
section
variable {K : PySem.W.Frag} {H : Hp} {v u : V}
theorem dp_fl (h : Fl v) : Dp K H v (pd v) := by
  cases v <;> first | exact .int _ | exact .bl _ | exact .str _ | exact .non | exact h.elim
theorem dp_all : ∀ {vs : List V}, (∀ v ∈ vs, Fl v) → DpAll K H vs (vs.map pd)
  | [], _ => .nil
  | v :: vs, h => .cons (dp_fl (h v List.mem_cons_self)) (dp_all fun u hu => h u (List.mem_cons_of_mem _ hu))
theorem lay_fl (h : Fl v) : (pd v).canLay0 = true := by
  cases v <;> first | rfl | exact h | exact h.elim
theorem dep_fl : (pd v).depth = 0 := by cases v <;> rfl
theorem lay_all : ∀ {vs : List V}, (∀ v ∈ vs, Fl v) → PyData.canLayAll0 (vs.map pd) = true ∧ PyData.depthAll (vs.map pd) = 0
  | [], _ => ⟨rfl, rfl⟩
  | v :: vs, h => by
    obtain ⟨a, b⟩ := lay_all (vs := vs) fun u hu => h u (List.mem_cons_of_mem _ hu)
    constructor
    · show ((pd v).canLay0 && PyData.canLayAll0 (vs.map pd)) = true
      rw [lay_fl (h v List.mem_cons_self), a]
      rfl
    · show max (pd v).depth (PyData.depthAll (vs.map pd)) = 0
      rw [dep_fl, b]
      rfl
theorem shp_fl (h : Fl v) : SeqAt.shaped (pd v) = true := by
  show ((pd v).canLay0 && decide ((pd v).depth ≤ 64)) = true
  rw [lay_fl h, dep_fl]
  rfl
theorem shp_tup {vs : List V} (h : ∀ v ∈ vs, Fl v) : SeqAt.shaped (.tuple (vs.map pd)) = true := by
  obtain ⟨a, b⟩ := lay_all h
  show (PyData.canLayAll0 (vs.map pd) && decide (PyData.depthAll (vs.map pd) + 1 ≤ 64)) = true
  rw [a, b]
  rfl
theorem shp_lst {vs : List V} (h : ∀ v ∈ vs, Fl v) : SeqAt.shaped (.list (vs.map pd)) = true := by
  obtain ⟨a, b⟩ := lay_all h
  show (PyData.canLayAll0 (vs.map pd) && decide (PyData.depthAll (vs.map pd) + 1 ≤ 64)) = true
  rw [a, b]
  rfl
theorem fl_int (n : Int) : Fl (.int n) := trivial
theorem fl_ints {ns : List Int} : ∀ v ∈ ns.map V.int, Fl v := fun v hv => by
  obtain ⟨n, _, rfl⟩ := List.mem_map.mp hv
  trivial
theorem eqv_ints : ∀ (ns ms : List Int), PyData.eqvAll ((ns.map V.int).map pd) ((ms.map V.int).map pd) = decide (ns = ms)
  | [], [] => rfl
  | [], _ :: _ => rfl
  | _ :: _, [] => rfl
  | n :: ns, m :: ms => by
    show ((n == m) && PyData.eqvAll ((ns.map V.int).map pd) ((ms.map V.int).map pd)) = decide (n :: ns = m :: ms)
    rw [eqv_ints ns ms, Bool.eq_iff_iff]
    simp
/-- the same values are equal data -/
theorem eqv_same : ∀ {vs : List V}, (∀ v ∈ vs, Fl v) → PyData.eqvAll (vs.map pd) (vs.map pd) = true
  | [], _ => rfl
  | v :: vs, h => by
    show (PyData.eqv (pd v) (pd v) && PyData.eqvAll (vs.map pd) (vs.map pd)) = true
    rw [eqv_same (vs := vs) fun u hu => h u (List.mem_cons_of_mem _ hu), Bool.and_true]
    cases v <;> first | rfl | (show (_ == _) = true; exact beq_self_eq_true _)
/-- two tuples compared (op_eqD, op_neD): what is left -/
theorem eqD_tup {p q : Addr} {vs us : List V} {Q : VK} (hp : SqT K H p vs) (hq : SqT K H q us) (fv : ∀ v ∈ vs, Fl v) (fu : ∀ v ∈ us, Fl v) (h : Q (.bl (PyData.eqvAll (vs.map pd) (us.map pd))) H) : rEqD K (.ref p) (.ref q) H Q :=
  ⟨_, _, .tup hp (dp_all fv), .tup hq (dp_all fu), shp_tup fv, shp_tup fu, h⟩
theorem neD_tup {p q : Addr} {vs us : List V} {Q : VK} (hp : SqT K H p vs) (hq : SqT K H q us) (fv : ∀ v ∈ vs, Fl v) (fu : ∀ v ∈ us, Fl v) (h : Q (.bl (!PyData.eqvAll (vs.map pd) (us.map pd))) H) : rNeD K (.ref p) (.ref q) H Q :=
  ⟨_, _, .tup hp (dp_all fv), .tup hq (dp_all fu), shp_tup fv, shp_tup fu, h⟩
theorem eqD_lst {p q : Addr} {vs us : List V} {Q : VK} (hp : SqL K H p vs) (hq : SqL K H q us) (fv : ∀ v ∈ vs, Fl v) (fu : ∀ v ∈ us, Fl v) (h : Q (.bl (PyData.eqvAll (vs.map pd) (us.map pd))) H) : rEqD K (.ref p) (.ref q) H Q :=
  ⟨_, _, .lst hp (dp_all fv), .lst hq (dp_all fu), shp_lst fv, shp_lst fu, h⟩
theorem neD_lst {p q : Addr} {vs us : List V} {Q : VK} (hp : SqL K H p vs) (hq : SqL K H q us) (fv : ∀ v ∈ vs, Fl v) (fu : ∀ v ∈ us, Fl v) (h : Q (.bl (!PyData.eqvAll (vs.map pd) (us.map pd))) H) : rNeD K (.ref p) (.ref q) H Q :=
  ⟨_, _, .lst hp (dp_all fv), .lst hq (dp_all fu), shp_lst fv, shp_lst fu, h⟩
end
end L2

set_option Elab.async false
set_option maxRecDepth 100000
set_option maxHeartbeats 4000000
namespace L2
open PySem PySem.Spec PyProof.Rows
section
variable {X : Cx}
/-- range(j), kept -/
theorem cr_range1 : CallR X (.type "range") (fun vs H Q => ∃ j, vs = [V.int j] ∧ ∀ p, H p = none → Q (.ref p) (upd H p (.rng 0 j))) := by
  intro pins s σ H vs us Q I r h
  obtain ⟨j, rfl, q⟩ := h
  obtain ⟨u1, rfl, rj⟩ := vals1 r
  obtain ⟨t, rfl⟩ := rj
  refine call_range_1 ⟨.ref s.heap.objs.size, upd H s.heap.objs.size (.rng 0 j), I.laid (t' := s.toks + 1 + 1) (fun b o e => Heap.get?_push_of_some _ e) (Nat.le_refl _) ?_, rfl, q _ (I.hok.fresh (Nat.le_refl _))⟩
  exact ⟨s.toks, t, s.toks + 1, Heap.get?_push_size _ rfl⟩
/-- len of a range -/
theorem call_lenR : CallR X (.builtin "len") (fun xs H Q => ∃ a lo hi, xs = [.ref a] ∧ H a = some (.rng lo hi) ∧ (hi - lo).toNat < 2 ^ 62 ∧ Q (.int ((hi - lo).toNat : Int)) H) := by
  intro pins s σ H xs us Q I r h
  obtain ⟨a, lo, hi, rfl, ha, hz, q⟩ := h
  rw [Vals.ref1 r]
  obtain ⟨t, u, v, ho⟩ := I.hok a _ ha
  exact call_len_range (n := (hi - lo).toNat) ho (rangeSize_nat lo hi) (by omega) ⟨.int ((hi - lo).toNat : Int), H, I.tok _, ⟨_, rfl⟩, q⟩
/-- sum of a tuple of ints -/
def rSumT (K : PySem.W.Frag) : List V → Hp → VK → Prop := fun vs H Q => ∃ (a : Addr) (ns : List Int), vs = [V.ref a] ∧ SqT K H a (ns.map V.int) ∧ Q (.int ns.sum) H
theorem cr_sumT (hc : X.calm = true) : CallR X (.builtin "sum") (rSumT X.K) := by
  intro pins s σ H vs us Q I r h
  obtain ⟨a, ns, rfl, hs, q⟩ := h
  obtain ⟨its, rv, hl, _⟩ := I.tuple hs
  rw [Vals.ref1 r]
  have hi := rv.ints
  obtain ⟨xs, e⟩ := hi.allInts.items
  have hn : numsOf (intItems xs).toList = ns := by rw [← e]; exact hi.numsOf
  rw [nums_intItems] at hn
  rw [e] at hl
  refine PySem.W.ktm_sumG (I.ok.hd hc) hl fun h' tk t' hk => ?_
  rw [preSum_eq, List.take_of_length_le (by simp), hn]
  exact ⟨.int ns.sum, H, I.kept hk, ⟨_, rfl⟩, q⟩
end
end L2

set_option Elab.async false
set_option maxRecDepth 100000
set_option maxHeartbeats 4000000
namespace L2
open PySem PySem.Spec PyProof.Rows
/-- a list or tuple at p of the items xs -/
def Sq (H : Hp) (p : Addr) (xs : List V) : Prop := H p = some (.lst xs) ∨ H p = some (.tup xs)
section
variable {K : PySem.W.Frag} {H H' : Hp} {p : Addr} {xs : List V}
theorem Sq.k (h : Sq H p xs) : ∃ k, KndOf H (.ref p) k ∧ k.isSeq = true := by
  rcases h with h | h
  · exact ⟨.list, ⟨p, xs, rfl, h⟩, rfl⟩
  · exact ⟨.tuple, ⟨p, xs, rfl, h⟩, rfl⟩
theorem Sq.ext (h : Sq H p xs) (e : Ext H H') : Sq H' p xs := h.imp (e _ _) (e _ _)
theorem Sq.l (h : Sq H p xs) : SqL K H p xs ∨ SqT K H p xs := h.imp SqL.of SqT.of
theorem ext_mut {D : Addr} {o : HO} (e : Ext H H') (h : H D = none) : Ext H (upd H' D o) := fun a u ha => by
  rw [upd_ne (ne_of_none ha h)]
  exact e a u ha
theorem ext_none {D : Addr} (e : Ext H H') (h : H' D = none) : H D = none := by
  cases h1 : H D with
  | none => rfl
  | some o =>
    rw [e D o h1] at h
    cases h
end
section
variable {X : Cx} {tg : Expr}
/-- a list or a tuple is walked -/
def iSq (K : PySem.W.Frag) (tl : TE) : TI := fun σ H R => tl σ H fun x H1 => ∃ a, x = .ref a ∧ (((∃ xs, SqL K H1 a xs) ∧ R (Itl K a) H1) ∨ ((∃ xs, SqT K H1 a xs) ∧ R (Itt K a) H1))
theorem pi_sq {l : Expr} {tl : TE} (hl : PE X l tl) : PI X tg l (iSq X.K tl) := by
  refine ⟨fun pins s σ H R I h => ?_⟩
  refine thn (hl.run pins s σ H _ I h) fun v s1 ⟨x, H1, I1, r1, q1⟩ => ?_
  obtain ⟨a, e, q1⟩ := q1
  subst e
  cases r1
  rcases q1 with ⟨⟨xs, hq⟩, q⟩ | ⟨⟨xs, hq⟩, q⟩
  · obtain ⟨its, rv, p, hz⟩ := I1.list hq
    refine wpAny_pyIter_list p.isList ?_
    refine ⟨s1.heap.objs.size, [s1.heap.objs.size], _, _, H1, rfl, I1.kept (t' := s1.toks) fun b o e => Heap.get?_push_of_some _ e, turn_list a _, ⟨_, Heap.get?_push_size _ rfl, rfl, rfl⟩, fun b hb => ?_, q⟩
    have e : b = s1.heap.objs.size := by simpa using hb
    subst e
    exact I1.fpOk (Nat.le_refl _) (I1.hok.fresh (Nat.le_refl _))
  · obtain ⟨its, rv, p, hz⟩ := I1.tuple hq
    refine wpAny_pyIter_tuple (show s1.heap.IsTuple a its.toArray from p) ?_
    refine ⟨s1.heap.objs.size, [s1.heap.objs.size], _, _, H1, rfl, I1.kept (t' := s1.toks) fun b o e => Heap.get?_push_of_some _ e, turn_tuple a _, ⟨_, Heap.get?_push_size _ rfl, rfl, rfl⟩, fun b hb => ?_, q⟩
    have e : b = s1.heap.objs.size := by simpa using hb
    subst e
    exact I1.fpOk (Nat.le_refl _) (I1.hok.fresh (Nat.le_refl _))
end
section
variable {K : PySem.W.Frag} {σ : St} {H : Hp} {p : Addr} {xs : List V} {te : TE} {tt : TT} {j : Nat} {vs : List Nat} {Q : VK}
theorem take_snoc {α : Type} {l : List α} {i : Nat} {x : α} (h : l[i]? = some x) : l.take (i + 1) = l.take i ++ [x] := by
  rw [List.take_add_one, h]
  rfl
/-- [f(x) for x in xs if b(x)], what is tested and made only adding to the heap: the reading behind the source's own -/
theorem lc_sqR {Qd : Addr → Hp → Prop} {f : V → V} {b : V → Bool} (hx : Sq H p xs) (hz : xs.length < sizeLine) (hw : ∀ x, wipe ((wipe σ vs).set j (some x)) vs = wipe σ vs)
    (ht : ∀ x ∈ xs, ∀ H', Ext H H' → ∀ Q : Bool → Hp → Prop, (∀ H'', Ext H' H'' → Q (b x) H'') → tt ((wipe σ vs).set j (some x)) H' Q)
    (he : ∀ x ∈ xs, b x = true → ∀ H', Ext H H' → ∀ Q : VK, (∀ H'', Ext H' H'' → Q (f x) H'') → te ((wipe σ vs).set j (some x)) H' Q)
    (q : ∀ D H', H D = none → Ext H H' → H' D = some (.lst ((xs.filter b).map f)) → Qd D H') :
    ((∃ xs, SqL K H p xs) ∧ (fun J H1 => ∀ D, H1 D = none → ∃ W : Nat → Nat → Hp → Prop, (∃ m, W 0 m (upd H1 D (.lst []))) ∧ ∀ i m H, W i m H →
      (J.stop i H ∧ Qd D H) ∨ (J.go i H ∧ ∃ Nx : Hp → Prop, (∀ H', Nx H' → ∃ m', m' < m ∧ W (i + 1) m' H') ∧ ∀ x H', J.yld i H x H' → gName j x (wipe σ vs) H' fun σ2 H2 => wipe σ2 vs = wipe σ vs ∧ tt σ2 H2 fun b H3 =>
        if b = true then te σ2 H3 fun y H4 => ∃ acc, H4 D = some (.lst acc) ∧ acc.length < sizeLine ∧ Nx (upd H4 D (.lst (acc ++ [y]))) else Nx H3)) (Itl K p) H) ∨
    ((∃ xs, SqT K H p xs) ∧ (fun J H1 => ∀ D, H1 D = none → ∃ W : Nat → Nat → Hp → Prop, (∃ m, W 0 m (upd H1 D (.lst []))) ∧ ∀ i m H, W i m H →
      (J.stop i H ∧ Qd D H) ∨ (J.go i H ∧ ∃ Nx : Hp → Prop, (∀ H', Nx H' → ∃ m', m' < m ∧ W (i + 1) m' H') ∧ ∀ x H', J.yld i H x H' → gName j x (wipe σ vs) H' fun σ2 H2 => wipe σ2 vs = wipe σ vs ∧ tt σ2 H2 fun b H3 =>
        if b = true then te σ2 H3 fun y H4 => ∃ acc, H4 D = some (.lst acc) ∧ acc.length < sizeLine ∧ Nx (upd H4 D (.lst (acc ++ [y]))) else Nx H3)) (Itt K p) H) := by
  have turn : ∀ (D : Addr), H D = none → ∀ i x H', xs[i]? = some x → (Ext H H' ∧ H' D = some (.lst (((xs.take i).filter b).map f))) → gName j x (wipe σ vs) H' fun σ2 H2 => wipe σ2 vs = wipe σ vs ∧ tt σ2 H2 fun b' H3 =>
      if b' = true then te σ2 H3 fun y H4 => ∃ acc, H4 D = some (.lst acc) ∧ acc.length < sizeLine ∧ (Ext H (upd H4 D (.lst (acc ++ [y]))) ∧ upd H4 D (.lst (acc ++ [y])) D = some (.lst (((xs.take (i + 1)).filter b).map f))) else (Ext H H3 ∧ H3 D = some (.lst (((xs.take (i + 1)).filter b).map f))) := by
    intro D hD i x H' hi pv
    obtain ⟨e, hl⟩ := pv
    have hm : x ∈ xs := List.mem_of_getElem? hi
    refine ⟨hw x, ht x hm H' e _ fun H3 e3 => ?_⟩
    have hl3 : H3 D = some (.lst (((xs.take i).filter b).map f)) := e3 _ _ hl
    cases hb : b x with
    | true =>
      refine iteT (he x hm hb H3 (e.trans e3) _ fun H4 e4 => ⟨_, e4 _ _ hl3, ?_, ext_mut ((e.trans e3).trans e4) hD, ?_⟩)
      · rw [List.length_map]
        refine Nat.lt_of_le_of_lt (Nat.le_trans (List.length_filter_le _ _) ?_) hz
        exact List.length_take_le' _ _
      · rw [upd_same, take_snoc hi, List.filter_append, List.map_append]
        simp [hb]
    | false =>
      refine iteF ⟨e.trans e3, ?_⟩
      rw [hl3, take_snoc hi, List.filter_append, List.map_append]
      simp [hb]
  have fin : ∀ D, H D = none → ∀ H', (Ext H H' ∧ H' D = some (.lst (((xs.take xs.length).filter b).map f))) → Qd D H' := fun D hD H' pv => by
    rw [List.take_length] at pv
    exact q D H' hD pv.1 pv.2
  rcases hx with hx | hx
  · refine .inl ⟨⟨xs, SqL.of hx⟩, fun D hD => lc_list (xs := xs) (fun i H' => Ext H H' ∧ H' D = some (.lst (((xs.take i).filter b).map f))) ⟨Ext.upd hD, upd_same⟩ (fun i H' _ pv => SqL.of (pv.1 _ _ hx)) (fun i x H' hi pv => turn D hD i x H' hi pv) (fun H' pv => fin D hD H' pv)⟩
  · refine .inr ⟨⟨xs, SqT.of hx⟩, fun D hD => lc_tup (xs := xs) (fun i H' => Ext H H' ∧ H' D = some (.lst (((xs.take i).filter b).map f))) ⟨Ext.upd hD, upd_same⟩ (fun i H' _ pv => SqT.of (pv.1 _ _ hx)) (fun i x H' hi pv => turn D hD i x H' hi pv) (fun H' pv => fin D hD H' pv)⟩
end
theorem filter_all {α : Type} (l : List α) : l.filter (fun _ => true) = l := List.filter_eq_self.mpr fun _ _ => rfl
end L2

set_option Elab.async false
set_option maxRecDepth 100000
set_option maxHeartbeats 4000000
/-! enumerate over a list or a tuple -/
namespace PySem
open Sem (wp)
/-- the maker of enumerate, handed one thing whose iterator is told -/
theorem en1_meets {v : Value} {ob : Obj} {HP : Heap → Prop} (BG : Begins v ob HP) :
    Meets (Builtin.«enumerate.__new__» ⟨[.type "enumerate", v], []⟩) (fun _ RR sh => HP sh.heap ∧
      RR (.ok (.ret (.ref (sh.heap.push ob).objs.size)))
        { sh with heap := (sh.heap.push ob).push { cls := .type "enumerate", data := .fields #[.none, .bool false, .ref sh.heap.objs.size, rawInt 0, .none, .none] } }) :=
  .of_wp fun pr ww AA RR sh hh => by
    obtain ⟨hp, gg, dd, tk, os⟩ := sh
    obtain ⟨hh1, hh⟩ := hh
    have sub1 := sub_enumerate
    have begin1 : ∀ {A1 : Around} {E1 Q1 : Value → Shared → Prop}, Q1 (.ref hp.objs.size) ⟨hp.push ob, gg, dd, tk, os⟩ →
        wpAny (model pr ww) A1 (pyIter v) Q1 E1 ⟨hp, gg, dd, tk, os⟩ :=
      fun qq => BG.iter pr ww _ _ ⟨hp, gg, dd, tk, os⟩ _ hh1 qq
    wp_walk using begin1
    refine wpAny_stack_any fun sta => wpAny_pure ?_
    split
    · rename_i cc _ _ _ _ _
      cases (cc == Value.type "enumerate")
      all_goals
        wp_walk using begin1
        exact ⟨_, rfl, hh⟩
    · wp_walk using begin1
      exact ⟨_, rfl, hh⟩
section
variable {pr : Program} {ww : World} {AA : Around} {EE : Value → Shared → Prop} {sh : Shared}
theorem en1_call {v : Value} {ob : Obj} {HP : Heap → Prop} {QQ : Value → Shared → Prop} (BG : Begins v ob HP) (hh : HP sh.heap)
    (kk : ∀ h1, IsEnum h1 (sh.heap.objs.size + 1) sh.heap.objs.size 0 .none → h1.get? sh.heap.objs.size = some ob →
      (∀ x y, sh.heap.get? x = some y → h1.get? x = some y) → QQ (.ref (sh.heap.objs.size + 1)) { sh with heap := h1 }) :
    wpAny (model pr ww) AA (call (.type "enumerate") [v]) QQ EE sh := by
  refine callType_new F.called_enumerate (by decide) (F.typeCall_enumerate_1 _) (F.newCall_enumerate_1 _) (fun oo => F.args_object_init_2 oo _) F.entry_enumerate_new (en1_meets BG) ⟨hh, ?_⟩
  have sz : (sh.heap.push ob).objs.size = sh.heap.objs.size + 1 := Heap.size_push ..
  show _ ∧ _
  rw [sz]
  have en : IsEnum ((sh.heap.push ob).push { cls := .type "enumerate", data := .fields #[.none, .bool false, .ref sh.heap.objs.size, rawInt 0, .none, .none] })
      (sh.heap.objs.size + 1) sh.heap.objs.size 0 .none := by
    have qq := Heap.get?_push_size (sh.heap.push ob) (o := { cls := .type "enumerate", data := .fields #[.none, .bool false, .ref sh.heap.objs.size, rawInt 0, .none, .none] }) rfl
    rw [sz] at qq
    exact qq
  exact ⟨⟨_, en, rfl⟩, kk _ en (Heap.get?_push_of_some _ (Heap.get?_push_size _ BG.free)) fun x y hx => Heap.get?_push_of_some _ (Heap.get?_push_of_some _ hx)⟩
end
end PySem
namespace L2
open PySem PySem.Spec PyProof.Rows
/-- the tuple at a, each item in a new pair with its place -/
def Itet (K : PySem.W.Frag) (a : Addr) : It :=
  ⟨fun i H => ∃ xs : List V, SqT K H a xs ∧ i < xs.length,
    fun i H v H' => ∃ T x, v = .ref T ∧ H T = none ∧ H' = upd H T (.tup [.int (i : Nat), x]) ∧ ∀ xs, SqT K H a xs → xs[i]? = some x,
    fun i H => ∃ xs : List V, SqT K H a xs ∧ xs.length = i⟩
theorem turn_enT {P : Program} {w : World} {K : PySem.W.Frag} {elts : List Expr} {kk : Nat} {tpos : Pos} (a e it : Addr) (hea : e ≠ a) (hia : a ≠ it) :
    Turn P w K (.Tuple elts kk tpos) (Itet K a) [e, it] e (fun i h => (∃ old, IsEnum h e it ((i : Nat) : Int) old) ∧ h.IsTupleIter it a i ∧ e ≠ it) where
  mem := List.mem_cons_self
  obj := fun i h st b hb => by
    obtain ⟨⟨old, he⟩, ⟨o, ho, _, hd⟩, _⟩ := st
    rcases List.mem_cons.mp hb with z | z
    · subst z
      exact ⟨_, he, fun v q => nomatch q⟩
    · have z' := List.mem_singleton.mp z
      subst z'
      exact ⟨o, ho, fun v q => by rw [hd] at q; cases q⟩
  keep := fun i h h' st k => by
    obtain ⟨⟨old, he⟩, hi, hne⟩ := st
    exact ⟨⟨old, k e List.mem_cons_self _ he⟩, hi.at fun o q => k it (List.mem_cons_of_mem _ (List.mem_singleton.mpr rfl)) o q, hne⟩
  item := by
    intro X hP hw hK hc i pins s σ H E I hf st hg
    subst hP hw hK
    obtain ⟨⟨old, he⟩, hit, hne⟩ := st
    obtain ⟨xs, hq, hx⟩ := hg
    obtain ⟨its, rv, p, hz⟩ := I.tuple hq
    have hl := rv.length
    have hel : e < s.heap.objs.size := Heap.lt_size he
    have hil : it < s.heap.objs.size := by
      obtain ⟨_, q, _⟩ := hit
      exact Heap.lt_size q
    have D := Draws.tuple (prog := X.prog) (w := X.w) (A := X.A.in1) (show X.A.in1.handled = none from I.ok.hd hc) it a hia its.toArray
    refine wpAny_pyNext_enum_itemC D he (i := i) ⟨hit, p⟩ (by simp; omega) hne (by simp [hne, hea]) fun u h' tk hP ho hst' hT hsz hk => ?_
    have hu : its[i]? = some u := by simpa using hP
    obtain ⟨x, hxx⟩ : ∃ x, xs[i]? = some x := ⟨_, List.getElem?_eq_getElem hx⟩
    obtain ⟨u', hu', ru'⟩ := rv.get hxx
    have eu : u' = u := Option.some.inj (hu'.symm.trans hu)
    subst eu
    refine ⟨_, rfl, wpAny_letOwnedTupleGo_enum (s := { s with heap := h', toks := tk + 1 }) ho fun h2 he2 sb => ?_⟩
    have hT2 : h2.get? s.heap.objs.size = some { cls := .type "tuple", data := .seq #[.int i tk, u'] } := (sb.2 _ (Nat.ne_of_gt hel)).trans hT
    have new : ObjOk X.prog X.w (upd H s.heap.objs.size (.tup [.int (i : Nat), x])) h2 s.heap.objs.size (.tup [.int (i : Nat), x]) := by
      refine ⟨?_, [.int i tk, u'], .cons ⟨_, rfl⟩ (.cons ru' .nil), ⟨_, hT2, rfl, _, rfl⟩⟩
      show 2 ≤ sizeLine
      decide
    have I1 : Inv X pins σ (upd H s.heap.objs.size (.tup [.int (i : Nat), x])) { s with heap := h2, toks := tk + 1 } := by
      refine I.turnedNew (ch := [e, it]) (fun b ob hb q => ?_) hf (Nat.le_refl _) new
      have b1 : b ≠ e := fun z => hb (by simp [z])
      have b2 : b ≠ it := fun z => hb (by simp [z])
      exact (sb.2 b b1).trans (hk b ob b1 b2 q)
    refine ⟨.ref s.heap.objs.size, _, I1, rfl, ⟨_, x, rfl, I.hok.fresh (Nat.le_refl _), rfl, fun ys hy => ?_⟩, ⟨⟨u', ?_⟩, hst'.1.at fun o q => (sb.2 it (Ne.symm hne)).trans q, hne⟩, fun b hb => ?_⟩
    · obtain ⟨its2, rv2, p2, _⟩ := I.tuple hy
      rw [I.tuple_inj hy hq]
      exact hxx
    · have e1 : ((i + 1 : Nat) : Int) = (i : Int) + 1 := rfl
      rw [e1]
      exact he2
    · have hb' : b < s.heap.objs.size := by
        rcases List.mem_cons.mp hb with z | z
        · rw [z]
          exact hel
        · rw [List.mem_singleton.mp z]
          exact hil
      rw [upd_ne (Nat.ne_of_lt hb')]
      exact (hf b hb).1
  done := by
    intro X hP hw hK hc i pins s σ H E I hf st hg
    subst hP hw hK
    obtain ⟨⟨old, he⟩, hit, hne⟩ := st
    obtain ⟨xs, hq, hx⟩ := hg
    obtain ⟨its, rv, p, hz⟩ := I.tuple hq
    have hl := rv.length
    obtain ⟨f0, f1, f2, f3, f4, f5⟩ := hf it (List.mem_cons_of_mem _ (List.mem_singleton.mpr rfl))
    have D := Draws.tuple (prog := X.prog) (w := X.w) (A := X.A.in1) (show X.A.in1.handled = none from I.ok.hd hc) it a hia its.toArray
    have ei : i = its.toArray.size := by simp; omega
    refine wpAny_pyNext_enum_endD D he (by rw [← ei]; exact ⟨hit, p⟩) fun h' eb => ⟨rfl, ?_⟩
    exact I.turned (t' := s.toks) (fun b o hb q => eb b o hb q) f0 f1 f3 f4 f5
  self := fun A i s Q E st h => by
    obtain ⟨⟨_, he⟩, _⟩ := st
    exact wpAny_pyIter_enum he h
/-- a list or a tuple is walked with the places -/
def iEnSq (K : PySem.W.Frag) (ta : TA) : TI := fun σ H R => ta σ H fun vs H1 => ∃ a, vs = [.ref a] ∧ (((∃ xs, SqL K H1 a xs) ∧ R (Ite K a) H1) ∨ ((∃ xs, SqT K H1 a xs) ∧ R (Itet K a) H1))
theorem pi_enSq {X : Cx} {e : Expr} {ta : TA} {p pos tpos : Pos} {elts : List Expr} {kk : Nat} (hg : Gl X "enumerate") (hm : X.mg "enumerate" = none) (ha : PA X [e] ta) (hs : starEach [e] X.env = [(false, eval e X.env)] := by rfl) :
    PI X (.Tuple elts kk tpos) (.Call (.Name "enumerate" p) [e] [] pos) (iEnSq X.K ta) := by
  refine ⟨fun pins s σ H R I h => ?_⟩
  refine Call_ (ld_blt I hg hm boot_enumerate (PyProof.Rows.callWith_type1 (thn (ha.run pos pins s σ H _ I h) fun us s1 ⟨vs, H1, I1, r1, q1⟩ => ?_) hs rfl))
  obtain ⟨a, ex, q1⟩ := q1
  subst ex
  obtain rfl := Vals.ref1 r1
  have two : ∀ b, b ∈ [s1.heap.objs.size + 1, s1.heap.objs.size] → s1.heap.objs.size ≤ b := fun b hb => by
    rcases List.mem_cons.mp hb with z | z
    · rw [z]
      exact Nat.le_add_right _ _
    · rw [List.mem_singleton.mp z]
      exact Nat.le_refl _
  rcases q1 with ⟨⟨xs, hq⟩, q⟩ | ⟨⟨xs, hq⟩, q⟩
  · obtain ⟨its, rv, p', hz⟩ := I1.list hq
    refine en1_call (begins_list a its.toArray) p'.isList fun h' he hit hk => wpAny_pyIter_enum he ?_
    have I2 : Inv X pins σ H1 { s1 with heap := h' } := I1.kept (t' := s1.toks) hk
    refine ⟨s1.heap.objs.size + 1, [s1.heap.objs.size + 1, s1.heap.objs.size], _, _, H1, rfl, I2, turn_enum a (s1.heap.objs.size + 1) s1.heap.objs.size, ⟨⟨.none, he⟩, ⟨_, hit, rfl, rfl⟩, Nat.succ_ne_self _⟩, fun b hb => ?_, q⟩
    exact I1.fpOk (two b hb) (I1.hok.fresh (two b hb))
  · obtain ⟨its, rv, p', hz⟩ := I1.tuple hq
    have hlt : a < s1.heap.objs.size := by
      obtain ⟨o, ho, _⟩ := (show s1.heap.IsTuple a its.toArray from p')
      exact Heap.lt_size ho
    refine en1_call (begins_tuple a its.toArray) p' fun h' he hit hk => wpAny_pyIter_enum he ?_
    have I2 : Inv X pins σ H1 { s1 with heap := h' } := I1.kept (t' := s1.toks) hk
    refine ⟨s1.heap.objs.size + 1, [s1.heap.objs.size + 1, s1.heap.objs.size], _, _, H1, rfl, I2, turn_enT a (s1.heap.objs.size + 1) s1.heap.objs.size (Nat.ne_of_gt (Nat.lt_succ_of_lt hlt)) (Nat.ne_of_lt hlt), ⟨⟨.none, he⟩, ⟨_, hit, rfl, rfl⟩, Nat.succ_ne_self _⟩, fun b hb => ?_, q⟩
    exact I1.fpOk (two b hb) (I1.hok.fresh (two b hb))
section
variable {K : PySem.W.Frag} {a : Addr} {xs : List V}
theorem walk_enT : Walk (Itet K a) xs.length (fun H => SqT K H a xs) (YPair (fun i => some (.int (i : Nat))) (fun i => xs[i]?)) := by
  refine ⟨fun i _ hi q => ⟨xs, q, hi⟩, fun _ q => ⟨xs, q, rfl⟩, fun i H v H' _ q y => ?_⟩
  obtain ⟨T, x, e1, e2, e3, e4⟩ := y
  exact ⟨T, .int (i : Nat), x, e1, e2, e3, rfl, e4 xs q⟩
/-- the turns of an end: what goes on is N -/
def turnsOf (g : TG) (tb : TS) (D : Ends) (σ : St) (J : It) (H : Hp) : Prop := ∃ W : Nat → Nat → St → Hp → Prop, (∃ m, W 0 m σ H) ∧ ∀ i m σ H, W i m σ H →
  (J.stop i H ∧ D.nx σ H) ∨ (J.go i H ∧ ∃ N : St → Hp → Prop, (∀ σ' H', N σ' H' → ∃ m', m' < m ∧ W (i + 1) m' σ' H') ∧ ∀ x H', J.yld i H x H' → g x σ H' fun σ2 H2 => tb { D with nx := N, ct := N, bk := D.nx } σ2 H2)
theorem for_enSq {g : TG} {tb : TS} {D : Ends} {σ : St} {H : Hp} (hx : SqL K H a xs ∨ SqT K H a xs) (Pv : Nat → St → Hp → Prop) (h0 : Pv 0 σ H) (hE : ∀ i σ' H', Pv i σ' H' → Ext H H')
    (hs : ∀ i x σ' H' T, xs[i]? = some x → Pv i σ' H' → H' T = none → g (.ref T) σ' (upd H' T (.tup [.int (i : Nat), x])) fun σ2 H2 => tb { D with nx := Pv (i + 1), ct := Pv (i + 1), bk := D.nx } σ2 H2) (hd : ∀ σ' H', Pv xs.length σ' H' → D.nx σ' H') :
    ((∃ xs, SqL K H a xs) ∧ turnsOf g tb D σ (Ite K a) H) ∨ ((∃ xs, SqT K H a xs) ∧ turnsOf g tb D σ (Itet K a) H) := by
  have step : ∀ i x σ' H' H'', i < xs.length → Pv i σ' H' → YPair (fun i => some (V.int (i : Nat))) (fun i => xs[i]?) i H' x H'' → g x σ' H'' fun σ2 H2 => tb { D with nx := Pv (i + 1), ct := Pv (i + 1), bk := D.nx } σ2 H2 := by
    rintro i v σ' H' H'' hi pv ⟨T, x, y, rfl, hT, rfl, hx', hy⟩
    cases hx'
    exact hs i y σ' H' T hy pv hT
  rcases hx with hx | hx
  · exact .inl ⟨⟨xs, hx⟩, for_it (walk_enum (xs := xs)) Pv h0 (fun i σ' H' _ pv => hx.ext (hE i σ' H' pv)) step hd⟩
  · exact .inr ⟨⟨xs, hx⟩, for_it (walk_enT (xs := xs)) Pv h0 (fun i σ' H' _ pv => hx.ext (hE i σ' H' pv)) step hd⟩
end
end L2

set_option Elab.async false
set_option maxRecDepth 100000
set_option maxHeartbeats 4000000
/-! values told by the data that they hold -/
namespace L2
open PySem PySem.Spec PyProof.Rows
/-- the type's name -/
def tnD : PyData → String
  | .none => "NoneType" | .bool _ => "bool" | .int _ => "int" | .str _ => "str" | .list _ => "list" | .tuple _ => "tuple" | .dict _ => "dict"
def isIntD : PyData → Bool | .int _ => true | .bool _ => true | _ => false
def isBoolD : PyData → Bool | .bool _ => true | _ => false
def isTupD : PyData → Bool | .tuple _ => true | _ => false
def isListD : PyData → Bool | .list _ => true | _ => false
def isStrD : PyData → Bool | .str _ => true | _ => false
def isSeqD : PyData → Bool | .list _ => true | .tuple _ => true | _ => false
def isNoneD : PyData → Bool | .none => true | _ => false
/-- the int that it is, no truth -/
def betD (d : PyData) (a b : Int) : Bool := match d with
  | .int n => decide (a ≤ n) && decide (n ≤ b)
  | _ => false
def lenD : PyData → Nat | .list ds => ds.length | .tuple ds => ds.length | _ => 0
section
variable {K : PySem.W.Frag} {H H' : Hp} {v : V} {d : PyData}
theorem dp_ty (h : Dp K H v d) : TyX K H v (.type (tnD d)) := by
  cases h with
  | non => exact .base .non
  | bl b => exact .base (.bl b)
  | int i => exact .base (.int i)
  | str s => exact .base (.str s)
  | lst hs _ =>
    rcases hs with (h | ⟨o, h⟩) | ⟨o, its, n, e, c, _⟩
    · exact .base (.lst h)
    · exact .base (.frz h)
    · exact .kList e c
  | tup hs _ =>
    rcases hs with (h | ⟨o, h⟩) | ⟨o, its, n, e, c, _⟩
    · exact .base (.tup h)
    · exact .fTuple h
    · exact .kTuple e c
theorem kd_int : PySem.W.kitOne K (.type (tnD d)) (.type "int") = some (isIntD d) := by cases d <;> exact kit_ty (by dsimp only [tnD, isIntD]; decide +kernel)
theorem kd_bool : PySem.W.kitOne K (.type (tnD d)) (.type "bool") = some (isBoolD d) := by cases d <;> exact kit_ty (by dsimp only [tnD, isBoolD]; decide +kernel)
theorem kd_tup : PySem.W.kitOne K (.type (tnD d)) (.type "tuple") = some (isTupD d) := by cases d <;> exact kit_ty (by dsimp only [tnD, isTupD]; decide +kernel)
theorem kd_list : PySem.W.kitOne K (.type (tnD d)) (.type "list") = some (isListD d) := by cases d <;> exact kit_ty (by dsimp only [tnD, isListD]; decide +kernel)
theorem kd_seq : PySem.W.kitAny K (.type (tnD d)) [.type "list", .type "tuple"] = some (isSeqD d) := by
  unfold PySem.W.kitAny
  rw [kd_list]
  unfold PySem.W.kitAny
  rw [kd_tup]
  cases d <;> rfl
theorem kd_find : (fastFind? (tnD d)).isSome = true := by cases d <;> (dsimp only [tnD]; decide +kernel)
mutual
theorem dp_ext (e : Ext H H') : ∀ (d : PyData) (v : V), Dp K H v d → Dp K H' v d
  | .none, _, h => by cases h; exact .non
  | .bool _, _, h => by cases h; exact .bl _
  | .int _, _, h => by cases h; exact .int _
  | .str _, _, h => by cases h; exact .str _
  | .list ds, _, h => by
    cases h with
    | lst hs ha => exact .lst (hs.ext e) (dps_ext e ds _ ha)
  | .tuple ds, _, h => by
    cases h with
    | tup hs ha => exact .tup (hs.ext e) (dps_ext e ds _ ha)
  | .dict _, _, h => by cases h
theorem dps_ext (e : Ext H H') : ∀ (ds : List PyData) (vs : List V), DpAll K H vs ds → DpAll K H' vs ds
  | [], _, h => by cases h; exact .nil
  | d :: ds, _, h => by
    cases h with
    | cons h1 h2 => exact .cons (dp_ext e d _ h1) (dps_ext e ds _ h2)
end
theorem dps_len : ∀ {vs : List V} {ds : List PyData}, DpAll K H vs ds → vs.length = ds.length
  | [], _, h => by cases h; rfl
  | v :: vs, _, h => by
    cases h with
    | cons _ h2 => exact congrArg Nat.succ (dps_len h2)
theorem dps_get : ∀ {vs : List V} {ds : List PyData} {i : Nat} {v : V}, DpAll K H vs ds → vs[i]? = some v → ∃ d, ds[i]? = some d ∧ Dp K H v d
  | [], _, _, _, _, e => by cases e
  | v :: vs, _, i, _, h, e => by
    cases h with
    | @cons _ _ d ds h1 h2 =>
      cases i with
      | zero => cases e; exact ⟨d, rfl, h1⟩
      | succ i => exact dps_get (i := i) h2 e
theorem bet_int {n a b : Int} : betD (.int n) a b = (decide (a ≤ n) && decide (n ≤ b)) := rfl
theorem bet_not {a b : Int} (h : (isIntD d && !isBoolD d) = false) : betD d a b = false := by cases d <;> first | rfl | cases h
theorem bet_yes {a b : Int} (h : betD d a b = true) : ∃ n, d = .int n ∧ a ≤ n ∧ n ≤ b := by
  cases d <;> first | (rw [bet_int, Bool.and_eq_true, decide_eq_true_eq, decide_eq_true_eq] at h; exact ⟨_, rfl, h.1, h.2⟩) | cases h
theorem int_yes (h : (isIntD d && !isBoolD d) = true) : ∃ n, d = .int n := by cases d <;> first | exact ⟨_, rfl⟩ | cases h
theorem dp_int {n : Int} (h : Dp K H v (.int n)) : v = .int n := by cases h; rfl
theorem dp_seq (h : Dp K H v d) (hs : isSeqD d = true) : ∃ (a : Addr) (xs : List V) (ds : List PyData), v = .ref a ∧ (SqL K H a xs ∨ SqT K H a xs) ∧ DpAll K H xs ds ∧ (d = .list ds ∨ d = .tuple ds) := by
  cases h with
  | lst h ha => exact ⟨_, _, _, rfl, .inl h, ha, .inl rfl⟩
  | tup h ha => exact ⟨_, _, _, rfl, .inr h, ha, .inr rfl⟩
  | _ => cases hs
theorem dp_tup (h : Dp K H v d) (hs : isTupD d = true) : ∃ (a : Addr) (xs : List V) (ds : List PyData), v = .ref a ∧ SqT K H a xs ∧ DpAll K H xs ds ∧ d = .tuple ds := by
  cases h with
  | tup h ha => exact ⟨_, _, _, rfl, h, ha, rfl⟩
  | _ => cases hs
end
/-! ### own methods, called -/
section
variable {X : Cx} {CX : CXT} {m : Str} {k : Nat} {ps : List Str} {sp : Sp} {e o : Expr} {es : List Expr} {t : TA} {ta : TE} {pos apos : Pos} {C : Addr}
theorem pe_ownM0 {pl : Sem Bool} (O : OwnM X.prog X.w X.K X.mg X.base CX C m k ps sp) (he : PE X o ta) (c : Cls X.K C) (hr : Room k X.A) (hx : Passes CX X E0)
    (ht : eval (.Call (.Attribute o m apos) [] [] pos) X.env = (do
      let ov ← eval o X.env
      standAt apos.atName
      let (f, first) ← holding [ov] (getMethod ov m pl)
      callWith pos f first (backTo pos (starEach [] X.env)) (backToKw pos (keywordEach [] X.env))) := by rfl) :
    PE X (.Call (.Attribute o m apos) [] [] pos) (tMeth C m sp [] E0 ta tNil) := by
  obtain ⟨f, fd, F, M, _, hb⟩ := O.ex
  exact pe_meth0 he c M F hr hb .nil hx ht
theorem pe_ownM {pl : Sem Bool} (O : OwnM X.prog X.w X.K X.mg X.base CX C m k ps sp) (he : PE X o ta) (c : Cls X.K C) (hr : Room k X.A) (hx : Passes CX X E0) (ha : PA X (e :: es) t)
    (hst : starEach (e :: es) X.env = (false, eval e X.env) :: starEach es X.env := by rfl) (hpl : (backTo pos (starEach es X.env)).any (·.1) = false := by rfl)
    (ht : eval (.Call (.Attribute o m apos) (e :: es) [] pos) X.env = (do
      let ov ← eval o X.env
      standAt apos.atName
      let (f, first) ← holding [ov] (getMethod ov m pl)
      callWith pos f first (backTo pos (starEach (e :: es) X.env)) (backToKw pos (keywordEach [] X.env))) := by rfl) :
    PE X (.Call (.Attribute o m apos) (e :: es) [] pos) (tMeth C m sp [] E0 ta t) := by
  obtain ⟨f, fd, F, M, _, hb⟩ := O.ex
  exact pe_meth he c M F hr hb .nil hx ha hst hpl ht
end
end L2

set_option Elab.async false
set_option maxRecDepth 100000
set_option maxHeartbeats 4000000
/-! defs that are handed the error that the suite holds; classes made with defaults -/
namespace L2
open PySem PySem.Spec PyProof.Rows
section
variable {X : Cx}
/-- isinstance(e, c), e the held error, anywhere that it is pinned -/
theorem call_isEP {a D : Addr} {cls : Value} {d : Option Addr} {oe : Obj} (hpn : (a, oe) ∈ X.pn) (C : ExcC X.K D) (hz : Zc cls d oe) (hf : ∃ vs, oe.data = .fields vs) : CallR X (.builtin "isinstance") (rIsED X.K D a cls d) := by
  intro pins s σ H xs us Q I r h
  obtain ⟨ec0, hdd, c, cv, b, rfl, hcv, e, q⟩ := h
  subst ec0
  cases r with
  | cons rx rr =>
    cases rr with
    | cons rt rr =>
      cases rr
      cases rx
      have ec := hcv _ rt
      subst ec
      obtain ⟨hget, _⟩ := I.pin (a, oe) (List.mem_append.mpr (.inl hpn))
      obtain ⟨vs, hv⟩ := hf
      have J : ∃ od, PySem.W.InstAt s.heap a oe D od := by
        obtain ⟨oc, od, oda, osl⟩ := oe
        obtain ⟨h1, h2⟩ := hz
        dsimp only at h1 h2 hv
        subst h1 h2 hv
        cases od with
        | none => exact ⟨none, hget, rfl, rfl, trivial⟩
        | some dd =>
          obtain ⟨fs, hfs⟩ := hdd dd rfl
          obtain ⟨mA, hns, _⟩ := (show ObjOk X.prog X.w H s.heap dd (.xd fs) from I.hok dd _ hfs)
          obtain ⟨od, ho, _⟩ := lookIn_ns hns
          exact ⟨some od, hget, rfl, rfl, ho⟩
      exact PySem.W.kia_one (PySem.W.kitx_excD C) I.kIn J e (fun z => nomatch z) fun tk => ⟨.bl b, H, I.kept (t' := tk) fun _ _ z => z, rfl, q⟩
/-- e.f of it -/
theorem pe_xfP {a C : Addr} {oe : Obj} {cls : Value} {d : Option Addr} {e : Expr} {te : TE} {pos : Pos} {n : Str} (hpn : (a, oe) ∈ X.pn) (T : XfC X.K C) (hno : PySem.W.findIn X.K (.ref C) n = some none)
    (hz : Zc cls d oe) (hf : ∃ vs, oe.data = .fields vs) (he : PE X e te) (hb : attributeBase e n X.env (eval e X.env) = eval e X.env := by rfl) :
    PE X (.Attribute e n pos) (tXf a cls d C n te) := by
  refine ⟨fun pins s σ H Q I h => attr_of hb (thn (he.run pins s σ H _ I h) fun u s1 hh => ?_)⟩
  obtain ⟨x, H1, I1, rx, ex, ec, dd, fs, v, ed, ea, l, q⟩ := hh
  subst ex ec ed
  obtain rfl : u = Value.ref a := rx
  obtain ⟨hget, _⟩ := I1.pin (a, oe) (List.mem_append.mpr (.inl hpn))
  obtain ⟨vs, hv⟩ := hf
  obtain ⟨mA, hns, hr⟩ := (show ObjOk X.prog X.w H1 s1.heap dd (.xd fs) from I1.hok dd _ ea)
  obtain ⟨od, ho, hl⟩ := lookIn_ns hns
  obtain ⟨uu, hu, ru⟩ := RelO.some_of (v := v) (o := mA n) (by rw [← l]; exact hr n)
  have ncls : PySem.W.notCls oe = true := by
    unfold PySem.W.notCls
    rw [hv] <;> rfl
  have J : PySem.W.InstAt s1.heap a oe C (some od) := ⟨hget, hz.1, ncls, by rw [hz.2]; exact ho⟩
  have fo := PySem.W.findObj_own T.hdC hno (od := od) rfl (by rw [hl, hu])
  exact HandSPX.exc_get I1.kIn J T.ga T.gg T.exC fo (handed_of ru) ⟨v, H1, I1.tok _, ru, q⟩
end
end L2
namespace L2H
open PySem PySem.Spec PyProof.Rows L2 HotX
/-- such a def: its promise speaks of the held error, too -/
structure FnE (P : Program) (w : World) (K : PySem.W.Frag) (mg : Str → Option Value) (base : Heap) (CX : CXT) (k : Nat) (f : Addr) (fd : FuncData) (ps : List Str) (sp : Addr × Obj → Sp) : Prop where
  len : ∀ p vs H Q E, sp p vs H Q E → vs.length = ps.length
  run : ∀ (p : Addr × Obj) (AA : Around) (outer : List Env) (sh : Shared) (H : Hp) (args : Args) (us : List Value) (vs : List V) (Q : VK) (E : XK), RoomH k AA → PinOk outer H sh p → Env0 P w K mg base AA outer sh H →
    BindsTo sh fd args (ps.zip us) → Vals vs us → sp p vs H Q E → codeAny (model P w) AA (.call (.ref f) args) (CR CX outer P w H sh Q E) sh
section
variable {CX : CXT} {P : Program} {w : World} {K : PySem.W.Frag} {mg : Str → Option Value} {base : Heap} {k : Nat} {f : Addr} {fd : FuncData} {x qual : Str} {st : Stmt} {N ps : List Str} {sp : Addr × Obj → Sp}
theorem fnE_of (F : Fun K x qual st f fd) (S : FnScope N ps (defScope st)) (len : ∀ p vs H Q E, sp p vs H Q E → vs.length = ps.length)
    (hbody : ∀ (p : Addr × Obj) (cdv : Value) (AA : Around) (outer : List Env) (sh : Shared) (H : Hp) (vs : List V) (Q : VK) (E : XK), RoomH k (AA.deeper (envOfC qual (defScope st) sh.heap.objs.size f cdv)) → sp p vs H Q E →
      ∃ t, PSs (cxH CX P w K mg base N qual (defScope st) f cdv AA outer sh H E p) (defBody st) t ∧ t { nx := fun _ H' => Q .non H', rt := Q } (L2.start N vs) H) : FnE P w K mg base CX (k + 1) f fd ps sp := by
  obtain ⟨oc, od, kV, doc, pm, an, cdv, ct, osl, rfl, lk, hcd⟩ := F.ex
  refine ⟨len, fun p AA outer sh H args us vs Q E hr hpin e0 hb r hsp => ?_⟩
  have hl := len _ _ _ _ _ hsp
  have KX : K.In sh.heap := e0.mod.kin.keeps fun b o e => (e0.bs b o e).1
  have lim : sh.heap.NoLimit := e0.mod.nolimit.keeps fun b o e => (e0.bs b o e).1
  have binds : ∀ y ∈ ps.zip us, (defScope st).names.lookup y.1 = some .local ∨ ((defScope st).names.lookup y.1 = some .cell ∧ ((cellsFrom (sh.heap.objs.size + 1) (defScope st).names []).lookup y.1).isSome = true) := by
    rintro ⟨n, v⟩ hy
    rcases S.par n (List.of_mem_zip hy).1 with q | q
    · exact .inl q
    · exact .inr ⟨q, PySem.W.cellsFrom_some _ _ _ (.inl q)⟩
  refine codeAny_call_function hr.depth (KX _ _ lk) rfl S.co S.gen rfl (PySem.W.codeRec_of KX hcd) (hb _ _ _ _ ?_)
  refine wpAny_newFunctionEnv_cells S.kind binds fun env he s1 xx => ?_
  subst he
  refine ⟨lim.keeps xx.toInCall.keep, codeAny_func ?_⟩
  obtain ⟨t, ht, hq⟩ := hbody p cdv AA outer sh H vs Q E (hr.deeper _) hsp
  have I := inv_startH (CX := CX) (E := E) S hpin e0 hl r xx
  refine wpAny_mono (ht.run [] s1 (L2.start N vs) H _ I hq) (fun fl s' hs => ?_) fun _ _ hs => hs
  cases fl with
  | ret u =>
    obtain ⟨v, σ', H', J, rv, q⟩ := hs
    exact ⟨v, H', J.os, J.bare, J.base, J.hok, rv, q⟩
  | next =>
    obtain ⟨σ', H', J, q⟩ := hs
    exact ⟨V.non, H', J.os, J.bare, J.base, J.hok, rfl, q⟩
  | brk =>
    obtain ⟨_, _, _, q⟩ := hs
    exact q.elim
  | cont =>
    obtain ⟨_, _, _, q⟩ := hs
    exact q.elim
end
section
variable {X : Cx} {CX : CXT} {k : Nat} {f : Addr} {fd : FuncData} {ps : List Str} {sp : Addr × Obj → Sp} {x : Str} {q pos : Pos} {e : Expr} {es : List Expr} {t : TA} {p : Addr × Obj}
/-- f(e, ..) in the suite that holds p -/
theorem pe_callE (F : FnE X.prog X.w X.K X.mg X.base CX k f fd ps sp) (hr : RoomH k X.A) (hp : p ∈ X.pn) (hg : Gl X x) (hm : X.mg x = some (.ref f)) (hk : PySem.W.keepIn X.K (.ref f) = true) (hb : Binds X.K fd ps []) (hx : Passes CX X E0)
    (ha : PA X (e :: es) t) (hdb : (x == ("__debug__" : Str)) = false := by decide) (he : starEach (e :: es) X.env = (false, eval e X.env) :: starEach es X.env := by rfl) (hpl : (backTo pos (starEach es X.env)).any (·.1) = false := by rfl) :
    PE X (.Call (.Name x q) (e :: es) [] pos) (tCall (sp p) [] E0 t) := by
  refine ⟨fun pins s σ H Q I h => wpAny_Call_Name_kw (ld_glob I hg hm ?_ hdb)⟩
  refine PySem.W.callWith_K (h₀ := X.base) I.ok.mod.kin hk (thn (ha.run pos pins s σ H _ I h) fun us s1 ⟨vs, H1, I1, r, hsp⟩ => ⟨I1.kIn, ?_⟩) he hpl
  have hsp : sp p vs H1 Q E0 := by
    have z : sp p (vs ++ []) H1 Q E0 := hsp
    rwa [List.append_nil] at z
  have hl : us.length = ps.length := by
    rw [← r.length]
    exact F.len _ _ _ _ _ hsp
  have bd := hb s1 us I1.kIn (by rw [List.append_nil]; exact hl)
  rw [List.append_nil] at bd
  have P1 := I1.pin p (List.mem_append.mpr (.inl hp))
  have hpin : PinOk X.stack H1 s1 p := ⟨P1.1, P1.2.1, fun hm => (List.mem_cons.mp (I1.stkSub p.1 hm)).elim P1.2.2.1 P1.2.2.2.1, P1.2.2.2.2⟩
  refine wpAny_call (codeAny_mono (F.run p X.A X.stack s1 H1 ⟨us, []⟩ us vs Q E0 hr hpin I1.env0 bd r hsp) fun rr s' hq => ?_)
  match rr, hq with
  | .error ee, hq => exact hx pins σ H1 s1 ee s' I1 hq
  | .ok (.ret u), hq => exact I1.after hq
  | .ok .next, hq => exact hq.elim
  | .ok .brk, hq => exact hq.elim
  | .ok .cont, hq => exact hq.elim
end
end L2H
namespace L2
open PySem PySem.Spec PyProof.Rows
/-- a class of the top whose __init__ has defaults, dvs those that fill up -/
structure OwnCD (P : Program) (w : World) (K : PySem.W.Frag) (mg : Str → Option Value) (base : Heap) (CX : CXT) (x : Str) (C : Addr) (k : Nat) (ps : List Str) (sp : Sp) (dvs : List V) : Prop where
  ex : ∃ (f : Addr) (fd : FuncData) (ds : List Value), FnOk P w K mg base CX k f fd ps sp ∧ Mk K C f ∧ mg x = some (.ref C) ∧ Binds K fd ps ds ∧ Vals dvs ds
section
variable {X : Cx} {CX : CXT} {x : Str} {k : Nat} {ps : List Str} {sp : Sp} {e : Expr} {es : List Expr} {t : TA} {p pos : Pos} {C : Addr} {dvs : List V}
theorem pe_newD (O : OwnCD X.prog X.w X.K X.mg X.base CX x C k ps sp dvs) (hr : Room (k + 1) X.A) (hx : Passes CX X E0) (ha : PA X (e :: es) t) (hg : Gl X x := by rfl) (hdb : (x == ("__debug__" : Str)) = false := by decide)
    (he : starEach (e :: es) X.env = (false, eval e X.env) :: starEach es X.env := by rfl) (hpl : (backTo pos (starEach es X.env)).any (·.1) = false := by rfl) : PE X (.Call (.Name x p) (e :: es) [] pos) (tMake C sp dvs E0 t) := by
  obtain ⟨f, fd, ds, F, M, hm, hb, hv⟩ := O.ex
  exact pe_make M F hr hg hm hb hv hx ha hdb he hpl
end
end L2

set_option Elab.async false
set_option maxRecDepth 100000
set_option maxHeartbeats 4000000
/-! a op b op c op d -/
namespace L2
open PySem PySem.Spec PyProof.Rows
def tCh3 (r r' r2 : R2) (ta tb tc td : TE) : TE := fun σ H Q => ta σ H fun x H1 => tb σ H1 fun y H2 => r x y H2 fun z H3 => ∃ k, z = .bl k ∧
  (if k = true then tc σ H3 fun u H4 => r' y u H4 fun z' H5 => ∃ k', z' = .bl k' ∧ (if k' = true then td σ H5 fun v H6 => r2 u v H6 Q else Q (.bl false) H5) else Q (.bl false) H3)
section
variable {X : Cx} {a b c d : Expr} {pos : Pos} {ta tb tc td : TE} {op op' op2 : CmpOp} {r r' r2 : R2}
theorem pe_chain3 (ho : OpR X (compareOp op) r) (ho' : OpR X (compareOp op') r') (ho2 : OpR X (compareOp op2) r2) (ha : PE X a ta) (hb : PE X b tb) (hc : PE X c tc) (hd : PE X d td)
    (hm : lastMarks [op, op', op2] [b, c, d] = false := by with_unfolding_all rfl) : PE X (.Compare a [op, op', op2] [b, c, d] pos) (tCh3 r r' r2 ta tb tc td) := by
  refine ⟨fun pins s σ H Q I h => ?_⟩
  refine Compare_chain (thn (ha.run pins s σ H _ I h) fun v s1 ⟨x, H1, I1, r1, q1⟩ => chain_link (thn (hb.run pins s1 σ H1 _ I1 q1) fun u s2 ⟨y, H2, I2, r2', q2⟩ =>
    thn (ho pins s2 σ H2 x y v u _ I2 r1 r2' q2) fun e s3 ⟨z, H3, I3, r3, k, ez, q3⟩ => ?_)) hm
  subst ez
  cases r3
  refine wpAny_truthy_bool ?_
  cases k with
  | false => exact ite_ff ⟨.bl false, H3, I3, rfl, q3⟩
  | true =>
    refine ite_tt (chain_link (thn (hc.run pins s3 σ H3 _ I3 q3) fun u2 s4 ⟨z4, H4, I4, r4, q4⟩ => thn (ho' pins s4 σ H4 y z4 u u2 _ I4 r2' r4 q4) fun e5 s5 ⟨z5, H5, I5, r5, k5, ez5, q5⟩ => ?_))
    subst ez5
    cases r5
    refine wpAny_truthy_bool ?_
    cases k5 with
    | false => exact ite_ff ⟨.bl false, H5, I5, rfl, q5⟩
    | true => exact ite_tt (chain_last (thn (hd.run pins s5 σ H5 _ I5 q5) fun u6 s6 ⟨z6, H6, I6, r6, q6⟩ => ho2 pins s6 σ H6 z4 z6 u2 u6 Q I6 r4 r6 q6))
theorem pt_chain3 (ho : OpR X (compareOp op) r) (ho' : OpR X (compareOp op') r') (ho2 : OpR X (compareOp op2) r2) (ha : PE X a ta) (hb : PE X b tb) (hc : PE X c tc) (hd : PE X d td)
    (hm : lastMarks [op, op', op2] [b, c, d] = false := by with_unfolding_all rfl) : PT X (.Compare a [op, op', op2] [b, c, d] pos) (tTest (tCh3 r r' r2 ta tb tc td)) := by
  refine ⟨fun pins s σ H Q I h => ?_⟩
  refine isTrue_chain (thn (ha.run pins s σ H _ I h) fun v s1 ⟨x, H1, I1, r1, q1⟩ => test_link (thn (hb.run pins s1 σ H1 _ I1 q1) fun u s2 ⟨y, H2, I2, r2', q2⟩ =>
    thn (ho pins s2 σ H2 x y v u _ I2 r1 r2' q2) fun e s3 ⟨z, H3, I3, r3, k, ez, q3⟩ => ?_)) hm
  subst ez
  cases r3
  refine wpAny_truthy_bool ?_
  cases k with
  | false =>
    obtain ⟨k', e', q'⟩ := q3
    cases e'
    exact ite_ff ⟨H3, I3, q'⟩
  | true =>
    refine ite_tt (test_link (thn (hc.run pins s3 σ H3 _ I3 q3) fun u2 s4 ⟨z4, H4, I4, r4, q4⟩ => thn (ho' pins s4 σ H4 y z4 u u2 _ I4 r2' r4 q4) fun e5 s5 ⟨z5, H5, I5, r5, k5, ez5, q5⟩ => ?_))
    subst ez5
    cases r5
    refine wpAny_truthy_bool ?_
    cases k5 with
    | false =>
      obtain ⟨k', e', q'⟩ := q5
      cases e'
      exact ite_ff ⟨H5, I5, q'⟩
    | true =>
      refine ite_tt (test_last (thn (hd.run pins s5 σ H5 _ I5 q5) fun u6 s6 ⟨z6, H6, I6, r6, q6⟩ => thn (ho2 pins s6 σ H6 z4 z6 u2 u6 _ I6 r4 r6 q6) fun e7 s7 ⟨z7, H7, I7, r7, k7, ez7, q7⟩ => ?_))
      subst ez7
      cases r7
      exact wpAny_truthy_bool ⟨H7, I7, q7⟩
end
end L2
namespace L2
open PySem PySem.Spec PyProof.Rows
def numV : V → Bool | .int _ => true | _ => false
section
variable {K : PySem.W.Frag} {σ : St} {H : Hp} {p : Addr} {xs : List V} {te : TE} {tt : TT} {j : Nat} {vs : List Nat} {Q : VK} {v : V} {d : PyData}
theorem num_dp (h : Dp K H v d) : (isIntD d && !isBoolD d) = numV v := by cases h <;> rfl
theorem non_dp (h : Dp K H v d) : decide (v = .non) = isNoneD d := by cases h <;> simp [isNoneD]
/-- [f(x) for x in xs if b(x)] over a list or a tuple wherever it stands, what is tested and made only adding to the heap -/
theorem lc_sqG {Qd : Addr → Hp → Prop} {f : V → V} {b : V → Bool} (hx : SqL K H p xs ∨ SqT K H p xs) (hz : xs.length < sizeLine) (hw : ∀ x, wipe ((wipe σ vs).set j (some x)) vs = wipe σ vs)
    (ht : ∀ x ∈ xs, ∀ H', Ext H H' → ∀ Q : Bool → Hp → Prop, (∀ H'', Ext H' H'' → Q (b x) H'') → tt ((wipe σ vs).set j (some x)) H' Q)
    (he : ∀ x ∈ xs, b x = true → ∀ H', Ext H H' → ∀ Q : VK, (∀ H'', Ext H' H'' → Q (f x) H'') → te ((wipe σ vs).set j (some x)) H' Q)
    (q : ∀ D H', H D = none → Ext H H' → H' D = some (.lst ((xs.filter b).map f)) → Qd D H') :
    ((∃ xs, SqL K H p xs) ∧ (fun J H1 => ∀ D, H1 D = none → ∃ W : Nat → Nat → Hp → Prop, (∃ m, W 0 m (upd H1 D (.lst []))) ∧ ∀ i m H, W i m H →
      (J.stop i H ∧ Qd D H) ∨ (J.go i H ∧ ∃ Nx : Hp → Prop, (∀ H', Nx H' → ∃ m', m' < m ∧ W (i + 1) m' H') ∧ ∀ x H', J.yld i H x H' → gName j x (wipe σ vs) H' fun σ2 H2 => wipe σ2 vs = wipe σ vs ∧ tt σ2 H2 fun b H3 =>
        if b = true then te σ2 H3 fun y H4 => ∃ acc, H4 D = some (.lst acc) ∧ acc.length < sizeLine ∧ Nx (upd H4 D (.lst (acc ++ [y]))) else Nx H3)) (Itl K p) H) ∨
    ((∃ xs, SqT K H p xs) ∧ (fun J H1 => ∀ D, H1 D = none → ∃ W : Nat → Nat → Hp → Prop, (∃ m, W 0 m (upd H1 D (.lst []))) ∧ ∀ i m H, W i m H →
      (J.stop i H ∧ Qd D H) ∨ (J.go i H ∧ ∃ Nx : Hp → Prop, (∀ H', Nx H' → ∃ m', m' < m ∧ W (i + 1) m' H') ∧ ∀ x H', J.yld i H x H' → gName j x (wipe σ vs) H' fun σ2 H2 => wipe σ2 vs = wipe σ vs ∧ tt σ2 H2 fun b H3 =>
        if b = true then te σ2 H3 fun y H4 => ∃ acc, H4 D = some (.lst acc) ∧ acc.length < sizeLine ∧ Nx (upd H4 D (.lst (acc ++ [y]))) else Nx H3)) (Itt K p) H) := by
  have turn : ∀ (D : Addr), H D = none → ∀ i x H', xs[i]? = some x → (Ext H H' ∧ H' D = some (.lst (((xs.take i).filter b).map f))) → gName j x (wipe σ vs) H' fun σ2 H2 => wipe σ2 vs = wipe σ vs ∧ tt σ2 H2 fun b' H3 =>
      if b' = true then te σ2 H3 fun y H4 => ∃ acc, H4 D = some (.lst acc) ∧ acc.length < sizeLine ∧ (Ext H (upd H4 D (.lst (acc ++ [y]))) ∧ upd H4 D (.lst (acc ++ [y])) D = some (.lst (((xs.take (i + 1)).filter b).map f))) else (Ext H H3 ∧ H3 D = some (.lst (((xs.take (i + 1)).filter b).map f))) := by
    intro D hD i x H' hi pv
    obtain ⟨e, hl⟩ := pv
    have hm : x ∈ xs := List.mem_of_getElem? hi
    refine ⟨hw x, ht x hm H' e _ fun H3 e3 => ?_⟩
    have hl3 : H3 D = some (.lst (((xs.take i).filter b).map f)) := e3 _ _ hl
    cases hb : b x with
    | true =>
      refine iteT (he x hm hb H3 (e.trans e3) _ fun H4 e4 => ⟨_, e4 _ _ hl3, ?_, ext_mut ((e.trans e3).trans e4) hD, ?_⟩)
      · rw [List.length_map]
        refine Nat.lt_of_le_of_lt (Nat.le_trans (List.length_filter_le _ _) ?_) hz
        exact List.length_take_le' _ _
      · rw [upd_same, take_snoc hi, List.filter_append, List.map_append]
        simp [hb]
    | false =>
      refine iteF ⟨e.trans e3, ?_⟩
      rw [hl3, take_snoc hi, List.filter_append, List.map_append]
      simp [hb]
  have fin : ∀ D, H D = none → ∀ H', (Ext H H' ∧ H' D = some (.lst (((xs.take xs.length).filter b).map f))) → Qd D H' := fun D hD H' pv => by
    rw [List.take_length] at pv
    exact q D H' hD pv.1 pv.2
  rcases hx with hx | hx
  · refine .inl ⟨⟨xs, hx⟩, fun D hD => lc_list (xs := xs) (fun i H' => Ext H H' ∧ H' D = some (.lst (((xs.take i).filter b).map f))) ⟨Ext.upd hD, upd_same⟩ (fun i H' _ pv => hx.ext pv.1) (fun i x H' hi pv => turn D hD i x H' hi pv) (fun H' pv => fin D hD H' pv)⟩
  · refine .inr ⟨⟨xs, hx⟩, fun D hD => lc_tup (xs := xs) (fun i H' => Ext H H' ∧ H' D = some (.lst (((xs.take i).filter b).map f))) ⟨Ext.upd hD, upd_same⟩ (fun i H' _ pv => hx.ext pv.1) (fun i x H' hi pv => turn D hD i x H' hi pv) (fun H' pv => fin D hD H' pv)⟩
end
end L2

set_option Elab.async false
set_option maxRecDepth 100000
set_option maxHeartbeats 4000000
namespace L2
open PySem PySem.Spec PyProof.Rows
section
variable {X : Cx} {m : Str} {k : Nat} {ps : List Str} {sp : Sp} {e o : Expr} {es : List Expr} {t : TA} {ta : TE} {pos apos : Pos} {C : Addr} {W : WX}
/-- o.m(e, ..) that may raise; W is wished for what it raises -/
theorem pe_ownMS {pl : Sem Bool} (O : OwnM X.prog X.w X.K X.mg X.base (L2.CX X.prog X.w) C m k ps sp) (he : PE X o ta) (c : Cls X.K C) (hr : Room k X.A) (tk : Takes X W) (ha : PA X (e :: es) t)
    (hst : starEach (e :: es) X.env = (false, eval e X.env) :: starEach es X.env := by rfl) (hpl : (backTo pos (starEach es X.env)).any (·.1) = false := by rfl)
    (ht : eval (.Call (.Attribute o m apos) (e :: es) [] pos) X.env = (do
      let ov ← eval o X.env
      standAt apos.atName
      let (f, first) ← holding [ov] (getMethod ov m pl)
      callWith pos f first (backTo pos (starEach (e :: es) X.env)) (backToKw pos (keywordEach [] X.env))) := by rfl) :
    PE X (.Call (.Attribute o m apos) (e :: es) [] pos) (tMethSD C m sp [] (WE W) ta t) := by
  obtain ⟨f, fd, F, M, _, hb⟩ := O.ex
  exact pe_methSD he c M F hr hb .nil (fun σ => passAt tk σ) ha hst hpl ht
theorem PE.imp {ex : Expr} {t1 t2 : TE} (h : PE X ex t1) (i : ∀ σ H Q, t2 σ H Q → t1 σ H Q) : PE X ex t2 := ⟨fun pins s σ H Q I z => h.run pins s σ H Q I (i σ H Q z)⟩
end
end L2

set_option Elab.async false
set_option linter.all false
set_option maxRecDepth 100000
set_option maxHeartbeats 4000000
/-! tuples of own objects, compared by their own ==, whichever the answer -/
namespace GQ
open PySem PySem.SeqAt
open AutoSeq1 (wpAny_loadPart')
open MeetsSeq MeetsSeq2 MeetsSeq3 SeqRoads2
section
variable {prog : Program} {w : World} {A : Around} {R : Result → Shared → Prop}
/-- the places one by one: I goes on, J at the first two that differ -/
theorem tup_eqB (la lb : Addr) (xs ys : Array Value) (n n2 : Nat) (dd dd2 : Option Addr) (sl sl2 : Array (Option Value)) (hsz : xs.size = ys.size) (I : Nat → Shared → Prop) (J : Shared → Prop)
    (turn : ∀ i (h1 : i < xs.size) (h2 : i < ys.size) s, I i s → wpAny (model prog w) A.in1 (eqBool xs[i] ys[i]) (fun r s' => (r = true ∧ I (i + 1) s') ∨ (r = false ∧ J s')) (fun e s' => R (.error e) s') s)
    (finT : ∀ s, I xs.size s → R (.ok (.ret (.bool true))) s) (finF : ∀ s, J s → R (.ok (.ret (.bool false))) s) {s : Shared}
    (hla : s.heap.get? la = some { cls := .type "tuple", dict := dd, data := .seq xs n, slots := sl }) (hlb : s.heap.get? lb = some { cls := .type "tuple", dict := dd2, data := .seq ys n2, slots := sl2 }) (h : I 0 s) :
    wpAny (model prog w) A.in1 (Builtin.«tuple.__eq__» ⟨[.ref la, .ref lb], []⟩) (FinOf prog w A R) (fun e s' => R (.error e) s') s := by
  have f2 := AutoSeq1.sub_tuple_tuple
  have hZ : (xs.toList.zip ys.toList).length = xs.size := by simp [hsz]
  have h0 := h
  obtain ⟨hp, g, d, tk, os⟩ := s
  wp_walk using wpAny_loadPart' hla, wpAny_loadPart' hlb, wpAny_forIn_list _ (fun rest b s' => b.1 = none ∧ ∃ i, rest = (xs.toList.zip ys.toList).drop i ∧ i ≤ xs.size ∧ I i s') _
  case turn =>
    rintro ⟨y, x⟩ rest b s' ⟨hb', i, hz, hi, hI⟩
    have hlt : i < (xs.toList.zip ys.toList).length := by
      rcases Nat.lt_or_ge i (xs.toList.zip ys.toList).length with h' | h'
      · exact h'
      · rw [List.drop_of_length_le h'] at hz
        cases hz
    have h1 : i < xs.size := hZ ▸ hlt
    have h2 : i < ys.size := hsz ▸ h1
    rw [List.drop_eq_getElem_cons hlt] at hz
    injection hz with hyx hrest
    have hy : y = xs[i] := by
      have q := congrArg Prod.fst hyx
      simpa using q
    have hx : x = ys[i] := by
      have q := congrArg Prod.snd hyx
      simpa using q
    subst hy hx
    refine wpAny_bind (wpAny_mono (turn i h1 h2 s' hI) (fun r s2 q2 => ?_) fun _ _ x => x)
    rcases q2 with ⟨hr, q2⟩ | ⟨hr, q2⟩
    · subst hr
      wp_walk
      exact ⟨rfl, i + 1, hrest, h1, q2⟩
    · subst hr
      have hR : R (.ok (.ret (.bool false))) s2 := finF s2 q2
      wp_walk
      exact hR
  case fin =>
    rintro ⟨b1, b2⟩ s' ⟨hb', i, hz, hi, hI⟩
    simp only at hb'
    subst hb'
    have hge : xs.size ≤ i := by
      rcases Nat.lt_or_ge i (xs.toList.zip ys.toList).length with h' | h'
      · rw [List.drop_eq_getElem_cons h'] at hz
        cases hz
      · exact hZ ▸ h'
    have hi' : i = xs.size := by omega
    have hR : R (.ok (.ret (.bool true))) s' := finT s' (hi' ▸ hI)
    wp_walk
    simpa [Builtin.Tuple.tupleCompareSizes, hsz] using hR
  case h =>
    exact ⟨rfl, 0, rfl, Nat.zero_le _, h0⟩
/-- the same for != -/
theorem tup_neB (la lb : Addr) (xs ys : Array Value) (n n2 : Nat) (dd dd2 : Option Addr) (sl sl2 : Array (Option Value)) (hsz : xs.size = ys.size) (I : Nat → Shared → Prop) (J : Shared → Prop)
    (turn : ∀ i (h1 : i < xs.size) (h2 : i < ys.size) s, I i s → wpAny (model prog w) A.in1 (eqBool xs[i] ys[i]) (fun r s' => (r = true ∧ I (i + 1) s') ∨ (r = false ∧ J s')) (fun e s' => R (.error e) s') s)
    (finT : ∀ s, I xs.size s → R (.ok (.ret (.bool false))) s) (finF : ∀ s, J s → R (.ok (.ret (.bool true))) s) {s : Shared}
    (hla : s.heap.get? la = some { cls := .type "tuple", dict := dd, data := .seq xs n, slots := sl }) (hlb : s.heap.get? lb = some { cls := .type "tuple", dict := dd2, data := .seq ys n2, slots := sl2 }) (h : I 0 s) :
    wpAny (model prog w) A.in1 (Builtin.«tuple.__ne__» ⟨[.ref la, .ref lb], []⟩) (FinOf prog w A R) (fun e s' => R (.error e) s') s := by
  have f2 := AutoSeq1.sub_tuple_tuple
  have hZ : (xs.toList.zip ys.toList).length = xs.size := by simp [hsz]
  have h0 := h
  obtain ⟨hp, g, d, tk, os⟩ := s
  wp_walk using wpAny_loadPart' hla, wpAny_loadPart' hlb, wpAny_forIn_list _ (fun rest b s' => b.1 = none ∧ ∃ i, rest = (xs.toList.zip ys.toList).drop i ∧ i ≤ xs.size ∧ I i s') _
  case turn =>
    rintro ⟨y, x⟩ rest b s' ⟨hb', i, hz, hi, hI⟩
    have hlt : i < (xs.toList.zip ys.toList).length := by
      rcases Nat.lt_or_ge i (xs.toList.zip ys.toList).length with h' | h'
      · exact h'
      · rw [List.drop_of_length_le h'] at hz
        cases hz
    have h1 : i < xs.size := hZ ▸ hlt
    have h2 : i < ys.size := hsz ▸ h1
    rw [List.drop_eq_getElem_cons hlt] at hz
    injection hz with hyx hrest
    have hy : y = xs[i] := by
      have q := congrArg Prod.fst hyx
      simpa using q
    have hx : x = ys[i] := by
      have q := congrArg Prod.snd hyx
      simpa using q
    subst hy hx
    refine wpAny_bind (wpAny_mono (turn i h1 h2 s' hI) (fun r s2 q2 => ?_) fun _ _ x => x)
    rcases q2 with ⟨hr, q2⟩ | ⟨hr, q2⟩
    · subst hr
      wp_walk
      exact ⟨rfl, i + 1, hrest, h1, q2⟩
    · subst hr
      have hR : R (.ok (.ret (.bool true))) s2 := finF s2 q2
      wp_walk
      exact hR
  case fin =>
    rintro ⟨b1, b2⟩ s' ⟨hb', i, hz, hi, hI⟩
    simp only at hb'
    subst hb'
    have hge : xs.size ≤ i := by
      rcases Nat.lt_or_ge i (xs.toList.zip ys.toList).length with h' | h'
      · rw [List.drop_eq_getElem_cons h'] at hz
        cases hz
      · exact hZ ▸ h'
    have hi' : i = xs.size := by omega
    have hR : R (.ok (.ret (.bool false))) s' := finT s' (hi' ▸ hI)
    wp_walk
    simpa [Builtin.Tuple.tupleCompareSizes, bne, hsz] using hR
  case h =>
    exact ⟨rfl, 0, rfl, Nat.zero_le _, h0⟩
end
end GQ
namespace GQ
open PySem PySem.SeqAt
section
variable {prog : Program} {w : World} {A : Around} {E : Value → Shared → Prop} {s : Shared}
theorem rc_tupB {la lb : Addr} {xs ys : Array Value} {Q : Value → Shared → Prop} (hsz : xs.size = ys.size) (hu : A.units < cLine) (I : Nat → Shared → Prop) (J : Shared → Prop) (hla : s.heap.IsTuple la xs) (hlb : s.heap.IsTuple lb ys)
    (turn : ∀ i (h1 : i < xs.size) (h2 : i < ys.size) s, I i s → wpAny (model prog w) A.in1 (eqBool xs[i] ys[i]) (fun r s' => (r = true ∧ I (i + 1) s') ∨ (r = false ∧ J s')) E s)
    (finT : ∀ s, I xs.size s → Q (.bool true) s) (finF : ∀ s, J s → Q (.bool false) s) (h : I 0 s) : wpAny (model prog w) A (richCompare .Eq (.ref la) (.ref lb)) Q E s := by
  obtain ⟨⟨cls, dd, data, sl⟩, ho, hc, n, hd⟩ := id hla
  obtain ⟨⟨cls2, dd2, data2, sl2⟩, ho2, hc2, n2, hd2⟩ := id hlb
  simp only at hc hd hc2 hd2
  subst hc hd hc2 hd2
  refine wpAny_richCompare_same_room (op := .Eq) ⟨_, ho, rfl⟩ ⟨_, ho2, rfl⟩ F.slot_tuple_eq (call_here F.slot_tuple_eq ⟨_, ho, rfl⟩ F.entry_tuple_eq (F.args_tuple_eq_2 _ _) ?_) hu
  exact tup_eqB (R := wants (fun v s' => v ≠ .notImplemented ∧ Q v s') E) la lb xs ys n n2 dd dd2 sl sl2 hsz I J turn (fun s' q => ⟨(fun x => nomatch x), finT s' q⟩) (fun s' q => ⟨(fun x => nomatch x), finF s' q⟩) ho ho2 h
theorem rc_tupNB {la lb : Addr} {xs ys : Array Value} {Q : Value → Shared → Prop} (hsz : xs.size = ys.size) (hu : A.units < cLine) (I : Nat → Shared → Prop) (J : Shared → Prop) (hla : s.heap.IsTuple la xs) (hlb : s.heap.IsTuple lb ys)
    (turn : ∀ i (h1 : i < xs.size) (h2 : i < ys.size) s, I i s → wpAny (model prog w) A.in1 (eqBool xs[i] ys[i]) (fun r s' => (r = true ∧ I (i + 1) s') ∨ (r = false ∧ J s')) E s)
    (finT : ∀ s, I xs.size s → Q (.bool false) s) (finF : ∀ s, J s → Q (.bool true) s) (h : I 0 s) : wpAny (model prog w) A (richCompare .NotEq (.ref la) (.ref lb)) Q E s := by
  obtain ⟨⟨cls, dd, data, sl⟩, ho, hc, n, hd⟩ := id hla
  obtain ⟨⟨cls2, dd2, data2, sl2⟩, ho2, hc2, n2, hd2⟩ := id hlb
  simp only at hc hd hc2 hd2
  subst hc hd hc2 hd2
  refine wpAny_richCompare_same_room (op := .NotEq) ⟨_, ho, rfl⟩ ⟨_, ho2, rfl⟩ F.slot_tuple_ne (call_here F.slot_tuple_ne ⟨_, ho, rfl⟩ F.entry_tuple_ne (F.args_tuple_ne_2 _ _) ?_) hu
  exact tup_neB (R := wants (fun v s' => v ≠ .notImplemented ∧ Q v s') E) la lb xs ys n n2 dd dd2 sl sl2 hsz I J turn (fun s' q => ⟨(fun x => nomatch x), finT s' q⟩) (fun s' q => ⟨(fun x => nomatch x), finF s' q⟩) ho ho2 h
end
end GQ
namespace L2
open PySem PySem.Spec PyProof.Rows
/-- how two values compare, by the abstract heap -/
abbrev EqvB := V → V → Hp → Bool → Prop
def MonB (D : EqvB) : Prop := ∀ x y H H' k, Ext H H' → D x y H k → D x y H' k
def EqB (X : Cx) (n : Nat) (D : EqvB) : Prop :=
  ∀ (A : Around) (pins : List (Addr × Obj)) (s : Shared) (σ : St) (H : Hp) (x y : V) (u v : Value) (k : Bool), Sub X n A → Inv X pins σ H s → RelV x u → RelV y v → D x y H k →
    wpAny (model X.prog X.w) A (eqBool u v) (fun r s' => r = k ∧ ∃ H', Inv X pins σ H' s' ∧ Ext H H') X.xe s
def RcB (X : Cx) (n : Nat) (D : EqvB) : Prop :=
  ∀ (A : Around) (pins : List (Addr × Obj)) (s : Shared) (σ : St) (H : Hp) (x y : V) (u v : Value) (k : Bool), Sub X n A → Inv X pins σ H s → RelV x u → RelV y v → D x y H k →
    wpAny (model X.prog X.w) A (richCompare .Eq u v) (fun r s' => r = .bool k ∧ ∃ H', Inv X pins σ H' s' ∧ Ext H H') X.xe s
section
variable {X : Cx} {n : Nat} {D : EqvB}
/-- instances of the class at C -/
def DInsB (C : Addr) (R : Addr → Addr → Hp → Bool → Prop) : EqvB := fun x y H k => ∃ a b dx dy fs gs, x = .ref a ∧ y = .ref b ∧ H a = some (.ins C dx fs) ∧ H b = some (.ins C dy gs) ∧ R a b H k
def spEqB (R : Addr → Addr → Hp → Bool → Prop) : Sp := fun vs H Q _ => ∃ a b k, vs = [.ref a, .ref b] ∧ R a b H k ∧ ∀ H', Ext H H' → Q (.bl k) H'
theorem rcB_ins {CX : CXT} {C f : Addr} {fd : FuncData} {ps : List Str} {R : Addr → Addr → Hp → Bool → Prop} {E : XK} (F : FnOk X.prog X.w X.K X.mg X.base CX n f fd ps (spEqB R))
    (hs : PySem.W.findIn X.K (.ref C) "__eq__" = some (some (.ref f))) (hf : PySem.W.isFn X.K (.ref f) = true) (hb : Binds X.K fd ps []) (hx : Passes CX X E) : RcB X n (DInsB C R) := by
  intro A pins s σ H x y u v k sb I rx ry d
  obtain ⟨a, b, dx, dy, fs, gs, rfl, rfl, ha, hb', hr⟩ := d
  cases rx
  cases ry
  obtain ⟨mA, J, _⟩ := ins_get I.hok ha
  obtain ⟨mB, J', _⟩ := ins_get I.hok hb'
  obtain ⟨od, J, _⟩ := J.look
  obtain ⟨od', J', _⟩ := J'.look
  obtain ⟨m, hF⟩ := I.fr
  refine PySem.W.cmp_K (op := .Eq) (tb := .ref C) sb.room.units0 hF I.ok.mod.kin J J'.type (by simp [PySem.W.notFirst]) hs hf ?_
  have hsp : spEqB R [.ref a, .ref b] H (fun v H' => v = .bl k ∧ Ext H H') E := ⟨a, b, k, rfl, hr, fun H' e => ⟨rfl, e⟩⟩
  have e1 := I.env0
  have e0 : Env0 X.prog X.w X.K X.mg X.base A X.stack s H := ⟨by rw [sb.fr]; exact e1.frames, e1.mod, e1.bs, e1.bsz, e1.funs, e1.frf, e1.hok, e1.bare⟩
  have hl := F.len _ _ _ _ hsp
  have bd := hb s [.ref a, .ref b] I.kIn (by simpa using hl)
  have bd' : BindsTo s fd ⟨[.ref a, .ref b], []⟩ (ps.zip [.ref a, .ref b]) := by simpa using bd
  refine wpAny_call (codeAny_mono (F.run A X.stack s H ⟨[.ref a, .ref b], []⟩ [.ref a, .ref b] [.ref a, .ref b] _ E sb.room e0 bd' (.cons rfl (.cons rfl .nil)) hsp) fun r s' hq => ?_)
  match r, hq with
  | .error e, hq => exact hx pins σ H s e s' I hq
  | .ok (.ret z), hq =>
    obtain ⟨zv, H', I', rz, ez, ex⟩ := I.after hq
    subst ez
    cases rz
    exact ⟨rfl, H', I', ex⟩
  | .ok .next, hq => exact hq.elim
  | .ok .brk, hq => exact hq.elim
  | .ok .cont, hq => exact hq.elim
/-- within a tuple: the same object is equal to itself -/
theorem RcB.eqB (h : RcB X n D) (hr : ∀ x y H k, D x y H k → ∃ a b, x = .ref a ∧ y = .ref b ∧ (a = b → k = true)) : EqB X n D := by
  intro A pins s σ H x y u v k sb I rx ry d
  obtain ⟨a, b, rfl, rfl, hk⟩ := hr _ _ _ _ d
  cases rx
  cases ry
  by_cases hab : a = b
  · have hk' := hk hab
    subst hab hk'
    exact SeqAt.EqAt.same (A := A) (s := s) (.ref a) X.prog X.w X.xe _ ⟨rfl, H, I, Ext.rfl'⟩
  · refine GQ.eqBool_refG hab (wpAny_mono (h A pins s σ H (.ref a) (.ref b) _ _ k sb I rfl rfl d) (fun r s' q => ?_) fun _ _ x => x)
    obtain ⟨hr', q⟩ := q
    exact ⟨k, hr', rfl, q⟩
/-- tuples of one length, place by place; ks the answers -/
def DTupB (K : PySem.W.Frag) (D : EqvB) : EqvB := fun x y H k => ∃ (a b : Addr) (xs ys : List V) (ks : List Bool), x = .ref a ∧ y = .ref b ∧ SqT K H a xs ∧ SqT K H b ys ∧ xs.length = ys.length ∧ ks.length = xs.length ∧
  (∀ (i : Nat) x y c, xs[i]? = some x → ys[i]? = some y → ks[i]? = some c → D x y H c) ∧ k = ks.all id
theorem all_take {ks : List Bool} {i : Nat} (h : ∀ j, j < i → ks[j]? = some true) (hi : ks.length ≤ i) : ks.all id = true := by
  rw [List.all_eq_true]
  intro c hc
  obtain ⟨j, hj⟩ := List.mem_iff_getElem?.mp hc
  have hjl := (List.getElem?_eq_some_iff.mp hj).1
  have q := h j (Nat.lt_of_lt_of_le hjl hi)
  rw [hj] at q
  cases q
  rfl
theorem rcB_tup (hD : MonB D) (h : EqB X n D) : RcB X (n + 1) (DTupB X.K D) := by
  intro A pins s σ H x y u v k sb I rx ry d
  obtain ⟨a, b, xs, ys, ks, rfl, rfl, ha, hb, hlen, hks, hp, rfl⟩ := d
  cases rx
  cases ry
  obtain ⟨its, r, e, z⟩ := I.tuple ha
  obtain ⟨its2, r2, e2, z2⟩ := I.tuple hb
  have l1 := r.length
  have l2 := r2.length
  have hsz : its.toArray.size = its2.toArray.size := by rw [List.size_toArray, List.size_toArray, ← l1, ← l2]; exact hlen
  refine GQ.rc_tupB hsz sb.room.units0 (fun i s' => (∃ H', Inv X pins σ H' s' ∧ Ext H H') ∧ ∀ j, j < i → ks[j]? = some true) (fun s' => (∃ H', Inv X pins σ H' s' ∧ Ext H H') ∧ ks.all id = false) e e2 (fun i h1 h2 s' q => ?_) (fun s' q => ?_) (fun s' q => ?_) ⟨⟨H, I, Ext.rfl'⟩, fun j hj => absurd hj (Nat.not_lt_zero _)⟩
  · obtain ⟨⟨H1, I1, e1⟩, hk⟩ := q
    have h1' : i < its.length := by simpa using h1
    have h2' : i < its2.length := by simpa using h2
    have g1 : its[i]? = some its.toArray[i] := by rw [List.getElem?_eq_getElem h1'] <;> simp
    have g2 : its2[i]? = some its2.toArray[i] := by rw [List.getElem?_eq_getElem h2'] <;> simp
    have k1 : i < xs.length := by omega
    have k2 : i < ys.length := by omega
    have k3 : i < ks.length := by omega
    obtain ⟨uu, hu, ru⟩ := r.get (List.getElem?_eq_getElem k1)
    obtain ⟨vv, hv, rv⟩ := r2.get (List.getElem?_eq_getElem k2)
    rw [g1] at hu
    rw [g2] at hv
    rw [Option.some.inj hu, Option.some.inj hv]
    refine wpAny_mono (h A.in1 pins s' σ H1 _ _ uu vv ks[i] sb.in1 I1 ru rv (hD _ _ _ _ _ e1 (hp i _ _ _ (List.getElem?_eq_getElem k1) (List.getElem?_eq_getElem k2) (List.getElem?_eq_getElem k3)))) (fun rr s2 q2 => ?_) fun _ _ x => x
    obtain ⟨hr, H2, I2, e2'⟩ := q2
    have hki : ks[i]? = some rr := by rw [hr]; exact List.getElem?_eq_getElem k3
    cases rr with
    | true =>
      refine .inl ⟨rfl, ⟨H2, I2, e1.trans e2'⟩, fun j hj => ?_⟩
      rcases Nat.lt_succ_iff_lt_or_eq.mp hj with hj | rfl
      · exact hk j hj
      · exact hki
    | false =>
      refine .inr ⟨rfl, ⟨H2, I2, e1.trans e2'⟩, ?_⟩
      rw [List.all_eq_false]
      exact ⟨false, List.mem_of_getElem? hki, by decide⟩
  · obtain ⟨q1, hk⟩ := q
    exact ⟨by rw [all_take hk (by simp; omega)], q1⟩
  · obtain ⟨q1, hk⟩ := q
    exact ⟨by rw [hk], q1⟩
/-- the same for !=, told by what == would say -/
def RcNB (X : Cx) (n : Nat) (D : EqvB) : Prop :=
  ∀ (A : Around) (pins : List (Addr × Obj)) (s : Shared) (σ : St) (H : Hp) (x y : V) (u v : Value) (k : Bool), Sub X n A → Inv X pins σ H s → RelV x u → RelV y v → D x y H k →
    wpAny (model X.prog X.w) A (richCompare .NotEq u v) (fun r s' => r = .bool (!k) ∧ ∃ H', Inv X pins σ H' s' ∧ Ext H H') X.xe s
theorem rcNB_tup (hD : MonB D) (h : EqB X n D) : RcNB X (n + 1) (DTupB X.K D) := by
  intro A pins s σ H x y u v k sb I rx ry d
  obtain ⟨a, b, xs, ys, ks, rfl, rfl, ha, hb, hlen, hks, hp, rfl⟩ := d
  cases rx
  cases ry
  obtain ⟨its, r, e, z⟩ := I.tuple ha
  obtain ⟨its2, r2, e2, z2⟩ := I.tuple hb
  have l1 := r.length
  have l2 := r2.length
  have hsz : its.toArray.size = its2.toArray.size := by rw [List.size_toArray, List.size_toArray, ← l1, ← l2]; exact hlen
  refine GQ.rc_tupNB hsz sb.room.units0 (fun i s' => (∃ H', Inv X pins σ H' s' ∧ Ext H H') ∧ ∀ j, j < i → ks[j]? = some true) (fun s' => (∃ H', Inv X pins σ H' s' ∧ Ext H H') ∧ ks.all id = false) e e2 (fun i h1 h2 s' q => ?_) (fun s' q => ?_) (fun s' q => ?_) ⟨⟨H, I, Ext.rfl'⟩, fun j hj => absurd hj (Nat.not_lt_zero _)⟩
  · obtain ⟨⟨H1, I1, e1⟩, hk⟩ := q
    have h1' : i < its.length := by simpa using h1
    have h2' : i < its2.length := by simpa using h2
    have g1 : its[i]? = some its.toArray[i] := by rw [List.getElem?_eq_getElem h1'] <;> simp
    have g2 : its2[i]? = some its2.toArray[i] := by rw [List.getElem?_eq_getElem h2'] <;> simp
    have k1 : i < xs.length := by omega
    have k2 : i < ys.length := by omega
    have k3 : i < ks.length := by omega
    obtain ⟨uu, hu, ru⟩ := r.get (List.getElem?_eq_getElem k1)
    obtain ⟨vv, hv, rv⟩ := r2.get (List.getElem?_eq_getElem k2)
    rw [g1] at hu
    rw [g2] at hv
    rw [Option.some.inj hu, Option.some.inj hv]
    refine wpAny_mono (h A.in1 pins s' σ H1 _ _ uu vv ks[i] sb.in1 I1 ru rv (hD _ _ _ _ _ e1 (hp i _ _ _ (List.getElem?_eq_getElem k1) (List.getElem?_eq_getElem k2) (List.getElem?_eq_getElem k3)))) (fun rr s2 q2 => ?_) fun _ _ x => x
    obtain ⟨hr, H2, I2, e2'⟩ := q2
    have hki : ks[i]? = some rr := by rw [hr]; exact List.getElem?_eq_getElem k3
    cases rr with
    | true =>
      refine .inl ⟨rfl, ⟨H2, I2, e1.trans e2'⟩, fun j hj => ?_⟩
      rcases Nat.lt_succ_iff_lt_or_eq.mp hj with hj | rfl
      · exact hk j hj
      · exact hki
    | false =>
      refine .inr ⟨rfl, ⟨H2, I2, e1.trans e2'⟩, ?_⟩
      rw [List.all_eq_false]
      exact ⟨false, List.mem_of_getElem? hki, by decide⟩
  · obtain ⟨q1, hk⟩ := q
    exact ⟨by rw [all_take hk (by simp; omega)]; rfl, q1⟩
  · obtain ⟨q1, hk⟩ := q
    exact ⟨by rw [hk]; rfl, q1⟩
/-- x == y, x != y as expressions -/
def rEqB (D : EqvB) : R2 := fun x y H Q => ∃ k, D x y H k ∧ ∀ H', Ext H H' → Q (.bl k) H'
def rNeB (D : EqvB) : R2 := fun x y H Q => ∃ k, D x y H k ∧ ∀ H', Ext H H' → Q (.bl (!k)) H'
theorem op_eqB (h : RcB X n D) (hr : Room n X.A) : OpR X (compareOp .Eq) (rEqB D) := by
  intro pins s σ H x y v u Q I rx ry hq
  obtain ⟨k, d, q⟩ := hq
  show wpAny (model X.prog X.w) X.A (richCompare .Eq v u) (EP X pins σ Q) X.xe s
  refine wpAny_mono (h X.A pins s σ H x y v u k ⟨hr, rfl⟩ I rx ry d) (fun r s' z => ?_) fun _ _ x => x
  obtain ⟨hr', H', I', e⟩ := z
  subst hr'
  exact ⟨.bl k, H', I', rfl, q H' e⟩
theorem op_neB (h : RcNB X n D) (hr : Room n X.A) : OpR X (compareOp .NotEq) (rNeB D) := by
  intro pins s σ H x y v u Q I rx ry hq
  obtain ⟨k, d, q⟩ := hq
  show wpAny (model X.prog X.w) X.A (richCompare .NotEq v u) (EP X pins σ Q) X.xe s
  refine wpAny_mono (h X.A pins s σ H x y v u k ⟨hr, rfl⟩ I rx ry d) (fun r s' z => ?_) fun _ _ x => x
  obtain ⟨hr', H', I', e⟩ := z
  subst hr'
  exact ⟨.bl (!k), H', I', rfl, q H' e⟩
end
end L2

set_option Elab.async false
set_option linter.all false
set_option maxRecDepth 100000
set_option maxHeartbeats 4000000
/-! except A as e: .. except B as e: ..; classes made with keyword-only parameters -/
namespace L2
open PySem PySem.Spec PyProof.Rows
abbrev SuT := Addr → Value → Option Addr → TS
/-- behind a suite the i-th slot is empty -/
def dropAt (i : Nat) (D : Ends) : Ends := { nx := fun g J => D.nx (g.set i none) J, rt := D.rt, bk := fun g J => D.bk (g.set i none) J, ct := fun g J => D.ct (g.set i none) J }
def wManyA (K : PySem.W.Frag) (Wo : WX) (D : Ends) : List (Value × Nat × SuT) → WX
  | [] => Wo
  | (c, i, ts) :: r => fun cl d g J => ∃ y, PySem.W.exmOne K cl c = some y ∧ (y = true → ∀ q, J q = none → ts q cl d (dropAt i D) (g.set i (some (.ref q))) J) ∧ (y = false → wManyA K Wo D r cl d g J)
inductive HdsA (X : Cx) : List ExceptHandler → List (Value × Nat × SuT) → Prop
  | nil : HdsA X [] []
  | cons {x n : Str} {c : Value} {i : Nat} {ts : SuT} {b0 : Stmt} {su : List Stmt} {np pp : Pos} {hds : List ExceptHandler} {l : List (Value × Nat × SuT)} (hi : X.N[i]? = some n) (hl : X.env.kindOf n = some .local) (hc : Names X x c)
      (hsu : ∀ (q : Addr) (oq : Obj) (cl : Value) (d : Option Addr) (pn : List (Addr × Obj)), Zc cl d oq → (∃ us, oq.data = .fields us) → PSs (X.suite q ((q, oq) :: pn)) (b0 :: su) (ts q cl d)) (r : HdsA X hds l) :
      HdsA X (.ExceptHandler (some (.Name x np)) (some n) (b0 :: su) pp :: hds) ((c, i, ts) :: l)
section
variable {X : Cx} {bd : List Stmt} {hd0 : ExceptHandler} {hds : List ExceptHandler} {l : List (Value × Nat × SuT)} {pos : Pos} {tb : WX → TS} {Wo : WX}
theorem ps_try_manyA (hs : X.stack = X.env :: X.outer) (hf : X.env.frame = some X.env.locals) (hN : X.N.Nodup) (tk : Takes X Wo)
    (hb : ∀ (W : WX) (pn : List (Addr × Obj)) (xe : Value → Shared → Prop), Takes (X.tr pn xe) W → PassesOwn (model X.prog X.w) X.A X.env xe → PSs (X.tr pn xe) bd (tb W))
    (hh : HdsA X (hd0 :: hds) l) : PS X (.Try bd (hd0 :: hds) [] [] pos) (fun D g J => tb (wManyA X.K Wo D l) D g J) := by
  refine ⟨fun pins s0 g0 J0 D I0 h => ?_⟩
  have kk := I0.ok
  have hfr : X.A.frames = some (X.env :: X.outer) := by rw [kk.frames, hs]
  refine wpAny_Try_except (wpAny_mono ((hb (wManyA X.K Wo D l) (X.pn ++ pins) (fun u t1 => wpAny (model X.prog X.w) X.A (noteFrame u X.env) (fun _ t2 => wpAny (model X.prog X.w) X.A (setFlight u none) (fun _ t3 =>
    wpAny (model X.prog X.w) X.A (handleBy u X.env (hd0 :: hds)) (SP X pins D) X.xe t3) X.xe t2) X.xe t1) (fun u t1 xx => ?_) PassesOwn.looking).run [] s0 g0 J0 D (I0.toTry _) h) (fun fl t1 hsp => ?_) (fun _ _ z => z))
  · obtain ⟨q, B, sI, pns, g1, J1, cl, d, rfl, K1, nb, up, sky, na, os, ag, wx⟩ := xx
    have V : Inv X pins g1 J1 sI := K1.ofTry kk
    have sky2 : Sky B (X.env :: X.outer) q (Zc cl d) X.env.locals t1.heap := by rw [← hs]; exact sky
    show wpAny (model X.prog X.w) X.A (noteFrame (.ref q) X.env) _ _ _
    refine Sky.land Zc.steady hfr hf sky2 fun h3 f3 u3 => ?_
    have V3 : Inv X pins g1 J1 { t1 with heap := h3 } := V.landed nb f3.1 (up.trans u3) os ag
    obtain ⟨o3, v3, e3, z3, d3⟩ := f3.there
    have apart : ∀ {hh : Heap} {o : Obj} {us : Array Value}, hh.FunFrames B (X.env :: X.outer) → hh.get? q = some o → o.data = .fields us → q ∉ frs (X.env :: X.outer) := fun {hh o us} ff e dd hm => by
      obtain ⟨_, o', e', hnf⟩ := ff.mem hm
      rw [e] at e'
      cases e'
      exact hnf _ dd
    have np := apart f3.2.2.1 e3 d3
    have nL : q ≠ X.env.locals := fun z => np (List.mem_filterMap.mpr ⟨X.env, List.mem_cons_self, by rw [hf, z]⟩)
    have nF : q ∉ X.fs := fun hm => by
      obtain ⟨e, he, r⟩ := List.mem_filterMap.mp hm
      exact np (List.mem_filterMap.mpr ⟨e, List.mem_cons_of_mem _ he, r⟩)
    have S3 := V3.suite e3 d3 na nL nF
    have go : ∀ {hz : List ExceptHandler} {lz : List (Value × Nat × SuT)}, HdsA X hz lz → wManyA X.K Wo D lz cl d g1 J1 → wpAny (model X.prog X.w) X.A (handleBy (.ref q) X.env hz) (SP X pins D) X.xe { t1 with heap := h3 } := by
      intro hz lz hk
      induction hk with
      | nil =>
        intro wz
        refine wpAny_handleBy_nil ?_
        obtain ⟨_, _, _, oq, us, TB, oT, ts2, he, hq, hdd, h1, hr⟩ := id f3
        unfold PySem.passOn
        refine wpAny_bind (wpAny_field he hdd h1 ?_)
        rw [if_neg (show ¬ ((Value.ref TB == Value.none) = true) by simp)]
        have fin : wpAny (model X.prog X.w) X.A (setFlight (.ref q) X.env.frame) (fun _ t4 => wpAny (model X.prog X.w) X.A (throw (.ref q) : Sem Flow) (SP X pins D) X.xe t4) X.xe { t1 with heap := h3 } := by
          rw [hf]
          refine HandSPX.setFlight_upZ f3 fun h4 hh4 up4 => wpAny_throw (tk _ _ ?_)
          exact ⟨q, B, sI, pins, g1, J1, cl, d, rfl, V, nb, (up.trans u3).trans up4, .inr (.inr (by rw [hs]; exact hh4)), na, os, ag, wz⟩
        first | exact wpAny_bind (wpAny_pure (wpAny_bind fin)) | exact wpAny_bind fin
      | @cons x n c i ts b0 su np pp hds2 l2 hi hl hc hsu r ih =>
        intro wz
        obtain ⟨y, hy, yes, no⟩ := wz
        refine wpAny_handleBy_cons (codeAny_handlers_test ?_) (by intro z; cases z)
        have LT : PySem.W.Looks (model X.prog X.w) h3 (typeOf (.ref q)) cl := fun A Q E s k r => wpAny_typeOf_ref (k _ _ e3) (by rw [z3.1]; exact r)
        have LM := PySem.W.exm_one (M := model X.prog X.w) (V3.kIn) LT hy
        have tst : ∀ {Q E : Value → Shared → Prop}, Q c { t1 with heap := h3 } → wpAny (model X.prog X.w) (X.A.mark (some (.ref q))) (eval (.Name x np) X.env) Q E { t1 with heap := h3 } := fun {Q E} z => by
          obtain ⟨hg, hdbg, hm | ⟨hm, hv, hnn⟩⟩ := hc
          · exact ld_glob (X := X.suite q ((q, o3) :: (X.pn ++ pins))) S3 hg hm z hdbg
          · exact ld_blt (X := X.suite q ((q, o3) :: (X.pn ++ pins))) S3 hg hm hv z hnn hdbg
        refine tst (LM.here ?_)
        cases y with
        | true =>
          refine codeAny_handlers_suite_as (HandSPX.lands_againZ f3 fun h4 f4 u4 => ?_)
          have V4 : Inv X pins g1 J1 { t1 with heap := h4 } := V.landed nb f4.1 ((up.trans u3).trans u4) os ag
          obtain ⟨o4, v4, e4, z4, d4⟩ := f4.there
          have S4 := V4.suite e4 d4 na nL nF
          have hloc : Loc X.env.scope n := .inl hl
          refine store_ok (X := X.suite q ((q, o4) :: (X.pn ++ pins))) (v := .ref q) S4 hN hi hloc rfl (fun t5 S5 => ?_) (.inr hl)
          refine wpAny_mono ((hsu q o4 cl d (X.pn ++ pins) z4 ⟨_, d4⟩).run [] t5 _ J1 _ S5 (yes rfl q na)) (fun fl t6 sp => ?_) (fun _ _ z => False.elim z)
          have ends : ∀ {g6 : St} {J6 : Hp} {Q : Shared → Prop}, Inv (X.suite q ((q, o4) :: (X.pn ++ pins))) [] g6 J6 t6 → (∀ t7, Inv X pins (g6.set i none) J6 t7 → Q t7) →
              wpAny (model X.prog X.w) X.A (do bindName X.env n .none; unbindBehindTheSuite X.env n pp) (fun _ t7 => Q t7) X.xe t6 := fun {g6 J6 Q} S6 hq => gone_ok (S6.unsuite kk) hN hi hl hq
          cases fl with
          | next =>
            obtain ⟨g6, J6, S6, r6⟩ := sp
            exact ends S6 fun t7 V7 => ⟨_, _, V7, r6⟩
          | brk =>
            obtain ⟨g6, J6, S6, r6⟩ := sp
            exact ends S6 fun t7 V7 => ⟨_, _, V7, r6⟩
          | cont =>
            obtain ⟨g6, J6, S6, r6⟩ := sp
            exact ends S6 fun t7 V7 => ⟨_, _, V7, r6⟩
          | ret u =>
            obtain ⟨w6, g6, J6, S6, r6, y6⟩ := sp
            exact ends S6 fun t7 V7 => ⟨_, _, _, V7, r6, y6⟩
        | false =>
          show wpAny _ X.A (handleBy (.ref q) X.env hds2) _ _ _
          exact ih (no rfl)
    exact go hh wx
  · cases fl with
    | next =>
      obtain ⟨g6, J6, V6, r⟩ := hsp
      exact wpAny_execs_nil ⟨g6, J6, V6.ofTry kk, r⟩
    | brk =>
      obtain ⟨g6, J6, V6, r⟩ := hsp
      exact ⟨g6, J6, V6.ofTry kk, r⟩
    | cont =>
      obtain ⟨g6, J6, V6, r⟩ := hsp
      exact ⟨g6, J6, V6.ofTry kk, r⟩
    | ret u =>
      obtain ⟨v6, g6, J6, V6, rv, r⟩ := hsp
      exact ⟨v6, g6, J6, V6.ofTry kk, rv, r⟩
end
/-! ### C(e, .., k = v, ..), keyword-only parameters without defaults, all written in their order -/
section
variable {K : PySem.W.Frag} {x qual : Str} {st : Stmt} {f : Addr} {fd : FuncData} {ps ks : List Str} {n : Nat}
abbrev KBa (K : PySem.W.Frag) (fd : FuncData) (ps : List Str) (n : Nat) (ks : List Str) : Prop := KBn K fd ps n ks (fun us ws => us ++ ws) (fun vs zs => vs ++ zs)
theorem Fun.kba (F : Fun K x qual st f fd)
    (h : ∀ (kV doc pm : Value) (an : Option Addr) (cdv ct : Value) (us ws : List Value), us.length = n → ws.length = ks.length → bindArgs (PySem.W.fnOf x qual (defArgs st) (defBody st) (defScope st) .none kV doc pm an cdv ct) ⟨us, ks.zip ws⟩ = pure (ps.zip (us ++ ws))) : KBa K fd ps n ks := by
  obtain ⟨_, _, kV, doc, pm, an, cdv, ct, _, rfl, _, _⟩ := F.ex
  exact ⟨fun s us ws _ l1 l2 => .of_eq (h kV doc pm an cdv ct us ws l1 l2), fun r1 r2 => r1.append r2⟩
end
structure OwnCK (P : Program) (w : World) (K : PySem.W.Frag) (mg : Str → Option Value) (base : Heap) (CX : CXT) (x : Str) (C : Addr) (k : Nat) (ps : List Str) (n : Nat) (ks : List Str) (sp : Sp) : Prop where
  ex : ∃ (f : Addr) (fd : FuncData), FnOk P w K mg base CX k f fd ps sp ∧ Mk K C f ∧ mg x = some (.ref C) ∧ KBa K fd ps (n + 1) ks
section
variable {X : Cx} {CX : CXT} {k n : Nat} {f C : Addr} {fd : FuncData} {ps ks : List Str} {sp : Sp} {E : St → XK} {x : Str} {p pos : Pos} {e : Expr} {es : List Expr} {kws : List Keyword} {t tk : TA} {W : WX}
/-- the errors wished at the slots -/
def tMakeKS (C : Addr) (n m : Nat) (sp : Sp) (E : St → XK) (t tk : TA) : TE := fun g J Q => t g J fun vs J1 => tk g J1 fun zs J2 => vs.length = n ∧ zs.length = m ∧ ∀ o dx, J2 o = none → J2 dx = none → dx ≠ o →
  sp (.ref o :: vs ++ zs) (upd (upd J2 dx (.own o)) o (.ins C dx [])) (fun v J3 => v = .non ∧ Q (.ref o) J3) (fun cl d J3 => E g cl d J3)
theorem run_makeKS {pins : List (Addr × Obj)} {g : St} {J : Hp} {s : Shared} {Q : VK} {us ws : List Value} {vs zs : List V} (M : Mk X.K C f) (F : FnOk X.prog X.w X.K X.mg X.base CX k f fd ps sp) (hr : Room (k + 1) X.A) (hb : KBa X.K fd ps (n + 1) ks) (hx : PassesAt CX X g (E g))
    (I : Inv X pins g J s) (r : Vals vs us) (rz : Vals zs ws) (l1 : vs.length = n) (l2 : zs.length = ks.length)
    (h : ∀ o dx, J o = none → J dx = none → dx ≠ o → sp (.ref o :: vs ++ zs) (upd (upd J dx (.own o)) o (.ins C dx [])) (fun v J2 => v = .non ∧ Q (.ref o) J2) (E g)) :
    wpAny (model X.prog X.w) X.A (call (.ref C) us (ks.zip ws)) (EP X pins g Q) X.xe s := by
  have want := h (s.heap.objs.size + 1) s.heap.objs.size (I.hok.fresh (Nat.le_succ _)) (I.hok.fresh (Nat.le_refl _)) (Nat.ne_of_lt (Nat.lt_succ_self _))
  have I2 := Inv.made (C := C) I
  have m1 : Vals (V.ref (s.heap.objs.size + 1) :: vs) (Value.ref (s.heap.objs.size + 1) :: us) := .cons rfl r
  have m2 := hb.rel m1 rz
  have k1 : (Value.ref (s.heap.objs.size + 1) :: us).length = n + 1 := by rw [List.length_cons, ← r.length, l1]
  refine wpAny_call (make_map (f := f) I.kIn M.makes M.init (beq_iff_eq.mp M.fn) (codeAny_mono (F.run _ X.stack _ _ ⟨Value.ref (s.heap.objs.size + 1) :: us, ks.zip ws⟩ (Value.ref (s.heap.objs.size + 1) :: us ++ ws) _ _ (E g) (hr.make C us (ks.zip ws))
    (I2.env0.make C us (ks.zip ws)) (hb.to _ (Value.ref (s.heap.objs.size + 1) :: us) ws I2.kIn k1 (rz.length.symm.trans l2)) m2 want) fun z t1 hz => ?_))
  cases z with
  | error u => exact hx pins _ _ u t1 I2 hz
  | ok fl =>
    cases fl with
    | ret u =>
      obtain ⟨v, J3, I3, rv, ev, q3⟩ := I2.after hz
      subst ev
      exact ⟨rv, ⟨V.ref (s.heap.objs.size + 1), J3, I3, rfl, q3⟩⟩
    | next => exact False.elim hz
    | brk => exact False.elim hz
    | cont => exact False.elim hz
theorem pe_newKS (O : OwnCK X.prog X.w X.K X.mg X.base (L2.CX X.prog X.w) x C k ps n ks sp) (hr : Room (k + 1) X.A) (tw : Takes X W) (ha : PA X (e :: es) t) (hkw : PK X kws tk) (hg : Gl X x := by rfl)
    (hall : (backToKw pos (keywordEach kws X.env)).all (·.1.isSome) = true := by rfl) (hks : (backToKw pos (keywordEach kws X.env)).filterMap (·.1) = ks := by rfl) (hdb : (x == ("__debug__" : Str)) = false := by decide)
    (he : starEach (e :: es) X.env = (false, eval e X.env) :: starEach es X.env := by rfl) (hpl : ((backTo pos (starEach (e :: es) X.env)).any (·.1) || (backToKw pos (keywordEach kws X.env)).any (·.1.isNone)) = false := by rfl) :
    PE X (.Call (.Name x p) (e :: es) kws pos) (tMakeKS C n ks.length sp (WE W) t tk) := by
  obtain ⟨f, fd, F, M, hm, hb⟩ := O.ex
  refine ⟨fun pins s g J Q I h => wpAny_Call_Name_kw (ld_glob I hg hm ?_ hdb)⟩
  refine PySem.W.callWith_KW (h₀ := X.base) I.ok.mod.kin M.kp hall (thn (ha.run pos pins s g J _ I h) fun us s1 ⟨vs, J1, I1, r, q⟩ => ?_) hpl he
  refine thn (hkw.run pos pins s1 g J1 _ I1 q) fun ws s2 ⟨zs, J2, I2, rz, l1, l2, q2⟩ => ⟨I2.kIn, ?_⟩
  rw [hks]
  exact run_makeKS M F hr hb (passAt tw g) I2 r rz l1 l2 q2
end
section
variable {X : Cx} {e : Expr} {f : Str} {pos : Pos} {ta : TE}
/-- e.f where the context is not known yet -/
theorem pe_fldA (he : PE X e ta) (hb : attributeBase e f X.env (eval e X.env) = eval e X.env := by rfl) : PE X (.Attribute e f pos) (tFld X.K ta f) := pe_fld he hb
end
end L2

set_option Elab.async false
set_option maxRecDepth 100000
set_option maxHeartbeats 4000000
/-! slices and sums of tuples, whichever object it is -/
namespace L2
open PySem PySem.Spec PyProof.Rows
section
variable {X : Cx}
theorem cut_whole {xs : List V} {lo hi : Option Int} (h : HT.sIx xs.length 0 lo = 0 ∧ HT.sIx xs.length xs.length hi = xs.length) : cutV xs lo hi = xs := by
  unfold cutV
  rw [h.1, h.2]
  simp
/-- a slice of a tuple, whichever object it is -/
def rSlE : V → Option Int → Option Int → Hp → VK → Prop := fun x lo hi H Q => ∃ a xs, x = .ref a ∧ H a = some (.tup xs) ∧ ∀ p H', Ext H H' → H' p = some (.tup (cutV xs lo hi)) → Q (.ref p) H'
theorem sl_tupE : SlR X rSlE := by
  intro pins s σ H x v vl vu lo hi sl Q I rx hs pl pu h
  obtain ⟨a, xs, rfl, ha, q⟩ := h
  exact sl_tupA pins s σ H _ v vl vu lo hi sl Q I rx hs pl pu ⟨a, xs, rfl, SqT.of ha, fun hw => q a H Ext.rfl' (by rw [cut_whole hw]; exact ha), fun _ p hp => q p _ (Ext.upd hp) upd_same⟩
/-- the sum of two tuples, whichever object it is -/
def rCatE : R2 := fun x y H Q => ∃ a b xs ys, x = .ref a ∧ y = .ref b ∧ H a = some (.tup xs) ∧ H b = some (.tup ys) ∧ xs.length + ys.length ≤ sizeLine ∧ ∀ p H', Ext H H' → H' p = some (.tup (xs ++ ys)) → Q (.ref p) H'
theorem op_catE : OpR X (binaryOp .Add) rCatE := by
  intro pins s σ H x y v u Q I rx ry h
  obtain ⟨a, b, xs, ys, rfl, rfl, ha, hb, hz, q⟩ := h
  refine op_catA pins s σ H _ _ v u Q I rx ry ⟨a, b, xs, ys, rfl, rfl, SqT.of ha, SqT.of hb, hz, fun e => q b H Ext.rfl' ?_, fun _ e => q a H Ext.rfl' ?_, fun _ _ p hp => q p _ (Ext.upd hp) upd_same⟩
  · subst e
    exact hb
  · subst e
    rw [List.append_nil]
    exact ha
end
end L2

set_option Elab.async false
set_option linter.all false
set_option maxRecDepth 100000
set_option maxHeartbeats 4000000
/-! one of two readings; tuple.index of flat items; an own __contains__ -/
namespace PySem.W
open PySem PySem.Calls PyProof.Rows
section
variable {prog : Program} {w : World} {A : Around} {E : Value → Shared → Prop} {s : Shared} {K : Frag} {x C f : Addr} {ox : Obj} {od : Option Obj}
theorem contains_fn {v : Value} {Q : Bool → Shared → Prop} (X : K.In s.heap) (I : InstAt s.heap x ox C od) (hs : findIn K (.ref C) "__contains__" = some (some (.ref f))) (hf : isFn K (.ref f) = true)
    (h : wpAny (model prog w) A (call (.ref f) [.ref x, v]) (fun r s' => ∃ b, r = .bool b ∧ Q b s') E s) : wpAny (model prog w) A (contains (.ref x) v) Q E s := by
  unfold contains
  refine wpAny_holding ?_
  have e1 : stdlibNamesSay? (.ref x) v = none := rfl
  rw [e1]
  refine wpAny_bind (wpAny_bind (I.type.here ((looks_findIn X hs).here ?_)))
  show wpAny _ _ (if (some (Value.ref f) == some Value.none) = true then _ else _) _ _ _
  rw [if_neg (by simp)]
  refine wpAny_bind (m := callSpecialUnlessNone? (.ref x) _ _ _) ?_
  unfold callSpecialUnlessNone?
  refine wpAny_bind (wpAny_bind (I.type.here ((looks_findIn X hs).here ?_)))
  refine wpAny_holding (wpAny_bind ((bind_fn X _ (beq_iff_eq.mp hf)).here ?_))
  show wpAny _ _ (if (Value.ref f == Value.none) = true then _ else _) _ _ _
  rw [if_neg (by simp)]
  refine wpAny_bind (wpAny_mono h (fun r s' z => ?_) fun _ _ z => z)
  obtain ⟨b, rfl, q⟩ := z
  exact wpAny_pure (wpAny_truthy_bool q)
end
end PySem.W
namespace L2
open PySem PySem.Spec PyProof.Rows
section
variable {X : Cx}
theorem pe_either {ex : Expr} {t1 t2 : TE} (h1 : PE X ex t1) (h2 : PE X ex t2) : PE X ex (fun g J Q => t1 g J Q ∨ t2 g J Q) := ⟨fun pins s g J Q I h => h.elim (fun z => h1.run pins s g J Q I z) (fun z => h2.run pins s g J Q I z)⟩
def rIndexT (K : PySem.W.Frag) : V → List V → Hp → VK → Prop := fun o vs J Q => ∃ (p : Addr) (ts : List V) (e : V) (n : Nat) (c : V), o = V.ref p ∧ vs = [e] ∧ SqT K J p ts ∧ flatV e = true ∧ ts.all flatV = true ∧ ts[n]? = some c ∧ eqV c e = true ∧
  (∀ (m : Nat) (c' : V), m < n → ts[m]? = some c' → eqV c' e = false) ∧ Q (.int (n : Nat)) J
theorem mt_tupIndex : MtR X "tuple.index" (rIndexT X.K) := by
  intro pins s g J o vs v us Q I ro rvs h
  obtain ⟨p, ts, e, n, c, rfl, rfl, ht, fe, fts, hc, hce, no, q⟩ := h
  cases ro
  cases rvs with
  | cons re rt =>
    rename_i ue ut
    cases rt
    obtain ⟨its, rv, ⟨⟨cls, dd, dt, sl⟩, ho, hcl, nn, hd⟩, hz⟩ := I.tuple ht
    simp only at hcl hd
    subst hcl hd
    obtain ⟨u, hu, ru⟩ := rv.get hc
    obtain ⟨nl, ne⟩ := List.getElem?_eq_some_iff.mp hu
    have hvl := rv.length
    have hn : n < its.toArray.size := by simpa using nl
    refine call_meets PySem.F.slot_tuple_index ⟨_, ho, rfl⟩ PySem.F.entry_tuple_index (PySem.F.args_tuple_index_2 _ _) (TI.tuple_indexAt p its.toArray nn dd sl ue (eqU e) n hn ?_ ?_)
      ⟨ho, fun w hw => mem_eqAt re fe rv fts w (by simpa using hw), ?_⟩
    · have e1 : its.toArray[n] = u := by simpa using ne
      rw [e1, eqU_of ru (flat_at fts hc)]
      exact hce
    · intro m hm hmn
      have ml : m < its.length := by simpa using hm
      have mt : m < ts.length := by omega
      have gm : ts[m]? = some ts[m] := List.getElem?_eq_getElem mt
      obtain ⟨u2, hu2, ru2⟩ := rv.get gm
      obtain ⟨_, me⟩ := List.getElem?_eq_some_iff.mp hu2
      have e2 : its.toArray[m] = u2 := by simpa using me
      rw [e2, eqU_of ru2 (flat_at fts gm)]
      exact no m _ hmn gm
    · exact ⟨.int (n : Nat), J, I.tok _, ⟨_, rfl⟩, q⟩
end
section
variable {X : Cx} {CX : CXT} {k : Nat} {f C : Addr} {fd : FuncData} {ps : List Str} {sp : Sp}
/-- x in o, o an instance of the class at C with an own __contains__ -/
def rInO (C : Addr) (sp : Sp) : R2 := fun x y H Q => ∃ a dx fs, y = .ref a ∧ H a = some (.ins C dx fs) ∧ sp [y, x] H (fun v H' => ∃ b, v = .bl b ∧ Q (.bl b) H') E0
theorem op_inO (F : FnOk X.prog X.w X.K X.mg X.base CX k f fd ps sp) (hs : PySem.W.findIn X.K (.ref C) "__contains__" = some (some (.ref f))) (hf : PySem.W.isFn X.K (.ref f) = true) (hr : Room k X.A) (hb : Binds X.K fd ps []) (hx : Passes CX X E0) : OpR X (compareOp .In) (rInO C sp) := by
  intro pins s g J x y v u Q I rx ry hq
  obtain ⟨a, dx, fs, rfl, ha, q⟩ := hq
  cases (show u = Value.ref a from ry)
  obtain ⟨mA, O, _⟩ := ins_get I.hok ha
  obtain ⟨od, O, _⟩ := O.look
  show wpAny (model X.prog X.w) X.A (contains (.ref a) v >>= fun b => pure (.bool b)) (EP X pins g Q) X.xe s
  refine wpAny_bind (PySem.W.contains_fn I.kIn O hs hf (wpAny_mono (run_at (vs := [.ref a, x]) F hr rfl hb hx I (.cons rfl (.cons rx .nil)) q) (fun r s' z => ?_) fun _ _ e => e))
  obtain ⟨w', J', I', rv, b, rfl, q'⟩ := z
  cases rv
  exact ⟨b, rfl, wpAny_pure ⟨.bl b, J', I', rfl, q'⟩⟩
theorem inO {m : Nat} (O : OwnM X.prog X.w X.K X.mg X.base CX C "__contains__" m ps sp) (hr : Room m X.A) (hx : Passes CX X E0) : OpR X (compareOp .In) (rInO C sp) := by
  obtain ⟨f, fd, F, M, hi, hb⟩ := O.ex
  exact op_inO F M.at_ hi hr hb hx
end
end L2

set_option Elab.async false
set_option maxRecDepth 100000
set_option maxHeartbeats 4000000
/-! ranges with a step made lists and tuples; zip of two tuples in a comprehension; a def that is held by a name -/
namespace L2
open PySem PySem.Spec PyProof.Rows
theorem pss_dead {X : Cx} {ss : List Stmt} : PSs X ss (fun _ _ _ => False) := ⟨fun _ _ _ _ _ _ h => h.elim⟩
/-- the def at f keeps its promise -/
structure OwnAt (P : Program) (w : World) (K : PySem.W.Frag) (mg : Str → Option Value) (base : Heap) (CX : CXT) (f : Addr) (k : Nat) (ps : List Str) (sp : Sp) : Prop where
  ex : ∃ fd, FnOk P w K mg base CX k f fd ps sp ∧ PySem.W.keepIn K (.ref f) = true ∧ Binds K fd ps []
theorem Own.at_ {P : Program} {w : World} {K : PySem.W.Frag} {mg : Str → Option Value} {base : Heap} {CX : CXT} {x : Str} {k : Nat} {ps : List Str} {sp : Sp} (O : Own P w K mg base CX x k ps sp) : ∃ f, mg x = some (.ref f) ∧ OwnAt P w K mg base CX f k ps sp := by
  obtain ⟨f, fd, F, hm, hk, hb⟩ := O.ex
  exact ⟨f, hm, fd, F, hk, hb⟩
section
variable {X : Cx} {CX : CXT} {x : Str} {k i : Nat} {f : Addr} {ps : List Str} {sp : Sp} {e : Expr} {es : List Expr} {t : TA} {p pos : Pos}
/-- the i-th slot holds f, which is called; W is wished for what it raises -/
def tCallVS (i : Nat) (f : Addr) (sp : Sp) (E : St → XK) (t : TA) : TE := fun σ H Q => σ[i]? = some (some (.ref f)) ∧ t σ H fun vs H1 => sp vs H1 Q (E σ)
theorem pe_ownVS {W : WX} (O : OwnAt X.prog X.w X.K X.mg X.base (L2.CX X.prog X.w) f k ps sp) (hr : Room k X.A) (tk : Takes X W) (hN : X.N[i]? = some x) (hv : Vis X.env.scope x) (ha : PA X (e :: es) t)
    (hdb : (x == ("__debug__" : Str)) = false := by decide) (hcd : (x == ("__classdict__" : Str)) = false := by decide)
    (he : starEach (e :: es) X.env = (false, eval e X.env) :: starEach es X.env := by rfl) (hpl : (backTo pos (starEach es X.env)).any (·.1) = false := by rfl) : PE X (.Call (.Name x p) (e :: es) [] pos) (tCallVS i f sp (WE W) t) := by
  obtain ⟨fd, F, hk, hb⟩ := O.ex
  refine ⟨fun pins s σ H Q I h => ?_⟩
  obtain ⟨hσ, h⟩ := h
  refine PyProof.Rows.Call_ (thn ((pe_var (pos := p) hN hv hdb hcd).run pins s σ H (fun y H1 => y = .ref f ∧ H1 = H) I ⟨_, hσ, rfl, rfl⟩) fun u s1 ⟨y, H1, I1, rx, ex, eh⟩ => ?_) rfl
  subst ex eh
  obtain rfl : u = Value.ref f := rx
  refine PySem.W.callWith_K (h₀ := X.base) I1.ok.mod.kin hk (thn (ha.run pos pins s1 σ H1 _ I1 h) fun us s2 ⟨vs, H2, I2, r, q⟩ => ⟨I2.kIn, ?_⟩) he hpl
  exact run_fnSD (us := us) (vs := vs) F hr hb .nil (passAt tk σ) I2 r (by rw [List.append_nil]; exact q)
end
/-! zip of two tuples -/
section
variable {K : PySem.W.Frag} {a b : Addr} {xs ys : List V}
theorem walk_zipT {n : Nat} (hn : n = min xs.length ys.length) : Walk (RZ.ItzT K a b) n (fun H => SqT K H a xs ∧ SqT K H b ys) (YPair (fun i => xs[i]?) (fun i => ys[i]?)) := by
  refine ⟨fun i _ hi q => ⟨xs, ys, xs[i]'(by omega), ys[i]'(by omega), q.1, q.2, List.getElem?_eq_getElem (by omega), List.getElem?_eq_getElem (by omega)⟩, fun _ q => ⟨xs, ys, q.1, q.2, by omega⟩, fun i H v H' _ q y => ?_⟩
  obtain ⟨T, x, y, e1, e2, e3, h1, h2⟩ := y
  exact ⟨T, x, y, e1, e2, e3, h1 xs q.1, h2 ys q.2⟩
end
/-! ranges with a step -/
section
variable {X : Cx}
def PRg3 (X : Cx) (e : Expr) (t : St → Hp → (Int → Int → Int → Hp → Prop) → Prop) : Prop :=
  ∀ (pins : List (Addr × Obj)) (s : Shared) (σ : St) (H : Hp) (Q : Int → Int → Int → Hp → Prop), Inv X pins σ H s → t σ H Q →
    wpAny (model X.prog X.w) X.A (eval e X.env) (fun x s' => ∃ r a b c t u v H', x = Value.ref r ∧ IsRange s'.heap r a b c t u v ∧ Inv X pins σ H' s' ∧ Q a b c H') X.xe s
def tRg3 (t : TA) (σ : St) (H : Hp) (Q : Int → Int → Int → Hp → Prop) : Prop := t σ H fun vs H1 => ∃ a b c, vs = [.int a, .int b, .int c] ∧ c ≠ 0 ∧ (-(2 ^ 62) ≤ a ∧ a < 2 ^ 62 ∧ -(2 ^ 62) ≤ b ∧ b < 2 ^ 62 ∧ c.natAbs < 1073741824) ∧ Q a b c H1
end
end L2

set_option Elab.async false
set_option maxRecDepth 100000
set_option maxHeartbeats 4000000
/-! comprehensions over ranges and over zip of two tuples, told by the place; what is tested and made only adds to the heap -/
namespace L2
open PySem PySem.Spec PyProof.Rows
/-- a comprehension's turns -/
abbrev LcGo (J : It) (g : TG) (tt : TT) (te : TE) (vs : List Nat) (σ : St) (H1 : Hp) (D : Addr) (Qd : Hp → Prop) : Prop :=
  ∃ W : Nat → Nat → Hp → Prop, (∃ m, W 0 m (upd H1 D (.lst []))) ∧ ∀ i m H, W i m H →
    (J.stop i H ∧ Qd H) ∨ (J.go i H ∧ ∃ Nx : Hp → Prop, (∀ H', Nx H' → ∃ m', m' < m ∧ W (i + 1) m' H') ∧ ∀ x H', J.yld i H x H' → g x (wipe σ vs) H' fun σ2 H2 => wipe σ2 vs = wipe σ vs ∧ tt σ2 H2 fun b H3 =>
      if b = true then te σ2 H3 fun y H4 => ∃ acc, H4 D = some (.lst acc) ∧ acc.length < sizeLine ∧ Nx (upd H4 D (.lst (acc ++ [y]))) else Nx H3)
theorem range_snoc (n : Nat) : List.range (n + 1) = List.range n ++ [n] := List.range_succ
section
variable {K : PySem.W.Frag} {σ : St} {H : Hp} {te : TE} {tt : TT} {vs : List Nat}
theorem lc_turn {f : Nat → V} {b : Nat → Bool} {D : Addr} {i n : Nat} {σ2 : St} {H' : Hp} (hD : H D = none) (hz : n < sizeLine) (hi : i < n) (hw : wipe σ2 vs = wipe σ vs) (e : Ext H H') (hl : H' D = some (.lst (((List.range i).filter b).map f)))
    (ht : ∀ Q : Bool → Hp → Prop, (∀ H'', Ext H' H'' → Q (b i) H'') → tt σ2 H' Q) (he : b i = true → ∀ H3, Ext H' H3 → ∀ Q : VK, (∀ H'', Ext H3 H'' → Q (f i) H'') → te σ2 H3 Q) :
    wipe σ2 vs = wipe σ vs ∧ tt σ2 H' fun b' H3 => if b' = true then te σ2 H3 fun y H4 => ∃ acc, H4 D = some (.lst acc) ∧ acc.length < sizeLine ∧ (Ext H (upd H4 D (.lst (acc ++ [y]))) ∧ upd H4 D (.lst (acc ++ [y])) D = some (.lst (((List.range (i + 1)).filter b).map f)))
      else (Ext H H3 ∧ H3 D = some (.lst (((List.range (i + 1)).filter b).map f))) := by
  refine ⟨hw, ht _ fun H3 e3 => ?_⟩
  have hl3 := e3 _ _ hl
  cases hb : b i with
  | true =>
    refine iteT (he hb H3 e3 _ fun H4 e4 => ⟨_, e4 _ _ hl3, ?_, ext_mut ((e.trans e3).trans e4) hD, ?_⟩)
    · rw [List.length_map]
      refine Nat.lt_of_le_of_lt (Nat.le_trans (List.length_filter_le _ _) ?_) hz
      rw [List.length_range]
      omega
    · rw [upd_same, range_snoc, List.filter_append, List.map_append]
      simp [hb]
  | false =>
    refine iteF ⟨e.trans e3, ?_⟩
    rw [hl3, range_snoc, List.filter_append, List.map_append]
    simp [hb]
theorem lc_rgR {Qd : Addr → Hp → Prop} {lo : Int} {n j : Nat} {f : Nat → V} {b : Nat → Bool} (hz : n < sizeLine) (hw : ∀ x, wipe ((wipe σ vs).set j (some x)) vs = wipe σ vs)
    (ht : ∀ i, i < n → ∀ H', Ext H H' → ∀ Q : Bool → Hp → Prop, (∀ H'', Ext H' H'' → Q (b i) H'') → tt ((wipe σ vs).set j (some (.int (lo + i)))) H' Q)
    (he : ∀ i, i < n → b i = true → ∀ H', Ext H H' → ∀ Q : VK, (∀ H'', Ext H' H'' → Q (f i) H'') → te ((wipe σ vs).set j (some (.int (lo + i)))) H' Q)
    (q : ∀ D H', H D = none → Ext H H' → H' D = some (.lst (((List.range n).filter b).map f)) → Qd D H') : ∀ D, H D = none → LcGo (Itr lo n) (gName j) tt te vs σ H D (Qd D) := fun D hD =>
  lc_range (fun i H' => Ext H H' ∧ H' D = some (.lst (((List.range i).filter b).map f))) ⟨Ext.upd hD, upd_same⟩ (fun i H' hi pv => lc_turn hD hz hi (hw _) pv.1 pv.2 (ht i hi H' pv.1) fun hb H3 e3 => he i hi hb H3 (pv.1.trans e3)) (fun H' pv => q D H' hD pv.1 pv.2)
theorem lc_zipR {Qd : Addr → Hp → Prop} {a b2 : Addr} {xs ys : List V} {n i1 i2 : Nat} {f : Nat → V} {b : Nat → Bool} (hx : SqT K H a xs) (hy : SqT K H b2 ys) (hn : n = min xs.length ys.length) (hz : n < sizeLine)
    (hw : ∀ x y, wipe (((wipe σ vs).set i1 (some x)).set i2 (some y)) vs = wipe σ vs)
    (ht : ∀ i x y, i < n → xs[i]? = some x → ys[i]? = some y → ∀ H', Ext H H' → ∀ Q : Bool → Hp → Prop, (∀ H'', Ext H' H'' → Q (b i) H'') → tt (((wipe σ vs).set i1 (some x)).set i2 (some y)) H' Q)
    (he : ∀ i x y, i < n → xs[i]? = some x → ys[i]? = some y → b i = true → ∀ H', Ext H H' → ∀ Q : VK, (∀ H'', Ext H' H'' → Q (f i) H'') → te (((wipe σ vs).set i1 (some x)).set i2 (some y)) H' Q)
    (q : ∀ D H', H D = none → Ext H H' → H' D = some (.lst (((List.range n).filter b).map f)) → Qd D H') : ∀ D, H D = none → LcGo (RZ.ItzT K a b2) (gTup K 2 (gCons (gName i1) (gCons (gName i2) gNil))) tt te vs σ H D (Qd D) := fun D hD => by
  refine lc_it (walk_zipT (K := K) (a := a) (b := b2) (xs := xs) (ys := ys) hn) (fun i H' => Ext H H' ∧ H' D = some (.lst (((List.range i).filter b).map f))) ⟨Ext.upd hD, upd_same⟩ (fun i H' _ pv => ⟨hx.ext pv.1, hy.ext pv.1⟩) (fun i v H' H'' hi pv y => ?_) (fun H' pv => q D H' hD pv.1 pv.2)
  obtain ⟨T, x, y, rfl, hT, rfl, h1, h2⟩ := y
  have eT := Ext.upd (o := .tup [x, y]) hT
  refine ⟨T, [x, y], rfl, SqT.of upd_same, rfl, x, [y], rfl, y, [], rfl, rfl, ?_⟩
  exact lc_turn hD hz hi (hw _ _) (pv.1.trans eT) (eT _ _ pv.2) (ht i x y hi h1 h2 _ (pv.1.trans eT)) fun hb H3 e3 => he i x y hi h1 h2 hb H3 ((pv.1.trans eT).trans e3)
end
end L2

set_option Elab.async false
set_option maxRecDepth 100000
set_option maxHeartbeats 4000000
/-! rules with the kit's own part named, for what stands within a comprehension -/
namespace L2
open PySem PySem.Spec PyProof.Rows
section
variable {X : Cx} {K : PySem.W.Frag}
theorem ix_tupK (h : X.K = K) : IxR X (rIxT K) := by
  subst h
  exact ix_tup
theorem ix_listK (h : X.K = K) : IxR X (rIxL K) := by
  subst h
  exact ix_list
theorem cr_maxK (h : X.K = K) (hc : X.calm = true) : CallR X (.builtin "max") (rMax K) := by
  subst h
  exact cr_max hc
theorem cr_minK (h : X.K = K) (hc : X.calm = true) : CallR X (.builtin "min") (rMin K) := by
  subst h
  exact cr_min hc
theorem pe_fldK {e : Expr} {ta : TE} {f : Str} {pos : Pos} (h : X.K = K) (he : PE X e ta) (hb : attributeBase e f X.env (eval e X.env) = eval e X.env := by rfl) : PE X (.Attribute e f pos) (tFld K ta f) := by
  subst h
  exact pe_fld he hb
def iListK (K : PySem.W.Frag) (tl : TE) : TI := fun σ H R => tl σ H fun x H1 => ∃ a, x = .ref a ∧ (∃ xs, SqL K H1 a xs) ∧ R (Itl K a) H1
theorem pi_listK {tg l : Expr} {tl : TE} (h : X.K = K) (hl : PE X l tl) : PI X tg l (iListK K tl) := by
  subst h
  exact pi_list hl
def rTupOfK (K : PySem.W.Frag) : List V → Hp → VK → Prop := fun xs H Q => ∃ p ys, xs = [.ref p] ∧ ((SqL K H p ys ∧ ∀ l, H l = none → Q (.ref l) (upd H l (.tup ys))) ∨ (SqT K H p ys ∧ Q (.ref p) H))
theorem call_tuple_ofK (h : X.K = K) : CallR X (.type "tuple") (rTupOfK K) := by
  subst h
  exact call_tuple_of
def rListOfK (K : PySem.W.Frag) : List V → Hp → VK → Prop := fun xs H Q => ∃ p ys, xs = [.ref p] ∧ (SqL K H p ys ∨ SqT K H p ys) ∧ ∀ l, H l = none → Q (.ref l) (upd H l (.lst ys))
theorem call_list_ofK (h : X.K = K) : CallR X (.type "list") (rListOfK K) := by
  subst h
  exact call_list_of
end
end L2

set_option Elab.async false
set_option maxRecDepth 100000
set_option maxHeartbeats 4000000
/-! list(zip(a, b)) of two lists -/
namespace PySem
theorem zip_no_len : typeLookup (Value.type "zip") (Str.ofString "__len__") = pure none := am_miss_of_fast (by decide +kernel)
theorem zip_no_hint : typeLookup (Value.type "zip") (Str.ofString "__length_hint__") = pure none := am_miss_of_fast (by decide +kernel)
/-- what has been given out -/
structure ZGiven (h : Heap) (lo : Addr) (acc : Array Value) (xs ys : Array Value) (i : Nat) (as : List Addr) : Prop where
  acc : acc.toList = as.map Value.ref
  len : as.length = i
  rise : List.Pairwise (· < ·) as
  above : ∀ a ∈ as, lo < a
  below : ∀ a ∈ as, a < h.objs.size
  pairs : ∀ (j : Nat) (a : Addr), as[j]? = some a → ∃ x y, xs[j]? = some x ∧ ys[j]? = some y ∧ IsPair h a x y
/-- how the zip stands -/
structure ZSt (h : Heap) (z TI TO i1 i2 l1 l2 : Addr) (xs ys : Array Value) (i : Nat) : Prop where
  first : i = 0 → ∃ a b, IsZip h z TI TO .none ∧ IsPair h TO a b
  later : 0 < i → ∃ T f x y, IsZipHeld h z TI TO T f ∧ IsPair h T x y
  ti : IsPair h TI (.ref i1) (.ref i2)
  it1 : h.IsListIter i1 l1 i
  it2 : h.IsListIter i2 l2 i
  li1 : h.IsList l1 xs
  li2 : h.IsList l2 ys
structure ZOff (S z TI TO i1 i2 l1 l2 : Addr) : Prop where
  z : S ≠ z
  ti : S ≠ TI
  to : S ≠ TO
  i1 : S ≠ i1
  i2 : S ≠ i2
  l1 : S ≠ l1
  l2 : S ≠ l2
section
variable {prog : Program} {w : World} {A : Around} {z TI TO i1 i2 l1 l2 S lo : Addr} {xs ys : Array Value} {i : Nat} {h h' : Heap}
theorem ZGiven.next {acc : Array Value} {as : List Addr} {T : Addr} {x y : Value} (g : ZGiven h lo acc xs ys i as) (hT : T = h.objs.size) (hlo : lo < T) (hsz : h'.objs.size = h.objs.size + 1) (hx : xs[i]? = some x) (hy : ys[i]? = some y) (hp : IsPair h' T x y)
    (hk : ∀ a ∈ as, ∀ x y, IsPair h a x y → IsPair h' a x y) : ZGiven h' lo (acc.push (.ref T)) xs ys (i + 1) (as ++ [T]) where
  acc := by rw [Array.toList_push, g.acc, List.map_append]; rfl
  len := by rw [List.length_append, g.len]; rfl
  rise := by
    rw [List.pairwise_append]
    refine ⟨g.rise, List.pairwise_singleton _ _, fun a ha b hb => ?_⟩
    rw [List.mem_singleton.mp hb, hT]
    exact g.below a ha
  above := fun a ha => by
    rcases List.mem_append.mp ha with ha | ha
    · exact g.above a ha
    · rw [List.mem_singleton.mp ha]
      exact hlo
  below := fun a ha => by
    rw [hsz]
    rcases List.mem_append.mp ha with ha | ha
    · exact Nat.lt_succ_of_lt (g.below a ha)
    · rw [List.mem_singleton.mp ha, hT]
      exact Nat.lt_succ_self _
  pairs := fun j a hj => by
    by_cases e : j < as.length
    · rw [List.getElem?_append_left e] at hj
      obtain ⟨x', y', h1, h2, h3⟩ := g.pairs j a hj
      exact ⟨x', y', h1, h2, hk a (List.mem_of_getElem? hj) _ _ h3⟩
    · have hl := (List.getElem?_eq_some_iff.mp hj).1
      rw [List.length_append] at hl
      have hl1 : [T].length = 1 := rfl
      have ej : j = as.length := by omega
      rw [List.getElem?_append_right (by omega), ej, Nat.sub_self] at hj
      cases hj
      rw [ej, g.len]
      exact ⟨x, y, hx, hy, hp⟩
theorem ZGiven.upd {acc : Array Value} {as : List Addr} {f : Obj → Obj} {oS : Obj} (g : ZGiven h lo acc xs ys i as) (hS : h.get? S = some oS) (hc : oS.cls = .type "list") : ZGiven (h.update S f) lo acc xs ys i as where
  acc := g.acc
  len := g.len
  rise := g.rise
  above := g.above
  below := fun a ha => by rw [Heap.size_update]; exact g.below a ha
  pairs := fun j a hj => by
    obtain ⟨x, y, h1, h2, h3⟩ := g.pairs j a hj
    refine ⟨x, y, h1, h2, ?_⟩
    have ne : S ≠ a := fun e => by
      subst e
      have h4 : h.get? S = some _ := h3
      rw [hS] at h4
      cases h4
      exact absurd (show Value.type "tuple" = Value.type "list" from hc) (by decide)
    show (h.update S f).get? a = _
    rw [Heap.get?_update_other h f ne]
    exact h3
theorem ZSt.upd {f : Obj → Obj} (s : ZSt h z TI TO i1 i2 l1 l2 xs ys i) (o : ZOff S z TI TO i1 i2 l1 l2) {oS : Obj} (hS : h.get? S = some oS) (hc : oS.cls = .type "list") : ZSt (h.update S f) z TI TO i1 i2 l1 l2 xs ys i where
  first := fun e => by
    obtain ⟨a, b, h1, h2⟩ := s.first e
    exact ⟨a, b, (Heap.get?_update_other h f o.z).trans h1, (Heap.get?_update_other h f o.to).trans h2⟩
  later := fun e => by
    obtain ⟨T, b, x, y, h1, h2⟩ := s.later e
    have ne : S ≠ T := fun e => by
      subst e
      have h4 : h.get? S = some _ := h2
      rw [hS] at h4
      cases h4
      exact absurd (show Value.type "tuple" = Value.type "list" from hc) (by decide)
    exact ⟨T, b, x, y, (Heap.get?_update_other h f o.z).trans h1, (Heap.get?_update_other h f ne).trans h2⟩
  ti := (Heap.get?_update_other h f o.ti).trans s.ti
  it1 := by
    obtain ⟨q, h1, h2⟩ := s.it1
    exact ⟨q, (Heap.get?_update_other h f o.i1).trans h1, h2⟩
  it2 := by
    obtain ⟨q, h1, h2⟩ := s.it2
    exact ⟨q, (Heap.get?_update_other h f o.i2).trans h1, h2⟩
  li1 := by
    obtain ⟨q, h1, h2⟩ := s.li1
    exact ⟨q, (Heap.get?_update_other h f o.l1).trans h1, h2⟩
  li2 := by
    obtain ⟨q, h1, h2⟩ := s.li2
    exact ⟨q, (Heap.get?_update_other h f o.l2).trans h1, h2⟩
theorem zip_loop (hh : A.in1.handled = none) (D : ZipApart z TI TO i1 i2 l1 l2) (o : ZOff S z TI TO i1 i2 l1 l2) (res : Value) {n : Nat} (hn : n = min xs.size ys.size) (hz : n + 1 ≤ sizeLine) {g : Array GenState} {d : _} {tk : Nat} {os : _} {R : Result → Shared → Prop} :
    ∀ (k i : Nat) (h : Heap) (acc : Array Value) (c : Nat) (as : List Addr), n - i = k → i ≤ n → ZSt h z TI TO i1 i2 l1 l2 xs ys i → h.get? S = some { cls := .type "list", data := .seq acc c } → lo < h.objs.size → ZGiven h lo acc xs ys i as →
      (∀ (h' : Heap) (acc' : Array Value) (c' : Nat) (as' : List Addr), (∀ b ob, b ≠ S → b ≠ z → b ≠ TO → b ≠ i1 → b ≠ i2 → h.get? b = some ob → h'.get? b = some ob) → h'.get? S = some { cls := .type "list", data := .seq acc' c' } → ZGiven h' lo acc' xs ys n as' → R (.ok (.ret res)) ⟨h', g, d, tk, os⟩) →
      codeAny (model prog w) A (.builtin "list.extend.loop" ⟨[.ref S, .ref z, res], []⟩) R ⟨h, g, d, tk, os⟩ := by
  intro k
  induction k with
  | zero =>
    intro i h acc c as hk hi st hS hlo gv hR
    have ei : i = n := by omega
    subst ei
    refine codeAny_builtin F.entry_extend_loop ?_
    rw [Around.under_plainId F.plain_extend_loop]
    refine wpAny_bind ?_
    have hend : xs[i]? = none ∨ ys[i]? = none := by
      rcases Nat.le_total xs.size ys.size with e | e
      · left
        exact Array.getElem?_eq_none (by omega)
      · right
        exact Array.getElem?_eq_none (by omega)
    by_cases h0 : i = 0
    · obtain ⟨a, b, hz1, hto⟩ := st.first h0
      refine wpAny_pyNext_zip_end hh D hz1 st.ti hto st.it1 st.it2 st.li1 st.li2 hend fun h' hk' => ?_
      refine wpAny_pure (hR h' acc c as (fun b ob b1 b2 b3 b4 b5 e => hk' b ob b2 b3 b4 b5 e) (hk' S _ o.z o.to o.i1 o.i2 hS) ?_)
      have has : as = [] := List.eq_nil_of_length_eq_zero (gv.len.trans h0)
      subst has
      exact ⟨gv.acc, gv.len, gv.rise, gv.above, (fun a ha => by cases ha), fun j a hj => by cases hj⟩
    · obtain ⟨T, f, tx, ty, hz1, hT⟩ := st.later (by omega)
      refine wpAny_pyNext_zip_end_held hh D hz1 hT st.ti st.it1 st.it2 st.li1 st.li2 hend fun h' hk' => ?_
      refine wpAny_pure (hR h' acc c as (fun b ob b1 b2 b3 b4 b5 e => hk' b ob b2 b4 b5 e) (hk' S _ o.z o.i1 o.i2 hS) ?_)
      have keep : ∀ a ∈ as, ∀ x y, IsPair h a x y → IsPair h' a x y := fun a ha x y hp => by
        refine hk' a _ (fun e => ?_) (fun e => ?_) (fun e => ?_) hp
        · subst e
          have q : h.get? a = some _ := hp
          rw [show h.get? a = some _ from hz1] at q
          injection q with q
          injection q with q
          exact absurd q (by decide)
        · subst e
          obtain ⟨ob, q1, q2, _⟩ := st.it1
          rw [show h.get? a = some _ from hp] at q1
          cases q1
          exact absurd (show Value.type "tuple" = Value.type "list_iterator" from q2) (by decide)
        · subst e
          obtain ⟨ob, q1, q2, _⟩ := st.it2
          rw [show h.get? a = some _ from hp] at q1
          cases q1
          exact absurd (show Value.type "tuple" = Value.type "list_iterator" from q2) (by decide)
      refine ⟨gv.acc, gv.len, gv.rise, gv.above, fun a ha => ?_, fun j a hj => ?_⟩
      · obtain ⟨j, hj⟩ := List.getElem?_of_mem ha
        obtain ⟨x, y, _, _, hp⟩ := gv.pairs j a hj
        exact Heap.lt_size (keep a ha _ _ hp)
      · obtain ⟨x, y, h1, h2, hp⟩ := gv.pairs j a hj
        exact ⟨x, y, h1, h2, keep a (List.mem_of_getElem? hj) _ _ hp⟩
  | succ k ih =>
    intro i h acc c as hk hi st hS hlo gv hR
    refine codeAny_builtin F.entry_extend_loop ?_
    rw [Around.under_plainId F.plain_extend_loop]
    refine wpAny_bind ?_
    obtain ⟨x, hx⟩ : ∃ x, xs[i]? = some x := ⟨_, Array.getElem?_eq_getElem (by omega)⟩
    obtain ⟨y, hy⟩ : ∃ y, ys[i]? = some y := ⟨_, Array.getElem?_eq_getElem (by omega)⟩
    have step : ∀ h' : Heap, ZSt h' z TI TO i1 i2 l1 l2 xs ys (i + 1) → IsPair h' h.objs.size x y → h'.objs.size = h.objs.size + 1 → (∀ b ob, b ≠ z → b ≠ TO → b ≠ i1 → b ≠ i2 → h.get? b = some ob → h'.get? b = some ob) → (∀ a ∈ as, ∀ x y, IsPair h a x y → IsPair h' a x y) →
        wpAny (model prog w) A.in1 (do
          Builtin.List.listUpdate (Value.ref S) fun q => q.push (.ref h.objs.size)
          again (Code.builtin "list.extend.loop" ⟨[.ref S, .ref z, res], []⟩)) (fun fin s' => match fin with
          | Fin.done f => R (Except.ok f) s'
          | Fin.again c' => c'.quiet = true ∧ codeAny (model prog w) A c' R s') (fun e s' => R (Except.error e) s') ⟨h', g, d, tk, os⟩ := fun h' st' hp hsz hk' hkp => by
      have hS' : h'.get? S = some { cls := .type "list", data := .seq acc c } := hk' S _ o.z o.to o.i1 o.i2 hS
      have hal : acc.size = i := by
        have e1 := congrArg List.length gv.acc
        rw [List.length_map, gv.len, Array.length_toList] at e1
        exact e1
      refine wpAny_bind (wpAny_updateSeq hS' rfl (wpAny_pure ⟨plainId_quiet F.plain_extend_loop _, ?_⟩) (by omega) (by rw [Array.size_push]; omega))
      have gv' := gv.next (h' := h') rfl hlo hsz hx hy hp hkp
      refine ih (i + 1) (h'.update S (Obj.mapSeq fun q => q.push (.ref h.objs.size))) (acc.push (.ref h.objs.size)) _ (as ++ [h.objs.size]) (by omega) (by omega) (st'.upd o hS' rfl) (Heap.get?_update_self (Obj.mapSeq fun q => q.push (.ref h.objs.size)) hS' rfl) ?_ (gv'.upd hS' rfl) fun h2 acc2 c2 as2 e1 e2 e3 => ?_
      · rw [Heap.size_update, hsz]
        exact Nat.lt_succ_of_lt hlo
      · exact hR h2 acc2 c2 as2 (fun b ob b1 b2 b3 b4 b5 e => e1 b ob b1 b2 b3 b4 b5 ((Heap.get?_update_other h' _ (Ne.symm b1)).trans (hk' b ob b2 b3 b4 b5 e))) e2 e3
    by_cases h0 : i = 0
    · obtain ⟨a, b, hz1, hto⟩ := st.first h0
      have has : as = [] := List.eq_nil_of_length_eq_zero (gv.len.trans h0)
      refine wpAny_pyNext_zip_item D hz1 st.ti hto st.it1 st.it2 st.li1 st.li2 hx hy fun h' a1 a2 a3 a4 a5 a6 a7 => step h' ⟨fun e => absurd e (Nat.succ_ne_zero _), fun _ => ⟨h.objs.size, false, x, y, a1, a5⟩, a7 TI _ D.TIz D.TITO D.TIi1 D.TIi2 st.ti, a3, a4, ?_, ?_⟩ a5 a6 a7 fun a ha => by rw [has] at ha; cases ha
      · obtain ⟨q, h1, h2⟩ := st.li1
        exact ⟨q, a7 l1 q D.l1z D.l1TO D.l1i1 D.l1i2 h1, h2⟩
      · obtain ⟨q, h1, h2⟩ := st.li2
        exact ⟨q, a7 l2 q D.l2z D.l2TO D.l2i1 D.l2i2 h1, h2⟩
    · obtain ⟨T, f, tx, ty, hz1, hT⟩ := st.later (by omega)
      have kp : ∀ (h' : Heap), (∀ b ob, b ≠ z → b ≠ i1 → b ≠ i2 → h.get? b = some ob → h'.get? b = some ob) → ∀ a x y, IsPair h a x y → IsPair h' a x y := fun h' a7 a x y hp => by
        refine a7 a _ (fun e => ?_) (fun e => ?_) (fun e => ?_) hp
        · subst e
          have q : h.get? a = some _ := hp
          rw [show h.get? a = some _ from hz1] at q
          injection q with q
          injection q with q
          exact absurd q (by decide)
        · subst e
          obtain ⟨ob, q1, q2, _⟩ := st.it1
          rw [show h.get? a = some _ from hp] at q1
          cases q1
          exact absurd (show Value.type "tuple" = Value.type "list_iterator" from q2) (by decide)
        · subst e
          obtain ⟨ob, q1, q2, _⟩ := st.it2
          rw [show h.get? a = some _ from hp] at q1
          cases q1
          exact absurd (show Value.type "tuple" = Value.type "list_iterator" from q2) (by decide)
      refine wpAny_pyNext_zip_item_held D hz1 hT st.ti st.it1 st.it2 st.li1 st.li2 hx hy fun h' a1 a3 a4 a5 a6 a7 => step h' ⟨fun e => absurd e (Nat.succ_ne_zero _), fun _ => ⟨T, true, tx, ty, a1, kp h' a7 T tx ty hT⟩, a7 TI _ D.TIz D.TIi1 D.TIi2 st.ti, a3, a4, ?_, ?_⟩ a5 a6 (fun b ob b1 b2 b3 b4 e => a7 b ob b1 b3 b4 e) fun a ha x y hp => kp h' a7 a x y hp
      · obtain ⟨q, h1, h2⟩ := st.li1
        exact ⟨q, a7 l1 q D.l1z D.l1i1 D.l1i2 h1, h2⟩
      · obtain ⟨q, h1, h2⟩ := st.li2
        exact ⟨q, a7 l2 q D.l2z D.l2i1 D.l2i2 h1, h2⟩
theorem list_init_zip (hh : A.in1.handled = none) (D : ZipApart z TI TO i1 i2 l1 l2) (o : ZOff S z TI TO i1 i2 l1 l2) {n : Nat} (hn : n = min xs.size ys.size) (hz : n + 1 ≤ sizeLine) {g : Array GenState} {d : _} {tk : Nat} {os : _} {R : Result → Shared → Prop}
    (st : ZSt h z TI TO i1 i2 l1 l2 xs ys 0) (hS : h.get? S = some { cls := .type "list", data := .seq #[] }) (hlo : lo < h.objs.size)
    (hR : ∀ (h' : Heap) (acc' : Array Value) (c' : Nat) (as' : List Addr), (∀ b ob, b ≠ S → b ≠ z → b ≠ TO → b ≠ i1 → b ≠ i2 → h.get? b = some ob → h'.get? b = some ob) → h'.get? S = some { cls := .type "list", data := .seq acc' c' } → ZGiven h' lo acc' xs ys n as' → R (.ok (.ret .none)) ⟨h', g, d, tk, os⟩) :
    wpAny (model prog w) A.in1 (Builtin.«list.__init__» ⟨[.ref S, .ref z], []⟩) (fun fin s' => match fin with
      | Fin.done f => R (Except.ok f) s'
      | Fin.again c' => c'.quiet = true ∧ codeAny (model prog w) A c' R s') (fun e s' => R (Except.error e) s') ⟨h, g, d, tk, os⟩ := by
  refine wpAny_bind ?_
  unfold Builtin.List.listItems
  refine wpAny_bind (wpAny_seqItems hS rfl (wpAny_pure ?_))
  refine wpAny_bind (wpAny_updateSeq hS rfl ?_)
  refine wpAny_bind (wpAny_letGo ?_)
  obtain ⟨a0, b0, hz0, hto0⟩ := st.first rfl
  have hS1 := Heap.get?_update_self (h := h) (Obj.mapSeq fun _ => #[]) hS rfl
  have st1 := st.upd (f := Obj.mapSeq fun _ => #[]) o hS rfl
  have sz1 : (h.update S (Obj.mapSeq fun _ => #[])).objs.size = h.objs.size := Heap.size_update _ _ _
  have off1 : ∀ b ob, b ≠ S → h.get? b = some ob → (h.update S (Obj.mapSeq fun _ => #[])).get? b = some ob := fun b ob hb e => (Heap.get?_update_other h _ (Ne.symm hb)).trans e
  generalize h.update S (Obj.mapSeq fun _ => #[]) = h1 at hS1 st1 sz1 off1 ⊢
  have hz1 : h1.get? z = some _ := off1 z _ (Ne.symm o.z) hz0
  have hT : ∀ (h2 : Heap) (g2 : _) , h2.get? z = some { cls := Value.type "zip", data := Data.fields #[Value.none, Value.bool false, Value.bool false, Value.ref TI, Value.ref TO] } → (Shared.mk h2 g2 d tk os).TypeIs (.ref z) "zip" := fun h2 g2 e => ⟨_, e, rfl⟩
  refine wpAny_bind (wpAny_typeOf (hT h1 g hz1) ?_)
  have e1 : (Builtin.List.listSameRef (Value.ref S) (Value.ref z) || Value.type "zip" == Value.type "list" || Value.type "zip" == Value.type "tuple") = false := by
    have : Builtin.List.listSameRef (Value.ref S) (Value.ref z) = false := beq_eq_false_iff_ne.mpr o.z
    rw [this]
    rfl
  rw [e1, if_neg (by decide)]
  refine wpAny_bind (wpAny_pyIter_zip hz1 ?_)
  refine wpAny_bind (wpAny_holding ?_)
  refine wpAny_bind (wpAny_specialOf (hT h1 g hz1) zip_no_len ?_)
  refine wpAny_bind (wpAny_specialOf (hT h1 g hz1) zip_no_hint (wpAny_pure ?_))
  rw [if_pos (by rfl)]
  refine wpAny_bind (wpAny_rule ?_)
  refine wpAny_bind ?_
  unfold Builtin.List.listTouch
  refine wpAny_bind (wpAny_updateSeq hS1 rfl ?_)
  have hS2 := Heap.get?_update_self (h := h1) (Obj.mapSeq fun q => q.push Value.none) hS1 rfl
  have st2 := st1.upd (f := Obj.mapSeq fun q => q.push Value.none) o hS1 rfl
  have sz2 : (h1.update S (Obj.mapSeq fun q => q.push Value.none)).objs.size = h1.objs.size := Heap.size_update _ _ _
  have off2 : ∀ b ob, b ≠ S → h1.get? b = some ob → (h1.update S (Obj.mapSeq fun q => q.push Value.none)).get? b = some ob := fun b ob hb e => (Heap.get?_update_other h1 _ (Ne.symm hb)).trans e
  generalize h1.update S (Obj.mapSeq fun q => q.push Value.none) = h2 at hS2 st2 sz2 off2 ⊢
  refine wpAny_updateSeq hS2 rfl ?_
  have hS3 := Heap.get?_update_self (h := h2) (Obj.mapSeq fun q => q.pop) hS2 rfl
  have st3 := st2.upd (f := Obj.mapSeq fun q => q.pop) o hS2 rfl
  have sz3 : (h2.update S (Obj.mapSeq fun q => q.pop)).objs.size = h2.objs.size := Heap.size_update _ _ _
  have off3 : ∀ b ob, b ≠ S → h2.get? b = some ob → (h2.update S (Obj.mapSeq fun q => q.pop)).get? b = some ob := fun b ob hb e => (Heap.get?_update_other h2 _ (Ne.symm hb)).trans e
  refine wpAny_pure ⟨plainId_quiet F.plain_extend_loop _, ?_⟩
  refine zip_loop (lo := lo) hh D o .none hn hz n 0 (h2.update S (Obj.mapSeq fun q => q.pop)) #[] _ [] (Nat.sub_zero n) (Nat.zero_le n) st3 hS3 (by rw [sz3, sz2, sz1]; exact hlo) ⟨rfl, rfl, .nil, (fun _ h => nomatch h), (fun _ h => nomatch h), (fun _ _ h => by cases h)⟩ fun h' acc' c' as' k1 k2 k3 => ?_
  exact hR h' acc' c' as' (fun b ob b1 b2 b3 b4 b5 e => k1 b ob b1 b2 b3 b4 b5 (off3 b ob b1 (off2 b ob b1 (off1 b ob b1 e)))) k2 k3
/-- list(z), z a zip of two lists as it was made -/
theorem call_list_zip {E : Value → Shared → Prop} {Q : Value → Shared → Prop} (hh : A.in1.in1.handled = none) (D : ZipApart z TI TO i1 i2 l1 l2) {n : Nat} (hn : n = min xs.size ys.size) (hz : n + 1 ≤ sizeLine) {s : Shared} (st : ZSt s.heap z TI TO i1 i2 l1 l2 xs ys 0)
    (hQ : ∀ (h' : Heap) (acc' : Array Value) (c' : Nat) (as' : List Addr), (∀ b ob, b ≠ z → b ≠ TO → b ≠ i1 → b ≠ i2 → s.heap.get? b = some ob → h'.get? b = some ob) → h'.get? s.heap.objs.size = some { cls := .type "list", data := .seq acc' c' } → ZGiven h' s.heap.objs.size acc' xs ys n as' → Q (.ref s.heap.objs.size) { s with heap := h' }) :
    wpAny (model prog w) A (call (.type "list") [.ref z]) Q E s := by
  obtain ⟨h, g, d, tk, os⟩ := s
  obtain ⟨a0, b0, hz0, hto0⟩ := st.first rfl
  refine callType_codes F.called_list (F.typeCall_list_1 _) F.entry_list_init (code_list_new (.ref z) (Q₁ := fun v s' => v = .ref h.objs.size ∧ s' = ⟨h.push { cls := .type "list", data := .seq #[] }, g, d, tk, os⟩) ⟨rfl, rfl⟩) fun obj s₁ h₁ => ?_
  obtain ⟨rfl, rfl⟩ := h₁
  have hS := Heap.get?_push_size h (o := { cls := .type "list", data := .seq #[] }) rfl
  have kp : ∀ b ob, h.get? b = some ob → (h.push { cls := Value.type "list", data := Data.seq #[] }).get? b = some ob := fun b ob e => Heap.get?_push_of_some _ e
  have lt : ∀ {b : Addr} {ob : Obj}, h.get? b = some ob → h.objs.size ≠ b := fun e => Nat.ne_of_gt (Heap.lt_size e)
  have o : ZOff h.objs.size z TI TO i1 i2 l1 l2 := ⟨lt hz0, lt st.ti, lt hto0, (by obtain ⟨_, q, _⟩ := st.it1; exact lt q), (by obtain ⟨_, q, _⟩ := st.it2; exact lt q), (by obtain ⟨_, q, _⟩ := st.li1; exact lt q), (by obtain ⟨_, q, _⟩ := st.li2; exact lt q)⟩
  have st' : ZSt (h.push { cls := Value.type "list", data := Data.seq #[] }) z TI TO i1 i2 l1 l2 xs ys 0 := ⟨fun _ => ⟨a0, b0, kp _ _ hz0, kp _ _ hto0⟩, fun e => absurd e (Nat.lt_irrefl _), kp _ _ st.ti, (by obtain ⟨q, q1, q2⟩ := st.it1; exact ⟨q, kp _ _ q1, q2⟩), (by obtain ⟨q, q1, q2⟩ := st.it2; exact ⟨q, kp _ _ q1, q2⟩), (by obtain ⟨q, q1, q2⟩ := st.li1; exact ⟨q, kp _ _ q1, q2⟩), (by obtain ⟨q, q1, q2⟩ := st.li2; exact ⟨q, kp _ _ q1, q2⟩)⟩
  refine ⟨⟨_, hS, rfl⟩, F.args_list_init_2 _ _, list_init_zip (lo := h.objs.size) hh D o hn hz st' hS (by rw [Heap.size_push]; exact Nat.lt_succ_self _) fun h' acc' c' as' k1 k2 k3 => ⟨rfl, ?_⟩⟩
  exact hQ h' acc' c' as' (fun b ob b2 b3 b4 b5 e => k1 b ob (Ne.symm (lt e)) b2 b3 b4 b5 (kp b ob e)) k2 k3
end
end PySem

set_option Elab.async false
set_option maxRecDepth 100000
set_option maxHeartbeats 4000000
/-! tuple(range(a, b, c)), list(range(a, b, c)), list(zip(x, y)) as expressions -/
namespace L2
open PySem PySem.Spec PyProof.Rows
section
variable {X : Cx}
theorem vals3 {x y z : V} {us : List Value} (r : Vals [x, y, z] us) : ∃ u v w, us = [u, v, w] ∧ RelV x u ∧ RelV y v ∧ RelV z w := by
  cases r with
  | cons h1 r =>
    obtain ⟨v, w, rfl, h2, h3⟩ := vals2 r
    exact ⟨_, v, w, rfl, h1, h2, h3⟩
theorem pylong_no {x c : Int} (h : c.natAbs < 1073741824) : Builtin.divisionGoesByPylong x c = false := by
  unfold Builtin.divisionGoesByPylong
  have hd : ¬ (if (c == 0) = true then 0 else c.natAbs.log2 / 30 + 1) > 300 := by
    split
    · omega
    · rename_i h0
      have hc : c.natAbs ≠ 0 := fun e => h0 (by rw [Int.natAbs_eq_zero.mp e]; rfl)
      have : c.natAbs.log2 < 30 := (Nat.log2_lt hc).mpr (by simpa using h)
      omega
  dsimp only
  rw [decide_eq_false hd]
  rfl
theorem prg_3 {e : Expr} {es : List Expr} {ta : TA} {p pos : Pos} (hg : Gl X "range") (hm : X.mg "range" = none) (ha : PA X (e :: es) ta) (he : starEach (e :: es) X.env = (false, eval e X.env) :: starEach es X.env := by rfl) (hpl : (backTo pos (starEach es X.env)).any (·.1) = false := by rfl) :
    PRg3 X (.Call (.Name "range" p) (e :: es) [] pos) (tRg3 ta) := by
  intro pins s σ H Q I h
  refine PyProof.Rows.Call_ (ld_blt I hg hm (u := .type "range") (by rfl) (PyProof.Rows.callWith_type1 (thn (ha.run pos pins s σ H _ I h) fun us s1 ⟨vs, H1, I1, r1, q1⟩ => ?_) he hpl)) rfl
  obtain ⟨a, b, c, rfl, hc, ⟨h1, h2, h3, h4, h5⟩, q⟩ := q1
  obtain ⟨u, v, w, rfl, ⟨t1, rfl⟩, ⟨t2, rfl⟩, ⟨t3, rfl⟩⟩ := vals3 r1
  refine call_range_3 hc ⟨s1.heap.objs.size, a, b, c, t1, t2, t3, H1, rfl, Heap.get?_push_size _ rfl, ?_, q⟩ (.inl (pylong_no h5))
  exact I1.kept (t' := s1.toks) fun b o e => Heap.get?_push_of_some _ e
def rgC (a c : Int) (n : Nat) : List V := (List.range n).map fun (i : Nat) => .int (a + (i : Int) * c)
theorem vals_rgC {a c : Int} {n : Nat} {acc : Array Value} (h : ItemsOf (fun i v => ∃ t, v = Value.int (a + (i : Int) * c) t) acc n) : Vals (rgC a c n) acc.toList := by
  refine vals_of_at ?_ fun j x u hx hu => ?_
  · show (rgC a c n).length = acc.toList.length
    rw [show acc.toList.length = acc.size from rfl, h.1]
    simp [rgC]
  · have hj : j < n := by
      have := (List.getElem?_eq_some_iff.mp hx).1
      simpa [rgC] using this
    obtain ⟨t, rfl⟩ := h.2 j u (by rw [← Array.getElem?_toList]; exact hu)
    unfold rgC at hx
    rw [List.getElem?_map, List.getElem?_range hj] at hx
    cases hx
    exact ⟨t, rfl⟩
def tTupRg3 (te : St → Hp → (Int → Int → Int → Hp → Prop) → Prop) : TE := fun σ H Q => te σ H fun a b c H1 => ∃ n, RgC a b c n ∧ n ≤ 2 ^ 24 ∧ ∀ q, H1 q = none → Q (.ref q) (upd H1 q (.tup (rgC a c n)))
def tLstRg3 (te : St → Hp → (Int → Int → Int → Hp → Prop) → Prop) : TE := fun σ H Q => te σ H fun a b c H1 => ∃ n, RgC a b c n ∧ n ≤ 2 ^ 24 ∧ ∀ q, H1 q = none → Q (.ref q) (upd H1 q (.lst (rgC a c n)))
theorem pe_tupRg3 {e : Expr} {te : St → Hp → (Int → Int → Int → Hp → Prop) → Prop} {p pos : Pos} (hc : X.calm = true) (hg : Gl X "tuple") (hm : X.mg "tuple" = none) (he : PRg3 X e te) (hs : starEach [e] X.env = (false, eval e X.env) :: starEach [] X.env := by rfl) :
    PE X (.Call (.Name "tuple" p) [e] [] pos) (tTupRg3 te) := by
  refine ⟨fun pins s σ H Q I h => ?_⟩
  refine PyProof.Rows.Call_ (ld_blt I hg hm (u := .type "tuple") (by rfl) (PyProof.Rows.callWith_type1 ?_ hs rfl)) rfl
  rw [hs]
  refine Calls.spliced_cons (thn (he pins s σ H _ I h) fun x s1 ⟨r, a, b, c, t, u, v, H1, ex, hr, I1, n, hn, hz, q⟩ => Calls.spliced_nil ?_)
  subst ex
  obtain ⟨_, _, h3, h4⟩ := hn
  refine call_tuple_range (I1.ok.hd hc) hr h3 h4 hz fun h' tk acc hk hacc => ?_
  have I2 := I1.kept (t' := tk) hk
  have hzl : (rgC a c n).length ≤ sizeLine := by
    rw [show (rgC a c n).length = n by simp [rgC]]
    exact Nat.le_trans hz (by decide)
  refine ⟨.ref h'.objs.size, upd H1 h'.objs.size (.tup (rgC a c n)), I2.laid (t' := tk) (fun b o e => Heap.get?_push_of_some _ e) (Nat.le_refl _) ⟨hzl, acc.toList, vals_rgC hacc, ⟨_, Heap.get?_push_size _ rfl, rfl, _, rfl⟩⟩, rfl, q _ (I2.hok.fresh (Nat.le_refl _))⟩
theorem pe_listRg3 {e : Expr} {te : St → Hp → (Int → Int → Int → Hp → Prop) → Prop} {p pos : Pos} (hc : X.calm = true) (hg : Gl X "list") (hm : X.mg "list" = none) (he : PRg3 X e te) (hs : starEach [e] X.env = (false, eval e X.env) :: starEach [] X.env := by rfl) :
    PE X (.Call (.Name "list" p) [e] [] pos) (tLstRg3 te) := by
  refine ⟨fun pins s σ H Q I h => ?_⟩
  refine PyProof.Rows.Call_ (ld_blt I hg hm (u := .type "list") (by rfl) (PyProof.Rows.callWith_type1 ?_ hs rfl)) rfl
  rw [hs]
  refine Calls.spliced_cons (thn (he pins s σ H _ I h) fun x s1 ⟨r, a, b, c, t, u, v, H1, ex, hr, I1, n, hn, hz, q⟩ => Calls.spliced_nil ?_)
  subst ex
  obtain ⟨_, _, h3, h4⟩ := hn
  refine call_list_range (I1.ok.hd hc) hr h3 h4 hz fun h' tk acc c' hk hS hacc => ?_
  have hzl : (rgC a c n).length ≤ sizeLine := by
    rw [show (rgC a c n).length = n by simp [rgC]]
    exact Nat.le_trans hz (by decide)
  refine ⟨.ref s1.heap.objs.size, upd H1 s1.heap.objs.size (.lst (rgC a c n)), I1.laid (t' := tk) hk (Nat.le_refl _) ⟨hzl, acc.toList, c', vals_rgC hacc, hS⟩, rfl, q _ (I1.hok.fresh (Nat.le_refl _))⟩
/-! list(zip(x, y)), two lists of ints -/
theorem zipApart {n la lb : Nat} (h1 : la < n) (h2 : lb < n) : ZipApart (n + 4) (n + 2) (n + 3) n (n + 1) la lb where
  TIz := show (n + 2 : Nat) ≠ n + 4 by omega
  TOz := show (n + 3 : Nat) ≠ n + 4 by omega
  i1z := show (n : Nat) ≠ n + 4 by omega
  i2z := show (n + 1 : Nat) ≠ n + 4 by omega
  TITO := show (n + 2 : Nat) ≠ n + 3 by omega
  TIi1 := show (n + 2 : Nat) ≠ n by omega
  TIi2 := show (n + 2 : Nat) ≠ n + 1 by omega
  TOi1 := show (n + 3 : Nat) ≠ n by omega
  TOi2 := show (n + 3 : Nat) ≠ n + 1 by omega
  i12 := show (n : Nat) ≠ n + 1 by omega
  l1z := show (la : Nat) ≠ n + 4 by omega
  l1TO := show (la : Nat) ≠ n + 3 by omega
  l1i1 := show (la : Nat) ≠ n by omega
  l1i2 := show (la : Nat) ≠ n + 1 by omega
  l2z := show (lb : Nat) ≠ n + 4 by omega
  l2TO := show (lb : Nat) ≠ n + 3 by omega
  l2i1 := show (lb : Nat) ≠ n by omega
  l2i2 := show (lb : Nat) ≠ n + 1 by omega
theorem lt_off {n b : Nat} (h : b < n) : b ≠ n + 4 ∧ b ≠ n + 3 ∧ b ≠ n ∧ b ≠ n + 1 := ⟨by omega, by omega, by omega, by omega⟩
/-- the same heap with k places more, all of them free -/
theorem padded (h : Heap) : ∀ k : Nat, ∃ h2 : Heap, h2.objs.size = h.objs.size + k ∧ (∀ b o, h.get? b = some o → h2.get? b = some o) ∧ ∀ b o, h2.get? b = some o → h.get? b = some o
  | 0 => ⟨h, rfl, fun _ _ e => e, fun _ _ e => e⟩
  | k + 1 => by
    obtain ⟨h2, e1, e2, e3⟩ := padded h k
    refine ⟨h2.push { cls := .none, data := .freed }, by rw [Heap.size_push, e1]; rfl, fun b o e => Heap.get?_push_of_some _ (e2 b o e), fun b o e => e3 b o ?_⟩
    obtain ⟨objs, life⟩ := h2
    unfold Heap.push Heap.get? at e
    dsimp only at e
    rw [Array.getElem?_push] at e
    by_cases hb : b = objs.size
    · rw [if_pos hb] at e
      cases e
    · rw [if_neg hb] at e
      exact e
theorem paired_at {α β : Type} {R : α → β → Prop} : ∀ {as : List α} {qs : List β} {j : Nat} {t : α}, Paired R as qs → as[j]? = some t → ∃ q, qs[j]? = some q ∧ R t q
  | _ :: _, _ :: _, 0, _, .cons h _, e => by
    cases e
    exact ⟨_, rfl, h⟩
  | _ :: _, _ :: _, j + 1, _, .cons _ h, e => by
    obtain ⟨q, h1, h2⟩ := paired_at (j := j) h (by simpa using e)
    exact ⟨q, by simpa using h1, h2⟩
theorem kv_zip : ∀ (xs : List Int) (ys : List Int) (us : List Value), Vals (ys.map V.int) us → KV ((xs.zip ys).map fun p => ((Sum.inl p.1 : Key), V.int p.2)) ((xs.zip us).map fun p => ((Sum.inl p.1 : Key), p.2))
  | [], _, _, _ => .nil
  | _ :: _, [], [], _ => .nil
  | x :: xs, y :: ys, u :: us, .cons h1 h2 => .cons ⟨rfl, h1⟩ (kv_zip xs ys us h2)
def tLstZip (K : PySem.W.Frag) (t : TA) : TE := fun σ H Q => t σ H fun vs H1 => ∃ (la lb : Addr) (xs ys : List Int), vs = [.ref la, .ref lb] ∧ SqL K H1 la (xs.map V.int) ∧ SqL K H1 lb (ys.map V.int) ∧ xs.length = ys.length ∧ xs.length ≤ 1000000 ∧
  ∀ (D : Addr) (as : List Addr) (H2 : Hp), Ext H1 H2 → H2 D = some (.lst (as.map V.ref)) → as.length = xs.length → (∀ (j : Nat) (t : Addr), as[j]? = some t → ∃ x y, xs[j]? = some x ∧ ys[j]? = some y ∧ H2 t = some (.tup [.int x, .int y])) → Q (.ref D) H2
theorem pe_listZip {a : Expr} {es : List Expr} {ta : TA} {p pz zpos pos : Pos} (hc : X.calm = true) (hg : Gl X "list") (hm : X.mg "list" = none) (hg2 : Gl X "zip") (hm2 : X.mg "zip" = none) (ha : PA X (a :: es) ta)
    (hs : starEach [.Call (.Name "zip" pz) (a :: es) [] zpos] X.env = (false, eval (.Call (.Name "zip" pz) (a :: es) [] zpos) X.env) :: starEach [] X.env := by rfl) (he : starEach (a :: es) X.env = (false, eval a X.env) :: starEach es X.env := by rfl) (hpl : (backTo zpos (starEach es X.env)).any (·.1) = false := by rfl) :
    PE X (.Call (.Name "list" p) [.Call (.Name "zip" pz) (a :: es) [] zpos] [] pos) (tLstZip X.K ta) := by
  refine ⟨fun pins s σ H Q I h => ?_⟩
  refine PyProof.Rows.Call_ (ld_blt I hg hm (u := .type "list") (by rfl) (PyProof.Rows.callWith_type1 ?_ hs rfl)) rfl
  rw [hs]
  refine Calls.spliced_cons (PyProof.Rows.Call_ (ld_blt I hg2 hm2 (u := .type "zip") (by rfl) (PyProof.Rows.callWith_type1 (thn (ha.run zpos pins s σ H _ I h) fun us s1 ⟨vs, H1, I1, r1, q1⟩ => ?_) he hpl)) rfl)
  obtain ⟨la, lb, xs, ys, rfl, hxs, hys, hll, hz, q⟩ := q1
  obtain ⟨u1, u2, rfl, r1a, r1b⟩ := vals2 r1
  obtain rfl : u1 = Value.ref la := r1a
  obtain rfl : u2 = Value.ref lb := r1b
  obtain ⟨its1, rv1, pl1, _⟩ := I1.list hxs
  obtain ⟨its2, rv2, pl2, _⟩ := I1.list hys
  have hl1 : its1.length = xs.length := by rw [← rv1.length, List.length_map]
  have hl2 : its2.length = ys.length := by rw [← rv2.length, List.length_map]
  have lt1 : la < s1.heap.objs.size := by obtain ⟨o, _, e, _⟩ := pl1; exact Heap.lt_size e
  have lt2 : lb < s1.heap.objs.size := by obtain ⟨o, _, e, _⟩ := pl2; exact Heap.lt_size e
  refine call_zip_2 pl1.isList pl2.isList fun h2 z1 z2 z3 z4 z5 z6 z7 => Calls.spliced_nil ?_
  have I2 := I1.kept (t' := s1.toks) z7
  have D : ZipApart (s1.heap.objs.size + 4) (s1.heap.objs.size + 2) (s1.heap.objs.size + 3) s1.heap.objs.size (s1.heap.objs.size + 1) la lb := zipApart lt1 lt2
  have st : ZSt h2 (s1.heap.objs.size + 4) (s1.heap.objs.size + 2) (s1.heap.objs.size + 3) s1.heap.objs.size (s1.heap.objs.size + 1) la lb its1.toArray its2.toArray 0 := ⟨fun _ => ⟨_, _, z1, z3⟩, fun e => absurd e (Nat.lt_irrefl _), z2, z4, z5, (by obtain ⟨o, q1, q2⟩ := pl1.isList; exact ⟨o, z7 _ _ q1, q2⟩), (by obtain ⟨o, q1, q2⟩ := pl2.isList; exact ⟨o, z7 _ _ q1, q2⟩)⟩
  refine call_list_zip (n := xs.length) (s := { s1 with heap := h2 }) (I2.ok.hd hc) D (by simp; omega) (Nat.le_trans (Nat.succ_le_succ hz) (by decide)) st fun h3 acc c as k1 k2 k3 => ?_
  obtain ⟨hp, p1, p2, p3⟩ := padded s1.heap 5
  have I3 := I1.kept (h' := hp) (t' := s1.toks) p2
  have hk : ∀ b ob, hp.get? b = some ob → h3.get? b = some ob := fun b ob e => by
    have e1 := p3 b ob e
    obtain ⟨n1, n2, n3, n4⟩ := lt_off (Heap.lt_size e1)
    exact k1 b ob n1 n2 n3 n4 (z7 b ob e1)
  have hsz : hp.objs.size = h2.objs.size := by rw [p1, z6]
  have hG : W.KdxG (mixKind X.prog X.w) ((xs.zip its2).map fun p => ((Sum.inl p.1 : Key), p.2)) hp.objs.size h3 as := by
    rw [hsz]
    refine ⟨k3.rise, k3.above, fun j a hj => ?_⟩
    obtain ⟨x, y, hx, hy, hpair⟩ := k3.pairs j a hj
    have hx' : its1[j]? = some x := by simpa using hx
    have hy' : its2[j]? = some y := by simpa using hy
    obtain ⟨n, hn⟩ : ∃ n, xs[j]? = some n := ⟨_, List.getElem?_eq_getElem (by have := (List.getElem?_eq_some_iff.mp hx').1; omega)⟩
    obtain ⟨u, hu, ru⟩ := rv1.get (i := j) (x := .int n) (by rw [List.getElem?_map, hn]; rfl)
    rw [hx'] at hu
    cases hu
    obtain ⟨t, rfl⟩ := ru
    refine ⟨_, .inl n, y, ?_, ?_, hpair⟩
    · rw [List.getElem?_map, (List.getElem?_zip_eq_some (z := (n, y))).mpr ⟨hn, hy'⟩]
      rfl
    · show (n == n) = true
      exact beq_self_eq_true n
  have hal : as.length = ((xs.zip its2).map fun p => ((Sum.inl p.1 : Key), p.2)).length := by
    rw [k3.len, List.length_map, List.length_zip]
    omega
  obtain ⟨H3, e1, e2, e3, e4, e5, e6, I4⟩ := LiI.items_laid (kvs := (xs.zip ys).map fun p => ((Sum.inl p.1 : Key), V.int p.2)) (tk := s1.toks) (s := { s1 with heap := hp, toks := s1.toks }) I3 (by rw [List.length_map, List.length_zip]; exact Nat.le_trans (Nat.min_le_left _ _) (Nat.le_trans hz (by decide))) (kv_zip xs ys its2 rv2) hk (by rw [show ({ s1 with heap := hp, toks := s1.toks } : Shared).heap.objs.size = h2.objs.size from hsz]; exact k2) hal hG k3.acc
  refine ⟨.ref h2.objs.size, H3, I4, rfl, q h2.objs.size as H3 e1 ?_ k3.len fun j t hj => ?_⟩
  · rw [← hsz]
    exact e5
  · obtain ⟨q', h1, h2'⟩ := paired_at e6 hj
    rw [List.getElem?_map] at h1
    cases hz' : (xs.zip ys)[j]? with
    | none => rw [hz'] at h1; cases h1
    | some p =>
      rw [hz'] at h1
      cases h1
      obtain ⟨h3', h4'⟩ := List.getElem?_zip_eq_some.mp hz'
      exact ⟨p.1, p.2, h3', h4', h2'⟩
end
end L2

set_option Elab.async false
set_option maxRecDepth 100000
set_option maxHeartbeats 4000000
namespace L2
open PySem PySem.Spec PyProof.Rows
section
variable {X : Cx} {K : PySem.W.Frag}
theorem op_in_seqK (h : X.K = K) : OpR X (compareOp .In) (rIn K false) := by
  subst h
  exact op_in_seq
theorem op_notIn_seqK (h : X.K = K) : OpR X (compareOp .NotIn) (rIn K true) := by
  subst h
  exact op_notIn_seq
theorem inV_ints (a : Int) : ∀ ns : List Int, inV (.int a) (ns.map V.int) = decide (a ∈ ns)
  | [] => rfl
  | n :: ns => by
    have ih := inV_ints a ns
    unfold inV at ih ⊢
    rw [List.map_cons, List.any_cons, ih]
    have e : eqV (.int n) (.int a) = decide (n = a) := rfl
    rw [e, Bool.eq_iff_iff]
    simp
    constructor
    · rintro (e | e)
      · exact .inl e.symm
      · exact .inr e
    · rintro (e | e)
      · exact .inl e.symm
      · exact .inr e
theorem flat_ints {ns : List Int} : (ns.map V.int).all flatV = true := by
  rw [List.all_eq_true]
  intro v hv
  obtain ⟨n, _, rfl⟩ := List.mem_map.mp hv
  rfl
end
end L2

set_option Elab.async false
set_option maxRecDepth 100000
set_option maxHeartbeats 4000000
namespace L2
open PySem PySem.Spec PyProof.Rows
section
variable {X : Cx} {K : PySem.W.Frag} {a : Expr} {ta : TE}
/-- a truth test with K named, for what stands within a comprehension -/
def tTruK (K : PySem.W.Frag) (ta : TE) : TT := fun σ H Q => ta σ H fun x H' => ∃ k, TruV K x H' k ∧ Q k H'
theorem pt_truthK (h : X.K = K) (ha : PE X a ta) (he : ∀ whole, isTrue a X.env whole = (do let v ← whole; standAt a.pos; holding [v] (truthy v))) :
    PT X a (tTruK K ta) := by
  subst h
  exact pt_truth ha he
end
end L2

set_option Elab.async false
set_option maxRecDepth 100000
set_option maxHeartbeats 4000000
/-! for over a list or a tuple, one walk for both; the body only adds to the heap -/
namespace L2
open PySem PySem.Spec PyProof.Rows
section
variable {K : PySem.W.Frag} {a : Addr} {xs : List V}
theorem for_sq {g : TG} {tb : TS} {D : Ends} {σ : St} {H : Hp} (hx : SqL K H a xs ∨ SqT K H a xs) (Pv : Nat → St → Hp → Prop) (h0 : Pv 0 σ H) (hE : ∀ i σ' H', Pv i σ' H' → Ext H H')
    (hs : ∀ i x σ' H', xs[i]? = some x → Pv i σ' H' → g x σ' H' fun σ2 H2 => tb { D with nx := Pv (i + 1), ct := Pv (i + 1), bk := D.nx } σ2 H2) (hd : ∀ σ' H', Pv xs.length σ' H' → D.nx σ' H') :
    ((∃ xs, SqL K H a xs) ∧ turnsOf g tb D σ (Itl K a) H) ∨ ((∃ xs, SqT K H a xs) ∧ turnsOf g tb D σ (Itt K a) H) := by
  have step : ∀ i x σ' H' H'', i < xs.length → Pv i σ' H' → YAt xs i H' x H'' → g x σ' H'' fun σ2 H2 => tb { D with nx := Pv (i + 1), ct := Pv (i + 1), bk := D.nx } σ2 H2 := by
    rintro i x σ' H' H'' _ pv ⟨rfl, hx'⟩
    exact hs i x σ' H'' hx' pv
  rcases hx with hx | hx
  · exact .inl ⟨⟨xs, hx⟩, for_it (walk_list (xs := xs)) Pv h0 (fun i σ' H' _ pv => hx.ext (hE i σ' H' pv)) step hd⟩
  · exact .inr ⟨⟨xs, hx⟩, for_it (walk_tup (xs := xs)) Pv h0 (fun i σ' H' _ pv => hx.ext (hE i σ' H' pv)) step hd⟩
end
end L2

set_option Elab.async false
set_option maxRecDepth 100000
set_option maxHeartbeats 4000000
/-! a tuple whose object is known: its methods may be called -/
namespace L2
open PySem PySem.Spec PyProof.Rows
def FrzT (H : Hp) (a : Addr) (ts : List V) : Prop := ∃ o, H a = some (.frz o (.tup ts)) ∧ o.dict = none
theorem FrzT.sqT {K : PySem.W.Frag} {H : Hp} {a : Addr} {ts : List V} (h : FrzT H a ts) : SqT K H a ts := by
  obtain ⟨o, h, _⟩ := h
  exact .inl (.inr ⟨o, h⟩)
theorem FrzT.ext {H H' : Hp} {a : Addr} {ts : List V} (h : FrzT H a ts) (e : Ext H H') : FrzT H' a ts := by
  obtain ⟨o, h, d⟩ := h
  exact ⟨o, e _ _ h, d⟩
def rTupFrz (K : PySem.W.Frag) : List V → Hp → VK → Prop := fun xs H Q => ∃ p ys, xs = [.ref p] ∧ SqL K H p ys ∧ ∀ l o, H l = none → o.dict = none → Q (.ref l) (upd H l (.frz o (.tup ys)))
section
variable {X : Cx}
theorem call_tuple_frz : CallR X (.type "tuple") (rTupFrz X.K) := by
  intro pins s σ H xs us Q I r h
  obtain ⟨p, ys, rfl, hq, q⟩ := h
  obtain ⟨u, rfl, rx⟩ := vals1 r
  cases rx
  obtain ⟨its, r', pl, hz⟩ := I.list hq
  have hlen := r'.length
  refine call_tuple_list pl.isList (fun h' kp => ?_) (by simp only [List.size_toArray] <;> omega)
  have I1 : Inv X pins σ H { s with heap := h' } := I.kept (t' := s.toks) kp
  have I2 : Inv X pins σ (upd H h'.objs.size (.frz { cls := .type "tuple", data := .seq its.toArray } (.tup ys))) { s with heap := h'.push { cls := .type "tuple", data := .seq its.toArray } } :=
    I1.laid (t' := s.toks) (fun b o e => Heap.get?_push_of_some _ e) (Nat.le_refl _) (show ObjOk X.prog X.w _ _ _ (.frz _ (.tup ys)) from ⟨Heap.get?_push_size _ rfl, hz, its, r', IsTup.new _ _⟩)
  exact ⟨.ref h'.objs.size, _, I2, rfl, q _ _ (I1.hok.fresh (Nat.le_refl _)) rfl⟩
def tTM (r : V → List V → Hp → VK → Prop) (to : TE) (t : TA) : TE := fun σ H Q => to σ H fun x H1 => ∃ a ts, x = .ref a ∧ FrzT H1 a ts ∧ t σ H1 fun xs H2 => r x xs H2 Q
variable {o e : Expr} {es : List Expr} {to : TE} {t : TA} {name : Str} {apos cpos : Pos} {id : String} {r : V → List V → Hp → VK → Prop}
theorem pe_tm (slot : Slot "tuple" name id) (hty : typeOf (.builtin id) = pure (.type "method_descriptor")) (hm : MtR X id r) (ho : PE X o to) (ha : PA X (e :: es) t)
    (hbase : attributeBase o name X.env (eval o X.env) = eval o X.env := by rfl)
    (hfew : ((backTo cpos (starEach (e :: es) X.env)).all (fun x => !x.1) && (backToKw cpos (keywordEach [] X.env)).all (fun x => x.1.isSome)
      && decide ((e :: es).length + ([] : List Keyword).length + (if ([] : List Keyword).isEmpty then 0 else 1) < 30)) = true := by rfl)
    (hline : (apos.endLine == cpos.line) = true := by rfl) (hs : starEach (e :: es) X.env = (false, eval e X.env) :: starEach es X.env := by rfl) (hplain : (backTo cpos (starEach es X.env)).any (·.1) = false := by rfl) :
    PE X (.Call (.Attribute o name apos) (e :: es) [] cpos) (tTM r to t) := by
  refine ⟨fun pins s σ H Q I h => ?_⟩
  refine wpAny_Call_method_late hbase hfew hline rfl (thn (ho.run pins s σ H _ I h) fun v s1 ⟨x, H1, I1, r1, a, ts, ex, hf, q1⟩ => ?_)
  subst ex
  obtain ⟨ob, hf, hd⟩ := hf
  obtain ⟨h0, _, its, _, ⟨ob', h0', hc, _⟩⟩ := I1.hok a _ hf
  rw [h0] at h0'
  cases h0'
  cases (show v = Value.ref a from r1)
  refine ⟨"tuple", id, PySem.F.plainAttrs_tuple, slot, hty, ⟨ob, h0, hc⟩, fun b eb => by cases eb; exact ⟨ob, h0, hd⟩, ?_⟩
  have hA := ha.run cpos pins s1 σ H1 _ I1 q1
  rw [hs] at hA ⊢
  refine Calls.callWith_builtin (by show (false || (backTo cpos (starEach es X.env)).any (·.1)) = false; rw [hplain] <;> rfl) (Calls.evalArgs_plain ?_)
  exact thn hA fun us s2 ⟨vs, H2, I2, r2, q2⟩ => hm pins s2 σ H2 (.ref a) vs (.ref a) us Q I2 rfl r2 q2
end
theorem sl_listK {X : Cx} {K : PySem.W.Frag} (h : X.K = K) : SlR X (rSlL K) := by
  subst h
  exact sl_list
section
variable {K : PySem.W.Frag} {a : Addr} {xs : List V}
/-- for over a list or a tuple that the body leaves, though it writes elsewhere -/
theorem for_sqM {g : TG} {tb : TS} {D : Ends} {σ : St} {H0 H : Hp} (hx : SqL K H0 a xs ∨ SqT K H0 a xs) (Pv : Nat → St → Hp → Prop) (h0 : Pv 0 σ H) (hE : ∀ i σ' H', Pv i σ' H' → Ext H0 H')
    (hs : ∀ i x σ' H', xs[i]? = some x → Pv i σ' H' → g x σ' H' fun σ2 H2 => tb { D with nx := Pv (i + 1), ct := Pv (i + 1), bk := D.nx } σ2 H2) (hd : ∀ σ' H', Pv xs.length σ' H' → D.nx σ' H') :
    ((∃ xs, SqL K H a xs) ∧ turnsOf g tb D σ (Itl K a) H) ∨ ((∃ xs, SqT K H a xs) ∧ turnsOf g tb D σ (Itt K a) H) := by
  have step : ∀ i x σ' H' H'', i < xs.length → Pv i σ' H' → YAt xs i H' x H'' → g x σ' H'' fun σ2 H2 => tb { D with nx := Pv (i + 1), ct := Pv (i + 1), bk := D.nx } σ2 H2 := by
    rintro i x σ' H' H'' _ pv ⟨rfl, hx'⟩
    exact hs i x σ' H'' hx' pv
  have e0 := hE 0 _ _ h0
  rcases hx with hx | hx
  · exact .inl ⟨⟨xs, hx.ext e0⟩, for_it (walk_list (xs := xs)) Pv h0 (fun i σ' H' _ pv => hx.ext (hE i σ' H' pv)) step hd⟩
  · exact .inr ⟨⟨xs, hx.ext e0⟩, for_it (walk_tup (xs := xs)) Pv h0 (fun i σ' H' _ pv => hx.ext (hE i σ' H' pv)) step hd⟩
/-- for i, x in enumerate(e), the body leaving e, though it writes elsewhere -/
theorem for_enSqM {g : TG} {tb : TS} {D : Ends} {σ : St} {H0 H : Hp} (hx : SqL K H0 a xs ∨ SqT K H0 a xs) (Pv : Nat → St → Hp → Prop) (h0 : Pv 0 σ H) (hE : ∀ i σ' H', Pv i σ' H' → Ext H0 H')
    (hs : ∀ i x σ' H' T, xs[i]? = some x → Pv i σ' H' → H' T = none → g (.ref T) σ' (upd H' T (.tup [.int (i : Nat), x])) fun σ2 H2 => tb { D with nx := Pv (i + 1), ct := Pv (i + 1), bk := D.nx } σ2 H2) (hd : ∀ σ' H', Pv xs.length σ' H' → D.nx σ' H') :
    ((∃ xs, SqL K H a xs) ∧ turnsOf g tb D σ (Ite K a) H) ∨ ((∃ xs, SqT K H a xs) ∧ turnsOf g tb D σ (Itet K a) H) := by
  have step : ∀ i x σ' H' H'', i < xs.length → Pv i σ' H' → YPair (fun i => some (V.int (i : Nat))) (fun i => xs[i]?) i H' x H'' → g x σ' H'' fun σ2 H2 => tb { D with nx := Pv (i + 1), ct := Pv (i + 1), bk := D.nx } σ2 H2 := by
    rintro i v σ' H' H'' hi pv ⟨T, x, y, rfl, hT, rfl, hx', hy⟩
    cases hx'
    exact hs i y σ' H' T hy pv hT
  have e0 := hE 0 _ _ h0
  rcases hx with hx | hx
  · exact .inl ⟨⟨xs, hx.ext e0⟩, for_it (walk_enum (xs := xs)) Pv h0 (fun i σ' H' _ pv => hx.ext (hE i σ' H' pv)) step hd⟩
  · exact .inr ⟨⟨xs, hx.ext e0⟩, for_it (walk_enT (xs := xs)) Pv h0 (fun i σ' H' _ pv => hx.ext (hE i σ' H' pv)) step hd⟩
end
end L2

set_option Elab.async false
set_option maxRecDepth 100000
set_option maxHeartbeats 4000000
/-! data beside instances within a tuple -/
namespace L2
open PySem PySem.Spec PyProof.Rows
section
variable {X : Cx}
variable {n : Nat}
/-- two things of data -/
def DDat (K : PySem.W.Frag) : EqvB := fun x y H k => ∃ a b d e, x = .ref a ∧ y = .ref b ∧ (a = b → k = true) ∧ Dp K H x d ∧ Dp K H y e ∧ SeqAt.shaped d = true ∧ SeqAt.shaped e = true ∧ k = PyData.eqv d e
theorem rcB_dat : RcB X n (DDat X.K) := by
  intro A pins s σ H x y u v k sb I rx ry d
  obtain ⟨a, b, d, e, rfl, rfl, _, hd, he, sd, se, rfl⟩ := d
  obtain ⟨as, r1⟩ := Dp.reads I d _ u hd rx
  obtain ⟨bs, r2⟩ := Dp.reads I e _ v he ry
  exact SeqAt.compareEq_shaped r1 r2 sd se sb.room.units ⟨rfl, H, I, Ext.rfl'⟩
theorem eqB_dat : EqB X n (DDat X.K) := rcB_dat.eqB fun x y H k d => by
  obtain ⟨a, b, _, _, h1, h2, h3, _⟩ := d
  exact ⟨a, b, h1, h2, h3⟩
theorem EqB.or {D D' : EqvB} (h : EqB X n D) (h' : EqB X n D') : EqB X n (fun x y H k => D x y H k ∨ D' x y H k) := by
  intro A pins s σ H x y u v k sb I rx ry d
  exact d.elim (fun d => h A pins s σ H x y u v k sb I rx ry d) (fun d => h' A pins s σ H x y u v k sb I rx ry d)
theorem MonB.or {D D' : EqvB} (h : MonB D) (h' : MonB D') : MonB (fun x y H k => D x y H k ∨ D' x y H k) := fun x y H H' k e d => d.imp (h x y H H' k e) (h' x y H H' k e)
theorem mon_dat {K : PySem.W.Frag} : MonB (DDat K) := fun x y H H' k e d => by
  obtain ⟨a, b, d, f, h1, h2, h3, hd, he, h4⟩ := d
  exact ⟨a, b, d, f, h1, h2, h3, dp_ext e _ _ hd, dp_ext e _ _ he, h4⟩
end
end L2

set_option Elab.async false
set_option maxRecDepth 100000
set_option maxHeartbeats 4000000
/-! not in, of an own __contains__ -/
namespace L2
open PySem PySem.Spec PyProof.Rows
section
variable {X : Cx} {CX : CXT} {k : Nat} {f C : Addr} {fd : FuncData} {ps : List Str} {sp : Sp}
def rNinO (C : Addr) (sp : Sp) : R2 := fun x y H Q => ∃ a dx fs, y = .ref a ∧ H a = some (.ins C dx fs) ∧ sp [y, x] H (fun v H' => ∃ b, v = .bl b ∧ Q (.bl (!b)) H') E0
theorem op_ninO (F : FnOk X.prog X.w X.K X.mg X.base CX k f fd ps sp) (hs : PySem.W.findIn X.K (.ref C) "__contains__" = some (some (.ref f))) (hf : PySem.W.isFn X.K (.ref f) = true) (hr : Room k X.A) (hb : Binds X.K fd ps []) (hx : Passes CX X E0) : OpR X (compareOp .NotIn) (rNinO C sp) := by
  intro pins s g J x y v u Q I rx ry hq
  obtain ⟨a, dx, fs, rfl, ha, q⟩ := hq
  cases (show u = Value.ref a from ry)
  obtain ⟨mA, O, _⟩ := ins_get I.hok ha
  obtain ⟨od, O, _⟩ := O.look
  show wpAny (model X.prog X.w) X.A (contains (.ref a) v >>= fun b => pure (.bool (!b))) (EP X pins g Q) X.xe s
  refine wpAny_bind (PySem.W.contains_fn I.kIn O hs hf (wpAny_mono (run_at (vs := [.ref a, x]) F hr rfl hb hx I (.cons rfl (.cons rx .nil)) q) (fun r s' z => ?_) fun _ _ e => e))
  obtain ⟨w', J', I', rv, b, rfl, q'⟩ := z
  cases rv
  exact ⟨b, rfl, wpAny_pure ⟨.bl (!b), J', I', rfl, q'⟩⟩
theorem ninO {m : Nat} (O : OwnM X.prog X.w X.K X.mg X.base CX C "__contains__" m ps sp) (hr : Room m X.A) (hx : Passes CX X E0) : OpR X (compareOp .NotIn) (rNinO C sp) := by
  obtain ⟨f, fd, F, M, hi, hb⟩ := O.ex
  exact op_ninO F M.at_ hi hr hb hx
end
end L2

set_option Elab.async false
set_option maxRecDepth 100000
set_option maxHeartbeats 4000000
/-! xs.count(y), over data -/
namespace L2
open PySem PySem.Spec PyProof.Rows
section
variable {X : Cx}
def rCntD (K : PySem.W.Frag) : V → List V → Hp → VK → Prop := fun x xs H Q => ∃ (a : Addr) (y : V) (d : PyData) (ds : List PyData), x = V.ref a ∧ xs = [y] ∧ Dp K H (V.ref a) (.list ds) ∧ Dp K H y d ∧ PyData.plainAll ds = true ∧ d.plain = true ∧ PyData.depthAll ds ≤ 60 ∧ Q (.int ((ds.countP fun z => PyData.eqv z d : Nat) : Int)) H
theorem mt_countD (hu : X.A.units + 64 < cLine) : MtR X "list.count" (rCntD X.K) := by
  intro pins s σ H x xs v us Q I rx rxs h
  obtain ⟨a, y, d, ds, rfl, rfl, hl, hy, sl, sd, hdp, q⟩ := h
  cases rx
  obtain ⟨u, rfl, ru⟩ := rxs.one
  obtain ⟨bs, r1⟩ := Dp.reads I d y u hy ru
  cases hl with
  | lst hs ha =>
    obtain ⟨its, rv, pl, _⟩ := I.list hs
    obtain ⟨as, h4⟩ := Dp.readsAll I ds _ its ha rv
    exact SeqAt.count_list_data pl.isList (by simpa using h4) r1 sl sd (by have := Nat.min_le_left (PyData.depthAll ds) d.depth; omega) ⟨.int _, H, I.tok _, ⟨_, rfl⟩, q⟩
end
end L2

set_option Elab.async false
set_option linter.all false
set_option maxRecDepth 100000
set_option maxHeartbeats 4000000
/-! a generator's for and if -/
namespace L2
open PySem PySem.Spec PyProof.Rows GenW
section
variable {M : Model} {A : Around} {R : GenEnd} {Y : Protocol} {n : Nat} {s₀ s : Shared} {c : Code} {fs : List Frame} {env : Env} {K : Flow → Sem PySem.Fin} {J : Value → Sem PySem.Fin} {gd : Bool → Bool} {lv : List Value → List Value}
/-- the row that an error leaves in a loop's code -/
abbrev marked (env : Env) (e : Value) : Sem PySem.Fin := (do noteFrame e env; theTreesLotGoes e : Sem Unit).bind fun _ => .raise e
/-- what a loop's body goes on to -/
abbrev onward (l : Code) : Flow → Sem PySem.Fin := fun f => match f with
  | .next | .cont => .pure (.again l)
  | .brk => .pure (.done .next)
  | .ret v => .pure (.done (.ret v))
theorem gseg_if {test : Expr} {body orelse : List Stmt} {pos : Pos}
    (h : wpAny M (A.over c fs) (isTrue test env (eval test env)) (fun b s' => Seg M A R Y n s₀ c ((if b = true then execs body env else execs orelse env).wrap K J gd lv) fs s') (fun x s' => Seg M A R Y n s₀ c (J x) fs s') s) :
    Seg M A R Y n s₀ c ((exec (.If test body orelse pos) env).wrap K J gd lv) fs s := by
  rw [exec_If]
  refine seg_bind_wrap (wpAny_standAt ?_)
  refine seg_bind_wrap (wpAny_mono h (fun b s' hb => ?_) fun _ _ hx => hx)
  cases b <;> exact hb
theorem gseg_for {tg iter : Expr} {body : List Stmt} {pos : Pos} (hs : ∀ x, foldedSetIterable iter env x = pure x)
    (h : wpAny M (A.over c fs) (eval iter env) (fun v s1 => wpAny M (A.over c fs) (pyIter v) (fun it s2 => ∀ p, Seg M A R Y n s₀ (.forLoop tg it body [] env) (M.den (.forLoop tg it body [] env))
      (.ret (fun r => ((match r with | .ok f => (.pure f : Sem Flow) | .error e => .raise e).onRaise (cameBack env)).wrap K J gd lv) none (gd false) (lv []) c p [] :: fs) s2) (fun x s' => Seg M A R Y n s₀ c (J x) fs s') s1) (fun x s' => Seg M A R Y n s₀ c (J x) fs s') s) :
    Seg M A R Y n s₀ c ((exec (.For tg iter body [] pos) env).wrap K J gd lv) fs s := by
  rw [exec_For]
  refine seg_bind_wrap (wpAny_standAt ?_)
  refine seg_bind_wrap (wpAny_mono h (fun v s1 h1 => ?_) fun _ _ hx => hx)
  refine seg_bind_wrap (wpAny_of_eq (hs v) ?_)
  refine seg_bind_wrap (wpAny_standAt ?_)
  refine seg_bind_wrap (wpAny_holding (wpAny_mono h1 (fun it s2 h2 => ?_) fun _ _ hx => hx))
  exact seg_call h2
end
section
variable {prog : Program} {w : World} {A : Around} {R : GenEnd} {Y : Protocol} {n : Nat} {s₀ s : Shared} {fs : List Frame} {env : Env}
theorem gseg_turn {tg : Expr} {it : Value} {body : List Stmt}
    (h : wpAny (model prog w) (A.over (.forLoop tg it body [] env) fs) (pyNext it) (fun r s1 => match r with
      | none => Seg (model prog w) A R Y n s₀ (.forLoop tg it body [] env) (.pure (.again (.block [] env))) fs s1
      | some v => wpAny (model prog w) (A.over (.forLoop tg it body [] env) fs) (letOwnedTupleGo tg it v) (fun _ s2 => wpAny (model prog w) (A.over (.forLoop tg it body [] env) fs) (assign tg env v) (fun _ s3 =>
          Seg (model prog w) A R Y n s₀ (.forLoop tg it body [] env) ((execs body env).wrap (onward (.forLoop tg it body [] env)) (marked env) id id) fs s3)
          (fun x s' => Seg (model prog w) A R Y n s₀ (.forLoop tg it body [] env) (marked env x) fs s') s2) (fun x s' => Seg (model prog w) A R Y n s₀ (.forLoop tg it body [] env) (marked env x) fs s') s1)
      (fun x s' => Seg (model prog w) A R Y n s₀ (.forLoop tg it body [] env) (marked env x) fs s') s) :
    Seg (model prog w) A R Y n s₀ (.forLoop tg it body [] env) ((model prog w).den (.forLoop tg it body [] env)) fs s := by
  show Seg _ A R Y n s₀ _ ((forTurn tg it body [] env).onRaise (fun x => do noteFrame x env; theTreesLotGoes x)) fs s
  unfold forTurn
  rw [Sem.onRaise_eq_wrap]
  refine seg_bind_wrap (wpAny_standAt ?_)
  refine seg_bind_wrap (wpAny_onRaise (wpAny_mono h (fun r s1 h1 => ?_) fun _ _ hx => wpAny_standAt hx))
  cases r with
  | none => exact h1
  | some v =>
    refine seg_bind_wrap (wpAny_mono h1 (fun _ s2 h2 => ?_) fun _ _ hx => hx)
    refine seg_bind_wrap (wpAny_mono h2 (fun _ s3 h3 => ?_) fun _ _ hx => hx)
    rw [Sem.bind_eq_wrap', Sem.wrap_wrap]
    rw [Sem.wrap_congr (execs body env) _ _ (K' := onward (.forLoop tg it body [] env)) (H' := marked env) (fun f => by cases f <;> rfl) (fun _ => by rfl)]
    exact h3
end
section
variable {X : Cx} {pos : Pos}
def tGIf (c : TT) (t u : TGn) : TGn := fun D ys σ H => c σ H fun b H1 => if b = true then t D ys σ H1 else u D ys σ H1
theorem gs_if {test : Expr} {body orelse : List Stmt} {tc : TT} {t u : TGn} (hc : PT X test tc) (hb : GSs X body t) (ho : GSs X orelse u) : GS X (.If test body orelse pos) (tGIf tc t u) := by
  refine ⟨fun A S ip R n ys s₀ c fs K J gd lv s σ H D g hn k hI ht => ?_⟩
  refine gseg_if ?_
  rw [g.over]
  obtain ⟨acc, cc, r, I⟩ := hI
  refine wpAny_mono (hc.run _ s σ H _ I ht) (fun b s' hb' => ?_) fun x s' hx => k.exc n s₀ x s' hx
  obtain ⟨H2, I2, q2⟩ := hb'
  cases b with
  | true => exact hb.run A S ip R n ys s₀ c fs K J gd lv s' σ H2 D g hn k ⟨acc, cc, r, I2⟩ q2
  | false => exact ho.run A S ip R n ys s₀ c fs K J gd lv s' σ H2 D g hn k ⟨acc, cc, r, I2⟩ q2
/-- W: what holds at turn i (a measure; what is out; the slots; the heap) -/
def tGFor (wi : TI) (g : TG) (tb : TGn) : TGn := fun D ys σ H => wi σ H fun J H1 => ∃ W : Nat → Nat → List V → St → Hp → Prop, (∃ m, W 0 m ys σ H1) ∧ ∀ i m ys σ H, W i m ys σ H →
  (J.stop i H ∧ D.nx ys σ H) ∨ (J.go i H ∧ ∃ N : List V → St → Hp → Prop, (∀ ys' σ' H', N ys' σ' H' → ∃ m', m' < m ∧ W (i + 1) m' ys' σ' H') ∧ ∀ x H', J.yld i H x H' → g x σ H' fun σ2 H2 => tb { D with nx := N, ct := N, bk := D.nx } ys σ2 H2)
theorem gs_for {tg iter : Expr} {body : List Stmt} {wi : TI} {g : TG} {tb : TGn} (hp : PassesOwn (model X.prog X.w) X.A X.env X.xe) (hc : X.calm = true) (hi : PI X tg iter wi) (hg : PG X tg g) (hb : GSs X body tb)
    (hs : ∀ x, foldedSetIterable iter X.env x = pure x := by intro _; rfl) : GS X (.For tg iter body [] pos) (tGFor wi g tb) := by
  refine ⟨fun A S ip R n ys s₀ c fs K J gd lv s σ H D g0 hn k hI ht => ?_⟩
  refine gseg_for hs ?_
  obtain ⟨acc, cc, r, I⟩ := hI
  rw [g0.over]
  refine wpAny_mono (hi.run _ s σ H _ I ht) (fun v s1 h1 => wpAny_mono h1 (fun itv s2 h2 p => ?_) fun x s' hx => k.exc n s₀ x s' hx) fun x s' hx => k.exc n s₀ x s' hx
  obtain ⟨it, fp, tn, Jt, H2, e, I2, T, st2, f2, W, ⟨m0, w0⟩, turn⟩ := h2
  subst e
  have notS : ∀ b ∈ fp, b ≠ S := fun b hb z => (f2 b hb).2.2.2.2.2 (S, lstObj acc cc) (List.mem_append_right _ List.mem_cons_self) z.symm
  have stat : ∀ {H' : Hp} {acc' : Array Value} {cc' : Nat}, (∀ b ∈ fp, H' b = none) → ∀ b ∈ fp, FpOk X ((S, lstObj acc' cc') :: ip) H' b := fun {H' acc' cc'} hn b hb => by
    obtain ⟨_, f1, f3, f4, f5, f6⟩ := f2 b hb
    refine ⟨hn b hb, f1, f3, f4, f5, fun q hq => ?_⟩
    rcases List.mem_append.mp hq with z | z
    · exact f6 q (List.mem_append_left _ z)
    · rcases List.mem_cons.mp z with z | z
      · rw [z]
        exact f6 (S, lstObj acc cc) (List.mem_append_right _ List.mem_cons_self)
      · exact f6 q (List.mem_append_right _ (List.mem_cons_of_mem _ z))
  have gl := fun (kk : Result → Sem PySem.Fin) => gc_loop (k := kk) (c' := .forLoop tg (.ref it) body [] X.env) (l := lv []) (kp := []) (p := p) g0 rfl rfl
  have gb := fun (kk : Result → Sem PySem.Fin) => gc_loop (k := kk) (c' := .block [] X.env) (l := lv []) (kp := []) (p := p) g0 rfl rfl
  have loop : ∀ (m n i : Nat) (ys : List V) (s₀ s : Shared) (σ : St) (H : Hp), n + ys.length = sizeLine → W i m ys σ H → tn i s.heap → (∀ b ∈ fp, H b = none) → GI X S ip ys σ H s →
      Seg (model X.prog X.w) A R (GY X S) n s₀ (.forLoop tg (.ref it) body [] X.env) ((model X.prog X.w).den (.forLoop tg (.ref it) body [] X.env))
        (.ret (fun r => ((match r with | .ok f => (.pure f : Sem Flow) | .error e => .raise e).onRaise (cameBack X.env)).wrap K J gd lv) none (gd false) (lv []) c p [] :: fs) s := by
    intro m
    induction m using Nat.strongRecOn with
    | ind m ih =>
      intro n i ys s₀ s3 σ3 H3 hn w3 st3 fr3 hI3
      have ee : ∀ (n : Nat) (s₀ : Shared) (x : Value) (s' : Shared), X.xe x s' → Seg (model X.prog X.w) A R (GY X S) n s₀ (.forLoop tg (.ref it) body [] X.env) (marked X.env x)
          (.ret (fun r => ((match r with | .ok f => (.pure f : Sem Flow) | .error e => .raise e).onRaise (cameBack X.env)).wrap K J gd lv) none (gd false) (lv []) c p [] :: fs) s' := fun n s₀ x s' hx => by
        unfold marked
        rw [Sem.bind_eq_wrap]
        refine seg_wrap ?_
        rw [(gl _).over]
        refine wpAny_bind (wpAny_mono (hp x s' hx) (fun _ s'' hcb => wpAny_theTreesLotGoes ?_) fun y s'' hcb => ?_)
        · exact seg_leaf (.error x) (seg_cameBack g0 k hcb)
        · exact seg_leaf (.error y) (seg_cameBack g0 k hcb)
      obtain ⟨acc3, cc3, r3, I3⟩ := hI3
      refine gseg_turn ?_
      rw [(gl _).over]
      rcases turn i m ys σ3 H3 w3 with ⟨stop, qn⟩ | ⟨go, N, hN, step⟩
      · refine wpAny_mono (T.done X rfl rfl rfl hc i _ s3 σ3 H3 X.xe I3 (stat fr3) st3 stop) (fun r s4 hr => ?_) fun x s' hx => ee n s₀ x s' hx
        obtain ⟨rfl, I4⟩ := hr
        refine seg_again rfl ?_
        show Seg _ A R _ n s₀ _ (((execs [] X.env).onRaise (fun x => do noteFrame x X.env; theTreesLotGoes x)) >>= fun f => (.pure (.done f) : Sem PySem.Fin)) _ s4
        exact seg_leaf (.ok .next) (k.ok n ys s₀ s4 .next hn ⟨σ3, H3, ⟨acc3, cc3, r3, I4⟩, qn⟩)
      · refine wpAny_mono (T.item X rfl rfl rfl hc i _ s3 σ3 H3 X.xe I3 (stat fr3) st3 go) (fun r s4 hr => ?_) fun x s' hx => ee n s₀ x s' hx
        obtain ⟨u, rfl, h4⟩ := hr
        refine wpAny_mono h4 (fun _ s5 h5 => ?_) fun x s' hx => ee n s₀ x s' hx
        obtain ⟨x, H5, I5, r5, y5, st5, fr5⟩ := h5
        have I5' := I5.pinned (stat fr5) (T.obj _ _ st5)
        refine wpAny_mono (hg.run _ s5 σ3 H5 x u _ I5' r5 (step x H5 y5)) (fun _ s6 h6 => ?_) fun x s' hx => ee n s₀ x s' hx
        obtain ⟨σ6, H6, I6, q6⟩ := h6
        have g1 := gl (fun r => ((match r with | .ok f => (.pure f : Sem Flow) | .error e => .raise e).onRaise (cameBack X.env)).wrap K J gd lv)
        have gl' : GC X S (ip ++ pinsAt fp s5.heap) A (.forLoop tg (.ref it) body [] X.env) (.ret (fun r => ((match r with | .ok f => (.pure f : Sem Flow) | .error e => .raise e).onRaise (cameBack X.env)).wrap K J gd lv) none (gd false) (lv []) c p [] :: fs) id :=
          ⟨g1.pn, fun q hq => (List.mem_append.mp hq).elim (g1.ip q) fun z => notS q.1 (of_pinsAt z).1, g1.apart, g1.over, g1.split, g1.guard, rfl⟩
        refine hb.run A S (ip ++ pinsAt fp s5.heap) R n ys s₀ _ _ _ _ id id s6 σ6 H6 { D with nx := N, ct := N, bk := D.nx } gl' hn ⟨fun n' ys' s₀' s7 f hn' hs => ?_, fun n' s₀' x s7 hx => ee n' s₀' x s7 hx⟩ ⟨acc3, cc3, r3, I6⟩ q6
        have back : ∀ {σ7 : St} {H7 : Hp}, GI X S (ip ++ pinsAt fp s5.heap) ys' σ7 H7 s7 → GI X S ip ys' σ7 H7 s7 ∧ tn (i + 1) s7.heap ∧ ∀ b ∈ fp, H7 b = none := fun {σ7 H7} h7 => by
          obtain ⟨acc7, cc7, r7, I7⟩ := h7
          have pin : ∀ b ∈ fp, ∀ o, s5.heap.get? b = some o → s7.heap.get? b = some o ∧ H7 b = none := fun b hb o e => by
            obtain ⟨e1, e2, _⟩ := I7.pin (b, o) (List.mem_append_right _ (List.mem_cons_of_mem _ (List.mem_append_right _ (mem_pinsAt hb e))))
            exact ⟨e1, e2⟩
          refine ⟨⟨acc7, cc7, r7, Inv.unpinned (pins := (S, lstObj acc7 cc7) :: ip) (pl := pinsAt fp s5.heap) I7⟩, T.keep _ _ _ st5 fun b hb o e => (pin b hb o e).1, fun b hb => ?_⟩
          obtain ⟨o, e, _⟩ := T.obj _ _ st5 b hb
          exact (pin b hb o e).2
        cases f with
        | next =>
          obtain ⟨σ7, H7, G7, n7⟩ := hs
          obtain ⟨m', hm, w7⟩ := hN ys' σ7 H7 n7
          obtain ⟨G8, st8, fr8⟩ := back G7
          exact seg_again rfl (ih m' hm n' (i + 1) ys' s₀' s7 σ7 H7 hn' w7 st8 fr8 G8)
        | cont =>
          obtain ⟨σ7, H7, G7, n7⟩ := hs
          obtain ⟨m', hm, w7⟩ := hN ys' σ7 H7 n7
          obtain ⟨G8, st8, fr8⟩ := back G7
          exact seg_again rfl (ih m' hm n' (i + 1) ys' s₀' s7 σ7 H7 hn' w7 st8 fr8 G8)
        | brk =>
          obtain ⟨σ7, H7, G7, n7⟩ := hs
          exact seg_leaf (.ok .next) (k.ok n' ys' s₀' s7 .next hn' ⟨σ7, H7, (back G7).1, n7⟩)
        | ret v =>
          obtain ⟨x7, σ7, H7, G7, r7, n7⟩ := hs
          exact seg_leaf (.ok (.ret v)) (k.ok n' ys' s₀' s7 (.ret v) hn' ⟨x7, σ7, H7, (back G7).1, r7, n7⟩)
  exact loop m0 n 0 ys s₀ s2 σ H2 hn w0 st2 (fun b hb => (f2 b hb).1) ⟨acc, cc, r, I2⟩
end
end L2

set_option Elab.async false
set_option linter.all false
set_option maxRecDepth 100000
set_option maxHeartbeats 4000000
/-! max(xs, default=d), min(xs, default=d), ints -/
namespace L2
open PySem PySem.Spec PyProof.Rows
def mxD (d : Int) : List Int → Int
  | [] => d
  | n :: ns => ns.foldl max n
def mnD (d : Int) : List Int → Int
  | [] => d
  | n :: ns => ns.foldl min n
theorem foldl_max (n : Int) : ∀ ns : List Int, (ns.foldl max n = n ∨ ns.foldl max n ∈ ns) ∧ n ≤ ns.foldl max n ∧ ∀ y ∈ ns, y ≤ ns.foldl max n
  | [] => ⟨.inl rfl, Int.le_refl _, fun _ h => nomatch h⟩
  | k :: ns => by
    obtain ⟨h1, h2, h3⟩ := foldl_max (max n k) ns
    rw [List.foldl_cons]
    refine ⟨?_, by omega, fun y hy => ?_⟩
    · rcases h1 with h1 | h1
      · rcases Int.le_total n k with h | h
        · exact .inr (by rw [h1, Int.max_eq_right h]; exact List.mem_cons_self)
        · exact .inl (by rw [h1, Int.max_eq_left h])
      · exact .inr (List.mem_cons_of_mem _ h1)
    · rcases List.mem_cons.mp hy with rfl | hy
      · omega
      · exact h3 y hy
theorem foldl_min (n : Int) : ∀ ns : List Int, (ns.foldl min n = n ∨ ns.foldl min n ∈ ns) ∧ ns.foldl min n ≤ n ∧ ∀ y ∈ ns, ns.foldl min n ≤ y
  | [] => ⟨.inl rfl, Int.le_refl _, fun _ h => nomatch h⟩
  | k :: ns => by
    obtain ⟨h1, h2, h3⟩ := foldl_min (min n k) ns
    rw [List.foldl_cons]
    refine ⟨?_, by omega, fun y hy => ?_⟩
    · rcases h1 with h1 | h1
      · rcases Int.le_total n k with h | h
        · exact .inl (by rw [h1, Int.min_eq_left h])
        · exact .inr (by rw [h1, Int.min_eq_right h]; exact List.mem_cons_self)
      · exact .inr (List.mem_cons_of_mem _ h1)
    · rcases List.mem_cons.mp hy with rfl | hy
      · omega
      · exact h3 y hy
theorem mxD_mem {d : Int} {ns : List Int} (h : ns ≠ []) : mxD d ns ∈ ns ∧ ∀ y ∈ ns, y ≤ mxD d ns := by
  cases ns with
  | nil => exact absurd rfl h
  | cons n ns =>
    obtain ⟨h1, h2, h3⟩ := foldl_max n ns
    refine ⟨?_, fun y hy => ?_⟩
    · rcases h1 with h1 | h1
      · exact List.mem_cons.mpr (.inl h1)
      · exact List.mem_cons_of_mem _ h1
    · rcases List.mem_cons.mp hy with rfl | hy
      · exact h2
      · exact h3 y hy
theorem mnD_mem {d : Int} {ns : List Int} (h : ns ≠ []) : mnD d ns ∈ ns ∧ ∀ y ∈ ns, mnD d ns ≤ y := by
  cases ns with
  | nil => exact absurd rfl h
  | cons n ns =>
    obtain ⟨h1, h2, h3⟩ := foldl_min n ns
    refine ⟨?_, fun y hy => ?_⟩
    · rcases h1 with h1 | h1
      · exact List.mem_cons.mpr (.inl h1)
      · exact List.mem_cons_of_mem _ h1
    · rcases List.mem_cons.mp hy with rfl | hy
      · exact h2
      · exact h3 y hy
section
variable {X : Cx}
def rMxD (K : PySem.W.Frag) (f : Int → List Int → Int) : List V → List V → Hp → VK → Prop := fun vs zs H Q => ∃ (a : Addr) (ns : List Int) (d : Int), vs = [V.ref a] ∧ zs = [.int d] ∧ SqL K H a (ns.map V.int) ∧ Q (.int (f d ns)) H
theorem ints_pd (ns : List Int) : (ns.map V.int).map pd = ns.map PyData.int := by
  rw [List.map_map]
  rfl
theorem ints_alike (ns : List Int) : PySem.W.AlikeAll (ns.map PyData.int) := by
  refine ⟨fun x hx y hy => ?_, fun x hx => ?_⟩
  · obtain ⟨a, _, rfl⟩ := List.mem_map.mp hx
    obtain ⟨b, _, rfl⟩ := List.mem_map.mp hy
    rfl
  · obtain ⟨a, _, rfl⟩ := List.mem_map.mp hx
    exact fun z => nomatch z
theorem ints_dep (ns : List Int) : PyData.depthAll (ns.map PyData.int) = 0 := by
  rw [← ints_pd]
  exact (lay_all fl_ints).2
theorem cr_maxD (hc : X.calm = true) (hu : X.A.units + 64 < cLine) : CallRK X (.builtin "max") [Str.ofString "default"] (rMxD X.K mxD) := by
  intro pins s σ H vs zs us ws Q I r rz h
  obtain ⟨a, ns, d, rfl, rfl, hs, q⟩ := h
  obtain rfl := Vals.ref1 r
  obtain ⟨w1, rfl, e1⟩ := vals1 rz
  obtain ⟨its, rv, hl, _⟩ := I.list hs
  have hd : DpAll X.K H (ns.map V.int) (ns.map PyData.int) := by rw [← ints_pd]; exact dp_all fl_ints
  obtain ⟨as, h4⟩ := Dp.readsAll I _ _ its hd rv
  refine PySem.W.max_list_default (xs := ns.map PyData.int) (I.ok.hd hc) hl.isList (by simpa using h4) (ints_alike ns) (by rw [ints_dep]; omega) (fun he h' tk hk => ?_) (fun y ys i v h' tk bs he hi hr hk => ?_)
  · have hn : ns = [] := List.map_eq_nil_iff.mp he
    subst hn
    exact ⟨.int d, H, I.kept hk, e1, q⟩
  · cases ns with
    | nil => cases he
    | cons n ns =>
      rw [List.map_cons] at he
      injection he with he1 he2
      subst he1 he2
      rw [PySem.W.maxD_ints] at hr
      cases hr
      exact ⟨.int _, H, I.kept hk, ⟨_, rfl⟩, q⟩
theorem cr_minD (hc : X.calm = true) (hu : X.A.units + 64 < cLine) : CallRK X (.builtin "min") [Str.ofString "default"] (rMxD X.K mnD) := by
  intro pins s σ H vs zs us ws Q I r rz h
  obtain ⟨a, ns, d, rfl, rfl, hs, q⟩ := h
  obtain rfl := Vals.ref1 r
  obtain ⟨w1, rfl, e1⟩ := vals1 rz
  obtain ⟨its, rv, hl, _⟩ := I.list hs
  have hd : DpAll X.K H (ns.map V.int) (ns.map PyData.int) := by rw [← ints_pd]; exact dp_all fl_ints
  obtain ⟨as, h4⟩ := Dp.readsAll I _ _ its hd rv
  refine PySem.W.min_list_default (xs := ns.map PyData.int) (I.ok.hd hc) hl.isList (by simpa using h4) (ints_alike ns) (by rw [ints_dep]; omega) (fun he h' tk hk => ?_) (fun y ys i v h' tk bs he hi hr hk => ?_)
  · have hn : ns = [] := List.map_eq_nil_iff.mp he
    subst hn
    exact ⟨.int d, H, I.kept hk, e1, q⟩
  · cases ns with
    | nil => cases he
    | cons n ns =>
      rw [List.map_cons] at he
      injection he with he1 he2
      subst he1 he2
      rw [PySem.W.minD_ints] at hr
      cases hr
      exact ⟨.int _, H, I.kept hk, ⟨_, rfl⟩, q⟩
end
end L2

set_option Elab.async false
set_option linter.all false
set_option maxRecDepth 100000
set_option maxHeartbeats 4000000
/-! a generator def of the top that keeps its promise; list(f(..)) of it -/
namespace L2
open PySem PySem.Spec PyProof.Rows GenW
section
variable {P : Program} {w : World} {K : PySem.W.Frag} {mg : Str → Option Value} {base : Heap}
structure OwnG (P : Program) (w : World) (K : PySem.W.Frag) (mg : Str → Option Value) (base : Heap) (x : Str) (k : Nat) (ps : List Str) (sp : SpG) : Prop where
  ex : ∃ (f : Addr) (fd : FuncData), GFn P w K mg base k f fd ps sp ∧ mg x = some (.ref f) ∧ PySem.W.keepIn K (.ref f) = true ∧ Binds K fd ps []
theorem DefAt.ownG {x : Str} {st : Stmt} {ps : List Str} {k : Nat} {sp : SpG} (D : DefAt K mg x st ps) (h : ∀ f fd, Fun K x x st f fd → GFn P w K mg base k f fd ps sp) : OwnG P w K mg base x k ps sp := by
  obtain ⟨f, fd, F, hm, hb⟩ := D.ex
  exact ⟨f, fd, h f fd F, hm, F.kp, hb⟩
/-- a generator def by its body -/
theorem gfn_fun {x qual : Str} {st : Stmt} {f : Addr} {fd : FuncData} {N ps : List Str} {k : Nat} {sp : SpG} (F : Fun K x qual st f fd) (S : GScope N ps (defScope st)) (len : ∀ vs H Q E, sp vs H Q E → vs.length = ps.length)
    (hbody : ∀ (cdv : Value) (A : Around) (outer : List Env) (s : Shared) (H : Hp) (vs : List V) (Q : List V → Hp → Prop) (E : XK) (pn : List (Addr × Obj)), Room k (A.deeper (envOfC qual (defScope st) s.heap.objs.size f cdv)) → sp vs H Q E →
      ∃ t, GSs (gcxOf P w K mg base N qual (defScope st) f cdv A outer s H E pn) (defBody st) t ∧ t { nx := fun ys _ H' => Q ys H', rt := fun ys v H' => v = .non ∧ Q ys H' } [] (start N vs) H) : GFn P w K mg base (k + 1) f fd ps sp := by
  obtain ⟨oc, od, kV, doc, pm, an, cdv, ct, osl, rfl, lk, hcd⟩ := F.ex
  exact gfn_of lk hcd S len fun A outer s H vs Q E pn hr hsp => hbody cdv A outer s H vs Q E pn hr hsp
end
section
variable {X : Cx} {x nm : Str} {k : Nat} {ps : List Str} {sp : SpG} {e : Expr} {es : List Expr} {t : TA} {p p2 pos pos2 : Pos}
theorem noStop0 {K : PySem.W.Frag} : NoStop K E0 := fun _ _ _ h => False.elim h
/-- list(f(e, ..)) -/
theorem pe_listOwnG (O : OwnG X.prog X.w X.K X.mg X.base x k ps sp) (hr : Room (k + 3) X.A) (ha : PA X (e :: es) t) (hmg : X.mg nm = none) (hgl : Gl X nm := by rfl) (hg : Gl X x := by rfl) (hv : bootBuiltins nm = some (.type "list") := by decide +kernel) (hnm : nm ≠ "__name__" := by decide) (hdb : (nm == ("__debug__" : Str)) = false := by decide) (hdb2 : (x == ("__debug__" : Str)) = false := by decide)
    (he : starEach (e :: es) X.env = (false, eval e X.env) :: starEach es X.env := by rfl) (hpl : (backTo pos (starEach es X.env)).any (·.1) = false := by rfl)
    (he2 : starEach [Expr.Call (.Name x p) (e :: es) [] pos] X.env = (false, eval (Expr.Call (.Name x p) (e :: es) [] pos) X.env) :: starEach [] X.env := by rfl) : PE X (.Call (.Name nm p2) [.Call (.Name x p) (e :: es) [] pos] [] pos2) (tListG (tCallG sp [] E0 t)) := by
  obtain ⟨f, fd, F, hm, hk, hb⟩ := O.ex
  exact pe_listG (pgen_call F (hr.mono (by omega)) hg hm hk hb .nil ha hdb2 he hpl) passL noStop0 hr hgl hmg hv hnm hdb he2
end
section
variable {K : PySem.W.Frag} {g : TG} {tb : TGn} {D : GEnds} {ys : List V} {σ : St} {H : Hp}
theorem gfor_range {lo : Int} {n : Nat} (Pv : Nat → List V → St → Hp → Prop) (h0 : Pv 0 ys σ H) (hs : ∀ i ys σ H, i < n → Pv i ys σ H → g (.int (lo + i)) σ H fun σ2 H2 => tb { D with nx := Pv (i + 1), ct := Pv (i + 1), bk := D.nx } ys σ2 H2) (hd : ∀ ys σ H, Pv n ys σ H → D.nx ys σ H) :
    ∃ W : Nat → Nat → List V → St → Hp → Prop, (∃ m, W 0 m ys σ H) ∧ ∀ i m ys σ H, W i m ys σ H →
      ((Itr lo n).stop i H ∧ D.nx ys σ H) ∨ ((Itr lo n).go i H ∧ ∃ N : List V → St → Hp → Prop, (∀ ys' σ' H', N ys' σ' H' → ∃ m', m' < m ∧ W (i + 1) m' ys' σ' H') ∧ ∀ x H', (Itr lo n).yld i H x H' → g x σ H' fun σ2 H2 => tb { D with nx := N, ct := N, bk := D.nx } ys σ2 H2) := by
  refine ⟨fun i m ys σ H => m = n - i ∧ i ≤ n ∧ Pv i ys σ H, ⟨n - 0, rfl, Nat.zero_le _, h0⟩, ?_⟩
  rintro i m ys σ H ⟨rfl, hi, pv⟩
  by_cases hlt : i < n
  · refine .inr ⟨hlt, Pv (i + 1), fun ys' σ' H' q => ⟨n - (i + 1), by omega, rfl, hlt, q⟩, fun x H' hy => ?_⟩
    obtain ⟨rfl, rfl⟩ := hy
    exact hs i ys σ _ hlt pv
  · have e : i = n := by omega
    subst e
    exact .inl ⟨Nat.le_refl _, hd ys σ H pv⟩
theorem gfor_list {a : Addr} {xs : List V} (Pv : Nat → List V → St → Hp → Prop) (h0 : Pv 0 ys σ H) (hl : ∀ i ys σ H, i ≤ xs.length → Pv i ys σ H → SqL K H a xs) (hs : ∀ i x ys σ H, xs[i]? = some x → Pv i ys σ H → g x σ H fun σ2 H2 => tb { D with nx := Pv (i + 1), ct := Pv (i + 1), bk := D.nx } ys σ2 H2) (hd : ∀ ys σ H, Pv xs.length ys σ H → D.nx ys σ H) :
    ∃ W : Nat → Nat → List V → St → Hp → Prop, (∃ m, W 0 m ys σ H) ∧ ∀ i m ys σ H, W i m ys σ H →
      ((Itl K a).stop i H ∧ D.nx ys σ H) ∨ ((Itl K a).go i H ∧ ∃ N : List V → St → Hp → Prop, (∀ ys' σ' H', N ys' σ' H' → ∃ m', m' < m ∧ W (i + 1) m' ys' σ' H') ∧ ∀ x H', (Itl K a).yld i H x H' → g x σ H' fun σ2 H2 => tb { D with nx := N, ct := N, bk := D.nx } ys σ2 H2) := by
  refine ⟨fun i m ys σ H => m = xs.length - i ∧ i ≤ xs.length ∧ Pv i ys σ H, ⟨xs.length - 0, rfl, Nat.zero_le _, h0⟩, ?_⟩
  rintro i m ys σ H ⟨rfl, hi, pv⟩
  have hq := hl i ys σ H hi pv
  by_cases hlt : i < xs.length
  · have hx : xs[i]? = some xs[i] := List.getElem?_eq_getElem hlt
    refine .inr ⟨⟨xs, xs[i], hq, hx⟩, Pv (i + 1), fun ys' σ' H' q => ⟨xs.length - (i + 1), by omega, rfl, hlt, q⟩, fun x H' hy => ?_⟩
    obtain ⟨rfl, hy⟩ := hy
    exact hs i x ys σ _ (hy xs hq) pv
  · have e : i = xs.length := by omega
    subst e
    exact .inl ⟨⟨xs, hq, Nat.le_refl _⟩, hd ys σ H pv⟩
theorem gfor_tup {a : Addr} {xs : List V} (Pv : Nat → List V → St → Hp → Prop) (h0 : Pv 0 ys σ H) (hl : ∀ i ys σ H, i ≤ xs.length → Pv i ys σ H → SqT K H a xs) (hs : ∀ i x ys σ H, xs[i]? = some x → Pv i ys σ H → g x σ H fun σ2 H2 => tb { D with nx := Pv (i + 1), ct := Pv (i + 1), bk := D.nx } ys σ2 H2) (hd : ∀ ys σ H, Pv xs.length ys σ H → D.nx ys σ H) :
    ∃ W : Nat → Nat → List V → St → Hp → Prop, (∃ m, W 0 m ys σ H) ∧ ∀ i m ys σ H, W i m ys σ H →
      ((Itt K a).stop i H ∧ D.nx ys σ H) ∨ ((Itt K a).go i H ∧ ∃ N : List V → St → Hp → Prop, (∀ ys' σ' H', N ys' σ' H' → ∃ m', m' < m ∧ W (i + 1) m' ys' σ' H') ∧ ∀ x H', (Itt K a).yld i H x H' → g x σ H' fun σ2 H2 => tb { D with nx := N, ct := N, bk := D.nx } ys σ2 H2) := by
  refine ⟨fun i m ys σ H => m = xs.length - i ∧ i ≤ xs.length ∧ Pv i ys σ H, ⟨xs.length - 0, rfl, Nat.zero_le _, h0⟩, ?_⟩
  rintro i m ys σ H ⟨rfl, hi, pv⟩
  have hq := hl i ys σ H hi pv
  by_cases hlt : i < xs.length
  · have hx : xs[i]? = some xs[i] := List.getElem?_eq_getElem hlt
    refine .inr ⟨⟨xs, xs[i], hq, hx⟩, Pv (i + 1), fun ys' σ' H' q => ⟨xs.length - (i + 1), by omega, rfl, hlt, q⟩, fun x H' hy => ?_⟩
    obtain ⟨rfl, hy⟩ := hy
    exact hs i x ys σ _ (hy xs hq) pv
  · have e : i = xs.length := by omega
    subst e
    exact .inl ⟨⟨xs, hq, Nat.le_refl _⟩, hd ys σ H pv⟩
end
end L2

set_option Elab.async false
set_option linter.all false
set_option maxRecDepth 100000
set_option maxHeartbeats 4000000
/-! ==, not in over data, the kit's own part named -/
namespace L2
open PySem PySem.Spec PyProof.Rows
section
variable {X : Cx} {K : PySem.W.Frag}
theorem op_eqDK (h : X.K = K) (hu : X.A.units + 64 < cLine) : OpR X (compareOp .Eq) (rEqD K) := by
  subst h
  exact op_eqD hu
theorem op_neDK (h : X.K = K) (hu : X.A.units + 64 < cLine) : OpR X (compareOp .NotEq) (rNeD K) := by
  subst h
  exact op_neD hu
theorem op_inDK (h : X.K = K) (hu : X.A.units + 65 < cLine) : OpR X (compareOp .In) (rInD K) := by
  subst h
  exact op_inD hu
theorem op_notInDK (h : X.K = K) (hu : X.A.units + 65 < cLine) : OpR X (compareOp .NotIn) (rNotInD K) := by
  subst h
  exact op_notInD hu
end
end L2

set_option Elab.async false
set_option linter.all false
/-! all, any within comprehensions: the kit's own part named -/
namespace L2
open PySem PySem.Spec PyProof.Rows
section
variable {X : Cx} {K : PySem.W.Frag}
theorem cr_allK (h : X.K = K) (hc : X.calm = true) : CallR X (.builtin "all") (rAll K) := by
  subst h
  exact cr_all hc
theorem cr_anyK (h : X.K = K) (hc : X.calm = true) : CallR X (.builtin "any") (rAny K) := by
  subst h
  exact cr_any hc
end
end L2

set_option Elab.async false
set_option linter.all false
set_option maxRecDepth 100000
set_option maxHeartbeats 4000000
/-! own errors with one field whose own base is OverflowError -/
namespace L2
open PySem PySem.Spec PyProof.Rows
open Builtin Builtin.ObjectAttr PySem.W PySem.HandSPX
/-- what stands behind the class itself -/
abbrev ofBack : List Value := [.type "OverflowError", .type "ArithmeticError", .type "Exception", .type "BaseException", .type "object"]
theorem of_calm (self : Value) (C : Addr) : refuseLoop self "__setattr__" (.ref C :: ofBack) = pure () := by
  rw [refuseLoop_ref]
  exact PySem.F.store_OverflowError.passes self
theorem of_has (Y : String) (C : Addr) : (Value.ref C :: ofBack).contains (.type Y) = ofBack.contains (.type Y) := by
  rw [List.contains_cons]
  rfl
section
variable {prog : Program} {w : World} {A : Around} {R : Result → Shared → Prop} {hp : Heap} {g : Array GenState} {d : Drawn} {t : Nat} {os : OsState}
/-- the first field of such an error -/
theorem of_first {K : Frag} {nm : Str} {tk : Tok} {val : Value} {a C : Addr} {parts : Array Value} {cd : ClassData}
    (inK : K.In hp) (at_a : hp.get? a = some { cls := .ref C, data := .fields parts }) (at_C : clsIn K C = some cd) (line : cd.mro = .ref C :: ofBack) (dct : cd.hasDict = true) (free : findIn K (.ref C) nm = some none)
    (goal : ∀ hp2 tk2 dx, (∀ b o, b ≠ a → hp.get? b = some o → hp2.get? b = some o) → hp.objs.size ≤ dx → dx ≠ a → hp2.get? a = some { cls := .ref C, dict := some dx, data := .fields parts } →
      hp2.Ns1 dx (fun y => if y = nm then some val else none) → R (.ok (.ret .none)) ⟨hp2, g, d, tk2, os⟩) :
    codeAny (model prog w) A (.call (.builtin "object.__setattr__") ⟨[.ref a, .str nm tk, val], []⟩) R ⟨hp, g, d, t, os⟩ := by
  have here : InstAt hp a { cls := .ref C, data := .fields parts } C none := ⟨at_a, rfl, rfl, trivial⟩
  have facts := F.store_object
  have full : cd.mro.isEmpty = false := by rw [line]; rfl
  have top : cd.mro.contains (.type "object") = true := by rw [line, of_has]; decide +kernel
  have off : a ≠ hp.objs.size := Nat.ne_of_lt (Heap.lt_size at_a)
  have isObj : Looks (model prog w) hp (isInstance (.ref a) (.type "object")) true :=
    here.type.andThen (looks_mroIn inK (by unfold mroIn; rw [at_C, Option.bind_some, if_neg (by rw [full]; decide), top]))
  refine codeAny_call_builtin facts.slot.plain facts.entry
    (@check_slot (model prog w) _ _ ⟨hp, g, d, t, os⟩ "object.__setattr__" "object" "__setattr__" (.ref a) [.str nm tk, val] [] _ facts.kind facts.split isObj (facts.args (.ref a) (.str nm tk) val) ?_)
  have mroL : Looks (model prog w) hp (mroOf (.ref C)) cd.mro := (looks_clsIn inK at_C).andThen .now
  have taker : Looks (model prog w) hp (storeTaker? none) none := .now
  have data : Looks (model prog w) hp (classData C) cd := looks_clsIn inK at_C
  rw [osa_eq, refuse_eq]
  refine wpAny_bind (wpAny_bind (here.type.at (wpAny_bind (mroL.at ?_))))
  rw [line, of_calm]
  refine wpAny_pure (wpAny_bind (here.type.at (wpAny_bind ((looks_findIn inK free).at (wpAny_bind (taker.at ?_))))))
  show wpAny _ _ (storeInOwnDict (.ref a) (.ref C) (.str nm tk) nm val false) _ _ _
  obtain ⟨c1, c2, c3, c4, c5, c6, c7, c8, c9, c10, c11⟩ := cd
  dsimp only at dct
  subst dct
  unfold storeInOwnDict ownDictForStores
  repeat (first | with_reducible refine store_in_new ?_ ?_ | with_reducible refine wpAny_loadPart_at at_a ?_ | with_reducible refine data.at ?_ | wp_step)
  · exact ⟨_, #[], _, (Heap.get?_update_ne _ _ _ _ off.symm).trans (Heap.get?_push_at rfl rfl), rfl, fun e he => absurd he (by simp), fun _ => rfl⟩
  · intro hp2 tk2 ns2 same
    have at_a2 : (hp.push { cls := .type "dict", data := .dict #[] }).get? a = some { cls := .ref C, data := .fields parts } := Heap.get?_push_of_some _ at_a
    refine goal hp2 tk2 hp.objs.size (fun b o hb ho => ?_) (Nat.le_refl _) off.symm ?_ ns2
    · exact (same.2 b (Nat.ne_of_lt (Heap.lt_size ho))).trans ((Heap.get?_update_ne _ _ _ _ hb).trans (Heap.get?_push_of_some _ ho))
    · exact (same.2 a off).trans (Heap.get?_update_self _ at_a2 rfl)
end
/-- what the top has of such a class -/
structure OofC (K : PySem.W.Frag) (C : Addr) : Prop where
  cls : ∃ nm q N bs sn sub ab col dd k0 k1 k2 k3 k5, K.lookup C = some (excClassObj nm q C N bs ofBack true sn sub ab col dd k0 k1 k2 k3 k5 "OverflowError.__new__")
  sa : findIn K (.ref C) "__setattr__" = some (some (.builtin "object.__setattr__"))
  exC : subIn K (.ref C) (.type "BaseException") = some true
  tyC : typeIn K (.ref C) = some (.type "type")
  kC : keepIn K (.ref C) = true
section
variable {X : Cx} {pins : List (Addr × Obj)} {σ : St} {H : Hp} {s : Shared} {a C : Addr} {f : Str} {y : V} {u : Value} {Q : Unit → Shared → Prop} {E : Value → Shared → Prop} {A : Around}
theorem of_store (T : OofC X.K C) (I : Inv X pins σ H s) (e : H a = some (exo a C none)) (free : findIn X.K (.ref C) f = some none) (ry : RelV y u)
    (goal : ∀ dx s', H dx = none → dx ≠ a → Inv X pins σ (upd (upd H dx (exd dx [(f, y)])) a (exo a C (some dx))) s' → Q () s') : wpAny (model X.prog X.w) A (setAttr (.ref a) f u) Q E s := by
  obtain ⟨nm, q, N, bs, sn, sub, ab, col, dd, k0, k1, k2, k3, k5, at_C⟩ := T.cls
  have data : clsIn X.K C = some { name := nm, bases := bs, mro := .ref C :: ofBack, ns := N, qualname := q, hasDict := true, slotNames := sn, subclasses := sub, abstract := ab, collection := col, hasDel := false } := by
    unfold clsIn
    rw [at_C] <;> rfl
  obtain ⟨t1, ho⟩ := exo_at I.hok e
  obtain ⟨hp, g, d, t, os⟩ := s
  refine set_plain I.kIn (ox := { cls := .ref C, dict := none, data := .fields #[.ref t1, .none, .none, .none, .bool false, .none] }) (od := none) ⟨ho, rfl, rfl, trivial⟩ T.sa ?_
  refine of_first I.kIn ho data rfl rfl free fun hp2 tk2 dx k far ne at_a ns2 => ?_
  have none_dx : H dx = none := I.hok.fresh far
  have old : ∀ {b : Addr} {o : Obj}, hp.get? b = some o → b ≠ dx := fun {b o} z => Nat.ne_of_lt (Nat.lt_of_lt_of_le (Heap.lt_size z) far)
  have other : ∀ {b : Addr}, H b = none → b ≠ a := fun {b} z w => by
    rw [w, e] at z
    cases z
  have U : Un X.fs [] H (upd (upd H dx (exd dx [(f, y)])) a (exo a C (some dx))) hp hp2 :=
    ⟨fun b o z n _ _ => k b o (other n) z, fun b o z n _ _ => ⟨o.slots, k b o (other n) z⟩, fun b o z n _ => by rw [upd_ne (other n), upd_ne (old z)]; exact n,
      fun b o z _ => by
        by_cases hb : b = a
        · rw [hb]
          exact ⟨_, at_a⟩
        · exact ⟨o, k b o hb z⟩,
      fun b xs z => by rw [upd_ne (at_ne e z exo_tup), upd_ne (ne_of_none z none_dx)]; exact z,
      fun b o v z => by rw [upd_ne (at_ne e z exo_frz), upd_ne (ne_of_none z none_dx)]; exact z,
      fun b ps z => ⟨#[], by rw [upd_ne (at_ne e z exo_tbl), upd_ne (ne_of_none z none_dx), z]; simp⟩⟩
  refine goal dx _ none_dx ne (I.un (t' := tk2) U fun b o z => ?_)
  by_cases hb : b = a
  · subst hb
    rw [upd_same] at z
    cases z
    exact exo_ok at_a
  · rw [upd_ne hb] at z
    by_cases hd : b = dx
    · subst hd
      rw [upd_same] at z
      cases z
      exact exd_ok ns2 (relO_put (fs := []) ry fun _ => True.intro)
    · rw [upd_ne hd] at z
      refine (I.hok b o z).stay (fun c v hc w => k c v ?_ w) (fun c hc => ?_) fun c xs hc => ?_
      · rcases hc with hc | hc
        · rw [hc]
          exact hb
        · exact at_ne e hc exo_own
      · rw [upd_ne (at_ne e hc exo_own), upd_ne (ne_of_none hc none_dx)]
        exact hc
      · rw [upd_ne (at_ne e hc exo_tup), upd_ne (ne_of_none hc none_dx)]
        exact hc
end
/-- self.f = e, the one field -/
def tOstO (K : PySem.W.Frag) (f : Str) (to te : TE) : TS := fun D σ H => te σ H fun y H1 => to σ H1 fun x H2 => ∃ a C : Addr, x = .ref a ∧ OofC K C ∧ findIn K (.ref C) f = some none ∧
  H2 a = some (exo a C none) ∧ ∀ dx, H2 dx = none → dx ≠ a → D.nx σ (upd (upd H2 dx (exd dx [(f, y)])) a (exo a C (some dx)))
section
variable {X : Cx} {o e : Expr} {es : List Expr} {to te : TE} {ta : TA} {f : Str} {p p' pos : Pos}
theorem ps_ostO (ho : PE X o to) (he : PE X e te) (hs : swapsWith e (some (.Attribute o f p')) pos.line X.env = pure false := by rfl) : PS X (.Assign [.Attribute o f p'] e pos) (tOstO X.K f to te) := by
  refine ⟨fun pins s σ H D I h => ?_⟩
  refine plainObj_wpAny_Assign_Attribute (thn (he.run pins s σ H _ I h) fun v s1 ⟨y, H1, I1, r1, q1⟩ => thn (ho.run pins s1 σ H1 _ I1 q1) fun u s2 ⟨x, H2, I2, r2, a, C, ex, T, free, ea, q⟩ => ?_) hs
  subst ex
  obtain rfl : u = Value.ref a := r2
  exact of_store T I2 ea free r1 fun dx s' n ne J => ⟨σ, _, J, q dx n ne⟩
/-- C(e, ..) of such a class -/
theorem pmk_oof {CX : CXT} {x : Str} {C fI : Addr} {k : Nat} {fd : FuncData} {ps : List Str} {sp : Sp} {ds : List Value} {dvs : List V} (T : OofC X.K C) (hasI : findIn X.K (.ref C) "__init__" = some (some (.ref fI))) (isF : typeIn X.K (.ref fI) = some (.type "function"))
    (G : FnOk X.prog X.w X.K X.mg X.base CX k fI fd ps sp) (room : Room (k + 1) X.A) (bind : Binds X.K fd ps ds) (dflt : Vals dvs ds) (pass : Passes CX X (fun _ _ _ => False)) (hg : Gl X x) (hm : X.mg x = some (.ref C)) (ha : PA X (e :: es) ta)
    (hdb : (x == ("__debug__" : Str)) = false := by decide) (he : starEach (e :: es) X.env = (false, eval e X.env) :: starEach es X.env := by rfl) (hpl : (backTo pos (starEach es X.env)).any (·.1) = false := by rfl) :
    PMk X (.Call (.Name x p) (e :: es) [] pos) (tMkO C sp dvs ta) := by
  intro pins s σ H Q I h
  obtain ⟨nm, q, N, bs, sn, sub, ab, col, dd, k0, k1, k2, k3, k5, at_C⟩ := T.cls
  refine wpAny_Call_Name_kw (ld_glob I hg hm ?_ hdb)
  refine callWith_K (h₀ := X.base) I.ok.mod.kin T.kC (thn (ha.run pos pins s σ H _ I h) fun us s1 ⟨vs, H1, I1, r1, hz, q1⟩ => ⟨I1.kIn, ?_⟩) he hpl
  show wpAny _ _ (call (.ref C) us) _ _ _
  obtain ⟨hp, g, dr, tk, os⟩ := s1
  have up1 : hp.objs.size ≤ hp.objs.size + 1 := Nat.le_succ _
  have free1 : H1 (hp.objs.size + 1) = none := I1.hok.fresh up1
  have want := q1 (hp.objs.size + 1) free1
  have kk : ∀ b o, hp.get? b = some o → ((hp.push (kdv_tup us)).push (excO C hp.objs.size)).get? b = some o := fun b o z => Heap.get?_push_of_some _ (Heap.get?_push_of_some _ z)
  have there : ((hp.push (kdv_tup us)).push (excO C hp.objs.size)).get? (hp.objs.size + 1) = some (excO C hp.objs.size) := by heap_get
  have I2 : Inv X pins σ (upd H1 (hp.objs.size + 1) (exo (hp.objs.size + 1) C none)) ⟨(hp.push (kdv_tup us)).push (excO C hp.objs.size), g, dr, tk, os⟩ :=
    I1.laid (t' := tk) (a := hp.objs.size + 1) (o := exo (hp.objs.size + 1) C none) (h' := (hp.push (kdv_tup us)).push (excO C hp.objs.size)) kk up1 (exo_ok there)
  have r2 : Vals (V.ref (hp.objs.size + 1) :: (vs ++ dvs)) (Value.ref (hp.objs.size + 1) :: (us ++ ds)) := .cons rfl (r1.append dflt)
  have many : (Value.ref (hp.objs.size + 1) :: us ++ ds).length = ps.length := by
    have z := r2.length
    rw [G.len _ _ _ _ want] at z
    exact z.symm
  have small : us.length ≤ sizeLine := by
    rw [← Paired.length r1, sizeLine_eq]
    omega
  refine wpAny_call (call_own F.excBase_OverflowError (fun Y => rfl) (I1.kIn _ _ at_C) (looks_findIn I1.kIn hasI) (fun self => bind_fn I1.kIn self isF) small
    (codeAny_mono (G.run _ X.stack _ _ ⟨Value.ref (hp.objs.size + 1) :: us, []⟩ (Value.ref (hp.objs.size + 1) :: (us ++ ds)) _ _ (fun _ _ _ => False) (room.make C us []) (I2.env0.make C us []) (bind _ (Value.ref (hp.objs.size + 1) :: us) I2.kIn many) r2 want) fun r s' hq' => ?_))
  cases r with
  | error er => exact pass pins σ _ _ er s' I2 hq'
  | ok fl =>
    cases fl with
    | ret u =>
      obtain ⟨v, H2, os2, bare2, un2, hok2, rv, ev, dd, fs, ea, ed, hd1, q2⟩ := hq'
      subst ev
      obtain ⟨h2, g2, d2, t2, os'⟩ := s'
      exact ⟨rv, mk_end (raises_own T.exC T.tyC) I1 up1 kk un2 hok2 os2 bare2 ea ed hd1 q2⟩
    | next => exact False.elim hq'
    | brk => exact False.elim hq'
    | cont => exact False.elim hq'
end
/-- all that is asked of the class x of such errors at C, whose field is f -/
structure OCls (P : Program) (w : World) (K : PySem.W.Frag) (mg : Str → Option Value) (base : Heap) (x f : Str) (C : Addr) : Prop where
  ox : OofC K C
  gC : mg x = some (.ref C)
  noA : findIn K (.ref C) f = some none
  ec : ExcC K C
  ini : ∃ (fI : Addr) (fd : FuncData), findIn K (.ref C) "__init__" = some (some (.ref fI)) ∧ typeIn K (.ref fI) = some (.type "function") ∧ FnOk P w K mg base CX0 1 fI fd ["self", f] (spXI C f) ∧ Binds K fd ["self", f] []
theorem OCls.xf {P : Program} {w : World} {K : PySem.W.Frag} {mg : Str → Option Value} {base : Heap} {x f : Str} {C : Addr} (T : OCls P w K mg base x f C) : XfC K C := ⟨T.ec.hg, T.ec.hk, T.ec.hs, T.ec.hd⟩
theorem pmk_O {X : Cx} {C : Addr} {x f : Str} {e : Expr} {te : TE} {p pos : Pos} (T : OCls X.prog X.w X.K X.mg X.base x f C) (room : Room 2 X.A) (he : PE X e te) (hg : Gl X x) (hdb : (x == ("__debug__" : Str)) = false := by decide)
    (hs : starEach [e] X.env = (false, eval e X.env) :: starEach [] X.env := by rfl) (hpl : (backTo pos (starEach [] X.env)).any (·.1) = false := by rfl) :
    PMk X (.Call (.Name x p) [e] [] pos) (tMkO C (spXI C f) [] (tCons te tNil)) := by
  obtain ⟨fI, fd, i1, i2, G, b⟩ := T.ini
  exact pmk_oof (dvs := []) (ds := []) T.ox i1 i2 G room b .nil pass0 hg T.gC (pa_cons he pa_nil hs) hdb hs hpl
/-- what the top has written of it -/
structure XOt (K : PySem.W.Frag) (mg : Str → Option Value) (x f : Str) (C : Addr) (st : Stmt) (qual : Str) : Prop where
  ox : OofC K C
  gC : mg x = some (.ref C)
  noA : findIn K (.ref C) f = some none
  ec : ExcC K C
  tI : ∃ fI, findIn K (.ref C) "__init__" = some (some (.ref fI)) ∧ typeIn K (.ref fI) = some (.type "function") ∧ ∃ fd, Fun K "__init__" qual st fI fd ∧ Binds K fd ["self", f] []
theorem XOt.cls {P : Program} {w : World} {K : PySem.W.Frag} {mg : Str → Option Value} {base : Heap} {x f : Str} {C : Addr} {st : Stmt} {qual : Str} (T : XOt K mg x f C st qual) (h : ∀ fI fd, Fun K "__init__" qual st fI fd → FnOk P w K mg base CX0 1 fI fd ["self", f] (spXI C f)) :
    OCls P w K mg base x f C := by
  obtain ⟨fI, i1, i2, fd, G, b⟩ := T.tI
  exact ⟨T.ox, T.gC, T.noA, T.ec, fI, fd, i1, i2, h fI fd G, b⟩
end L2

set_option Elab.async false
set_option linter.all false
set_option maxRecDepth 100000
/-! the bookkeeping of a walk over a list, whatever a turn's reading is -/
namespace L2
open PySem PySem.Spec PyProof.Rows
theorem steps_list {K : PySem.W.Frag} {a : Addr} {xs : List V} {H0 : Hp} {Qd : Hp → Prop} {step : V → Hp → (Hp → Prop) → Prop} (Pv : Nat → Hp → Prop) (h0 : Pv 0 H0) (hl : ∀ i H, i ≤ xs.length → Pv i H → SqL K H a xs)
    (hs : ∀ i x H, xs[i]? = some x → Pv i H → step x H (Pv (i + 1))) (hd : ∀ H, Pv xs.length H → Qd H) :
    ∃ W : Nat → Nat → Hp → Prop, (∃ m, W 0 m H0) ∧ ∀ i m H, W i m H →
      ((Itl K a).stop i H ∧ Qd H) ∨ ((Itl K a).go i H ∧ ∃ N : Hp → Prop, (∀ H', N H' → ∃ m', m' < m ∧ W (i + 1) m' H') ∧ ∀ x H', (Itl K a).yld i H x H' → step x H' N) := by
  refine ⟨fun i m H => m + i = xs.length ∧ Pv i H, ⟨xs.length, rfl, h0⟩, ?_⟩
  rintro i m H ⟨hm, pv⟩
  have q := hl i H (by omega) pv
  rcases Nat.lt_or_ge i xs.length with h | h
  · have hx : xs[i]? = some xs[i] := List.getElem?_eq_getElem h
    refine .inr ⟨⟨xs, xs[i], q, hx⟩, Pv (i + 1), fun H' pv' => ⟨m - 1, by omega, by omega, pv'⟩, fun x H' y => ?_⟩
    obtain ⟨y1, y2⟩ := y
    subst y1
    exact hs i x _ (y2 xs q) pv
  · obtain rfl : i = xs.length := by omega
    exact .inl ⟨⟨xs, q, Nat.le_refl _⟩, hd H pv⟩
def rLenK (K : PySem.W.Frag) : List V → Hp → VK → Prop := fun xs H Q => ∃ p ys, xs = [.ref p] ∧ (SqL K H p ys ∨ SqT K H p ys) ∧ Q (.int ys.length) H
theorem call_len_seqK {X : Cx} {K : PySem.W.Frag} (h : X.K = K) : CallR X (.builtin "len") (rLenK K) := by
  subst h
  exact call_len_seq
end L2

set_option Elab.async false
set_option linter.all false
set_option maxRecDepth 100000
set_option maxHeartbeats 4000000
/-! list(f(..)) of a generator def that may raise, in a try -/
namespace L2
open PySem PySem.Spec PyProof.Rows GenW
def tListGS (tg : XK → TGen) (E : St → XK) : TE := fun σ H Q => tg (E σ) σ H fun out H2 => ∀ p, H2 p = none → Q (.ref p) (upd H2 p (.lst out))
section
variable {X : Cx} {k : Nat} {p p2 pos pos2 : Pos} {e : Expr} {x nm : Str} {es : List Expr}
theorem pe_listGS {tg : XK → TGen} {E : St → XK} (made : ∀ E, PGen X k e (tg E) E) (pass : ∀ σ, PassesAt (CX X.prog X.w) X σ (E σ)) (nostop : ∀ σ, NoStop X.K (E σ)) (room : Room (k + 3) X.A) (hg : Gl X nm) (hmg : X.mg nm = none) (hv : bootBuiltins nm = some (.type "list"))
    (hnm : nm ≠ "__name__" := by decide) (hdb : (nm == ("__debug__" : Str)) = false := by decide) (he : starEach [e] X.env = (false, eval e X.env) :: starEach [] X.env := by rfl) : PE X (.Call (.Name nm p) [e] [] pos) (tListGS tg E) := by
  refine ⟨fun pins st σ H Q I want => ?_⟩
  refine wpAny_Call_Name_kw (ld_blt I hg hmg hv ?_ hnm hdb)
  refine PyProof.Rows.callWith_type1 ?_ he rfl
  rw [he]
  show wpAny _ _ (spliced ((false, eval e X.env) :: backTo pos (starEach [] X.env))) _ _ st
  refine Calls.spliced_cons (thn ((made (E σ)).run pins st σ H _ I want) fun u st1 ⟨H1, sc, ex, I1, exOk, gen⟩ => ?_)
  refine Calls.spliced_nil ?_
  have grown : sc.heap.objs.size ≤ st1.heap.objs.size := by
    obtain ⟨a, g, c, _, g1, g2, _⟩ := gen
    exact Nat.le_trans g1 (Nat.le_of_lt g2)
  refine call_list_new room I1.ok.frames gen (fun S st2 acc c H' ys a0 a1 a2 a3 a4 a5 a6 a7 a8 a9 => ?_) fun er st2 g left => ?_
  · exact ⟨.ref S, upd H' S (.lst ys), I1.drained (Nat.le_trans grown a0) a3 a1 a2 exOk a4 a5 a6 a7 a8, rfl, a9 S a8⟩
  · have kin : X.K.In st2.heap := by
      obtain ⟨a, B, H', cls, d, _, fl, _, ub, _⟩ := id left
      refine I1.ok.mod.kin.keeps fun b o eb => fl.1 b o (ub.keep b o (I1.bs b o eb).1 (I1.bs b o eb).2 fun hm => ?_)
      rcases List.mem_cons.mp (I1.stkSub b hm) with z | z
      · have z1 := Heap.lt_size eb
        have z2 := Nat.le_trans I1.ok.bsz I1.ok.above
        rw [z] at z1
        exact absurd (Nat.lt_of_lt_of_le z1 z2) (Nat.lt_irrefl _)
      · exact I1.ok.nofr eb z
    refine ⟨notStop_of (nostop σ) kin left, pass σ pins H1 sc er _ I1 ?_⟩
    obtain ⟨a, B, H', cls, d, z1, fl, z2, ub, z3, z4, z5, z6⟩ := left
    exact ⟨a, B, H', cls, d, z1, fl, z2, ub, z3, z4, allBare_setGen z5 rfl, z6⟩
/-- what is wished for, of errors that are no StopIteration -/
def noStopW (K : PySem.W.Frag) (W : WX) : WX := fun cls d σ H => PySem.W.subIn K cls (.type "StopIteration") = some false ∧ W cls d σ H
theorem pe_listOwnGS {ps : List Str} {sp : SpG} {t : TA} {W : WX} (O : OwnG X.prog X.w X.K X.mg X.base x k ps sp) (room : Room (k + 3) X.A) (tk : Takes X W) (ha : PA X (e :: es) t) (hmg : X.mg nm = none) (hgl : Gl X nm := by rfl) (hg : Gl X x := by rfl) (hv : bootBuiltins nm = some (.type "list") := by decide +kernel)
    (hnm : nm ≠ "__name__" := by decide) (hdb : (nm == ("__debug__" : Str)) = false := by decide) (hdb2 : (x == ("__debug__" : Str)) = false := by decide)
    (he : starEach (e :: es) X.env = (false, eval e X.env) :: starEach es X.env := by rfl) (hpl : (backTo pos (starEach es X.env)).any (·.1) = false := by rfl)
    (he2 : starEach [Expr.Call (.Name x p) (e :: es) [] pos] X.env = (false, eval (Expr.Call (.Name x p) (e :: es) [] pos) X.env) :: starEach [] X.env := by rfl) :
    PE X (.Call (.Name nm p2) [.Call (.Name x p) (e :: es) [] pos] [] pos2) (tListGS (fun E => tCallG sp [] E t) (WE (noStopW X.K W))) := by
  obtain ⟨f, fd, F, hm, hk, hb⟩ := O.ex
  exact pe_listGS (fun E => pgen_call (E := E) F (room.mono (by omega)) hg hm hk hb .nil ha hdb2 he hpl) (fun σ => passAt (tk.imp fun _ _ _ _ h => h.2) σ) (fun σ cls d H h => h.1) room hgl hmg hv hnm hdb he2
theorem pe_listOwnGSK {K : PySem.W.Frag} {ps : List Str} {sp : SpG} {t : TA} {W : WX} (hK : X.K = K) (O : OwnG X.prog X.w X.K X.mg X.base x k ps sp) (room : Room (k + 3) X.A) (tk : Takes X W) (ha : PA X (e :: es) t) (hmg : X.mg nm = none) (hgl : Gl X nm := by rfl) (hg : Gl X x := by rfl) (hv : bootBuiltins nm = some (.type "list") := by decide +kernel)
    (hnm : nm ≠ "__name__" := by decide) (hdb : (nm == ("__debug__" : Str)) = false := by decide) (hdb2 : (x == ("__debug__" : Str)) = false := by decide)
    (he : starEach (e :: es) X.env = (false, eval e X.env) :: starEach es X.env := by rfl) (hpl : (backTo pos (starEach es X.env)).any (·.1) = false := by rfl)
    (he2 : starEach [Expr.Call (.Name x p) (e :: es) [] pos] X.env = (false, eval (Expr.Call (.Name x p) (e :: es) [] pos) X.env) :: starEach [] X.env := by rfl) :
    PE X (.Call (.Name nm p2) [.Call (.Name x p) (e :: es) [] pos] [] pos2) (tListGS (fun E => tCallG sp [] E t) (WE (noStopW K W))) := by
  subst hK
  exact pe_listOwnGS O room tk ha hmg hgl hg hv hnm hdb hdb2 he hpl he2
end
section
variable {X : Cx} {K : PySem.W.Frag}
theorem op_ltTK (h : X.K = K) (hu : X.A.units < cLine) : OpR X (compareOp .Lt) (rLtT K) := by
  subst h
  exact op_ltT hu
end
end L2

set_option Elab.async false
set_option linter.all false
set_option maxRecDepth 100000
set_option maxHeartbeats 4000000
/-! set(list of ints) as a value; a tuple read backwards -/
namespace L2
open PySem PySem.Spec PyProof.Rows
section
variable {P : Program} {w : World} {A : Around} {E : Value → Shared → Prop} {s : Shared}
/-- the object that set(..) begins with -/
abbrev bareSet (w : World) : Obj := { cls := .type "set", dict := none, data := .set #[] 0 (.fresh 0 0 (!w.params.followText "set-order")) }
theorem set_of_list {l : Addr} {items : Array Value} (ns : List Int) {Q : Value → Shared → Prop} (calm : A.handled = none) (isL : s.heap.IsList l items) (areI : IntsAre items.toList ns) (few : ns.length + 1 < scanBound)
    (goal : ∀ (hp : Heap) (tk c : Nat), SetR w hp s.heap.objs.size (fun j => decide (j ∈ ns)) c → c ≤ ns.length → (∀ b o, s.heap.get? b = some o → hp.get? b = some o) → Q (.ref s.heap.objs.size) { s with heap := hp, toks := tk }) :
    wpAny (model P w) A (call (.type "set") [.ref l]) Q E s := by
  have same : items.size = ns.length := by
    have z := IntsAre.length areI
    rw [Array.length_toList] at z
    exact z
  obtain ⟨c, tl, mroS⟩ := F.called_set.mro
  have madeS := F.called_set.made
  have subS := F.called_set.sub
  refine wpAny_call (codeAny_of_tree ?_)
  show wpAny _ _ (callAny (.type "set") _) _ _ _
  refine wpAny_pure ⟨Code.quiet_builtin _ (by decide +kernel), codeAny_builtin F.entry_type_call ?_⟩
  rw [Around.under_plain (weight_type_call_type "set" [.ref l] []) rfl]
  have noT := F.called_set.notType
  have canC := F.called_set.canCreate
  have tcs := F.typeCall_set_1 (.ref l)
  repeat (any_goals (first | assumption | wp_step))
  refine codeAny_mono (code_set_led1 (.ref l) (E := E) (Q₁ := fun v st => v = .ref s.heap.objs.size ∧ st = { s with heap := s.heap.push (bareSet w) }) ⟨rfl, rfl⟩) fun r st back => ?_
  cases r with
  | error e => exact back
  | ok fl =>
    cases fl with
    | next => exact back.elim
    | brk => exact back.elim
    | cont => exact back.elim
    | ret v =>
      obtain ⟨rfl, rfl⟩ := back
      have atS : (s.heap.push (bareSet w)).get? s.heap.objs.size = some (bareSet w) := Heap.get?_push_size _ rfl
      have tyS : Shared.TypeIs { s with heap := s.heap.push (bareSet w) } (.ref s.heap.objs.size) "set" := ⟨_, atS, rfl⟩
      have iniL := F.called_set.init.lookup
      have iniB := F.called_set.init.bind (.ref s.heap.objs.size)
      repeat (any_goals (first | assumption | wp_step))
      refine codeAny_mono (codeAny_call_builtin (R := wants (fun r st2 => r = .none ∧ ∃ hp tk c, st2 = { s with heap := hp, toks := tk } ∧ SetR w hp s.heap.objs.size (fun j => decide (j ∈ ns)) c ∧ c ≤ ns.length ∧
        (∀ b o, s.heap.get? b = some o → hp.get? b = some o)) E) F.called_set.init.plain F.entry_set_init (check_set_init_1 tyS ?_)) fun r2 st2 back2 => ?_
      · obtain ⟨ol, atL, clL, nl, daL⟩ := isL
        obtain ⟨o1, o2, o3, o4⟩ := ol
        simp only at clL daL
        subst clL; subst daL
        have atL2 : (s.heap.push (bareSet w)).get? l = some { cls := .type "list", dict := o2, data := .seq items nl, slots := o4 } := Heap.get?_push_of_some _ atL
        have sub1 := F.sub_list_set
        have sub2 := F.sub_list_frozenset
        have ne1 : (Value.type "list" == Value.type "dict") = false := by decide
        have isL2 : (s.heap.push (bareSet w)).IsList l items := ⟨_, atL2, rfl, nl, rfl⟩
        unfold Builtin.«set.__init__» noKeywords Builtin.Frozenset.updateFrom
        generalize hold : pyIter = PI
        wp_walk
        subst hold
        refine wpAny_pyIter_list isL2 ?_
        refine wpAny_bind (wpAny_runValue ?_)
        have below : l < s.heap.objs.size := Heap.lt_size atL
        have calm3 : A.in1.in1.in1.handled = none := by simp [calm]
        have apart : l ≠ (s.heap.push (bareSet w)).objs.size := by
          rw [Heap.size_push]
          exact Nat.ne_of_lt (Nat.lt_succ_of_lt below)
        have outside : s.heap.objs.size ∉ [(s.heap.push (bareSet w)).objs.size, l] := by
          rw [Heap.size_push]
          simp only [List.mem_cons, List.mem_singleton, List.not_mem_nil, or_false, not_or]
          exact ⟨Nat.ne_of_lt (Nat.lt_succ_self _), Nat.ne_of_gt below⟩
        have each : ∀ (i : Nat) (v : Value), items[i]? = some v → ∃ k t, ns[i]? = some k ∧ v = .int k t := fun i v hv => by
          have hi : i < ns.length := by rw [← same]; exact (Array.getElem?_eq_some_iff.mp hv).1
          obtain ⟨t, e⟩ := PyProof.Rows.IntsAre.int_at areI i v (by rw [Array.getElem?_toList]; exact hv)
          refine ⟨ns[i], t, List.getElem?_eq_getElem hi, ?_⟩
          rw [e, List.getD_eq_getElem?_getD, List.getElem?_eq_getElem hi] <;> rfl
        refine set_update_ints ((Walks.list calm3 _ l apart items).toS) s.heap.objs.size outside ns same few each (items.size - 0) 0 _ (by omega) (Nat.zero_le _) ⟨⟨_, Heap.get?_push_size _ rfl, rfl, rfl⟩, (isL2.push _)⟩ ?begin ?done
        case begin => exact ⟨0, Nat.le_refl 0, setR_new_at (Heap.get?_push_of_some _ atS)⟩
        case done =>
          intro st3 c3 mv lec isS
          obtain ⟨hp, g3, d3, tk, os3⟩ := st3
          have eg : g3 = s.gens := mv.gens
          have ed : d3 = s.drawn := mv.drawn
          have eo : os3 = s.os := mv.os
          subst eg; subst ed; subst eo
          show wpAny _ _ _ _ _ _
          refine wpAny_pure ?_
          show wpAny _ _ (ret Value.none) _ _ _
          rw [same] at lec
          refine wpAny_pure ⟨rfl, hp, tk, c3, rfl, isS, lec, fun b o e => ?_⟩
          have b0 : b < s.heap.objs.size := Heap.lt_size e
          have b2 : b ≠ (s.heap.push (bareSet w)).objs.size := by
            rw [Heap.size_push]
            exact Nat.ne_of_lt (Nat.lt_succ_of_lt b0)
          exact mv.heap b o (by simp only [List.mem_cons, List.mem_singleton, List.not_mem_nil, or_false, not_or]; exact ⟨Nat.ne_of_lt b0, b2⟩) (Heap.get?_push_of_some _ (Heap.get?_push_of_some _ e))
      · cases r2 with
        | error e => exact back2
        | ok fl2 =>
          cases fl2 with
          | next => exact back2.elim
          | brk => exact back2.elim
          | cont => exact back2.elim
          | ret r =>
            obtain ⟨rfl, hp, tk, c3, rfl, isS, lec, keep⟩ := back2
            repeat (any_goals (first | assumption | wp_step))
            exact goal _ _ _ isS lec keep
end
def rSetLI (K : PySem.W.Frag) (w : World) : List V → Hp → VK → Prop := fun xs H Q => ∃ (l : Addr) (ns : List Int), xs = [.ref l] ∧ SqL K H l (ns.map V.int) ∧ ns.length ≤ 60 ∧ ∀ p c, H p = none → c ≤ ns.length → Q (.ref p) (upd H p (SetO w p (fun j => decide (j ∈ ns)) c))
theorem cr_setLI {X : Cx} (hc : X.calm = true) : CallR X (.type "set") (rSetLI X.K X.w) := by
  intro pins s σ H xs us Q I r h
  obtain ⟨l, ns, rfl, hq, small, q⟩ := h
  obtain ⟨u, rfl, rx⟩ := vals1 r
  cases rx
  obtain ⟨its, r2, pl, _⟩ := I.list hq
  refine set_of_list ns (I.ok.hd hc) pl.isList (by simpa using intsAre_of r2) (by unfold scanBound; omega) fun hp tk c isS lec keep => ?_
  exact ⟨.ref s.heap.objs.size, _, I.laid (t' := tk) keep (Nat.le_refl _) (setO_new isS), rfl, q _ c (I.hok.fresh (Nat.le_refl _)) lec⟩
end L2

set_option Elab.async false
set_option linter.all false
set_option maxRecDepth 100000
set_option maxHeartbeats 4000000
namespace L2
open PySem PySem.Spec PyProof.Rows
theorem back_places (n : Nat) : Builtin.Slice.slicePlaces ((n : Int) - 1) (-1) (-1) = n := by
  unfold Builtin.Slice.slicePlaces
  rw [if_neg (by omega)]
  by_cases h : ((n : Int) - 1) > -1
  · rw [if_pos h]
    have : ((n : Int) - 1 - -1 - 1) / (- -1) + 1 = (n : Int) := by
      rw [Int.neg_neg, Int.ediv_one]
      omega
    rw [this]
    exact Int.toNat_natCast n
  · rw [if_neg h]
    have : n = 0 := by omega
    rw [this]
    rfl
theorem back_pick (xs : Array Value) : ((List.range xs.size).filterMap fun (m : Nat) => xs[(((xs.size : Int) - 1) + (m : Int) * (-1)).toNat]?).toArray = xs.toList.reverse.toArray := by
  congr 1
  refine List.ext_getElem? fun i => ?_
  have hall : ∀ k, k ≤ xs.size → (List.range k).filterMap (fun (m : Nat) => xs[(((xs.size : Int) - 1) + (m : Int) * (-1)).toNat]?) = xs.toList.reverse.take k := fun k => by
    induction k with
    | zero => intro _; rfl
    | succ k ih =>
      intro hk
      rw [List.range_succ, List.filterMap_append, ih (by omega), List.take_add_one]
      congr 1
      have hi : (((xs.size : Int) - 1) + (k : Int) * (-1)).toNat = xs.size - 1 - k := by omega
      have hlt : xs.size - 1 - k < xs.size := by omega
      have hr : xs.toList.reverse[k]? = some xs[xs.size - 1 - k] := by
        rw [List.getElem?_reverse (by rw [Array.length_toList]; omega), Array.length_toList, Array.getElem?_toList]
        exact Array.getElem?_eq_getElem hlt
      rw [hr, List.filterMap_cons, hi, Array.getElem?_eq_getElem hlt]
      rfl
  rw [hall xs.size (Nat.le_refl _), List.take_of_length_le (by rw [List.length_reverse, Array.length_toList]; exact Nat.le_refl _)]
section
variable {prog : Program} {w : World} {A : Around} {E : Value → Shared → Prop} {s : Shared}
theorem slice_back {sl : Addr} {v1 v2 v3 : Value} {n : Nat} {Q : Int × Int × Nat → Shared → Prop} (isS : s.heap.IsSliceOf sl v1 v2 v3) (p1 : IsPart v1 none) (p2 : IsPart v2 none) (p3 : IsPart v3 (some (-1))) (goal : Q ((n : Int) - 1, -1, n) s) :
    wpAny (model prog w) A (Builtin.Slice.sliceApplied (.ref sl) (pure (n : Int))) Q E s := by
  obtain ⟨os, atS, clS, daS⟩ := id isS
  unfold Builtin.Slice.sliceApplied Builtin.Slice.sliceFields
  refine wpAny_bind (wpAny_bind (wpAny_field atS daS (x := v1) rfl (wpAny_bind (wpAny_field atS daS (x := v2) rfl (wpAny_bind (wpAny_field atS daS (x := v3) rfl (wpAny_pure ?_)))))))
  refine wpAny_bind (HT.slicePart_ p3 ?_)
  show wpAny _ _ (if ((-1 : Int) == 0) = true then _ else _) _ _ s
  rw [if_neg (by decide)]
  refine wpAny_bind (HT.slicePart_ p1 (wpAny_bind (HT.slicePart_ p2 (wpAny_bind (wpAny_pure ?_)))))
  show wpAny _ _ (pure ((n : Int) - 1, (-1 : Int), Builtin.Slice.slicePlaces ((n : Int) - 1) (-1) (-1))) _ _ s
  rw [back_places]
  exact wpAny_pure goal
theorem tuple_back {t sl : Addr} {items : Array Value} {v1 v2 v3 : Value} {Q : Value → Shared → Prop} (isT : IsTup s.heap t items) (isS : s.heap.IsSliceOf sl v1 v2 v3) (p1 : IsPart v1 none) (p2 : IsPart v2 none) (p3 : IsPart v3 (some (-1)))
    (goal : Q (.ref s.heap.objs.size) { s with heap := s.heap.push { cls := .type "tuple", data := .seq items.toList.reverse.toArray } }) (fits : items.size ≤ sizeLine) : wpAny (model prog w) A (getItem (.ref t) (.ref sl)) Q E s := by
  have okR : sizeOk (.seq items.toList.reverse.toArray) := by
    show items.toList.reverse.toArray.size ≤ sizeLine
    rw [List.size_toArray, List.length_reverse, Array.length_toList]
    exact fits
  obtain ⟨os, atS, clS, daS⟩ := id isS
  have tyS : s.TypeIs (.ref sl) "slice" := ⟨os, atS, clS⟩
  unfold getItem
  try with_reducible refine wpAny_holding ?_
  first | refine wpAny_bind (wpAny_pure ?_) | skip
  refine wpAny_bind (wpAny_sequenceKey isT.typeIs (by decide) ?_)
  refine wpAny_bind (wpAny_callSpecial?_slot (name := Str.ofString "__getitem__") isT.typeIs PyProof.Rows.slot_tuple_getitem (wpAny_call_entry PyProof.Rows.slot_tuple_getitem isT.typeIs entry_tuple_getitem ?_ (args_tuple_getitem _ _)))
  show wpAny _ _ (Builtin.Tuple.tupleItemsOf (.ref t) >>= _) _ _ s
  refine wpAny_bind (tupleItemsOf_ isT ?_)
  refine wpAny_bind (wpAny_typeOf tyS ?_)
  rw [if_pos (by decide)]
  refine wpAny_bind (slice_back isS p1 p2 p3 ?_)
  have no : ¬ ((((items.size : Int) - 1) == 0 && (-1 : Int) == 1 && items.size == items.size) = true) := by
    rw [show ((-1 : Int) == 1) = false by decide, Bool.and_false, Bool.false_and]
    exact Bool.false_ne_true
  show wpAny _ _ (if (((items.size : Int) - 1) == 0 && (-1 : Int) == 1 && items.size == items.size) = true then _ else _) _ _ s
  rw [if_neg no, back_pick]
  first
    | exact wpAny_bind (m := Builtin.Tuple.tupleExact _) (wpAny_newObj_type (wpAny_pure ⟨_, rfl, wpAny_pure goal⟩) okR)
    | exact wpAny_bind (m := Builtin.Tuple.tupleExact _) (wpAny_newObj_type (wpAny_bind (wpAny_pure (wpAny_pure ⟨_, rfl, wpAny_pure goal⟩))) okR)
    | exact wpAny_bind (wpAny_bind (m := Builtin.Tuple.tupleExact _) (wpAny_newObj_type (wpAny_pure (wpAny_pure ⟨_, rfl, wpAny_pure goal⟩)) okR))
    | exact wpAny_bind (wpAny_bind (m := Builtin.Tuple.tupleExact _) (wpAny_newObj_type (wpAny_pure ⟨_, rfl, wpAny_pure goal⟩) okR))
end
/-- t[::-1] -/
def tRevT (K : PySem.W.Frag) (te : TE) : TE := fun σ H Q => te σ H fun x H1 => ∃ a xs, x = .ref a ∧ SqT K H1 a xs ∧ ∀ p, H1 p = none → Q (.ref p) (upd H1 p (.tup xs.reverse))
theorem pe_revT {X : Cx} {e : Expr} {te : TE} {k : Nat} {p1 p2 p3 pos : Pos} (he : PE X e te) : PE X (.Subscript e (.Slice none none (some (.UnaryOp .USub (.Constant (.int 1) k p1) p2)) p3) pos) (tRevT X.K te) := by
  refine ⟨fun pins st σ H Q I want => ?_⟩
  refine Subscript_ (thn (he.run pins st σ H _ I want) fun v s1 ⟨x, H1, I1, r1, q1⟩ => ?_)
  obtain ⟨a, xs, ex, isT, q⟩ := q1
  subst ex
  cases r1
  have step : PO X (some (.UnaryOp .USub (.Constant (.int 1) k p1) p2)) (tPart (tUn (rU fun i => .int (-i)) (tC (.int 1)))) := po_some (pe_un un_neg pe_int)
  refine wpAny_Slice (thn (po_none.run pins s1 σ H1 (fun o H2 => o = none ∧ H2 = H1) I1 ⟨rfl, rfl⟩) fun vl s2 ⟨l, H2, I2, pl, el, e2⟩ => ?_)
  subst el e2
  refine thn (po_none.run pins s2 σ H2 (fun o H3 => o = none ∧ H3 = H2) I2 ⟨rfl, rfl⟩) fun vu s3 ⟨u, H3, I3, pu, eu, e3⟩ => ?_
  subst eu e3
  refine thn (step.run pins s3 σ H3 (fun o H4 => o = some (-1) ∧ H4 = H3) I3 ⟨1, rfl, -1, rfl, rfl, rfl⟩) fun vs s4 ⟨o, H4, I4, ps, eo, e4⟩ => ?_
  subst eo e4
  have I5 : Inv X pins σ H4 { s4 with heap := s4.heap.push { cls := .type "slice", data := .fields #[vl, vu, vs] } } := I4.kept (t' := s4.toks) fun b ob z => Heap.get?_push_of_some _ z
  obtain ⟨its, r, ht, hz⟩ := I5.tuple isT
  have many := r.length
  show wpAny (model X.prog X.w) X.A (subscriptTail e (.Slice none none (some (.UnaryOp .USub (.Constant (.int 1) k p1) p2)) p3) (.ref a) (.ref s4.heap.objs.size)) (EP X pins σ Q) X.xe { s4 with heap := s4.heap.push { cls := .type "slice", data := .fields #[vl, vu, vs] } }
  refine tail_any (ops := [.ref a, .ref s4.heap.objs.size]) ht.typeIs (PyProof.Rows.slot_tuple_getitem.lookup) ?_ (by with_unfolding_all rfl)
  refine tuple_back ht (Heap.IsSliceOf.new _ vl vu vs) pl pu ps ?_ (by rw [List.size_toArray]; omega)
  refine ⟨.ref _, _, I5.laid (t' := s4.toks) (o := .tup xs.reverse) (fun b ob z => Heap.get?_push_of_some _ z) (Nat.le_refl _) ?_, rfl, q _ (I5.hok.fresh (Nat.le_refl _))⟩
  exact ⟨by rw [List.length_reverse]; exact hz, _, r.reverse, IsTup.new _ _⟩
end L2

set_option Elab.async false
set_option linter.all false
set_option maxRecDepth 100000
/-! len of a set of ints: as many as its members -/
namespace L2
open PySem PySem.Spec PyProof.Rows
def rLenSetO (w : World) : List V → Hp → VK → Prop := fun xs H Q => ∃ (a : Addr) (S : Int → Bool) (n : Nat), xs = [.ref a] ∧ H a = some (SetO w a S n) ∧ n ≤ 1000 ∧ ((∃ l : List Int, l.Nodup ∧ l.length = n ∧ ∀ k, k ∈ l ↔ S k = true) → Q (.int n) H)
theorem cr_lenSetO {X : Cx} : CallR X (.builtin "len") (rLenSetO X.w) := by
  intro pins s σ H xs us Q I r h
  obtain ⟨a, S, n, rfl, ha, h64, q⟩ := h
  have R := setO_get I ha
  rw [Vals.ref1 r]
  obtain ⟨o, es, ep, t, ho, hex, hd, g, nd, hm, hb, hf, hn, hr, hl⟩ := R
  refine call_len_set ho hex hd hf (by rw [hn]; omega) ⟨.int n, H, I.tok _, ⟨_, by rw [hn]⟩, q ⟨es.toList.map keyOf, nd, ?_, fun k => (hm k).symm⟩⟩
  rw [List.length_map, Array.length_toList]
  exact hn
/-- the bookkeeping of a walk over a range, whatever a turn's reading is -/
theorem steps_range {lo : Int} {n : Nat} {H0 : Hp} {Qd : Hp → Prop} {step : V → Hp → (Hp → Prop) → Prop} (Pv : Nat → Hp → Prop) (h0 : Pv 0 H0)
    (hs : ∀ i H, i < n → Pv i H → step (.int (lo + i)) H (Pv (i + 1))) (hd : ∀ H, Pv n H → Qd H) :
    ∃ W : Nat → Nat → Hp → Prop, (∃ m, W 0 m H0) ∧ ∀ i m H, W i m H →
      ((Itr lo n).stop i H ∧ Qd H) ∨ ((Itr lo n).go i H ∧ ∃ N : Hp → Prop, (∀ H', N H' → ∃ m', m' < m ∧ W (i + 1) m' H') ∧ ∀ x H', (Itr lo n).yld i H x H' → step x H' N) := by
  refine ⟨fun i m H => m = n - i ∧ i ≤ n ∧ Pv i H, ⟨n, by simp, Nat.zero_le _, h0⟩, ?_⟩
  rintro i m H ⟨rfl, hi, p⟩
  by_cases hlt : i < n
  · refine .inr ⟨hlt, Pv (i + 1), fun H' p' => ⟨n - (i + 1), by omega, rfl, hlt, p'⟩, fun x H' y => ?_⟩
    obtain ⟨e, y⟩ := y
    subst e y
    exact hs i _ hlt p
  · obtain rfl : i = n := by omega
    exact .inl ⟨Nat.le_refl _, hd H p⟩
end L2

set_option Elab.async false
set_option linter.all false
set_option maxRecDepth 100000
set_option maxHeartbeats 4000000
/-! zip of two things, each a list or a tuple -/
namespace L2
open PySem PySem.Spec PyProof.Rows
def SqB (K : PySem.W.Frag) (t : Bool) (H : Hp) (a : Addr) (xs : List V) : Prop := match t with | true => SqT K H a xs | false => SqL K H a xs
def SeqB (h : Heap) (t : Bool) (a : Addr) (items : Array Value) : Prop := match t with | true => h.IsTuple a items | false => h.IsList a items
def IterB (h : Heap) (t : Bool) (it a : Addr) (i : Nat) : Prop := match t with | true => h.IsTupleIter it a i | false => h.IsListIter it a i
def obB (t : Bool) (a : Addr) : Obj := match t with | true => { cls := .type "tuple_iterator", data := .fields #[.ref a, .int 0 0] } | false => { cls := .type "list_iterator", data := .fields #[.ref a, .int 0 0] }
theorem drawsB {prog : Program} {w : World} {A : Around} (t : Bool) (hh : A.handled = none) (it l : Addr) (hne : l ≠ it) (items : Array Value) :
    Draws prog w A it [it, l] items.size (fun i v => items[i]? = some v) (fun i h => IterB h t it l i ∧ SeqB h t l items) := by
  cases t with
  | true => exact Draws.tuple hh it l hne items
  | false => exact Draws.list hh it l hne items
theorem beginsB (t : Bool) (l : Addr) (items : Array Value) : Begins (.ref l) (obB t l) (fun h => SeqB h t l items) := by
  cases t with
  | true => exact begins_tuple l items
  | false => exact begins_list l items
theorem iterB_new {h : Heap} {t : Bool} {it l : Addr} (e : h.get? it = some (obB t l)) : IterB h t it l 0 := by
  cases t with
  | true => exact ⟨_, e, rfl, rfl⟩
  | false => exact ⟨_, e, rfl, rfl⟩
theorem IterB.live {h : Heap} {t : Bool} {it a : Addr} {i : Nat} (q : IterB h t it a i) : ∃ o, h.get? it = some o ∧ ∀ v, o.data ≠ .cell v := by
  cases t with
  | true =>
    obtain ⟨o, e, _, d⟩ := q
    exact ⟨o, e, fun v q => by rw [d] at q; cases q⟩
  | false =>
    obtain ⟨o, e, _, d⟩ := q
    exact ⟨o, e, fun v q => by rw [d] at q; cases q⟩
theorem IterB.at {h h' : Heap} {t : Bool} {it a : Addr} {i : Nat} (q : IterB h t it a i) (k : ∀ o, h.get? it = some o → h'.get? it = some o) : IterB h' t it a i := by
  cases t with
  | true => exact Heap.IsTupleIter.at q k
  | false => exact Heap.IsListIter.at q k
theorem SeqB.lt {h : Heap} {t : Bool} {a : Addr} {items : Array Value} (q : SeqB h t a items) : a < h.objs.size := by
  cases t with
  | true =>
    obtain ⟨o, e, _⟩ := q
    exact Heap.lt_size e
  | false =>
    obtain ⟨o, e, _⟩ := q
    exact Heap.lt_size e
section
variable {X : Cx} {pins : List (Addr × Obj)} {σ : St} {H : Hp} {s : Shared}
theorem inv_seqB {t : Bool} {a : Addr} {xs : List V} (I : Inv X pins σ H s) (q : SqB X.K t H a xs) : ∃ its : List Value, Vals xs its ∧ SeqB s.heap t a its.toArray := by
  cases t with
  | true =>
    obtain ⟨its, rv, p, _⟩ := I.tuple q
    exact ⟨its, rv, p⟩
  | false =>
    obtain ⟨its, rv, p, _⟩ := I.list q
    exact ⟨its, rv, p.isList⟩
theorem inv_injB {t : Bool} {a : Addr} {xs ys : List V} (I : Inv X pins σ H s) (q : SqB X.K t H a xs) (q' : SqB X.K t H a ys) : xs = ys := by
  cases t with
  | true => exact I.tuple_inj q q'
  | false => exact I.list_inj q q'
end
theorem SqB.ext {K : PySem.W.Frag} {t : Bool} {H H' : Hp} {a : Addr} {xs : List V} (q : SqB K t H a xs) (e : Ext H H') : SqB K t H' a xs := by
  cases t with
  | true => exact SqT.ext q e
  | false => exact SqL.ext q e
/-- the two things as they stand at each turn, the items in new pairs -/
def ItzB (K : PySem.W.Frag) (t1 t2 : Bool) (a b : Addr) : It :=
  ⟨fun i H => ∃ (xs ys : List V), SqB K t1 H a xs ∧ SqB K t2 H b ys ∧ i < xs.length ∧ i < ys.length,
    fun i H v H' => ∃ T x y, v = .ref T ∧ H T = none ∧ H' = upd H T (.tup [x, y]) ∧ (∀ xs, SqB K t1 H a xs → xs[i]? = some x) ∧ ∀ ys, SqB K t2 H b ys → ys[i]? = some y,
    fun i H => ∃ xs ys : List V, SqB K t1 H a xs ∧ SqB K t2 H b ys ∧ i = min xs.length ys.length⟩
theorem turn_zipB {P : Program} {w : World} {K : PySem.W.Frag} {elts : List Expr} {kk : Nat} {tpos : Pos} {t1 t2 : Bool} {a b z TI TO i1 i2 : Addr} (D : ZipApart z TI TO i1 i2 a b) :
    Turn P w K (.Tuple elts kk tpos) (ItzB K t1 t2 a b) [z, TI, TO, i1, i2] z (fun i h => IsZip h z TI TO .none ∧ IsTupOf2 h TI (.ref i1) (.ref i2) ∧ (∃ x y, IsTupOf2 h TO x y) ∧ IterB h t1 i1 a i ∧ IterB h t2 i2 b i) where
  mem := by simp
  obj := fun i h st c hc => by
    obtain ⟨hz, hTI, ⟨x, y, hTO⟩, h1, h2⟩ := st
    have e' : c = z ∨ c = TI ∨ c = TO ∨ c = i1 ∨ c = i2 := by simpa using hc
    rcases e' with q | q | q | q | q
    · rw [q]; exact ⟨_, hz, fun v q => nomatch q⟩
    · rw [q]; exact ⟨_, hTI, fun v q => nomatch q⟩
    · rw [q]; exact ⟨_, hTO, fun v q => nomatch q⟩
    · rw [q]; exact h1.live
    · rw [q]; exact h2.live
  keep := fun i h h' st k => by
    obtain ⟨hz, hTI, ⟨x, y, hTO⟩, h1, h2⟩ := st
    exact ⟨k z (by simp) _ hz, k TI (by simp) _ hTI, ⟨x, y, k TO (by simp) _ hTO⟩, h1.at fun o q => k i1 (by simp) o q, h2.at fun o q => k i2 (by simp) o q⟩
  item := by
    intro X hP hw hK hc i pins s σ H E I hf st hg
    subst hP hw hK
    obtain ⟨hz, hTI, ⟨x0, y0, hTO⟩, h1, h2⟩ := st
    obtain ⟨xs, ys, hqx, hqy, hx, hy⟩ := hg
    obtain ⟨its, rv, p⟩ := inv_seqB I hqx
    obtain ⟨its2, rv2, p2⟩ := inv_seqB I hqy
    have l1 := rv.length
    have l2 := rv2.length
    have hzl : z < s.heap.objs.size := Heap.lt_size hz
    have Sp : ZipSep2 z TI TO i1 i2 [i1, a] [i2, b] := ⟨D.TIz, D.TOz, D.TITO, D.TIi1, by simp, by simp [Ne.symm D.i1z, Ne.symm D.l1z], by simp [D.TOi1, Ne.symm D.l1TO], D.TIi2, by simp, by simp [Ne.symm D.i2z, Ne.symm D.l2z], by simp [D.TOi2, Ne.symm D.l2TO], by simp [D.i12, Ne.symm D.l2i1], by simp [Ne.symm D.i12, Ne.symm D.l1i2]⟩
    have D1 := drawsB (prog := X.prog) (w := X.w) (A := X.A.in1) t1 (show X.A.in1.handled = none from I.ok.hd hc) i1 a D.l1i1 its.toArray
    have D2 := drawsB (prog := X.prog) (w := X.w) (A := X.A.in1) t2 (show X.A.in1.handled = none from I.ok.hd hc) i2 b D.l2i2 its2.toArray
    refine wpAny_pyNext_zipD2_item Sp D1 D2 hz hTI hTO ⟨h1, p⟩ ⟨h2, p2⟩ (by simp; omega) (by simp; omega) fun u u2 h' tk hP1 hP2 z' TO' h1' h2' hT hsz hk => ?_
    have hu : its[i]? = some u := by simpa using hP1
    have hu2 : its2[i]? = some u2 := by simpa using hP2
    obtain ⟨x, hxx⟩ : ∃ x, xs[i]? = some x := ⟨_, List.getElem?_eq_getElem hx⟩
    obtain ⟨y, hyy⟩ : ∃ y, ys[i]? = some y := ⟨_, List.getElem?_eq_getElem hy⟩
    obtain ⟨u', hu', ru⟩ := rv.get hxx
    obtain ⟨u2', hu2', ru2⟩ := rv2.get hyy
    obtain rfl : u' = u := Option.some.inj (hu'.symm.trans hu)
    obtain rfl : u2' = u2 := Option.some.inj (hu2'.symm.trans hu2)
    refine ⟨_, rfl, wpAny_letOwnedTupleGo_zip (s := { s with heap := h', toks := tk }) z' fun h'' z'' sb => ?_⟩
    have hT2 : h''.get? s.heap.objs.size = some { cls := .type "tuple", data := .seq #[u', u2'] } := (sb.2 _ (Nat.ne_of_gt hzl)).trans hT
    have new : ObjOk X.prog X.w (upd H s.heap.objs.size (.tup [x, y])) h'' s.heap.objs.size (.tup [x, y]) :=
      ⟨by show 2 ≤ sizeLine; decide, [u', u2'], .cons ru (.cons ru2 .nil), ⟨_, hT2, rfl, _, rfl⟩⟩
    have I1 : Inv X pins σ (upd H s.heap.objs.size (.tup [x, y])) { s with heap := h'', toks := tk } :=
      I.turnedNew (ch := [z, TI, TO, i1, i2]) (fun c o hb q => (sb.2 c (fun q' => hb (by simp [q']))).trans (hk c o (fun q' => hb (by simp [q'])) (fun q' => hb (by simp [q'])) (fun q' => hb (by simp [q'])) (fun q' => hb (by simp [q'])) q)) hf (Nat.le_refl _) new
    refine ⟨.ref s.heap.objs.size, _, I1, rfl, ⟨_, x, y, rfl, I.hok.fresh (Nat.le_refl _), rfl, fun l hl => by rw [inv_injB I hl hqx]; exact hxx, fun l hl => by rw [inv_injB I hl hqy]; exact hyy⟩, ⟨z'', ?_, ⟨u', u2', ?_⟩, ?_, ?_⟩, fun c hcm => ?_⟩
    · exact (sb.2 _ D.TIz).trans (hk _ _ D.TIz D.TITO D.TIi1 D.TIi2 hTI)
    · exact (sb.2 _ D.TOz).trans TO'
    · exact h1'.1.at fun o q => (sb.2 _ D.i1z).trans q
    · exact h2'.1.at fun o q => (sb.2 _ D.i2z).trans q
    · have hlt : c < s.heap.objs.size := by
        have e' : c = z ∨ c = TI ∨ c = TO ∨ c = i1 ∨ c = i2 := by simpa using hcm
        rcases e' with q | q | q | q | q
        · rw [q]; exact hzl
        · rw [q]; exact Heap.lt_size hTI
        · rw [q]; exact Heap.lt_size hTO
        · rw [q]; obtain ⟨_, e1, _⟩ := h1.live; exact Heap.lt_size e1
        · rw [q]; obtain ⟨_, e2, _⟩ := h2.live; exact Heap.lt_size e2
      rw [upd_ne (Nat.ne_of_lt hlt)]
      exact (hf c hcm).1
  done := by
    intro X hP hw hK hc i pins s σ H E I hf st hg
    subst hP hw hK
    obtain ⟨hz, hTI, ⟨x0, y0, hTO⟩, h1, h2⟩ := st
    obtain ⟨xs, ys, hqx, hqy, hend⟩ := hg
    obtain ⟨its, rv, p⟩ := inv_seqB I hqx
    obtain ⟨its2, rv2, p2⟩ := inv_seqB I hqy
    have l1 := rv.length
    have l2 := rv2.length
    have Sp : ZipSep2 z TI TO i1 i2 [i1, a] [i2, b] := ⟨D.TIz, D.TOz, D.TITO, D.TIi1, by simp, by simp [Ne.symm D.i1z, Ne.symm D.l1z], by simp [D.TOi1, Ne.symm D.l1TO], D.TIi2, by simp, by simp [Ne.symm D.i2z, Ne.symm D.l2z], by simp [D.TOi2, Ne.symm D.l2TO], by simp [D.i12, Ne.symm D.l2i1], by simp [Ne.symm D.i12, Ne.symm D.l1i2]⟩
    have D1 := drawsB (prog := X.prog) (w := X.w) (A := X.A.in1) t1 (show X.A.in1.handled = none from I.ok.hd hc) i1 a D.l1i1 its.toArray
    have D2 := drawsB (prog := X.prog) (w := X.w) (A := X.A.in1) t2 (show X.A.in1.handled = none from I.ok.hd hc) i2 b D.l2i2 its2.toArray
    refine wpAny_pyNext_zipD2_end Sp D1 D2 hz hTI hTO ⟨h1, p⟩ ⟨h2, p2⟩ (by simp; omega) (by simp; omega) (by simp; omega) fun h' tk hk => ⟨rfl, I.turnedL (t' := tk) (ch := [z, TI, TO, i1, i2]) (fun c o hb q =>
      hk c o (fun q' => hb (by simp [q'])) (fun q' => hb (by simp [q'])) (fun q' => hb (by simp [q'])) (fun q' => hb (by simp [q'])) q) hf⟩
  self := fun A i s Q E st h => wpAny_pyIter_zip st.1 h
def iZipB (K : PySem.W.Frag) (t1 t2 : Bool) (ta : TA) : TI := fun σ H R => ta σ H fun vs H1 => ∃ a b xs ys, vs = [.ref a, .ref b] ∧ SqB K t1 H1 a xs ∧ SqB K t2 H1 b ys ∧ R (ItzB K t1 t2 a b) H1
theorem pi_zipB {X : Cx} (t1 t2 : Bool) {e e2 : Expr} {ta : TA} {p pos tpos : Pos} {elts : List Expr} {kk : Nat} (hg : Gl X "zip") (hm : X.mg "zip" = none) (ha : PA X [e, e2] ta)
    (hs : starEach [e, e2] X.env = (false, eval e X.env) :: starEach [e2] X.env := by rfl) (hpl : (backTo pos (starEach [e2] X.env)).any (·.1) = false := by rfl) :
    PI X (.Tuple elts kk tpos) (.Call (.Name "zip" p) [e, e2] [] pos) (iZipB X.K t1 t2 ta) := by
  refine ⟨fun pins s σ H R I h => ?_⟩
  refine Call_ (ld_blt I hg hm PyProof.Rows.boot_zip (PyProof.Rows.callWith_type1 (thn (ha.run pos pins s σ H _ I h) fun us s1 ⟨vs, H1, I1, r1, q1⟩ => ?_) hs hpl))
  obtain ⟨a, b, xs, ys, ex, hqx, hqy, q⟩ := q1
  subst ex
  cases r1 with
  | cons r rr =>
    cases rr with
    | cons r' rr =>
      cases rr
      cases r
      cases r'
      have fresh5 : ∀ c, c ∈ [s1.heap.objs.size + 4, s1.heap.objs.size + 2, s1.heap.objs.size + 3, s1.heap.objs.size, s1.heap.objs.size + 1] → FpOk X pins H1 c := fun c hcm => by
        have e' : c = s1.heap.objs.size + 4 ∨ c = s1.heap.objs.size + 2 ∨ c = s1.heap.objs.size + 3 ∨ c = s1.heap.objs.size ∨ c = s1.heap.objs.size + 1 := by simpa using hcm
        have hle : s1.heap.objs.size ≤ c := by
          rcases e' with z | z | z | z | z
          · rw [z]; exact Nat.le_add_right _ _
          · rw [z]; exact Nat.le_add_right _ _
          · rw [z]; exact Nat.le_add_right _ _
          · rw [z]; exact Nat.le_refl _
          · rw [z]; exact Nat.le_add_right _ _
        exact I1.fpOk hle (I1.hok.fresh hle)
      obtain ⟨its, rv, p1⟩ := inv_seqB I1 hqx
      obtain ⟨its2, rv2, p2⟩ := inv_seqB I1 hqy
      refine zip_begins2 (beginsB t1 a its.toArray) (beginsB t2 b its2.toArray) p1 p2 fun h' hz hTI hTO h1 h2 hsz hk => wpAny_pyIter_zip hz ?_
      have I2 : Inv X pins σ H1 { s1 with heap := h' } := I1.kept (t' := s1.toks) hk
      exact ⟨s1.heap.objs.size + 4, [s1.heap.objs.size + 4, s1.heap.objs.size + 2, s1.heap.objs.size + 3, s1.heap.objs.size, s1.heap.objs.size + 1], _, _, H1, rfl, I2, turn_zipB (PySem.W.ktu_apart s1.heap.objs.size a b p1.lt p2.lt), ⟨hz, hTI, ⟨_, _, hTO⟩, iterB_new h1, iterB_new h2⟩, fresh5, q⟩
theorem walk_zipB {K : PySem.W.Frag} {t1 t2 : Bool} {a b : Addr} {xs ys : List V} {n : Nat} (hn : n = min xs.length ys.length) : Walk (ItzB K t1 t2 a b) n (fun H => SqB K t1 H a xs ∧ SqB K t2 H b ys) (YPair (fun i => xs[i]?) (fun i => ys[i]?)) := by
  subst hn
  refine ⟨fun i _ hi q => ⟨xs, ys, q.1, q.2, by omega, by omega⟩, fun _ q => ⟨xs, ys, q.1, q.2, rfl⟩, fun i H v H' _ q y => ?_⟩
  obtain ⟨T, x, y, e1, e2, e3, e4, e5⟩ := y
  exact ⟨T, x, y, e1, e2, e3, e4 xs q.1, e5 ys q.2⟩
end L2

set_option Elab.async false
set_option linter.all false
set_option maxRecDepth 100000
set_option maxHeartbeats 1000000
/-! list.remove of a flat item -/
namespace L2
open PySem PySem.Spec PyProof.Rows
section
variable {X : Cx}
def rRemF : V → List V → Hp → VK → Prop := fun x xs H Q => ∃ (l : Addr) (ys : List V) (y : V) (j : Nat) (z : V), x = .ref l ∧ xs = [y] ∧ H l = some (.lst ys) ∧ flatV y = true ∧ ys.all flatV = true ∧ ys[j]? = some z ∧ eqV z y = true ∧
  (∀ (m : Nat) (z' : V), m < j → ys[m]? = some z' → eqV z' y = false) ∧ Q .non (upd H l (.lst (ys.eraseIdx j)))
theorem mt_removeF : MtM X "list.remove" rRemF := by
  intro pins s σ H x xs v us Q I rx rxs h
  obtain ⟨l, ys, y, j, z, rfl, rfl, hH, fy, fys, hz, hzj, hno, q⟩ := h
  cases rx
  obtain ⟨u, rfl, ry⟩ := rxs.one
  obtain ⟨zz, its, n, rv, hl, e⟩ := I.lstM hH
  obtain ⟨w, hw, ru⟩ := rv.get hz
  obtain ⟨hjl, hje⟩ := List.getElem?_eq_some_iff.mp hw
  have hvl := rv.length
  have hj : j < its.toArray.size := by simpa using hjl
  refine call_meets PySem.F.slot_list_remove ⟨_, e, rfl⟩ PySem.F.entry_list_remove (PySem.F.args_list_remove_2 _ _)
    (SeqAt.list_removeAt l its.toArray n none #[] u (eqU y) j hj ?_ ?_ (by rw [List.size_toArray]; omega)) ⟨e, fun u' hu' => mem_eqAt ry fy rv fys u' (by simpa using hu'), ?_⟩
  · have e1 : its.toArray[j] = w := by simpa using hje
    rw [e1, eqU_of ru (flat_at fys hz)]
    exact hzj
  · intro m hm hmj
    have hml : m < its.length := by simpa using hm
    have hmy : m < ys.length := by omega
    have hy' : ys[m]? = some ys[m] := List.getElem?_eq_getElem hmy
    obtain ⟨u2, hu2, ru2⟩ := rv.get hy'
    obtain ⟨_, hme⟩ := List.getElem?_eq_some_iff.mp hu2
    have e1 : its.toArray[m] = u2 := by simpa using hme
    rw [e1, eqU_of ru2 (flat_at fys hy')]
    exact hno m _ hmj hy'
  · refine ⟨.non, _, I.lset (its' := its.eraseIdx j) (t' := s.toks) hH e ?_ (rv.eraseIdx j) ?_, rfl, q⟩
    · show its.toArray.eraseIdxIfInBounds j = (its.eraseIdx j).toArray
      rw [List.eraseIdxIfInBounds_toArray]
    · have := len_erase ys j
      omega
end
end L2

set_option Elab.async false
set_option linter.all false
set_option maxRecDepth 100000
set_option maxHeartbeats 4000000
/-! <= by an own __le__, + by an own __add__ (what stands to the right: an int, a bool, a text), the call of an instance by an own __call__; what is raised may be wished for -/
namespace PySem.W
open PySem PyProof.Rows
section
variable {prog : Program} {w : World} {A : Around} {E : Value → Shared → Prop} {s : Shared} {K : Frag} {x C L f : Addr} {h₀ : Heap} {m : Str → Option Value} {ox : Obj} {od : Option Obj}
theorem pyslot_K {M : Model} {h : Heap} {nm : String} (X : K.In h) (hs : findIn K (.ref C) (PySem.dunder nm) = some (some (.ref f))) (hr : findIn K (.ref C) (dunderR nm) = some none) : Looks M h (numberSlotInPython (.ref C) nm) true := by
  intro A Q E s k q
  unfold numberSlotInPython
  refine wpAny_bind ((looks_findIn X hs) A _ E s k ?_)
  refine wpAny_bind (wpAny_pure ?_)
  refine wpAny_bind ((looks_findIn X hr) A _ E s k ?_)
  refine wpAny_bind (wpAny_pure ?_)
  simp only [Bool.or_false, if_true]
  exact wpAny_pure q
theorem binop_KB {op : Operator} {b : Value} {T : String} {fT : Bool} {rT : Option Value} {Q : Value → Shared → Prop} (F : Fr h₀ L s.heap m) (X₀ : K.In h₀) (I : InstAt s.heap x ox C od) (hb : Looks (model prog w) s.heap (typeOf b) (.type T)) (hc : selfFirst K C = true)
    (hs : findIn K (.ref C) (PySem.dunder op.info.2) = some (some (.ref f))) (hr : findIn K (.ref C) (dunderR op.info.2) = some none) (hfT : fillsNumberSlot (.type T) op.info.2 = pure fT) (hsub : subIn K (.type T) (.ref C) = some false) (hrT : typeLookup (.type T) (dunderR op.info.2) = pure rT) (hf : isFn K (.ref f) = true)
    (h : wpAny (model prog w) A (call (.ref f) [.ref x, b]) (CmpBack Q) E s) : wpAny (model prog w) A (binaryOp op (.ref x) b) Q E s := by
  have X := X₀.keeps F.keep
  obtain ⟨cd, hcd, hm⟩ := any_some hc
  obtain ⟨rest, hm⟩ : ∃ rest, cd.mro = .ref C :: rest := by
    cases q : cd.mro with
    | nil => rw [q] at hm; cases hm
    | cons a r => rw [q] at hm; exact ⟨r, by rw [List.head?_cons] at hm; cases (beq_iff_eq.mp hm); rfl⟩
  unfold binaryOp
  refine wpAny_holding (wpAny_bind ?_)
  unfold binaryOp1
  refine wpAny_bind (I.type.here (wpAny_bind (hb.here (wpAny_bind ((fills_K X hcd hm hs).here ?_)))))
  have tail : wpAny (model prog w) A (tryMethod (.ref x) (PySem.dunder op.info.2) b) (fun r s' => ∃ v, r = some v ∧ Q v s') E s := by
    unfold tryMethod
    refine wpAny_bind (special_fn X I hs (beq_iff_eq.mp hf) (wpAny_mono h (fun v s' hv => ?_) fun _ _ e => e))
    cases v <;> first | exact hv.elim | exact wpAny_pure ⟨_, rfl, hv⟩
  simp only [show (Value.ref C == Value.type T) = false from rfl, Bool.false_eq_true, if_false]
  refine wpAny_bind (wpAny_of_eq hfT ?_)
  cases fT with
  | false =>
    simp only [Bool.and_false, Bool.false_eq_true, if_false, Bool.false_and]
    refine wpAny_bind (wpAny_pure ?_)
    simp only [Bool.false_eq_true, if_false, if_true]
    refine wpAny_bind (wpAny_mono tail (fun r s' z => ?_) fun _ _ e => e)
    obtain ⟨v, rfl, q⟩ := z
    exact wpAny_pure (wpAny_pure q)
  | true =>
    simp only [Bool.and_self, if_true]
    refine wpAny_bind ((looks_subIn X hsub).here ?_)
    simp only [Bool.false_eq_true, if_false, Bool.not_false, Bool.and_self, if_true]
    refine wpAny_bind ((pyslot_K X hs hr).here ?_)
    simp only [if_true]
    refine wpAny_bind (wpAny_of_eq (show numberSlotInPython (.type T) op.info.2 = pure false from rfl) ?_)
    simp only [Bool.not_false, if_true]
    refine wpAny_bind (wpAny_of_eq hrT ?_)
    refine wpAny_bind (wpAny_mono tail (fun r s' z => ?_) fun _ _ e => e)
    obtain ⟨v, rfl, q⟩ := z
    exact wpAny_pure (wpAny_pure q)
end
end PySem.W
namespace L2
open PySem PySem.Spec PyProof.Rows
section
variable {X : Cx} {CX : CXT} {k : Nat} {f C : Addr} {fd : FuncData} {ps : List Str} {sp : Sp} {E : St → XK}
/-- x <= y, x an instance of the class at C with an own __le__ that gives a bool -/
def rLeO (K : PySem.W.Frag) (C : Addr) (sp : Sp) : R2 := fun x y H Q => ∃ a dx fs t, x = .ref a ∧ H a = some (.ins C dx fs) ∧ TyX K H y t ∧ PySem.W.notFirst K C t = true ∧ sp [x, y] H (fun v H' => ∃ b, v = .bl b ∧ Q (.bl b) H') E0
theorem leO (O : OwnM X.prog X.w X.K X.mg X.base CX C "__le__" k ps sp) (hr : Room k X.A) (hx : Passes CX X E0) : OpR X (compareOp .LtE) (rLeO X.K C sp) := by
  obtain ⟨f, fd, F, M, hi, hb⟩ := O.ex
  intro pins s σ H x y v u Q I rx ry hq
  obtain ⟨a, dx, fs, t, rfl, ha, ty, hn, q⟩ := hq
  cases (show v = Value.ref a from rx)
  obtain ⟨P, Z, p, _⟩ := kit_of I ry ty
  obtain ⟨mA, J, _⟩ := ins_get I.hok ha
  obtain ⟨od, J, _⟩ := J.look
  obtain ⟨m, hF⟩ := I.fr
  show wpAny (model X.prog X.w) X.A (richCompare .LtE (.ref a) u) (EP X pins σ Q) X.xe s
  refine PySem.W.cmp_K (op := .LtE) (tb := t) hr.units0 hF I.ok.mod.kin J (Z.ty _ _ I.kIn p) hn M.at_ hi ?_
  refine wpAny_mono (run_at (vs := [.ref a, y]) F hr rfl hb hx I (.cons rfl (.cons ry .nil)) q) (fun v' s' z => ?_) fun _ _ e => e
  obtain ⟨w', H', I', rv, b, rfl, q'⟩ := z
  cases rv
  exact ⟨.bl b, H', I', rfl, q'⟩
/-- the built-in types that may stand to the right of an own + -/
def addTy (t : Value) : Prop := t = .type "int" ∨ t = .type "bool" ∨ t = .type "str"
structure AddM (K : PySem.W.Frag) (C : Addr) : Prop where
  self : PySem.W.selfFirst K C = true
  radd : PySem.W.findIn K (.ref C) "__radd__" = some none
  int : PySem.W.subIn K (.type "int") (.ref C) = some false
  bool : PySem.W.subIn K (.type "bool") (.ref C) = some false
  str : PySem.W.subIn K (.type "str") (.ref C) = some false
/-- x + y, x an instance of the class at C with an own __add__; what is raised is wished for -/
def tAddO (K : PySem.W.Frag) (C : Addr) (sp : Sp) (E : St → XK) (ta tb : TE) : TE := fun σ H Q => ta σ H fun x H1 => tb σ H1 fun y H2 => ∃ a dx fs t, x = .ref a ∧ H2 a = some (.ins C dx fs) ∧ TyX K H2 y t ∧ addTy t ∧ sp [x, y] H2 Q (E σ)
theorem pe_addO {W : WX} {a b : Expr} {ta tb : TE} {pos : Pos} (O : OwnM X.prog X.w X.K X.mg X.base (L2.CX X.prog X.w) C "__add__" k ps sp) (M' : AddM X.K C) (hr : Room k X.A) (tk : Takes X W) (ha : PE X a ta) (hb' : PE X b tb) : PE X (.BinOp a .Add b pos) (tAddO X.K C sp (WE W) ta tb) := by
  obtain ⟨f, fd, F, M, hi, hb⟩ := O.ex
  refine ⟨fun pins s σ H Q I h => ?_⟩
  refine wpAny_BinOp (binT ha hb' I h fun v u s2 x y H2 I2 rx ry q => ?_)
  obtain ⟨o, dx, fs, t, rfl, ho, ty, hty, q⟩ := q
  cases (show v = Value.ref o from rx)
  obtain ⟨P, Z, p, _⟩ := kit_of I2 ry ty
  obtain ⟨mA, J, _⟩ := ins_get I2.hok ho
  obtain ⟨od, J, _⟩ := J.look
  obtain ⟨m, hF⟩ := I2.fr
  have hcall := run_fnSD (us := [.ref o, u]) (vs := [.ref o, y]) F hr hb .nil (passAt tk σ) I2 (.cons rfl (.cons ry .nil)) (by exact q)
  have hcb : wpAny (model X.prog X.w) X.A (call (.ref f) [.ref o, u]) (PySem.W.CmpBack (EP X pins σ Q)) X.xe s2 := wpAny_mono hcall (fun w s' z => by
    obtain ⟨z', H', I', rz, qz⟩ := z
    exact SlX.cmpback rz ⟨z', H', I', rz, qz⟩) fun _ _ x => x
  rcases hty with rfl | rfl | rfl
  · exact PySem.W.binop_KB (op := .Add) (T := "int") (fT := true) (rT := some (.builtin "int.__radd__")) hF I2.ok.mod.kin J (Z.ty _ _ I2.kIn p) M'.self M.at_ M'.radd PySem.F.fills_int_add M'.int (by rw [typeLookup_type, builtinLookup_eq_fast]; kernel_rfl) hi hcb
  · exact PySem.W.binop_KB (op := .Add) (T := "bool") (fT := true) (rT := some (.builtin "int.__radd__")) hF I2.ok.mod.kin J (Z.ty _ _ I2.kIn p) M'.self M.at_ M'.radd PySem.F.fills_bool_add M'.bool (by rw [typeLookup_type, builtinLookup_eq_fast]; kernel_rfl) hi hcb
  · exact PySem.W.binop_KB (op := .Add) (T := "str") (fT := false) (rT := none) hF I2.ok.mod.kin J (Z.ty _ _ I2.kIn p) M'.self M.at_ M'.radd PySem.noFill_str_add M'.str (by rw [typeLookup_type, builtinLookup_eq_fast]; kernel_rfl) hi hcb
/-- f(e, ..), f an instance of the class at C with an own __call__; what is raised is wished for -/
def tCallOS (C : Addr) (sp : Sp) (E : St → XK) (tf : TE) (t : TA) : TE := fun σ H Q => tf σ H fun y H1 => ∃ a, y = V.ref a ∧ t σ H1 fun vs H2 => (∃ dx fs, H2 a = some (.ins C dx fs)) ∧ sp (V.ref a :: vs) H2 Q (E σ)
theorem pe_callOS {W : WX} {fe e : Expr} {es : List Expr} {tf : TE} {t : TA} {pos : Pos} (O : OwnM X.prog X.w X.K X.mg X.base (L2.CX X.prog X.w) C "__call__" k ps sp) (hn : ∀ g, PySem.W.findIn X.K (.ref C) "__call__" = some (some (.ref g)) → PySem.W.fnIn X.K g = true) (hf : PE X fe tf) (hr : Room k X.A) (tk : Takes X W) (ha : PA X (e :: es) t)
    (ht : eval (.Call fe (e :: es) [] pos) X.env = (do callWith pos (← eval fe X.env) [] (backTo pos (starEach (e :: es) X.env)) (backToKw pos (keywordEach [] X.env))) := by rfl)
    (he : starEach (e :: es) X.env = (false, eval e X.env) :: starEach es X.env := by rfl) (hpl : (backTo pos (starEach es X.env)).any (·.1) = false := by rfl) : PE X (.Call fe (e :: es) [] pos) (tCallOS C sp (WE W) tf t) := by
  obtain ⟨f, fd, F, M, hi, hb⟩ := O.ex
  refine ⟨fun pins s σ H Q I h => ?_⟩
  refine Call_ (thn (hf.run pins s σ H _ I h) fun u s1 ⟨y, H1, I1, ry, a, ey, q⟩ => ?_) ht
  subst ey
  obtain rfl : u = Value.ref a := ry
  refine StX.callO_with (thn (ha.run pos pins s1 σ H1 _ I1 q) fun us s2 ⟨vs, H2, I2, r, ⟨dx, fs, hz⟩, q2⟩ => ?_) he hpl
  obtain ⟨ox, od, J, hd⟩ := StX.insC_at I2 (.inr ⟨dx, fs, hz⟩ : StX.InsC X H2 a C)
  refine ⟨⟨C, ox, od, J, hd⟩, wpAny_call (PySem.W.kco_code I2.kIn J hd M.at_ hi (hn f M.at_) ?_)⟩
  have r2 : Vals (V.ref a :: vs) (Value.ref a :: us) := .cons rfl r
  have hl : (Value.ref a :: us).length = ps.length := by rw [← r2.length]; exact F.len _ _ _ _ q2
  refine codeAny_mono (F.run X.A X.stack s2 H2 ⟨Value.ref a :: us, []⟩ (Value.ref a :: us) (V.ref a :: vs) Q (WE W σ) hr I2.env0 (by have := hb s2 (Value.ref a :: us) I2.kIn (by simpa using hl); simpa using this) r2 q2) fun r s' hq => ?_
  cases r with
  | error e => exact passAt tk σ pins H2 s2 e s' I2 hq
  | ok fl =>
    cases fl with
    | ret u => exact I2.after hq
    | next => exact False.elim hq
    | brk => exact False.elim hq
    | cont => exact False.elim hq
end
end L2

set_option Elab.async false
set_option linter.all false
set_option maxRecDepth 100000
set_option maxHeartbeats 4000000
/-! a generator whose consumer may change things between its items: each stretch (from a wake to the next item) has a context of its own -/
namespace L2
open PySem PySem.Spec PyProof.Rows GenW
/-- the heap's first n places -/
def headH (h : Heap) (n : Nat) : Heap := ⟨h.objs.extract 0 n, h.life⟩
def headS (s : Shared) (n : Nat) : Shared := { s with heap := headH s.heap n }
theorem headH_size {h : Heap} {n : Nat} (hn : n ≤ h.objs.size) : (headH h n).objs.size = n := by
  show (h.objs.extract 0 n).size = n
  rw [Array.size_extract]; omega
theorem headH_get {h : Heap} {n b : Nat} (hb : b < n) : (headH h n).get? b = h.get? b := by
  have e : (headH h n).objs[b]? = h.objs[b]? := by
    show (h.objs.extract 0 n)[b]? = _
    rw [Array.getElem?_extract]
    by_cases hl : b < h.objs.size
    · rw [if_pos (by omega), Nat.zero_add]
    · rw [if_neg (by omega), Array.getElem?_eq_none (by omega)]
  unfold Heap.get?
  rw [e]
theorem headH_of {h : Heap} {n b : Nat} {o : Obj} (e : (headH h n).get? b = some o) : b < n ∧ h.get? b = some o := by
  have hb : b < n := by
    have q := Heap.lt_size e
    have z : (headH h n).objs.size ≤ n := by show (h.objs.extract 0 n).size ≤ n; rw [Array.size_extract]; omega
    exact Nat.lt_of_lt_of_le q z
  exact ⟨hb, by rw [← headH_get hb]; exact e⟩

/-- what a generator and its consumer have agreed on: cs: the consumer's state while the generator runs (what is out; heap); yd: what it wants of an item; kp: what it does to the heap until it asks again -/
structure Deal where
  cs : List V → Hp → Shared → Prop
  yd : List V → V → Hp → Prop
  kp : List V → V → Hp → Hp → Prop
  ad : List Addr := []
/-- the consumer's own places, made after the generator's: they stay while it runs -/
def AdOk (ad : List Addr) (n₀ : Nat) (outer : List Env) (H : Hp) (h : Heap) : Prop := ∀ b ∈ ad, n₀ < b ∧ H b = none ∧ b ∉ frs outer ∧ ∃ o, h.get? b = some o ∧ ∀ v, o.data ≠ .cell v
/-- the state in which it asks again -/
structure Wk (P : Program) (w : World) (base : Heap) (outer : List Env) (n₀ : Nat) (ad : List Addr) (H : Hp) (s : Shared) : Prop where
  bare : AllBare s.gens
  bs : ∀ b o, base.get? b = some o → s.heap.get? b = some o ∧ H b = none
  funs : s.heap.FunFrames base outer
  low : ∀ b ∈ frs outer, b < n₀ ∧ H b = none
  hok : HOk P w H s.heap
  sz : n₀ ≤ s.heap.objs.size
  ad : AdOk ad n₀ outer H s.heap
/-- a stretch's contexts -/
structure Fam (Fm : Cx → Prop) (n₀ : Nat) (X : Cx) : Prop where
  same : ∀ Z, Fm Z → Z = { X with s_0 := Z.s_0, H_0 := Z.H_0, xe := Z.xe }
  give : ∀ s H, s.heap.objs.size = n₀ → ∃ Z, Fm Z ∧ Z.s_0 = s ∧ Z.H_0 = H
  ex : X.ex = []
  bsz : X.base.objs.size ≤ n₀
  fn : ∀ Z, Fm Z → ∀ x, Z.fn x = true
  loc : X.env.locals = n₀
def Mine (X : Cx) (ip : List (Addr × Obj)) (b : Addr) : Prop := b = X.env.locals ∨ (∃ x, X.env.cells.lookup x = some b) ∨ ∃ p ∈ X.pn ++ ip, p.1 = b
section
variable {Fm : Cx → Prop} {n₀ : Nat} {X Z : Cx} {ip : List (Addr × Obj)} {σ : St} {H H2 : Hp} {s s2 : Shared}
theorem funFrames_cut {base h : Heap} {n : Nat} : ∀ {l : List Env}, h.FunFrames base l → (∀ b ∈ frs l, b < n) → (headH h n).FunFrames base l
  | [], _, _ => trivial
  | env :: l, hh, hl => by
    obtain ⟨hk, ⟨L, o, hf, hn, ho, hd⟩, hr⟩ := hh
    have hL : L < n := hl L (List.mem_filterMap.mpr ⟨env, List.mem_cons_self, hf⟩)
    refine ⟨hk, ⟨L, o, hf, hn, (headH_get hL).trans ho, hd⟩, funFrames_cut hr fun b hb => ?_⟩
    obtain ⟨e, he, q⟩ := List.mem_filterMap.mp hb
    exact hl b (List.mem_filterMap.mpr ⟨e, List.mem_cons_of_mem _ he, q⟩)
/-- the generator's state in the next stretch -/
theorem reseat {ad : List Addr} {h0 : Heap} (F : Fam Fm n₀ X) (hZ : Fm Z) (hz : Z.s_0.heap.objs.size = n₀) (I : Inv Z (pinsAt ad h0 ++ ip) σ H s) (w : Wk X.prog X.w X.base X.outer n₀ ad H2 s2)
    (mine : ∀ b, Mine Z ip b → ∀ o, s.heap.get? b = some o → s2.heap.get? b = some o ∧ H2 b = none) :
    ∃ Z', Fm Z' ∧ Z'.s_0 = headS s2 n₀ ∧ Z'.H_0 = H2 ∧ Inv Z' (pinsAt ad s2.heap ++ ip) σ H2 s2 := by
  obtain ⟨Z', hZ', e1, e2⟩ := F.give (headS s2 n₀) H2 (headH_size w.sz)
  refine ⟨Z', hZ', e1, e2, ?_⟩
  have q1 := F.same Z hZ
  have q2 := F.same Z' hZ'
  have hex : Z.ex = [] := by rw [q1]; exact F.ex
  have hex' : Z'.ex = [] := by rw [q2]; exact F.ex
  obtain ⟨ok, os, bare, base, ⟨m, hm, loc⟩, cell, free, freeC, pin, hok, len⟩ := I
  have a1 : Z.env = X.env := by rw [q1]
  have a2 : Z'.env = X.env := by rw [q2]
  have a3 : Z.N = X.N := by rw [q1]
  have a4 : Z'.N = X.N := by rw [q2]
  have a5 : Z.pn = X.pn := by rw [q1]
  have a6 : Z'.pn = X.pn := by rw [q2]
  have a7 : Z.outer = X.outer := by rw [q1]
  have a8 : Z'.outer = X.outer := by rw [q2]
  have a9 : Z'.base = X.base := by rw [q2]
  have b1 : Z'.prog = X.prog := by rw [q2]
  have b2 : Z'.w = X.w := by rw [q2]
  have hL : ∀ o, s.heap.get? X.env.locals = some o → s2.heap.get? X.env.locals = some o ∧ H2 X.env.locals = none := fun o e => mine _ (.inl (by rw [a1])) o e
  have hC : ∀ x c, X.env.cells.lookup x = some c → ∀ o, s.heap.get? c = some o → s2.heap.get? c = some o ∧ H2 c = none := fun x c h o e => mine _ (.inr (.inl ⟨x, by rw [a1]; exact h⟩)) o e
  rw [a1] at hm loc cell free freeC pin
  rw [a3] at loc len
  have ok' : Z'.Ok := by
    obtain ⟨mod, kind, glob, blt, above, inj, has, cab, hd, frames, stk, exf, bs, bsz, noex, exfs, funs, frf⟩ := ok
    rw [q1] at mod kind glob blt above inj has cab hd frames stk
    rw [q2]
    refine ⟨mod, kind, glob, blt, ?_, inj, has, fun x c h1 h2 => ?_, hd, frames, stk, ?_, ?_, ?_, ?_, ?_, ?_, ?_⟩
    · show Z'.s_0.heap.objs.size ≤ _
      rw [e1]; show (headH s2.heap n₀).objs.size ≤ _
      rw [headH_size w.sz, ← hz]; exact above
    · show Z'.s_0.heap.objs.size ≤ _
      rw [e1]; show (headH s2.heap n₀).objs.size ≤ _
      rw [headH_size w.sz, ← hz]; exact cab x c h1 h2
    · intro b hb; have hb : b ∈ X.ex := hb; rw [F.ex] at hb; cases hb
    · intro b o e
      show Z'.s_0.heap.get? b = some o ∧ Z'.H_0 b = none
      rw [e1, e2]
      have hl : b < n₀ := Nat.lt_of_lt_of_le (Heap.lt_size e) F.bsz
      obtain ⟨r1, r2⟩ := w.bs b o e
      exact ⟨(headH_get hl).trans r1, r2⟩
    · show X.base.objs.size ≤ Z'.s_0.heap.objs.size
      rw [e1]; show _ ≤ (headH s2.heap n₀).objs.size
      rw [headH_size w.sz]; exact F.bsz
    · intro b o _ hb; have hb : b ∈ X.ex := hb; rw [F.ex] at hb; cases hb
    · intro b hb; have hb : b ∈ X.ex := hb; rw [F.ex] at hb; cases hb
    · show Z'.s_0.heap.FunFrames X.base X.outer
      rw [e1]
      exact funFrames_cut w.funs fun b hb => (w.low b hb).1
    · intro b hb
      show Z'.H_0 b = none
      rw [e2]; exact (w.low b hb).2
  refine ⟨ok', by rw [e1]; rfl, w.bare, ?_, ⟨m, ?_, ?_⟩, ?_, ?_, ?_, ?_, by rw [b1, b2]; exact w.hok, by rw [a4]; exact len⟩
  · rw [e1, e2]
    exact Un.kept fun b o e => (headH_of e).2
  · rw [a2]
    obtain ⟨o, es, ep, ho, r⟩ := hm
    exact ⟨o, es, ep, (hL o ho).1, r⟩
  · rw [a2, a4]
    intro i x v h1 h2 h3
    obtain ⟨u, r, l⟩ := loc i x v h1 h2 h3
    refine ⟨u, r, ?_⟩
    rcases l with l | ⟨k, c, e, o, ho, hd⟩
    · exact .inl l
    · exact .inr ⟨k, c, e, o, (hC x c e o ho).1, hd⟩
  · rw [a2]
    intro x c e
    obtain ⟨v, o, ho, hd⟩ := cell x c e
    exact ⟨v, o, (hC x c e o ho).1, hd⟩
  · rw [a2]
    obtain ⟨o, es, ep, ho, r⟩ := hm
    exact (hL o ho).2
  · rw [a2]
    intro x c e
    obtain ⟨v, o, ho, hd⟩ := cell x c e
    exact (hC x c e o ho).2
  · rw [a2, a6]
    intro p hp
    rcases List.mem_append.mp hp with hp | hp
    · have hp' : p ∈ Z.pn ++ (pinsAt ad h0 ++ ip) := by rw [a5]; exact List.mem_append_left _ hp
      obtain ⟨r1, r2, r3, r4, r5⟩ := pin p hp'
      obtain ⟨t1, t2⟩ := mine p.1 (.inr (.inr ⟨p, by rw [a5]; exact List.mem_append_left _ hp, rfl⟩)) p.2 r1
      refine ⟨t1, t2, r3, ?_, r5⟩
      show p.1 ∉ frs Z'.outer
      rw [a8, ← a7]; exact r4
    rcases List.mem_append.mp hp with hp | hp
    · obtain ⟨hb, e⟩ := of_pinsAt hp
      obtain ⟨w1, w2, w3, o, w4, w5⟩ := w.ad p.1 hb
      rw [e] at w4
      cases w4
      refine ⟨e, w2, ?_, ?_, w5⟩
      · rw [F.loc]; exact Nat.ne_of_gt w1
      · show p.1 ∉ frs Z'.outer
        rw [a8]; exact w3
    · have hp' : p ∈ Z.pn ++ (pinsAt ad h0 ++ ip) := List.mem_append_right _ (List.mem_append_right _ hp)
      obtain ⟨r1, r2, r3, r4, r5⟩ := pin p hp'
      obtain ⟨t1, t2⟩ := mine p.1 (.inr (.inr ⟨p, List.mem_append_right _ hp, rfl⟩)) p.2 r1
      refine ⟨t1, t2, r3, ?_, r5⟩
      show p.1 ∉ frs Z'.outer
      rw [a8, ← a7]; exact r4
end
end L2

set_option Elab.async false
set_option linter.all false
set_option maxRecDepth 100000
set_option maxHeartbeats 4000000
/-! the statements of such a generator -/
namespace L2
open PySem PySem.Spec PyProof.Rows GenW
/-- where a stretch sits -/
structure Seat (Fm : Cx → Prop) (n₀ : Nat) (Dl : Deal) (ys : List V) (s₀ : Shared) (Z : Cx) : Prop where
  fm : Fm Z
  at0 : Z.s_0 = headS s₀ n₀
  cs : Dl.cs ys Z.H_0 s₀
  sz : n₀ ≤ s₀.heap.objs.size
  ad : ∀ b ∈ Dl.ad, ∃ o, s₀.heap.get? b = some o
/-- the consumer's own things at the last wake -/
abbrev Deal.cp (Dl : Deal) (s₀ : Shared) : List (Addr × Obj) := pinsAt Dl.ad s₀.heap
theorem Seat.size {Fm : Cx → Prop} {n₀ : Nat} {Dl : Deal} {ys : List V} {s₀ : Shared} {Z : Cx} (t : Seat Fm n₀ Dl ys s₀ Z) : Z.s_0.heap.objs.size = n₀ := by
  rw [t.at0]; exact headH_size t.sz
/-- an item is handed out; then asked again -/
def GY3 (P : Program) (w : World) (base : Heap) (outer : List Env) (pn : List (Addr × Obj)) (n₀ : Nat) (Dl : Deal) : Protocol := fun n s₀ v s kap =>
  ∃ (ys : List V) (x : V) (HE H1 : Hp) (mine : Addr → Prop), n + 1 + ys.length = sizeLine ∧ RelV x v ∧ Dl.cs ys HE s₀ ∧ n₀ ≤ s₀.heap.objs.size ∧ Un (frs outer) [] HE H1 (headH s₀.heap n₀) s.heap ∧ s.os = s₀.os ∧ AllBare s.gens ∧ HOk P w H1 s.heap ∧
    (∀ p ∈ pn, s.heap.get? p.1 = some p.2 ∧ H1 p.1 = none) ∧ n₀ ≤ s.heap.objs.size ∧ (∀ p ∈ Dl.cp s₀, s.heap.get? p.1 = some p.2 ∧ H1 p.1 = none) ∧ Dl.yd ys x H1 ∧ (∀ b, mine b → H1 b = none ∧ b ∉ frs outer ∧ ∃ o, s.heap.get? b = some o) ∧ (∀ b, mine b → b ∉ Dl.ad) ∧
    ∀ H2 s2, Wk P w base outer n₀ Dl.ad H2 s2 → Dl.cs (ys ++ [x]) H2 s2 → (∀ b, mine b → ∀ o, s.heap.get? b = some o → s2.heap.get? b = some o ∧ H2 b = none) → Dl.kp ys x H1 H2 → kap (.send .none) s2
/-- where its code stands -/
structure GC3 (X : Cx) (A : Around) (c : Code) (fs : List Frame) (gd : Bool → Bool) : Prop where
  over : A.over c fs = X.A
  split : splitAtGen fs = none
  guard : fs.any Frame.guarded = false
  gd : gd false = false
section
variable (Fm : Cx → Prop) (n₀ : Nat) (X : Cx) (Dl : Deal)
abbrev Cx.Y3 : Protocol := GY3 X.prog X.w X.base X.outer X.pn n₀ Dl
/-- what follows -/
structure GK3 (ip : List (Addr × Obj)) (A : Around) (R : GenEnd) (c : Code) (fs : List Frame) (K : Flow → Sem PySem.Fin) (J : Value → Sem PySem.Fin) (D : GEnds) : Prop where
  ok : ∀ (n : Nat) (ys : List V) (s₀ s : Shared) (f : Flow) (Z : Cx), Seat Fm n₀ Dl ys s₀ Z → n + ys.length = sizeLine → SP Z (Dl.cp s₀ ++ ip) (D.at ys) f s → Seg (model X.prog X.w) A R (X.Y3 n₀ Dl) n s₀ c (K f) fs s
  exc : ∀ (n : Nat) (ys : List V) (s₀ : Shared) (e : Value) (s : Shared) (Z : Cx), Seat Fm n₀ Dl ys s₀ Z → Z.xe e s → Seg (model X.prog X.w) A R (X.Y3 n₀ Dl) n s₀ c (J e) fs s
/-- whatever follows, from this tree -/
def GRun (m : Sem Flow) (t : TGn) : Prop :=
  ∀ (A : Around) (ip : List (Addr × Obj)) (R : GenEnd) (n : Nat) (ys : List V) (s₀ : Shared) (c : Code) (fs : List Frame) (K : Flow → Sem PySem.Fin) (J : Value → Sem PySem.Fin) (gd : Bool → Bool) (lv : List Value → List Value) (s : Shared) (σ : St) (H : Hp) (D : GEnds) (Z : Cx),
    (∀ p ∈ X.pn ++ ip, p.1 ∉ Dl.ad) → Seat Fm n₀ Dl ys s₀ Z → GC3 X A c fs gd → n + ys.length = sizeLine → GK3 Fm n₀ X Dl ip A R c fs K J D → Inv Z (Dl.cp s₀ ++ ip) σ H s → t D ys σ H → Seg (model X.prog X.w) A R (X.Y3 n₀ Dl) n s₀ c (m.wrap K J gd lv) fs s
structure GQ (st : Stmt) (t : TGn) : Prop where
  run : GRun Fm n₀ X Dl (exec st X.env) t
structure GQs (st : List Stmt) (t : TGn) : Prop where
  run : GRun Fm n₀ X Dl (execs st X.env) t
end
section
variable {Fm : Cx → Prop} {n₀ : Nat} {X : Cx} {Dl : Deal} {st : Stmt} {rest : List Stmt}
theorem Fam.env (F : Fam Fm n₀ X) {Z : Cx} (h : Fm Z) : Z.env = X.env ∧ Z.A = X.A ∧ Z.prog = X.prog ∧ Z.w = X.w ∧ Z.outer = X.outer ∧ Z.pn = X.pn ∧ Z.base = X.base ∧ Z.ex = X.ex ∧ Z.K = X.K ∧ Z.calm = X.calm := by
  have q := F.same Z h
  refine ⟨?_, ?_, ?_, ?_, ?_, ?_, ?_, ?_, ?_, ?_⟩ <;> rw [q]
/-- a statement that hands out nothing -/
theorem gq_ps (F : Fam Fm n₀ X) {t : TS} (h : ∀ Z, Fm Z → PS Z st t) : GQ Fm n₀ X Dl st (tPlain t) := by
  refine ⟨fun A ip R n ys s₀ c fs K J gd lv s σ H D Z hip z g hn k I ht => seg_wrap ?_⟩
  obtain ⟨e1, e2, e3, e4, _⟩ := F.env z.fm
  have q := (h Z z.fm).run (Dl.cp s₀ ++ ip) s σ H (D.at ys) I ht
  rw [e1, e2, e3, e4] at q
  rw [g.over]
  exact wpAny_mono q (fun f s' hs => k.ok n ys s₀ s' f Z z hn hs) fun x s' hx => k.exc n ys s₀ x s' Z z hx
theorem gqs_pss (F : Fam Fm n₀ X) {t : TS} (h : ∀ Z, Fm Z → PSs Z rest t) : GQs Fm n₀ X Dl rest (tPlain t) := by
  refine ⟨fun A ip R n ys s₀ c fs K J gd lv s σ H D Z hip z g hn k I ht => seg_wrap ?_⟩
  obtain ⟨e1, e2, e3, e4, _⟩ := F.env z.fm
  have q := (h Z z.fm).run (Dl.cp s₀ ++ ip) s σ H (D.at ys) I ht
  rw [e1, e2, e3, e4] at q
  rw [g.over]
  exact wpAny_mono q (fun f s' hs => k.ok n ys s₀ s' f Z z hn hs) fun x s' hx => k.exc n ys s₀ x s' Z z hx
theorem gqs_nil : GQs Fm n₀ X Dl [] tG0 :=
  ⟨fun A ip R n ys s₀ c fs K J gd lv s σ H D Z hip z g hn k I ht => seg_execs_nil (k.ok n ys s₀ s .next Z z hn ⟨σ, H, I, ht⟩)⟩
theorem gqs_cons {t u : TGn} (a : GQ Fm n₀ X Dl st t) (b : GQs Fm n₀ X Dl rest u) : GQs Fm n₀ X Dl (st :: rest) (tGThen t u) := by
  refine ⟨fun A ip R n ys s₀ c fs K J gd lv s σ H D Z hip z g hn k I ht => seg_execs_cons ?_⟩
  refine a.run A ip R n ys s₀ c fs _ J gd lv s σ H { D with nx := fun ys' σ' H' => u D ys' σ' H' } Z hip z g hn ⟨fun n' ys' s₀' s' f Z' z' hn' hs => ?_, k.exc⟩ I ht
  cases f with
  | next =>
    obtain ⟨σ', H', I', q⟩ := hs
    exact b.run A ip R n' ys' s₀' c fs K J gd lv s' σ' H' D Z' hip z' g hn' k I' q
  | brk => exact k.ok n' ys' s₀' s' .brk Z' z' hn' hs
  | cont => exact k.ok n' ys' s₀' s' .cont Z' z' hn' hs
  | ret u => exact k.ok n' ys' s₀' s' (.ret u) Z' z' hn' hs
theorem gq_if (F : Fam Fm n₀ X) {test : Expr} {body orelse : List Stmt} {pos : Pos} {tc : TT} {t u : TGn} (hc : ∀ Z, Fm Z → PT Z test tc) (hb : GQs Fm n₀ X Dl body t) (ho : GQs Fm n₀ X Dl orelse u) : GQ Fm n₀ X Dl (.If test body orelse pos) (tGIf tc t u) := by
  refine ⟨fun A ip R n ys s₀ c fs K J gd lv s σ H D Z hip z g hn k I ht => gseg_if ?_⟩
  obtain ⟨e1, e2, e3, e4, _⟩ := F.env z.fm
  have q := (hc Z z.fm).run (Dl.cp s₀ ++ ip) s σ H _ I ht
  rw [e1, e2, e3, e4] at q
  rw [g.over]
  refine wpAny_mono q (fun b s' hb' => ?_) fun x s' hx => k.exc n ys s₀ x s' Z z hx
  obtain ⟨H2, I2, q2⟩ := hb'
  cases b with
  | true => exact hb.run A ip R n ys s₀ c fs K J gd lv s' σ H2 D Z hip z g hn k I2 q2
  | false => exact ho.run A ip R n ys s₀ c fs K J gd lv s' σ H2 D Z hip z g hn k I2 q2
/-! ### yield -/
def tYield3 (Dl : Deal) (te : TE) : TGn := fun D ys σ H => ys.length < sizeLine ∧ te σ H fun x H1 => Dl.yd ys x H1 ∧ ∀ H2, Dl.kp ys x H1 H2 → D.nx (ys ++ [x]) σ H2
theorem gq_yield (F : Fam Fm n₀ X) {e : Expr} {yp pos : Pos} {te : TE} (he : ∀ Z, Fm Z → PE Z e te) (hco : X.env.scope.isCoroutine = false := by rfl) (hi : interactive X.env = false := by rfl) : GQ Fm n₀ X Dl (.Expr (.Yield (some e) yp) pos) (tYield3 Dl te) := by
  refine ⟨fun A ip R n ys s₀ c fs K J gd lv s σ H D Z hip z g hn k I ht => ?_⟩
  obtain ⟨hlt, ht⟩ := ht
  obtain ⟨n, rfl⟩ : ∃ m, n = m + 1 := ⟨n - 1, by omega⟩
  obtain ⟨e1, e2, e3, e4, e5, e6, _⟩ := F.env z.fm
  have q := (he Z z.fm).run (Dl.cp s₀ ++ ip) s σ H _ I ht
  rw [e1, e2, e3, e4] at q
  refine seg_Expr_Yield g.split g.gd g.guard ?_ hco hi
  rw [g.over]
  refine wpAny_mono q (fun v s' hv => ?_) fun x s' hx => k.exc _ ys s₀ x s' Z z hx
  obtain ⟨x, H1, I1, rv, yd, cont⟩ := hv
  intro kap hk
  have hb := I1.base
  have hfs : Z.fs = frs X.outer := by show frs Z.outer = _; rw [e5]
  have hex : Z.ex = [] := by rw [F.same Z z.fm]; exact F.ex
  rw [hfs, hex, z.at0] at hb
  refine ⟨ys, x, Z.H_0, H1, Mine Z ip, hn, rv, z.cs, z.sz, hb, by rw [I1.os, z.at0]; rfl, I1.bare, by rw [← e3, ← e4]; exact I1.hok, fun p hp => let ⟨r1, r2, _⟩ := I1.pin p (List.mem_append_left _ (by rw [e6]; exact hp)); ⟨r1, r2⟩, ?_, fun p hp => let ⟨r1, r2, _⟩ := I1.pin p (List.mem_append_right _ (List.mem_append_left _ hp)); ⟨r1, r2⟩, yd, fun b mb => ?_, fun b mb hb => ?_, fun H2 s2 wk cs2 mk kp => ?_⟩
  · have q := I1.sz
    rw [z.size] at q
    exact q
  · rw [← hfs]
    rcases mb with rfl | ⟨y, hy⟩ | ⟨p, hp, rfl⟩
    · obtain ⟨m, ⟨o, _, _, ho, _⟩, _⟩ := I1.loc
      refine ⟨I1.free, fun hm => ?_, o, ho⟩
      obtain ⟨_, o', ho', _⟩ := I1.ok.funs.mem hm
      exact absurd (Nat.lt_of_lt_of_le (Heap.lt_size ho') I1.ok.above) (Nat.lt_irrefl _)
    · obtain ⟨v, o, ho, _⟩ := I1.cell y b hy
      refine ⟨I1.freeC y b hy, fun hm => ?_, o, ho⟩
      obtain ⟨_, o', ho', hd'⟩ := I1.funs.mem hm
      have hfn : Z.fn y = true ∨ Z.fn y = false := by cases Z.fn y <;> simp
      rcases hfn with hf | hf
      · obtain ⟨_, o2, ho2, _⟩ := I1.ok.funs.mem hm
        exact absurd (Nat.lt_of_lt_of_le (Heap.lt_size ho2) (I1.ok.cab y b hf hy)) (Nat.lt_irrefl _)
      · exact absurd hf (by rw [F.fn Z z.fm y]; exact Bool.noConfusion)
    · obtain ⟨r1, r2, r3, r4, _⟩ := I1.pin p ((List.mem_append.mp hp).elim (List.mem_append_left _) fun h => List.mem_append_right _ (List.mem_append_right _ h))
      exact ⟨r2, r4, p.2, r1⟩
  · obtain ⟨o, ho⟩ := z.ad b hb
    obtain ⟨p1, _, p3, _, p5⟩ := I1.pin (b, o) (List.mem_append_right _ (List.mem_append_left _ (mem_pinsAt hb ho)))
    rcases mb with mb | ⟨y, hy⟩ | ⟨p, hp, rfl⟩
    · exact p3 mb
    · obtain ⟨v, o2, ho2, hd2⟩ := I1.cell y b hy
      rw [p1] at ho2
      cases ho2
      exact p5 _ hd2
    · exact hip p (by rw [← e6]; exact hp) hb
  · obtain ⟨Z', f1, f2, f3, I2⟩ := reseat F z.fm z.size I1 wk mk
    refine hk .none s2 (k.ok n (ys ++ [x]) s2 s2 .next Z' ⟨f1, f2, by rw [f3]; exact cs2, wk.sz, fun b hb => let ⟨_, _, _, o, e, _⟩ := wk.ad b hb; ⟨o, e⟩⟩ ?_ ⟨σ, H2, I2, cont H2 kp⟩)
    rw [List.length_append, List.length_singleton]; omega
end
end L2

set_option Elab.async false
set_option linter.all false
set_option maxRecDepth 100000
set_option maxHeartbeats 4000000
/-! its loops -/
namespace L2
open PySem PySem.Spec PyProof.Rows GenW
section
variable {Fm : Cx → Prop} {n₀ : Nat} {X : Cx} {Dl : Deal}
theorem GC3.loop {A : Around} {c c' : Code} {fs : List Frame} {gd : Bool → Bool} {k : Result → Sem PySem.Fin} {l kp : List Value} {p : Pos} (g : GC3 X A c fs gd) (hw : c'.weight = 0) (hu : c'.cUnits = 0) : GC3 X A c' (.ret k none (gd false) l c p kp :: fs) id := by
  refine ⟨(over_loop hw hu).trans g.over, ?_, ?_, rfl⟩
  · show Option.map _ (splitAtGen fs) = none
    rw [g.split]; rfl
  · show (gd false || List.any fs Frame.guarded) = false
    rw [g.gd, g.guard]; rfl
/-- what the loop's call goes on to -/
abbrev backK (env : Env) (K : Flow → Sem PySem.Fin) (J : Value → Sem PySem.Fin) (gd : Bool → Bool) (lv : List Value → List Value) : Result → Sem PySem.Fin := fun r => ((match r with | .ok f => (.pure f : Sem Flow) | .error e => .raise e).onRaise (cameBack env)).wrap K J gd lv
/-- an exception that leaves the loop's code -/
theorem mark3 {A : Around} {ip : List (Addr × Obj)} {R : GenEnd} {c c' : Code} {fs : List Frame} {K : Flow → Sem PySem.Fin} {J : Value → Sem PySem.Fin} {gd : Bool → Bool} {lv : List Value → List Value} {D : GEnds} {p : Pos} {Z : Cx} {n : Nat} {ys : List V} {s₀ s : Shared} {x : Value}
    (F : Fam Fm n₀ X) (z : Seat Fm n₀ Dl ys s₀ Z) (hp : PassesOwn (model X.prog X.w) X.A X.env Z.xe) (g : GC3 X A c fs gd) (k : GK3 Fm n₀ X Dl ip A R c fs K J D) (hw : c'.weight = 0) (hu : c'.cUnits = 0) (hx : Z.xe x s) :
    Seg (model X.prog X.w) A R (X.Y3 n₀ Dl) n s₀ c' (marked X.env x) (.ret (backK X.env K J gd lv) none (gd false) (lv []) c p [] :: fs) s := by
  have out : ∀ (y : Value) (s' : Shared), cameBackBy (model X.prog X.w) X.A X.env Z.xe y s' → Seg (model X.prog X.w) A R (X.Y3 n₀ Dl) n s₀ c (backK X.env K J gd lv (.error y)) fs s' := fun y s' h => by
    show Seg _ _ _ _ _ _ _ (((cameBack X.env y).bind fun _ => (Sem.raise y : Sem Flow)).wrap K J gd lv) _ _
    rw [Sem.bind_eq_wrap, Sem.wrap_wrap]
    refine seg_wrap ?_
    rw [g.over]
    exact wpAny_mono h (fun _ s2 hx => k.exc n ys s₀ y s2 Z z hx) fun u s2 hx => k.exc n ys s₀ u s2 Z z hx
  unfold marked
  rw [Sem.bind_eq_wrap]
  refine seg_wrap ?_
  rw [(g.loop (k := backK X.env K J gd lv) (l := lv []) (kp := []) (p := p) hw hu).over]
  exact wpAny_bind (wpAny_mono (hp x s hx) (fun _ s2 h => wpAny_theTreesLotGoes (seg_leaf (.error x) (out x s2 h))) fun y s2 h => seg_leaf (.error y) (out y s2 h))
theorem gq_while (F : Fam Fm n₀ X) {test : Expr} {body : List Stmt} {pos : Pos} {tc : TT} {tb : TGn} (hp : ∀ Z, Fm Z → PassesOwn (model X.prog X.w) X.A X.env Z.xe) (hc : ∀ Z, Fm Z → PT Z test tc) (hb : GQs Fm n₀ X Dl body tb) : GQ Fm n₀ X Dl (.While test body [] pos) (tGWhile tc tb) := by
  refine ⟨fun A ip R n ys s₀ c fs K J gd lv s σ H D Z hip z g hn k I ⟨W, ⟨m0, w0⟩, turn⟩ => seg_While fun p => ?_⟩
  have go : ∀ (m n : Nat) (ys : List V) (s₀ s : Shared) (σ : St) (H : Hp) (Z : Cx), Seat Fm n₀ Dl ys s₀ Z → n + ys.length = sizeLine → W m ys σ H → Inv Z (Dl.cp s₀ ++ ip) σ H s →
      Seg (model X.prog X.w) A R (X.Y3 n₀ Dl) n s₀ (.whileLoop test body [] X.env) ((model X.prog X.w).den (.whileLoop test body [] X.env)) (.ret (backK X.env K J gd lv) none (gd false) (lv []) c p [] :: fs) s := by
    intro m
    induction m using Nat.strongRecOn with
    | ind m ih =>
      intro n ys s₀ s σ H Z z hn w I
      obtain ⟨e1, e2, e3, e4, _⟩ := F.env z.fm
      have gl := g.loop (k := backK X.env K J gd lv) (l := lv []) (kp := []) (p := p) (c' := .whileLoop test body [] X.env) rfl rfl
      have em : ∀ (x : Value) (env : Env), ((do noteFrame x env; theTreesLotGoes x : Sem Unit).wrap (fun _ => (.raise x : Sem PySem.Fin)) .raise id id) = marked env x := fun x env => by unfold marked; rw [Sem.bind_eq_wrap]
      refine seg_whileLoop ?_
      rw [gl.over]
      have q := (hc Z z.fm).run (Dl.cp s₀ ++ ip) s σ H _ I (turn m ys σ H w)
      rw [e1, e2, e3, e4] at q
      refine wpAny_mono q (fun b s' hb' => ?_) fun x s' hx => by rw [em]; exact mark3 F z (hp Z z.fm) g k rfl rfl hx
      obtain ⟨H2, I2, q2⟩ := hb'
      cases b with
      | false =>
        rw [if_neg Bool.false_ne_true]
        exact seg_execs_nil (seg_leaf (.ok .next) (k.ok n ys s₀ s' .next Z z hn ⟨σ, H2, I2, q2⟩))
      | true =>
        obtain ⟨N, hN, q2⟩ := q2
        rw [if_pos rfl]
        refine hb.run A ip R n ys s₀ _ _ _ _ id id s' σ H2 { D with nx := N, ct := N, bk := D.nx } Z hip z gl hn ⟨fun n' ys' s₀' s3 f Z' z' hn' hs => ?_, fun n' ys' s₀' x s3 Z' z' hx => by rw [em]; exact mark3 F z' (hp Z' z'.fm) g k rfl rfl hx⟩ I2 q2
        cases f with
        | brk => exact seg_leaf (.ok .next) (k.ok n' ys' s₀' s3 .next Z' z' hn' hs)
        | ret v => exact seg_leaf (.ok (.ret v)) (k.ok n' ys' s₀' s3 (.ret v) Z' z' hn' hs)
        | next =>
          obtain ⟨σ3, H3, I3, n3⟩ := hs
          obtain ⟨m', hm, w3⟩ := hN ys' σ3 H3 n3
          exact seg_again rfl (ih m' hm n' ys' s₀' s3 σ3 H3 Z' z' hn' w3 I3)
        | cont =>
          obtain ⟨σ3, H3, I3, n3⟩ := hs
          obtain ⟨m', hm, w3⟩ := hN ys' σ3 H3 n3
          exact seg_again rfl (ih m' hm n' ys' s₀' s3 σ3 H3 Z' z' hn' w3 I3)
  exact go m0 n ys s₀ s σ H Z z hn w0 I
theorem gq_for (F : Fam Fm n₀ X) {tg iter : Expr} {body : List Stmt} {pos : Pos} {wi : TI} {gt : TG} {tb : TGn} (hp : ∀ Z, Fm Z → PassesOwn (model X.prog X.w) X.A X.env Z.xe) (hcm : X.calm = true) (hi : ∀ Z, Fm Z → PI Z tg iter wi) (hg : ∀ Z, Fm Z → PG Z tg gt) (hb : GQs Fm n₀ X Dl body tb)
    (hs : ∀ x, foldedSetIterable iter X.env x = pure x := by intro _; rfl) : GQ Fm n₀ X Dl (.For tg iter body [] pos) (tGFor wi gt tb) := by
  refine ⟨fun A ip R n ys s₀ c fs K J gd lv s σ H D Z hip z g hn k I ht => gseg_for hs ?_⟩
  obtain ⟨e1, e2, e3, e4, e5, e6, e7, e8, e9, e10⟩ := F.env z.fm
  have q := (hi Z z.fm).run (Dl.cp s₀ ++ ip) s σ H _ I ht
  rw [e1, e2, e3, e4] at q
  rw [g.over]
  refine wpAny_mono q (fun v s1 h1 => wpAny_mono h1 (fun itv s2 h2 p => ?_) fun x s' hx => k.exc n ys s₀ x s' Z z hx) fun x s' hx => k.exc n ys s₀ x s' Z z hx
  obtain ⟨it, fp, tn, Jt, H2, rfl, I2, T, st2, f2, W, ⟨m0, w0⟩, turn⟩ := h2
  rw [e3, e4, e9] at T
  have loop : ∀ (m n i : Nat) (ys : List V) (s₀ s : Shared) (σ : St) (H : Hp) (Z : Cx), Seat Fm n₀ Dl ys s₀ Z → n + ys.length = sizeLine → W i m ys σ H → tn i s.heap → (∀ b ∈ fp, FpOk Z (Dl.cp s₀ ++ ip) H b) → Inv Z (Dl.cp s₀ ++ ip) σ H s →
      Seg (model X.prog X.w) A R (X.Y3 n₀ Dl) n s₀ (.forLoop tg (.ref it) body [] X.env) ((model X.prog X.w).den (.forLoop tg (.ref it) body [] X.env)) (.ret (backK X.env K J gd lv) none (gd false) (lv []) c p [] :: fs) s := by
    intro m
    induction m using Nat.strongRecOn with
    | ind m ih =>
      intro n i ys s₀ s σ3 H3 Z z hn w3 st3 fr3 I3
      obtain ⟨e1, e2, e3, e4, e5, e6, e7, e8, e9, e10⟩ := F.env z.fm
      have gl := g.loop (k := backK X.env K J gd lv) (l := lv []) (kp := []) (p := p) (c' := .forLoop tg (.ref it) body [] X.env) rfl rfl
      have gb := g.loop (k := backK X.env K J gd lv) (l := lv []) (kp := []) (p := p) (c' := .block [] X.env) rfl rfl
      have ee : ∀ (n : Nat) (ys : List V) (s₀ : Shared) (x : Value) (s' : Shared) (Z : Cx), Seat Fm n₀ Dl ys s₀ Z → Z.xe x s' → Seg (model X.prog X.w) A R (X.Y3 n₀ Dl) n s₀ (.forLoop tg (.ref it) body [] X.env) (marked X.env x) (.ret (backK X.env K J gd lv) none (gd false) (lv []) c p [] :: fs) s' :=
        fun n ys s₀ x s' Z z hx => mark3 F z (hp Z z.fm) g k rfl rfl hx
      refine gseg_turn ?_
      rw [gl.over]
      have cz : Z.calm = true := e10.trans hcm
      rcases turn i m ys σ3 H3 w3 with ⟨stop, qn⟩ | ⟨go, N, hN, step⟩
      · have q := T.done Z e3 e4 e9 cz i (Dl.cp s₀ ++ ip) s σ3 H3 Z.xe I3 fr3 st3 stop
        rw [e2] at q
        refine wpAny_mono q (fun r s4 hr => ?_) fun x s' hx => ee n ys s₀ x s' Z z hx
        obtain ⟨rfl, I4⟩ := hr
        refine seg_again rfl ?_
        show Seg _ A R _ n s₀ _ (((execs [] X.env).onRaise (fun x => do noteFrame x X.env; theTreesLotGoes x)) >>= fun f => (.pure (.done f) : Sem PySem.Fin)) _ s4
        exact seg_leaf (.ok .next) (k.ok n ys s₀ s4 .next Z z hn ⟨σ3, H3, I4, qn⟩)
      · have q := T.item Z e3 e4 e9 cz i (Dl.cp s₀ ++ ip) s σ3 H3 Z.xe I3 fr3 st3 go
        rw [e2] at q
        refine wpAny_mono q (fun r s4 hr => ?_) fun x s' hx => ee n ys s₀ x s' Z z hx
        obtain ⟨u, rfl, h4⟩ := hr
        refine wpAny_mono h4 (fun _ s5 h5 => ?_) fun x s' hx => ee n ys s₀ x s' Z z hx
        obtain ⟨x, H5, I5, r5, y5, st5, fr5⟩ := h5
        have stat5 : ∀ b ∈ fp, FpOk Z (Dl.cp s₀ ++ ip) H5 b := fun b hb => ⟨fr5 b hb, (fr3 b hb).2⟩
        have I5' := I5.pinned stat5 (T.obj _ _ st5)
        have q6 := (hg Z z.fm).run _ s5 σ3 H5 x u _ I5' r5 (step x H5 y5)
        rw [e1, e2, e3, e4] at q6
        refine wpAny_mono q6 (fun _ s6 h6 => ?_) fun x s' hx => ee n ys s₀ x s' Z z hx
        obtain ⟨σ6, H6, I6, q6⟩ := h6
        have hip2 : ∀ p ∈ X.pn ++ (ip ++ pinsAt fp s5.heap), p.1 ∉ Dl.ad := fun p hp hb => by
          rcases List.mem_append.mp hp with hp | hp
          · exact hip p (List.mem_append_left _ hp) hb
          rcases List.mem_append.mp hp with hp | hp
          · exact hip p (List.mem_append_right _ hp) hb
          · obtain ⟨hf, _⟩ := of_pinsAt hp
            obtain ⟨o', e'⟩ := z.ad p.1 hb
            exact (fr3 p.1 hf).2.2.2.2.2 (p.1, o') (List.mem_append_right _ (List.mem_append_left _ (mem_pinsAt hb e'))) rfl
        refine hb.run A (ip ++ pinsAt fp s5.heap) R n ys s₀ _ _ _ _ id id s6 σ6 H6 { D with nx := N, ct := N, bk := D.nx } Z hip2 z gl hn ⟨fun n' ys' s₀' s7 f Z' z' hn' hs => ?_, fun n' ys' s₀' x s7 Z' z' hx => ee n' ys' s₀' x s7 Z' z' hx⟩ (by rw [← List.append_assoc]; exact I6) q6
        have q1 := F.same Z z.fm
        have q2 := F.same Z' z'.fm
        have back : ∀ {σ7 : St} {H7 : Hp}, Inv Z' (Dl.cp s₀' ++ (ip ++ pinsAt fp s5.heap)) σ7 H7 s7 → Inv Z' (Dl.cp s₀' ++ ip) σ7 H7 s7 ∧ tn (i + 1) s7.heap ∧ ∀ b ∈ fp, FpOk Z' (Dl.cp s₀' ++ ip) H7 b := fun {σ7 H7} h7 => by
          rw [← List.append_assoc] at h7
          have pin : ∀ b ∈ fp, ∀ o, s5.heap.get? b = some o → s7.heap.get? b = some o ∧ H7 b = none := fun b hb o e => by
            obtain ⟨r1, r2, _⟩ := h7.pin (b, o) (List.mem_append_right _ (List.mem_append_right _ (mem_pinsAt hb e)))
            exact ⟨r1, r2⟩
          refine ⟨h7.unpinned, T.keep _ _ _ st5 fun b hb o e => (pin b hb o e).1, fun b hb => ?_⟩
          obtain ⟨o, e, _⟩ := T.obj _ _ st5 b hb
          obtain ⟨_, t1, t2, t3, t4, t5⟩ := fr3 b hb
          refine ⟨(pin b hb o e).2, ?_, ?_, ?_, ?_, ?_⟩
          · rw [q2]; rw [q1] at t1; exact t1
          · show b ∉ frs Z'.outer
            rw [q2]; have t2' : b ∉ frs Z.outer := t2; rw [q1] at t2'; exact t2'
          · rw [q2]; rw [q1] at t3
            show b ∈ X.ex ∨ Z'.s_0.heap.objs.size ≤ b
            rw [z'.size, ← z.size]; exact t3
          · rw [q2]; rw [q1] at t4; exact t4
          · rw [q2]; rw [q1] at t5
            intro p hp
            rcases List.mem_append.mp hp with hp | hp
            · exact t5 p (List.mem_append_left _ hp)
            rcases List.mem_append.mp hp with hp | hp
            · obtain ⟨hb', _⟩ := of_pinsAt hp
              obtain ⟨o', e'⟩ := z.ad p.1 hb'
              exact t5 (p.1, o') (List.mem_append_right _ (List.mem_append_left _ (mem_pinsAt hb' e')))
            · exact t5 p (List.mem_append_right _ (List.mem_append_right _ hp))
        cases f with
        | next =>
          obtain ⟨σ7, H7, G7, n7⟩ := hs
          obtain ⟨m', hm, w7⟩ := hN ys' σ7 H7 n7
          obtain ⟨G8, st8, fr8⟩ := back G7
          exact seg_again rfl (ih m' hm n' (i + 1) ys' s₀' s7 σ7 H7 Z' z' hn' w7 st8 fr8 G8)
        | cont =>
          obtain ⟨σ7, H7, G7, n7⟩ := hs
          obtain ⟨m', hm, w7⟩ := hN ys' σ7 H7 n7
          obtain ⟨G8, st8, fr8⟩ := back G7
          exact seg_again rfl (ih m' hm n' (i + 1) ys' s₀' s7 σ7 H7 Z' z' hn' w7 st8 fr8 G8)
        | brk =>
          obtain ⟨σ7, H7, G7, n7⟩ := hs
          exact seg_leaf (.ok .next) (k.ok n' ys' s₀' s7 .next Z' z' hn' ⟨σ7, H7, (back G7).1, n7⟩)
        | ret v =>
          obtain ⟨x7, σ7, H7, G7, r7, n7⟩ := hs
          exact seg_leaf (.ok (.ret v)) (k.ok n' ys' s₀' s7 (.ret v) Z' z' hn' ⟨x7, σ7, H7, (back G7).1, r7, n7⟩)
  exact loop m0 n 0 ys s₀ s2 σ H2 Z z hn w0 st2 f2 I2
end
end L2

set_option Elab.async false
set_option linter.all false
set_option maxRecDepth 100000
set_option maxHeartbeats 4000000
/-! a generator def by its body -/
namespace L2
open PySem PySem.Spec PyProof.Rows GenW
/-- the promise: the arguments, the heap, the deal, what is wanted at the end of all that was handed out, the exception -/
abbrev SpG3 := List V → Hp → Deal → (List V → Hp → Prop) → XK → Prop
section
variable (P : Program) (w : World) (outer : List Env) (n₀ : Nat) (Dl : Deal)
def Er3 (E : XK) (a : Addr) (g : Nat) : Value → Shared → Prop := fun e s1 => ∃ ys HE sE, Dl.cs ys HE sE ∧ n₀ ≤ sE.heap.objs.size ∧ CX P w outer HE (headS sE n₀) E e s1 ∧ s1.heap.IsGen a g
def Fin3 (Q : List V → Hp → Prop) : Nat → Shared → Shared → Prop := fun n s₀ s1 => ∃ ys HE H', Dl.cs ys HE s₀ ∧ n₀ ≤ s₀.heap.objs.size ∧ s1.os = s₀.os ∧ AllBare s1.gens ∧ Un (frs outer) [] HE H' (headH s₀.heap n₀) s1.heap ∧ HOk P w H' s1.heap ∧ (∀ p ∈ Dl.cp s₀, s1.heap.get? p.1 = some p.2 ∧ H' p.1 = none) ∧ Q ys H'
abbrev End3 (Q : List V → Hp → Prop) (E : XK) (a : Addr) (g : Nat) : GenEnd := fun n s₀ r s1 => ((r = .ok (.ret .none) ∨ r = .ok .next) ∧ Fin3 P w outer n₀ Dl Q n s₀ s1) ∨ ∃ e, r = .error e ∧ Er3 P w outer n₀ Dl E a g e s1
end
/-- the deal, with the consumer's places -/
abbrev Deal.at (Dl : Deal) (ad : List Addr) : Deal := { Dl with ad := ad }
/-- what its call gives -/
def Made3 (P : Program) (w : World) (k : Nat) (base : Heap) (outer : List Env) (H : Hp) (s : Shared) (AD : Deal → (List V → Hp → Prop) → Prop) (E : XK) (u : Value) (s' : Shared) : Prop :=
  ∃ (a : Addr) (g : Nat) (c : Code) (go : Obj), u = .ref a ∧ s.heap.objs.size ≤ a ∧ a < s'.heap.objs.size ∧ s'.heap.get? a = some go ∧ (∀ h : Heap, h.get? a = some go → h.IsGen a g) ∧ s'.gens[g]? = some (.fresh c) ∧ s'.os = s.os ∧ AllBare s'.gens ∧ (∀ b o, s.heap.get? b = some o → s'.heap.get? b = some o) ∧
    ∀ (A : Around) (s2 : Shared) (Dl : Deal) (Q : List V → Hp → Prop), AD Dl Q → Room k A → A.frames = some outer → (∀ b o, s'.heap.get? b = some o → s2.heap.get? b = some o) → s2.os = s.os → AllBare s2.gens → (∀ b ∈ Dl.ad, s'.heap.objs.size ≤ b ∧ ∃ o, s2.heap.get? b = some o ∧ ∀ v, o.data ≠ .cell v) → Dl.cs [] H s2 →
      Seg (model P w) A (End3 P w outer s.heap.objs.size Dl Q E a g) (GY3 P w base outer [(a, go)] s.heap.objs.size Dl) sizeLine s2 c ((model P w).den c) [] s2
structure GFn3 (P : Program) (w : World) (K : PySem.W.Frag) (mg : Str → Option Value) (base : Heap) (k : Nat) (f : Addr) (fd : FuncData) (ps : List Str) (sp : SpG3) : Prop where
  len : ∀ vs H Dl Q E, sp vs H Dl Q E → vs.length = ps.length
  run : ∀ (A : Around) (outer : List Env) (s : Shared) (H : Hp) (args : Args) (us : List Value) (vs : List V) (AD : Deal → (List V → Hp → Prop) → Prop) (E : XK), (∃ Dl Q, AD Dl Q) → Room k A → Env0 P w K mg base A outer s H → BindsTo s fd args (ps.zip us) → Vals vs us → (∀ Dl Q, AD Dl Q → sp vs H Dl Q E) →
    codeAny (model P w) A (.call (.ref f) args) (fun r s' => match r with | .ok (.ret u) => Made3 P w k base outer H s AD E u s' | _ => False) s
section
variable {P : Program} {w : World} {K : PySem.W.Frag} {mg : Str → Option Value} {base : Heap}
/-- the family of a call: its frame stands at n₀ -/
def FmG (P : Program) (w : World) (K : PySem.W.Frag) (mg : Str → Option Value) (base : Heap) (N : List Str) (qual : Str) (scope : Scope) (f : Addr) (cd : Value) (A : Around) (outer : List Env) (E : XK) (pn : List (Addr × Obj)) (n₀ : Nat) (Z : Cx) : Prop :=
  ∃ s H, s.heap.objs.size = n₀ ∧ Z = gcxOf P w K mg base N qual scope f cd A outer s H E pn
theorem fam_g {N : List Str} {qual : Str} {scope : Scope} {f : Addr} {cd : Value} {A : Around} {outer : List Env} {E : XK} {pn : List (Addr × Obj)} {s : Shared} {H : Hp} (hb : base.objs.size ≤ s.heap.objs.size) :
    Fam (FmG P w K mg base N qual scope f cd A outer E pn s.heap.objs.size) s.heap.objs.size (gcxOf P w K mg base N qual scope f cd A outer s H E pn) := by
  refine ⟨fun Z ⟨s', H', hs, hZ⟩ => ?_, fun s' H' hs => ⟨_, ⟨s', H', hs, rfl⟩, rfl, rfl⟩, rfl, hb, fun Z ⟨s', H', hs, hZ⟩ x => (by rw [hZ]; rfl), rfl⟩
  subst hZ
  unfold gcxOf cxOf
  rw [hs]
/-- a member's room -/
theorem FmG.room {qual : Str} {scope : Scope} {f : Addr} {cd : Value} {A : Around} {s s' : Shared} {k : Nat} (hr : Room k (A.deeper (envOfC qual scope s.heap.objs.size f cd))) (hs : s'.heap.objs.size = s.heap.objs.size) :
    Room k (A.deeper (envOfC qual scope s'.heap.objs.size f cd)) := by rw [hs]; exact hr
theorem gfn3_of {k : Nat} {f : Addr} {name qual : Str} {params : Arguments} {body : List Stmt} {scope : Scope} {dV kV doc pm cdv ct oc : Value} {an od : Option Addr}
    {osl : Array (Option Value)} {N ps : List Str} {sp : SpG3} (lk : K.lookup f = some ⟨oc, od, .func (PySem.W.fnOf name qual params body scope dV kV doc pm an cdv ct), osl⟩) (hcd : PySem.W.codeIn K cdv qual = true) (S : GScope N ps scope)
    (len : ∀ vs H Dl Q E, sp vs H Dl Q E → vs.length = ps.length)
    (hbody : ∀ (A : Around) (outer : List Env) (s : Shared) (H : Hp) (vs : List V) (Dl : Deal) (Q : List V → Hp → Prop) (E : XK) (pn : List (Addr × Obj)), base.objs.size ≤ s.heap.objs.size → Room k (A.deeper (envOfC qual scope s.heap.objs.size f cdv)) → sp vs H Dl Q E →
      ∃ t, GQs (FmG P w K mg base N qual scope f cdv A outer E pn s.heap.objs.size) s.heap.objs.size (gcxOf P w K mg base N qual scope f cdv A outer s H E pn) Dl body t ∧ t { nx := fun ys _ H' => Q ys H', rt := fun ys v H' => v = .non ∧ Q ys H' } [] (start N vs) H) :
    GFn3 P w K mg base (k + 1) f (PySem.W.fnOf name qual params body scope dV kV doc pm an cdv ct) ps sp := by
  refine ⟨len, fun A outer s H args us vs AD E hAD hr e0 hb r hsp => ?_⟩
  obtain ⟨Dl0, Q0, hA0⟩ := hAD
  have hl := len _ _ _ _ _ (hsp Dl0 Q0 hA0)
  have kin : K.In s.heap := e0.mod.kin.keeps fun b o e => (e0.bs b o e).1
  have lim : s.heap.NoLimit := e0.mod.nolimit.keeps fun b o e => (e0.bs b o e).1
  have kinds : ∀ y ∈ ps.zip us, scope.names.lookup y.1 = some .local ∨ (scope.names.lookup y.1 = some .cell ∧ ((cellsFrom (s.heap.objs.size + 1) scope.names []).lookup y.1).isSome = true) := fun ⟨n, v⟩ hy =>
    (S.par n (List.of_mem_zip hy).1).imp id fun q => ⟨q, PySem.W.cellsFrom_some _ _ _ (.inl q)⟩
  refine codeAny_call_generator hr.depth (kin _ _ lk) rfl S.co S.gen rfl (PySem.W.codeRec_of kin hcd) (hb _ _ _ _ (wpAny_newFunctionEnv_cells S.kind kinds fun env he s1 x => ?_))
  subst he
  have lim1 : s1.heap.NoLimit := lim.keeps x.toInCall.keep
  refine ⟨lim1, ?_⟩
  obtain ⟨h1, tk, es1, hk1⟩ := x.done
  have os1 : s1.os = s.os := by rw [es1]
  have gen1 : s1.gens = s.gens := by rw [es1]
  have lt1 : s.heap.objs.size < s1.heap.objs.size := x.toInCall.ns.lt
  have kp1 : ∀ b o, s.heap.get? b = some o → s1.heap.get? b = some o := x.toInCall.keep
  have main : ∀ (go : Obj) (nm qn : Value) (tk2 : Nat), go.cls = .type "generator" → go.data = .fields #[.int s1.gens.size 0, nm, qn] → go.slots = #[] → (∀ h : Heap, (h.push go).get? h.objs.size = some go) →
      Made3 P w (k + 1) base outer H s AD E (.ref s1.heap.objs.size) { s1 with gens := s1.gens.push (.fresh (.func body (envOfC qual scope s.heap.objs.size f cdv))), toks := tk2, heap := s1.heap.push go } := by
    intro go nm qn tk2 hgc hgd hgs hgp
    have isg : ∀ h : Heap, h.get? s1.heap.objs.size = some go → h.IsGen s1.heap.objs.size s1.gens.size := fun h e => ⟨go, nm, qn, e, hgc, hgd, hgs⟩
    refine ⟨s1.heap.objs.size, s1.gens.size, _, go, rfl, Nat.le_of_lt lt1, ?_, hgp _, isg, Array.getElem?_push_size .., os1, ?_, fun b o e => Heap.get?_push_of_some _ (kp1 b o e), ?_⟩
    · show _ < (s1.heap.push _).objs.size
      rw [Heap.size_push]; exact Nat.lt_succ_self _
    · exact AllBare.push (by rw [gen1]; exact e0.bare) rfl
    intro Aw s2 Dl Q hA hrw hfr hk2 hos hba had hcs
    have kp2 : ∀ b o, s1.heap.get? b = some o → s2.heap.get? b = some o := fun b o e => hk2 b o (Heap.get?_push_of_some _ e)
    have kp3 : ∀ b o, s.heap.get? b = some o → s2.heap.get? b = some o := fun b o e => kp2 b o (kp1 b o e)
    have hea : s2.heap.get? s1.heap.objs.size = some go := hk2 s1.heap.objs.size go (hgp _)
    have sz2 : s.heap.objs.size ≤ s2.heap.objs.size := Nat.le_of_lt (Nat.lt_trans lt1 (Heap.lt_size hea))
    have e0w : Env0 P w K mg base Aw outer s H := ⟨hfr, e0.mod, e0.bs, e0.bsz, e0.funs, e0.frf, e0.hok, e0.bare⟩
    obtain ⟨t, ht, hq⟩ := hbody Aw outer s H vs Dl Q E [(s1.heap.objs.size, go)] e0.bsz (hrw.deeper _) (hsp Dl Q hA)
    have I1 : Inv (gcxOf P w K mg base N qual scope f cdv Aw outer s H E []) [] (start N vs) H s1 := inv_startG S hrw.hd e0w hl r x
    have I2 : Inv (gcxOf P w K mg base N qual scope f cdv Aw outer s H E []) [] (start N vs) H s2 := I1.call' (ch := []) (hos.trans os1.symm) (Un.kept kp2) (I1.hok.kept kp2) hba fun b z => nomatch z
    have hn1 : H s1.heap.objs.size = none := I1.hok.fresh (Nat.le_refl _)
    have hado : AdOk Dl.ad s.heap.objs.size outer H s2.heap := fun b hb => by
      obtain ⟨q1, q2⟩ := had b hb
      have q1 : (s1.heap.push go).objs.size ≤ b := q1
      rw [Heap.size_push] at q1
      have q3 : s1.heap.objs.size ≤ b := Nat.le_of_succ_le q1
      exact ⟨Nat.lt_of_lt_of_le lt1 q3, I1.hok.fresh q3, I1.nofs q3, q2⟩
    have I3 : Inv (gcxOf P w K mg base N qual scope f cdv Aw outer s H E [(s1.heap.objs.size, go)]) (pinsAt Dl.ad s2.heap ++ []) (start N vs) H s2 := Inv.pinnedG I2 fun p hp => by
      rcases List.mem_append.mp hp with hp | hp
      · rw [List.mem_singleton.mp hp]
        exact ⟨hea, hn1, Nat.ne_of_gt lt1, I1.nofs (Nat.le_refl _), fun v q => by rw [hgd] at q; cases q⟩
      · rw [List.append_nil] at hp
        obtain ⟨hb, e⟩ := of_pinsAt hp
        obtain ⟨w1, w2, w3, o, w4, w5⟩ := hado p.1 hb
        rw [e] at w4
        cases w4
        exact ⟨e, w2, Nat.ne_of_gt w1, w3, w5⟩
    have F := fam_g (P := P) (w := w) (K := K) (mg := mg) (N := N) (qual := qual) (scope := scope) (f := f) (cd := cdv) (A := Aw) (outer := outer) (E := E) (pn := [(s1.heap.objs.size, go)]) (s := s) (H := H) e0.bsz
    have wk : Wk P w base outer s.heap.objs.size Dl.ad H s2 := by
      refine ⟨hba, fun b o e => ⟨kp3 b o (e0.bs b o e).1, (e0.bs b o e).2⟩, Heap.FunFrames.of_keeps (fun b o e _ => ⟨o, kp3 b o e, rfl⟩) e0.funs, fun b hb => ?_, e0.hok.kept kp3, sz2, hado⟩
      obtain ⟨_, o, ho, _⟩ := e0.funs.mem hb
      exact ⟨Heap.lt_size ho, e0.frf b hb⟩
    obtain ⟨Z, f1, f2, f3, I4⟩ := reseat F (Z := gcxOf P w K mg base N qual scope f cdv Aw outer s H E [(s1.heap.objs.size, go)]) ⟨s, H, rfl, rfl⟩ rfl I3 wk fun b mb o e => ⟨e, by
      rcases mb with rfl | ⟨y, hy⟩ | ⟨p, hp, rfl⟩
      · exact I3.free
      · exact I3.freeC y b hy
      · exact (I3.pin p ((List.mem_append.mp hp).elim (List.mem_append_left _) fun h => (by cases h))).2.1⟩
    have zz : Seat (FmG P w K mg base N qual scope f cdv Aw outer E [(s1.heap.objs.size, go)] s.heap.objs.size) s.heap.objs.size Dl [] s2 Z := ⟨f1, f2, by rw [f3]; exact hcs, sz2, fun b hb => let ⟨_, _, _, o, e, _⟩ := hado b hb; ⟨o, e⟩⟩
    have fin : ∀ {n : Nat} {ys : List V} {s₀ s' : Shared} {σ' : St} {H' : Hp} {Z : Cx}, Seat (FmG P w K mg base N qual scope f cdv Aw outer E [(s1.heap.objs.size, go)] s.heap.objs.size) s.heap.objs.size Dl ys s₀ Z → Inv Z (Dl.cp s₀ ++ []) σ' H' s' → Q ys H' → Fin3 P w outer s.heap.objs.size Dl Q n s₀ s' := fun {n ys s₀ s' σ' H' Z} z I q => by
      obtain ⟨e1, e2, e3, e4, e5, e6, e7, e8, _⟩ := F.env z.fm
      have hb := I.base
      have hfs : Z.fs = frs outer := by show frs Z.outer = _; rw [e5]; rfl
      have hex : Z.ex = [] := by rw [e8]; rfl
      rw [hfs, hex, z.at0] at hb
      have hk := I.hok
      rw [e3, e4] at hk
      exact ⟨ys, Z.H_0, H', z.cs, z.sz, by rw [I.os, z.at0]; rfl, I.bare, hb, hk, fun p hp => let ⟨r1, r2, _⟩ := I.pin p (List.mem_append_right _ (List.mem_append_left _ hp)); ⟨r1, r2⟩, q⟩
    have hip0 : ∀ p ∈ [(s1.heap.objs.size, go)] ++ ([] : List (Addr × Obj)), p.1 ∉ Dl.ad := fun p hp hb => by
      rw [List.append_nil] at hp
      have q1 : (s1.heap.push go).objs.size ≤ p.1 := (had p.1 hb).1
      rw [Heap.size_push, List.mem_singleton.mp hp] at q1
      exact absurd q1 (Nat.not_succ_le_self _)
    refine seg_func ?_
    refine ht.run Aw [] _ sizeLine [] s2 _ [] _ _ id id s2 (start N vs) H _ Z hip0 zz ⟨over_func, rfl, rfl, rfl⟩ (Nat.add_zero _) ⟨fun n ys s₀ s' fl Z z hn hs => ?_, fun n ys s₀ e s' Z z hx => ?_⟩ I4 hq
    · cases fl with
      | next =>
        obtain ⟨σ', H', I, q⟩ := hs
        exact seg_end (.ok (.ret .none)) (.inl ⟨.inl rfl, fin z I q⟩)
      | brk => obtain ⟨_, _, _, q⟩ := hs; exact False.elim q
      | cont => obtain ⟨_, _, _, q⟩ := hs; exact False.elim q
      | ret u =>
        obtain ⟨v, σ', H', I, rv, rfl, q⟩ := hs
        obtain rfl : u = Value.none := rv
        exact seg_end (.ok (.ret .none)) (.inl ⟨.inl rfl, fin z I q⟩)
    · obtain ⟨s', H', hs', rfl⟩ := z.fm
      refine seg_wrap ?_
      rw [over_func]
      have hx' : wpAny (model P w) (Aw.deeper (envOfC qual scope s'.heap.objs.size f cdv)) (leaving (envOfC qual scope s'.heap.objs.size f cdv) e) (fun _ s'' => CX P w outer H' s' E e s'' ∧ ∀ p ∈ [(s1.heap.objs.size, go)], s''.heap.get? p.1 = some p.2) (fun _ _ => False) _ := hx
      rw [hs'] at hx'
      refine wpAny_mono hx' (fun _ s'' q => seg_end (.error e) (.inr ⟨e, rfl, ys, H', s₀, z.cs, z.sz, ?_, isg _ (q.2 _ (List.mem_singleton.mpr rfl))⟩)) fun _ s'' q => q.elim
      have ea : s' = headS s₀ s.heap.objs.size := z.at0
      rw [← ea]; exact q.1
  exact main _ _ _ _ rfl rfl rfl fun h => Heap.get?_push_size _ rfl
structure OwnG3 (P : Program) (w : World) (K : PySem.W.Frag) (mg : Str → Option Value) (base : Heap) (x : Str) (k : Nat) (ps : List Str) (sp : SpG3) : Prop where
  ex : ∃ (f : Addr) (fd : FuncData), GFn3 P w K mg base k f fd ps sp ∧ mg x = some (.ref f) ∧ PySem.W.keepIn K (.ref f) = true ∧ Binds K fd ps []
theorem DefAt.ownG3 {x : Str} {st : Stmt} {ps : List Str} {k : Nat} {sp : SpG3} (D : DefAt K mg x st ps) (h : ∀ f fd, Fun K x x st f fd → GFn3 P w K mg base k f fd ps sp) : OwnG3 P w K mg base x k ps sp := by
  obtain ⟨f, fd, F, hm, hb⟩ := D.ex
  exact ⟨f, fd, h f fd F, hm, F.kp, hb⟩
/-- .. by its text -/
theorem gfn3_fun {x qual : Str} {st : Stmt} {f : Addr} {fd : FuncData} {N ps : List Str} {k : Nat} {sp : SpG3} (F : Fun K x qual st f fd) (S : GScope N ps (defScope st)) (len : ∀ vs H Dl Q E, sp vs H Dl Q E → vs.length = ps.length)
    (hbody : ∀ (cdv : Value) (A : Around) (outer : List Env) (s : Shared) (H : Hp) (vs : List V) (Dl : Deal) (Q : List V → Hp → Prop) (E : XK) (pn : List (Addr × Obj)) (Fm : Cx → Prop) (X : Cx), Fm = FmG P w K mg base N qual (defScope st) f cdv A outer E pn s.heap.objs.size → X = gcxOf P w K mg base N qual (defScope st) f cdv A outer s H E pn →
      Fam Fm s.heap.objs.size X → Room k (A.deeper (envOfC qual (defScope st) s.heap.objs.size f cdv)) → sp vs H Dl Q E →
      ∃ t, GQs Fm s.heap.objs.size X Dl (defBody st) t ∧ t { nx := fun ys _ H' => Q ys H', rt := fun ys v H' => v = .non ∧ Q ys H' } [] (start N vs) H) : GFn3 P w K mg base (k + 1) f fd ps sp := by
  obtain ⟨oc, od, kV, doc, pm, an, cdv, ct, osl, rfl, lk, hcd⟩ := F.ex
  exact gfn3_of lk hcd S len fun A outer s H vs Dl Q E pn hb hr hsp => hbody cdv A outer s H vs Dl Q E pn _ _ rfl rfl (fam_g hb) hr hsp
end
end L2

set_option Elab.async false
set_option linter.all false
set_option maxRecDepth 100000
set_option maxHeartbeats 4000000
/-! the consumer: what it may do between the items -/
namespace L2
open PySem PySem.Spec PyProof.Rows GenW
/-- no generator is touched, what is untracked stays -/
structure Soft (X : Cx) (s : Shared) (H : Hp) (s' : Shared) (H' : Hp) : Prop where
  gens : s'.gens = s.gens
  size : s.heap.objs.size ≤ s'.heap.objs.size
  keep : ∀ b o, s.heap.get? b = some o → H b = none → b ∉ frs X.stack → s'.heap.get? b = some o ∧ H' b = none
theorem Soft.refl {X : Cx} {s : Shared} {H : Hp} : Soft X s H s H := ⟨rfl, Nat.le_refl _, fun b o e n _ => ⟨e, n⟩⟩
theorem Soft.trans {X : Cx} {s1 s2 s3 : Shared} {H1 H2 H3 : Hp} (a : Soft X s1 H1 s2 H2) (b : Soft X s2 H2 s3 H3) : Soft X s1 H1 s3 H3 :=
  ⟨b.gens.trans a.gens, Nat.le_trans a.size b.size, fun c o e n hc => let ⟨e2, n2⟩ := a.keep c o e n hc; b.keep c o e2 n2 hc⟩
/-- a target -/
structure PGq (X : Cx) (tg : Expr) (t : TG) : Prop where
  run : ∀ (pins : List (Addr × Obj)) (s : Shared) (σ : St) (H : Hp) (v : V) (u : Value) (Q : St → Hp → Prop), Inv X pins σ H s → RelV v u → t v σ H Q →
    wpAny (model X.prog X.w) X.A (assign tg X.env u) (fun _ s' => ∃ σ' H', Inv X pins σ' H' s' ∧ Soft X s H s' H' ∧ Q σ' H') X.xe s
/-- an expression -/
structure PEq (X : Cx) (e : Expr) (t : TE) : Prop where
  run : ∀ (pins : List (Addr × Obj)) (s : Shared) (σ : St) (H : Hp) (Q : VK), Inv X pins σ H s → t σ H Q → wpAny (model X.prog X.w) X.A (eval e X.env) (fun u s' => ∃ x H', Inv X pins σ H' s' ∧ Soft X s H s' H' ∧ RelV x u ∧ Q x H') X.xe s
/-- a body -/
structure PBq (X : Cx) (body : List Stmt) (t : TS) : Prop where
  run : ∀ (pins : List (Addr × Obj)) (s : Shared) (σ : St) (H : Hp) (D : Ends), Inv X pins σ H s → t D σ H → wpAny (model X.prog X.w) X.A (execs body X.env) (fun f s' => match f with
    | .next => ∃ σ' H', Inv X pins σ' H' s' ∧ Soft X s H s' H' ∧ D.nx σ' H'
    | .cont => ∃ σ' H', Inv X pins σ' H' s' ∧ Soft X s H s' H' ∧ D.ct σ' H'
    | .brk => ∃ σ' H', Inv X pins σ' H' s' ∧ D.bk σ' H'
    | .ret u => ∃ v σ' H', Inv X pins σ' H' s' ∧ RelV v u ∧ D.rt v H') X.xe s
section
variable {X : Cx} {pins : List (Addr × Obj)} {σ : St} {H : Hp} {s : Shared}
/-- a body that never comes to its end -/
theorem pbq_end {body : List Stmt} {t : TS} (h : PSs X body t) : PBq X body (fun D σ H => t { D with nx := fun _ _ => False, ct := fun _ _ => False } σ H) := by
  refine ⟨fun pins s σ H D I q => thn (h.run pins s σ H _ I q) fun f s' hs => ?_⟩
  cases f with
  | next => obtain ⟨_, _, _, z⟩ := hs; exact z.elim
  | cont => obtain ⟨_, _, _, z⟩ := hs; exact z.elim
  | brk => exact hs
  | ret u => exact hs
theorem peq_var {i : Nat} {x : Str} {pos : Pos} (hN : X.N[i]? = some x) (hv : X.env.scope.names.lookup x = some .local) (hd : (x == ("__debug__" : Str)) = false := by decide) : PEq X (.Name x pos) (tVar i) := by
  refine ⟨fun pins s σ H Q I ⟨v, e, h⟩ => ?_⟩
  obtain ⟨m, hn, hl⟩ := I.loc
  obtain ⟨u, r, l⟩ := hl i x v hN e (.inl hv)
  rcases l with ⟨hk, hm⟩ | ⟨hk, _⟩
  · exact wpAny_Name (wpAny_loadName_local I.ok.kind hk hn hm ⟨v, H, I, .refl, r, h⟩) hd
  · have hk' : X.env.scope.names.lookup x = some .cell ∨ X.env.scope.names.lookup x = some .free := hk
    rw [hv] at hk'
    rcases hk' with z | z <;> cases z
theorem pgq_name {i : Nat} {x : Str} {pos : Pos} (hs : X.stack = X.env :: X.outer) (hf : X.env.frame = some X.env.locals) (hN : X.N.Nodup) (hi : X.N[i]? = some x) (hv : X.env.scope.names.lookup x = some .local) : PGq X (.Name x pos) (gName i) := by
  refine ⟨fun pins s σ H v u Q I r h => wpAny_assign_Name ?_⟩
  obtain ⟨m, hn, hl⟩ := id I.loc
  have inF : X.env.locals ∈ frs X.stack := by rw [hs]; exact List.mem_filterMap.mpr ⟨_, List.mem_cons_self, hf⟩
  refine wpAny_storeName_local hv hn (fun h' hn' hb => ?_) (by rw [I.ok.kind]; rfl)
  have ne : ∀ b o, s.heap.get? b = some o → b ≠ X.env.locals → h'.get? b = some o := fun b o e z => (hb.2 b z).trans e
  have old : ∀ b o, X.s_0.heap.get? b = some o → b ≠ X.env.locals := fun b o e => Nat.ne_of_lt (Nat.lt_of_lt_of_le (Heap.lt_size e) I.ok.above)
  have hlen : i < σ.length := by rw [I.len]; exact (List.getElem?_eq_some_iff.mp hi).1
  refine ⟨_, H, ⟨I.ok, I.os, I.bare, ?_, ⟨_, hn', fun j y v' t1 t2 t3 => ?_⟩, fun y c e => ?_, I.free, I.freeC, fun p hp => ?_, ?_, by rw [List.length_set]; exact I.len⟩, ⟨rfl, Nat.le_of_eq hb.1.symm, fun b o e n hF => ⟨ne b o e fun z => hF (by rw [z]; exact inF), n⟩⟩, h⟩
  · refine ⟨fun b o e n a1 a2 => ne b o (I.base.keep b o e n a1 a2) (old b o e), fun b o e n a1 a2 => ?_, I.base.free, fun b o e a2 => ?_, I.base.tups, I.base.frzs, I.base.tbls⟩
    · obtain ⟨sl, q⟩ := I.base.slot b o e n a1 a2
      exact ⟨sl, ne b _ q (old b o e)⟩
    · obtain ⟨o', q⟩ := I.base.there b o e a2
      exact ⟨o', ne b _ q (old b o e)⟩
  · by_cases hj : j = i
    · subst hj
      rw [hi] at t1; cases t1
      rw [List.getElem?_set_self hlen] at t2
      cases t2
      exact ⟨u, r, .inl ⟨hv, if_pos rfl⟩⟩
    · rw [List.getElem?_set_ne (fun z => hj z.symm)] at t2
      obtain ⟨u', r', q⟩ := hl j y v' t1 t2 t3
      have hy : y ≠ x := fun z => hj (nodup_ix hN t1 (by rw [z]; exact hi))
      rcases q with ⟨k, e⟩ | ⟨k, c, e, o, ho, hd⟩
      · exact ⟨u', r', .inl ⟨k, (if_neg hy).trans e⟩⟩
      · exact ⟨u', r', .inr ⟨k, c, e, o, ne c o ho (I.cne y c e), hd⟩⟩
  · obtain ⟨w, o, ho, hd⟩ := I.cell y c e
    exact ⟨w, o, ne c o ho (I.cne y c e), hd⟩
  · obtain ⟨a1, a2, a3, a4, a5⟩ := I.pin p hp
    exact ⟨ne p.1 p.2 a1 a3, a2, a3, a4, a5⟩
  · intro b ob e
    refine (I.hok b ob e).stay (fun c w hc q => ne c w q fun z => ?_) (fun _ q => q) fun _ _ q => q
    subst z
    have hF := I.free
    rcases hc with hc | hc
    · rw [← hc, hF] at e; cases e
    · rw [hF] at hc; cases hc
/-- l.append(x) -/
def tAppq (i j : Nat) : TS := fun D σ H => ∃ l x xs, σ[i]? = some (some (.ref l)) ∧ σ[j]? = some (some x) ∧ H l = some (.lst xs) ∧ xs.length < sizeLine ∧ D.nx σ (upd H l (.lst (xs ++ [x])))
theorem pbq_app {i j : Nat} {l x : Str} {p1 p2 ap pos pos2 : Pos} (hi : X.N[i]? = some l) (hl : X.env.scope.names.lookup l = some .local) (hj : X.N[j]? = some x) (hx : X.env.scope.names.lookup x = some .local)
    (hbase : attributeBase (.Name l p1) "append" X.env (eval (.Name l p1) X.env) = eval (.Name l p1) X.env := by rfl)
    (hfew : ((backTo pos (starEach [.Name x p2] X.env)).all (fun x => !x.1) && (backToKw pos (keywordEach [] X.env)).all (fun x => x.1.isSome) && decide (([Expr.Name x p2] : List Expr).length + ([] : List Keyword).length + (if ([] : List Keyword).isEmpty then 0 else 1) < 30)) = true := by rfl)
    (hline : (ap.endLine == pos.line) = true := by rfl) (htr : backTo pos (starEach [.Name x p2] X.env) = [(false, eval (.Name x p2) X.env)] := by rfl)
    (hin : interactive X.env = false := by rfl) (hsw : swapsWith (.Call (.Attribute (.Name l p1) "append" ap) [.Name x p2] [] pos) none pos2.line X.env = pure false := by rfl)
    (hd : (l == ("__debug__" : Str)) = false := by decide) (hd2 : (x == ("__debug__" : Str)) = false := by decide) :
    PBq X [.Expr (.Call (.Attribute (.Name l p1) "append" ap) [.Name x p2] [] pos) pos2] (tAppq i j) := by
  refine ⟨fun pins s σ H D I ⟨a, y, xs, e1, e2, hH, hz, q⟩ => ?_⟩
  refine wpAny_execs_cons ?_
  refine wpAny_Expr ?_ hin hsw
  refine wpAny_Call_append hbase hfew hline htr (thn ((peq_var hi hl hd).run pins s σ H (fun v H' => v = .ref a ∧ H' = H) I ⟨_, e1, rfl, rfl⟩) fun u s1 ⟨x1, H1, I1, S1, r1, q1, q2⟩ => ?_)
  subst q1 q2
  cases r1
  obtain ⟨z, its, n, r, hl', e⟩ := I1.lstM hH
  refine ⟨a, its.toArray, rfl, ⟨_, n, e, rfl, rfl, rfl⟩, thn ((peq_var hj hx hd2).run pins s1 σ H1 (fun v H' => v = y ∧ H' = H1) I1 ⟨_, e2, rfl, rfl⟩) fun u2 s2 ⟨x2, H2, I2, S2, r2, q1, q2⟩ => ?_⟩
  subst q1 q2
  obtain ⟨z, its, n, r, hl', e⟩ := I2.lstM hH
  refine call_meets F.slot_list_append ⟨_, e, rfl⟩ F.entry_list_append (F.args_list_append_2 _ _) (PySem.list_append a its.toArray n u2 (by rw [List.size_toArray]; omega)) ⟨e, ?_⟩
  refine wpAny_execs_nil ⟨σ, _, I2.lset (its' := its ++ [u2]) hH e (by simp) (r.append (.cons r2 .nil)) (by rw [List.length_append, List.length_singleton]; omega), (S1.trans S2).trans ⟨rfl, Nat.le_of_eq (Heap.size_update _ _ _).symm, fun b o eb nb _ => ?_⟩, q⟩
  have hb : b ≠ a := fun z => by rw [z, hH] at nb; cases nb
  exact ⟨(Heap.get?_update_other _ _ (Ne.symm hb)).trans eb, by rw [upd_ne hb]; exact nb⟩
end
end L2

set_option Elab.async false
set_option linter.all false
set_option maxRecDepth 100000
set_option maxHeartbeats 4000000
/-! for x in f(..): over a generator def's call -/
namespace L2
open PySem PySem.Spec PyProof.Rows GenW
/-- what stands in the consumer's frame lies below n₀ -/
structure LowX (X : Cx) (pins : List (Addr × Obj)) (n₀ : Nat) : Prop where
  s0 : X.s_0.heap.objs.size ≤ n₀
  loc : X.env.locals < n₀
  cell : ∀ x c, X.env.cells.lookup x = some c → c < n₀
  pin : ∀ p ∈ X.pn ++ pins, p.1 < n₀
section
variable {X : Cx} {pins : List (Addr × Obj)} {σ : St} {H H1 : Hp} {s s1 : Shared} {n₀ : Nat}
theorem Inv.low (I : Inv X pins σ H s) : LowX X pins s.heap.objs.size :=
  ⟨I.sz, I.lt, fun x c e => let ⟨_, _, ho, _⟩ := I.cell x c e; Heap.lt_size ho, fun p hp => Heap.lt_size (I.pin p hp).1⟩
theorem Inv.gensTo (I : Inv X pins σ H s) {G : Array GenState} (h : AllBare G) : Inv X pins σ H { s with gens := G } :=
  I.call' (ch := []) rfl Un.refl I.hok h fun _ z => nomatch z
/-- the places from n₀ on -/
def upFrom (n₀ : Nat) (h : Heap) : List Addr := (List.range h.objs.size).filter fun b => decide (n₀ ≤ b)
theorem upFrom_not {h : Heap} {b : Addr} {o : Obj} (e : h.get? b = some o) (hb : b ∉ upFrom n₀ h) : b < n₀ := by
  refine Nat.lt_of_not_le fun z => hb (List.mem_filter.mpr ⟨List.mem_range.mpr (Heap.lt_size e), decide_eq_true z⟩)
theorem LowX.up (L : LowX X pins n₀) {h : Heap} : ∀ b ∈ upFrom n₀ h, (b ∈ X.ex ∨ X.s_0.heap.objs.size ≤ b) ∧ b ≠ X.env.locals ∧ (∀ x c, X.env.cells.lookup x = some c → c ≠ b) ∧ ∀ p ∈ X.pn ++ pins, p.1 ≠ b := fun b hb => by
  have hn : n₀ ≤ b := of_decide_eq_true (List.mem_filter.mp hb).2
  refine ⟨.inr (Nat.le_trans L.s0 hn), fun z => ?_, fun x c e z => ?_, fun p hp z => ?_⟩
  · rw [z] at hn; exact absurd (Nat.lt_of_lt_of_le L.loc hn) (Nat.lt_irrefl _)
  · rw [← z] at hn; exact absurd (Nat.lt_of_lt_of_le (L.cell x c e) hn) (Nat.lt_irrefl _)
  · rw [← z] at hn; exact absurd (Nat.lt_of_lt_of_le (L.pin p hp) hn) (Nat.lt_irrefl _)
/-- behind a stretch of the generator -/
theorem Inv.stretch (I : Inv X pins σ H s) (L : LowX X pins n₀) (u : Un (frs X.stack) [] H H1 (headH s.heap n₀) s1.heap) (hok : HOk X.prog X.w H1 s1.heap) (os : s1.os = s.os) (ag : AllBare s1.gens) : Inv X pins σ H1 s1 := by
  have hh : ∀ b o, s.heap.get? b = some o → b ∉ upFrom n₀ s.heap → (headH s.heap n₀).get? b = some o := fun b o e hb => (headH_get (upFrom_not e hb)).trans e
  exact I.call' (ch := upFrom n₀ s.heap) os ⟨fun b o e n hb hc => u.keep b o (hh b o e hc) n hb (fun z => nomatch z), fun b o e n hb hc => u.slot b o (hh b o e hc) n hb (fun z => nomatch z), fun b o e n hc => u.free b o (hh b o e hc) n (fun z => nomatch z),
    fun b o e hc => u.there b o (hh b o e hc) (fun z => nomatch z), u.tups, u.frzs, u.tbls⟩ hok ag L.up
/-- an exception that the generator let out -/
theorem XE.of_stretch {W : WX} {E : XK} (I : Inv X pins σ H s) (L : LowX X pins n₀) (hn : n₀ ≤ s.heap.objs.size) (hW : ∀ cls d H', E cls d H' → W cls d σ H') {u : Value} {G : Array GenState} (c : CX X.prog X.w X.stack H (headS s n₀) E u s1) (hG : AllBare G) : XE X W u { s1 with gens := G } := by
  obtain ⟨a, B, H', cls, d, rfl, fl, hok, ub, na, os, ag, hE⟩ := c
  obtain ⟨R, g1, g2⟩ := restrict s1.heap fun b => (B.get? b).isSome || decide (b ∈ frs X.stack)
  have st : B.StaysIn s1.heap := fl.1
  have gB : ∀ b o, B.get? b = some o → R.get? b = some o := fun b o e => (g1 b (by rw [e]; rfl)).trans (st b o e)
  have gF : ∀ b, b ∈ frs X.stack → R.get? b = s1.heap.get? b := fun b hb => g1 b (by simp [hb])
  have og : ∀ b o, R.get? b = some o → s1.heap.get? b = some o ∧ ((B.get? b).isSome = true ∨ b ∈ frs X.stack) := fun b o e => by
    cases q : ((B.get? b).isSome || decide (b ∈ frs X.stack)) with
    | false => rw [g2 b q] at e; cases e
    | true => exact ⟨by rw [← g1 b q]; exact e, by simpa [Bool.or_eq_true] using q⟩
  have hh : ∀ b o, s.heap.get? b = some o → b ∉ upFrom n₀ s.heap → (headS s n₀).heap.get? b = some o := fun b o e hb => (headH_get (upFrom_not e hb)).trans e
  refine ⟨a, B, { s with heap := R, gens := G, drawn := s1.drawn, toks := s1.toks }, pins, σ, H', cls, d, rfl, ?_, fun b o e hb => ?_, Heap.UpToSlots.of_keeps fun b o e => (og b o e).1, .inr (.inl fl), na, os, hG, hW _ _ _ hE⟩
  · refine I.call (ch := upFrom n₀ s.heap) ⟨fun b o e n hb hc => gB b o (ub.keep b o (hh b o e hc) n hb), fun b o e n hb hc => ?_, fun b o e n hc => ub.free b o (hh b o e hc) n, fun b o e hc => ?_, ub.tups, ub.frzs, ub.tbls⟩ (hok.kept gB) hG L.up
    · obtain ⟨sl, q⟩ := ub.slot b o (hh b o e hc) hb
      exact ⟨sl, by rw [gF b hb]; exact q⟩
    · by_cases hb : b ∈ frs X.stack
      · obtain ⟨sl, q⟩ := ub.slot b o (hh b o e hc) hb
        exact ⟨_, by rw [gF b hb]; exact q⟩
      · obtain ⟨o', q⟩ := ub.there b o (hh b o e hc) hb
        exact ⟨o', gB b o' q⟩
  · obtain ⟨e', h⟩ := og b o e
    rcases h with h | h
    · obtain ⟨o', q⟩ := Option.isSome_iff_exists.mp h
      rw [q]
      exact (st b o' q).symm.trans e'
    · exact absurd h hb
end
section
variable {X : Cx} {k : Nat} {f : Addr} {fd : FuncData} {ps : List Str} {sp : SpG3} {x : Str} {p pos pos2 : Pos} {e : Expr} {es : List Expr} {ta : TA} {tg : Expr} {gt : TG} {body : List Stmt} {tb : TS} {W : WX}
/-- Cσ: the consumer's slots, by what is out; kp: what a turn does to the heap. K: X.K, named -/
def tForG (K : PySem.W.Frag) (sp : SpG3) (ta : TA) (gt : TG) (tb : TS) (W : WX) : TS := fun D σ H => ta σ H fun vs H1 => ∃ (Cσ : List V → St → Prop) (kp : List V → V → Hp → Hp → Prop), Cσ [] σ ∧ ∀ cs,
  sp vs H1 ⟨cs, fun ys x H2 => ∀ σ', Cσ ys σ' → gt x σ' H2 fun σ2 H3 => tb { D with nx := fun σ3 H4 => Cσ (ys ++ [x]) σ3 ∧ kp ys x H2 H4, ct := fun σ3 H4 => Cσ (ys ++ [x]) σ3 ∧ kp ys x H2 H4, bk := D.nx } σ2 H3, kp, []⟩
    (fun ys H' => ∀ σ', Cσ ys σ' → D.nx σ' H') (fun cls d H' => PySem.W.subIn K cls (.type "StopIteration") = some false ∧ ∀ ys σ', Cσ ys σ' → W cls d σ' H')
theorem ps_forG {K : PySem.W.Frag} (hK : X.K = K) (O : OwnG3 X.prog X.w X.K X.mg X.base x k ps sp) (tk : Takes X W) (hp : PassesOwn (model X.prog X.w) X.A X.env X.xe) (room : Room (k + 1) X.A) (hcm : X.calm = true) (ha : PA X (e :: es) ta) (hg : PGq X tg gt) (hb : PBq X body tb) (hgl : Gl X x := by rfl)
    (hdb : (x == ("__debug__" : Str)) = false := by decide) (he : starEach (e :: es) X.env = (false, eval e X.env) :: starEach es X.env := by rfl) (hpl : (backTo pos2 (starEach es X.env)).any (·.1) = false := by rfl)
    (hs : ∀ y, foldedSetIterable (.Call (.Name x p) (e :: es) [] pos2) X.env y = pure y := by intro _; rfl) : PS X (.For tg (.Call (.Name x p) (e :: es) [] pos2) body [] pos) (tForG K sp ta gt tb W) := by
  subst hK
  obtain ⟨f, fd, G, hm, hk, hbd⟩ := O.ex
  refine ⟨fun pins s σ H D I h => ?_⟩
  refine wpAny_For (wpAny_Call_Name_kw (ld_glob I hgl hm (PySem.W.callWith_K (h₀ := X.base) I.ok.mod.kin hk (thn (ha.run pos2 pins s σ H _ I h) fun us s1 ⟨vs, H1, I1, r, Cσ, kp, c0, q⟩ => ⟨I1.kIn, ?_⟩) he hpl) hdb)) hs
  have q := q fun ys H' s' => ∃ σ', Inv X pins σ' H' s' ∧ Cσ ys σ'
  revert q
  generalize hDl : (⟨fun ys H' s' => ∃ σ', Inv X pins σ' H' s' ∧ Cσ ys σ', _, kp, []⟩ : Deal) = Dl
  intro q
  have hl2 : us.length = ps.length := by rw [← r.length]; exact G.len _ _ _ _ _ q
  have hbs := hbd s1 us I1.kIn (by rw [List.append_nil]; exact hl2)
  rw [List.append_nil] at hbs
  refine wpAny_call (codeAny_mono (G.run X.A X.stack s1 H1 ⟨us, []⟩ us vs (fun Dl' Q' => Dl' = Dl ∧ Q' = fun ys H' => ∀ σ', Cσ ys σ' → D.nx σ' H') _ ⟨_, _, rfl, rfl⟩ (room.mono (Nat.le_succ k)) I1.env0 hbs r (fun Dl' Q' z => by obtain ⟨rfl, rfl⟩ := z; exact q)) fun r s2 hq => ?_)
  cases r with
  | error _ => exact hq.elim
  | ok fl =>
  cases fl with
  | next => exact hq.elim
  | brk => exact hq.elim
  | cont => exact hq.elim
  | ret u =>
  obtain ⟨a, g, c, go, rfl, ha1, ha2, hgo, isg, hgs, hos, hba, hkp, wake⟩ := hq
  have I2 : Inv X pins σ H1 s2 := I1.call' (ch := []) hos (Un.kept hkp) (I1.hok.kept hkp) hba fun _ z => nomatch z
  refine wpAny_pyIter_gen (isg _ hgo) ?_
  have L : LowX X pins s1.heap.objs.size := I1.low
  have hfrF : ∀ b ∈ frs X.stack, b < s1.heap.objs.size := fun b hb => by
    obtain ⟨_, o, ho, _⟩ := I1.stack.mem hb
    exact Heap.lt_size ho
  have hgl2 : g < s2.gens.size := (Array.getElem?_eq_some_iff.mp hgs).1
  have mkWk : ∀ {pins' σ' H' s'}, Inv X pins' σ' H' s' → s1.heap.objs.size ≤ s'.heap.objs.size → Wk X.prog X.w X.base X.stack s1.heap.objs.size [] H' s' := fun I' hz =>
    ⟨I'.bare, I'.bs, I'.stack, fun b hb => ⟨hfrF b hb, I'.stkFree b hb⟩, I'.hok, hz, fun _ z => nomatch z⟩
  refine codeAny_forLoop_any (fun n s' => ∃ gs σ' H', s'.gens[g]? = some gs ∧ gs.Goes (model X.prog X.w) X.A.in1 (End3 X.prog X.w X.stack s1.heap.objs.size Dl (fun ys H' => ∀ σ', Cσ ys σ' → D.nx σ' H') (fun cls d H' => PySem.W.subIn X.K cls (.type "StopIteration") = some false ∧ ∀ ys σ', Cσ ys σ' → W cls d σ' H') a g)
    (GY3 X.prog X.w X.base X.stack [(a, go)] s1.heap.objs.size Dl) n (.send .none) (s'.setGen g .running) ∧ s'.heap.get? a = some go ∧ Inv X pins σ' H' s') ?_ sizeLine ⟨_, σ, H1, hgs, ⟨rfl, ?_⟩, hgo, I2⟩
  · rintro n s3 ⟨gs, σ3, H3, hgs3, hgoes, hgo3, I3⟩
    have hgl3 : g < s3.gens.size := (Array.getElem?_eq_some_iff.mp hgs3).1
    have hcd : ∃ nm qn, go.cls = .type "generator" ∧ go.data = .fields #[.int g 0, nm, qn] := by
      obtain ⟨o, nm, qn, ho, hc, hd, _⟩ := isg _ hgo
      rw [hgo] at ho; cases ho
      exact ⟨nm, qn, hc, hd⟩
    obtain ⟨nm, qn, hgc, hgd⟩ := hcd
    refine wpAny_passesOwn hp (wpAny_gsz (n := g + 1) hgl3 (next_genG (A := X.A) (I3.ok.hd hcm) I3.nolimit room.depth (isg _ hgo3) hgs3 hgoes (fun v s4 gs' hbare hv => ?_) (fun s4 hf h' hk' => ?_) fun er s4 her => ?_))
    · obtain ⟨ys, x1, HE, H4, mine, hn, rv, hcs, hz, un, os4, ag4, hok4, hpn, hz4, _, yd, hmine, _, wakes⟩ := hv
      intro hsz
      subst hDl
      obtain ⟨σE, IE, cE⟩ := hcs
      have hsz4 : g < s4.gens.size := by
        have z : (s4.setGen g gs').gens.size = s4.gens.size := setGen_size _ _ _
        have z2 : g + 1 ≤ (s4.setGen g gs').gens.size := hsz
        omega
      have I4 : Inv X pins σE H4 (s4.setGen g gs') := (IE.stretch L un hok4 os4 ag4).gensTo (allBare_setGen ag4 hbare)
      have hgo4 : s4.heap.get? a = some go := (hpn _ (List.mem_singleton.mpr rfl)).1
      refine go_of (s := s4.setGen g gs') hgo4 hgc hgd (by decide) ?_
      refine wpAny_passesOwn hp (thn (hg.run pins _ σE H4 x1 v _ I4 rv (yd σE cE)) fun _ s5 ⟨σ5, H5, I5, S5, q5⟩ => ?_)
      refine wpAny_passesOwn hp (thn (hb.run pins s5 σ5 H5 _ I5 q5) fun fl s6 q6 => ?_)
      have on : ∀ {σ6 : St} {H6 : Hp}, Inv X pins σ6 H6 s6 → Soft X s5 H5 s6 H6 → Cσ (ys ++ [x1]) σ6 ∧ kp ys x1 H4 H6 → ∃ m, m < n ∧ ∃ gs σ' H', s6.gens[g]? = some gs ∧ gs.Goes _ X.A.in1 _ _ m (.send .none) (s6.setGen g .running) ∧ s6.heap.get? a = some go ∧ Inv X pins σ' H' s6 := fun {σ6 H6} I6 S6 n6 => by
        have S := S5.trans S6
        have hgs6 : s6.gens[g]? = some gs' := by rw [S.gens]; exact setGen_at hsz4
        have I6r : Inv X pins σ6 H6 (s6.setGen g .running) := I6.gensTo (allBare_setGen I6.bare rfl)
        have wk := wakes H6 (s6.setGen g .running) (mkWk I6r (Nat.le_trans hz4 S.size)) ⟨σ6, I6r, n6.1⟩ (fun b mb o e => S.keep b o e (hmine b mb).1 (hmine b mb).2.1) n6.2
        have hna : H4 a = none := (hpn _ (List.mem_singleton.mpr rfl)).2
        cases n with
        | zero => exact False.elim wk
        | succ m => exact ⟨m, Nat.lt_succ_self m, gs', σ6, H6, hgs6, wk, (S.keep a go hgo4 hna (fun z => absurd (hfrF a z) (Nat.not_lt.mpr ha1))).1, I6⟩
      cases fl with
      | next => obtain ⟨σ6, H6, I6, S6, n6⟩ := q6; exact on I6 S6 n6
      | cont => obtain ⟨σ6, H6, I6, S6, n6⟩ := q6; exact on I6 S6 n6
      | brk => exact q6
      | ret v => exact q6
    · obtain ⟨ys, HE, H4, hcs, hz, os4, ag4, un, hok4, _, hQ⟩ := hf
      intro _
      subst hDl
      obtain ⟨σE, IE, cE⟩ := hcs
      have I4 : Inv X pins σE H4 (s4.setGen g .finished) := (IE.stretch L un hok4 os4 ag4).gensTo (allBare_setGen ag4 rfl)
      have I5 : Inv X pins σE H4 { s4.setGen g .finished with heap := h' } := I4.call' (ch := []) rfl (Un.kept hk') (I4.hok.kept hk') I4.bare fun _ z => nomatch z
      exact wpAny_passesOwn hp (wpAny_execs_nil ⟨σE, H4, I5, hQ σE cE⟩)
    · obtain ⟨ys, HE, sE, hcs, hz, cx, hge⟩ := her
      subst hDl
      obtain ⟨σE, IE, cE⟩ := hcs
      have ag4 : AllBare s4.gens := by obtain ⟨_, _, _, _, _, _, _, _, _, _, _, ag, _⟩ := cx; exact ag
      refine ⟨hge, notStop_of (E := fun cls d H' => PySem.W.subIn X.K cls (.type "StopIteration") = some false ∧ ∀ ys σ', Cσ ys σ' → W cls d σ' H') (fun _ _ _ z => z.1) (IE.ok.mod.kin.keeps fun b o eb => ?_) cx, fun _ => tk _ _ (XE.of_stretch IE L hz (fun _ _ _ z => z.2 ys σE cE) cx (allBare_setGen ag4 rfl))⟩
      obtain ⟨a', B, H', cls, d, z1, fl, z2, ub, _⟩ := cx
      have hb0 := IE.bs b o eb
      refine fl.1 b o (ub.keep b o ((headH_get ?_).trans hb0.1) hb0.2 fun hm => ?_)
      · exact Nat.lt_of_lt_of_le (Heap.lt_size (I1.ok.bs b o eb).1) L.s0
      · have := (IE.stack.mem hm).1
        rw [eb] at this; cases this
  · subst hDl
    exact wake X.A.in1 (s2.setGen g .running) _ _ ⟨rfl, rfl⟩ room.in1 I1.ok.frames (fun _ _ e => e) hos (allBare_setGen hba rfl) (fun _ z => nomatch z) ⟨σ, I2.gensTo (allBare_setGen hba rfl), c0⟩
end
end L2

set_option Elab.async false
set_option linter.all false
set_option maxRecDepth 100000
set_option maxHeartbeats 4000000
/-! enumerate(xs, start=k) over a list -/
namespace L2
open PySem PySem.Spec PyProof.Rows
section
variable {M : Model} {A : Around} {E : Value → Shared → Prop} {s : Shared} {env : Env}
theorem callWith_typeKw {pos : Pos} {T : String} {e : Expr} {rest : List Expr} {kws : List Keyword} {Q : Value → Shared → Prop}
    (h : wpAny M A (spliced (backTo pos (starEach (e :: rest) env))) (fun vs s1 => wpAny M A (evalAll ((backToKw pos (keywordEach kws env)).map (·.2))) (fun ks s2 => wpAny M A (call (.type T) vs (((backToKw pos (keywordEach kws env)).filterMap (·.1)).zip ks)) Q E s2) E s1) E s)
    (he : backTo pos (starEach (e :: rest) env) = (false, eval e env) :: backTo pos (starEach rest env)) (hpl : (backTo pos (starEach (e :: rest) env)).any (·.1) = false)
    (hall : (backToKw pos (keywordEach kws env)).all (·.1.isSome) = true) (hno : (backToKw pos (keywordEach kws env)).any (·.1.isNone) = false) :
    wpAny M A (callWith pos (.type T) [] (backTo pos (starEach (e :: rest) env)) (backToKw pos (keywordEach kws env))) Q E s := by
  have h2 : wpAny M A (evalArgs (.type T) true (backTo pos (starEach (e :: rest) env)) (backToKw pos (keywordEach kws env))) (fun a s1 => wpAny M A (call (.type T) ([] ++ a.pos) a.kw) Q E s1) E s := by
    rw [he] at h ⊢
    exact PyProof.Rows.evalArgs_kwB hall h
  unfold callWith
  refine wpAny_bind (wpAny_holding (wpAny_mono h2 (fun a s1 h1 => wpAny_bind (wpAny_standAt ?_)) fun _ _ x => x))
  simp only [hpl, hno, Bool.or_false]
  refine wpAny_bind (wpAny_pure ?_)
  exact wpAny_bind (wpAny_mono h1 (fun r s2 hr => wpAny_bind (wpAny_holding (wpAny_point (wpAny_pure hr)))) fun _ _ x => x)
end
/-- the list at a, each item in a new pair with its number from k on -/
def Itef (K : PySem.W.Frag) (a : Addr) (k : Int) : It :=
  ⟨fun i H => ∃ xs : List V, SqL K H a xs ∧ i < xs.length, fun i H v H' => ∃ T x, v = .ref T ∧ H T = none ∧ H' = upd H T (.tup [.int (k + (i : Nat)), x]) ∧ ∀ xs, SqL K H a xs → xs[i]? = some x, fun i H => ∃ xs : List V, SqL K H a xs ∧ xs.length = i⟩
theorem turn_enF {P : Program} {w : World} {K : PySem.W.Frag} {elts : List Expr} {kk : Nat} {tpos : Pos} (k : Int) (a e it : Addr) (hea : e ≠ a) (hia : a ≠ it) :
    Turn P w K (.Tuple elts kk tpos) (Itef K a k) [e, it] e (fun i h => (∃ old, IsEnum h e it (k + ((i : Nat) : Int)) old) ∧ h.IsListIter it a i ∧ e ≠ it) where
  mem := List.mem_cons_self
  obj := by
    intro i h ⟨⟨old, he⟩, ⟨o, ho, _, hd⟩, _⟩ b hb
    rcases List.mem_cons.mp hb with rfl | z
    · exact ⟨_, he, by intro v q; cases q⟩
    · cases List.mem_singleton.mp z
      exact ⟨o, ho, by intro v q; rw [hd] at q; cases q⟩
  keep := fun i h h' ⟨⟨old, he⟩, hi, hne⟩ st => ⟨⟨old, st e List.mem_cons_self _ he⟩, hi.at fun o q => st it (List.mem_cons_of_mem _ List.mem_cons_self) o q, hne⟩
  item := by
    intro X hP hw hK hc i pins s σ H E I hf ⟨⟨old, he⟩, hit, hne⟩ ⟨xs, hq, hx⟩
    subst hP hw hK
    obtain ⟨its, rv, p, hz⟩ := I.list hq
    have hl := rv.length
    have elt := Heap.lt_size he
    have ilt : it < s.heap.objs.size := let ⟨_, q, _⟩ := hit; Heap.lt_size q
    have D := Draws.list (prog := X.prog) (w := X.w) (A := X.A.in1) (I.ok.hd hc) it a hia its.toArray
    refine wpAny_pyNext_enum_itemC D he (i := i) ⟨hit, p.isList⟩ (by rw [List.size_toArray]; omega) hne (by simp [hne, hea]) fun u h' tk hP ho hst' hT hsz hk => ?_
    have hu : its[i]? = some u := by simpa using hP
    have hxx : xs[i]? = some xs[i] := List.getElem?_eq_getElem hx
    obtain ⟨u', hu', ru'⟩ := rv.get hxx
    obtain rfl : u' = u := Option.some.inj (hu'.symm.trans hu)
    refine ⟨_, rfl, wpAny_letOwnedTupleGo_enum (s := { s with heap := h', toks := tk + 1 }) ho fun h2 he2 sb => ?_⟩
    have hT2 := (sb.2 _ (Nat.ne_of_gt elt)).trans hT
    have I1 : Inv X pins σ (upd H s.heap.objs.size (.tup [.int (k + (i : Nat)), xs[i]])) { s with heap := h2, toks := tk + 1 } :=
      I.turnedNew (ch := [e, it]) (fun b ob hb q => (sb.2 b fun z => hb (by rw [z]; exact List.mem_cons_self)).trans (hk b ob (fun z => hb (by rw [z]; exact List.mem_cons_self)) (fun z => hb (by rw [z]; exact List.mem_cons_of_mem _ List.mem_cons_self)) q)) hf (Nat.le_refl _)
        ⟨by show 2 ≤ sizeLine; decide, [.int (k + (i : Nat)) tk, u'], .cons ⟨_, rfl⟩ (.cons ru' .nil), ⟨_, hT2, rfl, _, rfl⟩⟩
    refine ⟨.ref s.heap.objs.size, _, I1, rfl, ⟨_, xs[i], rfl, I.hok.fresh (Nat.le_refl _), rfl, fun ys hy => by rw [I.list_inj hy hq]; exact hxx⟩, ⟨⟨u', ?_⟩, hst'.1.at fun o q => (sb.2 it (Ne.symm hne)).trans q, hne⟩, fun b hb => ?_⟩
    · rw [show k + ((i + 1 : Nat) : Int) = k + (i : Int) + 1 by omega]; exact he2
    · have hb' : b < s.heap.objs.size := (List.mem_cons.mp hb).elim (fun z => z ▸ elt) fun z => List.mem_singleton.mp z ▸ ilt
      rw [upd_ne (Nat.ne_of_lt hb')]; exact (hf b hb).1
  done := by
    intro X hP hw hK hc i pins s σ H E I hf ⟨⟨old, he⟩, hit, hne⟩ ⟨xs, hq, hx⟩
    subst hP hw hK
    obtain ⟨its, rv, p, hz⟩ := I.list hq
    have hl := rv.length
    obtain ⟨f0, f1, f2, f3, f4, f5⟩ := hf it (List.mem_cons_of_mem _ List.mem_cons_self)
    have D := Draws.list (prog := X.prog) (w := X.w) (A := X.A.in1) (I.ok.hd hc) it a hia its.toArray
    have ei : i = its.toArray.size := by rw [List.size_toArray]; omega
    exact wpAny_pyNext_enum_endD D he (by rw [← ei]; exact ⟨hit, p.isList⟩) fun h' eb => ⟨rfl, I.turned (t' := s.toks) (fun b o hb q => eb b o hb q) f0 f1 f3 f4 f5⟩
  self := fun A i s Q E ⟨⟨_, he⟩, _⟩ h => wpAny_pyIter_enum he h
def iEnF (K : PySem.W.Frag) (k : Int) (ta : TA) : TI := fun σ H R => ta σ H fun vs H1 => ∃ a xs, vs = [.ref a] ∧ SqL K H1 a xs ∧ R (Itef K a k) H1
theorem pi_enF {X : Cx} {K : PySem.W.Frag} (hK : X.K = K) {e : Expr} {ta : TA} {p pos tpos p2 p3 : Pos} {elts : List Expr} {kk j : Nat} {k : Int} (h0 : -(2 ^ 63) ≤ k) (h1 : k < 2 ^ 63) (hg : Gl X "enumerate") (hm : X.mg "enumerate" = none) (ha : PA X [e] ta)
    (he : backTo pos (starEach [e] X.env) = (false, eval e X.env) :: backTo pos (starEach [] X.env) := by rfl) (hpl : (backTo pos (starEach [e] X.env)).any (·.1) = false := by rfl) (hall : (backToKw pos (keywordEach [⟨some "start", .Constant (.int k) j p2, p3⟩] X.env)).all (·.1.isSome) = true := by rfl)
    (hno : (backToKw pos (keywordEach [⟨some "start", .Constant (.int k) j p2, p3⟩] X.env)).any (·.1.isNone) = false := by rfl) (hks : (backToKw pos (keywordEach [⟨some "start", .Constant (.int k) j p2, p3⟩] X.env)).filterMap (·.1) = [Str.ofString "start"] := by rfl) :
    PI X (.Tuple elts kk tpos) (.Call (.Name "enumerate" p) [e] [⟨some "start", .Constant (.int k) j p2, p3⟩] pos) (iEnF K k ta) := by
  subst hK
  refine ⟨fun pins s σ H R I h => wpAny_Call_Name_kw (ld_blt I hg hm boot_enumerate (callWith_typeKw (thn (ha.run pos pins s σ H _ I h) fun us s1 ⟨vs, H1, I1, r1, a, xs, ex, hq, q⟩ => ?_) he hpl hall hno))⟩
  subst ex
  obtain rfl := Vals.ref1 r1
  refine PyProof.Rows.kws_cons (thn ((pe_int (X := X) (i := k) (j := j) (pos := p2)).run pins s1 σ H1 (fun v H' => v = .int k ∧ H' = H1) I1 ⟨rfl, rfl⟩) fun v s2 ⟨x, H2, I2, rv, e1, e2⟩ => PyProof.Rows.kws_nil ?_)
  subst e1 e2
  obtain ⟨t, rfl⟩ := rv
  obtain ⟨its, rvs, p', hz⟩ := I2.list hq
  have hlt : a < s2.heap.objs.size := let ⟨_, q, _⟩ := p'.isList; Heap.lt_size q
  rw [hks]
  refine enum_begins_start (begins_list a its.toArray) p'.isList h0 h1 fun h' he hit hsz hk => wpAny_pyIter_enum he ?_
  have I3 : Inv X pins σ H2 { s2 with heap := h' } := I2.kept (t' := s2.toks) hk
  have two : ∀ b, b ∈ [s2.heap.objs.size + 1, s2.heap.objs.size] → s2.heap.objs.size ≤ b := fun b hb => (List.mem_cons.mp hb).elim (fun z => by rw [z]; exact Nat.le_succ _) fun z => by rw [List.mem_singleton.mp z]; exact Nat.le_refl _
  exact ⟨s2.heap.objs.size + 1, [s2.heap.objs.size + 1, s2.heap.objs.size], _, _, H2, rfl, I3, turn_enF k a (s2.heap.objs.size + 1) s2.heap.objs.size (Nat.ne_of_gt (Nat.lt_succ_of_lt hlt)) (Nat.ne_of_lt hlt), ⟨⟨.none, by rw [show k + ((0 : Nat) : Int) = k by omega]; exact he⟩, ⟨_, hit, rfl, rfl⟩, Nat.succ_ne_self _⟩, fun b hb => I2.fpOk (two b hb) (I2.hok.fresh (two b hb)), q⟩
theorem walk_enF {K : PySem.W.Frag} {a : Addr} {k : Int} {xs : List V} : Walk (Itef K a k) xs.length (fun H => SqL K H a xs) (YPair (fun i => some (.int (k + (i : Nat)))) (fun i => xs[i]?)) := by
  refine ⟨fun i _ hi q => ⟨xs, q, hi⟩, fun _ q => ⟨xs, q, rfl⟩, fun i H v H' _ q ⟨T, x, e1, e2, e3, e4⟩ => ⟨T, .int (k + (i : Nat)), x, e1, e2, e3, rfl, e4 xs q⟩⟩
end L2

set_option Elab.async false
set_option linter.all false
set_option maxRecDepth 100000
set_option maxHeartbeats 4000000
/-! one reading for both kinds of promise: list(f(..)) wants a deal that keeps the heap as it is -/
namespace L2
open PySem PySem.Spec PyProof.Rows GenW
/-- a deal with a consumer that leaves the heap as it is -/
def Deal.Still (Dl : Deal) : Prop := ∀ ys x H, Dl.yd ys x H → Dl.kp ys x H H
section
variable {X : Cx} {Dl : Deal} {e : Expr} {yp pos : Pos} {te : TE}
theorem gs_yield3 (hD : Dl.Still) (he : PE X e te) (hco : X.env.scope.isCoroutine = false := by rfl) (hi : interactive X.env = false := by rfl) : GS X (.Expr (.Yield (some e) yp) pos) (tYield3 Dl te) := by
  have hw : PE X e (fun σ H Q => ∃ Q0, te σ H Q0 ∧ ∀ x H1, Q0 x H1 → Q x H1) := ⟨fun pins s σ H Q I ⟨Q0, h0, hq⟩ => thn (he.run pins s σ H Q0 I h0) fun u s' ⟨x, H', I', r, q⟩ => ⟨x, H', I', r, hq x H' q⟩⟩
  refine ⟨fun A S ip R n ys s₀ c fs K J gd lv s σ H D g hn k hI ht => (gs_yield hw hco hi).run A S ip R n ys s₀ c fs K J gd lv s σ H D g hn k hI ⟨ht.1, _, ht.2, fun x H1 q => q.2 H1 (hD ys x H1 q.1)⟩⟩
end
end L2

set_option Elab.async false
set_option linter.all false
set_option maxRecDepth 100000
set_option maxHeartbeats 4000000
/-! rules with K named, for what stands within a generator whose contexts change -/
namespace L2
open PySem PySem.Spec PyProof.Rows GenW
section
variable {X : Cx} {K : PySem.W.Frag} {o e : Expr} {es : List Expr} {to te : TE} {t : TA} {name : Str} {apos cpos pos p : Pos} {T id : String} {r : V → List V → Hp → VK → Prop}
theorem pe_bm0N (hK : X.K = K) (pa : PlainAttrs T) (slot : Slot T name id) (hty : typeOf (.builtin id) = pure (.type "method_descriptor")) (hm : MtR X id r) (ho : PE X o to) (hbase : attributeBase o name X.env (eval o X.env) = eval o X.env := by rfl)
    (hline : (apos.endLine == cpos.line) = true := by rfl) : PE X (.Call (.Attribute o name apos) [] [] cpos) (tBM0 K T r to) := by subst hK; exact pe_bm0 pa slot hty hm ho hbase hline
theorem pe_bmN (hK : X.K = K) (pa : PlainAttrs T) (slot : Slot T name id) (hty : typeOf (.builtin id) = pure (.type "method_descriptor")) (hm : MtR X id r) (ho : PE X o to) (ha : PA X (e :: es) t) (hbase : attributeBase o name X.env (eval o X.env) = eval o X.env := by rfl)
    (hfew : ((backTo cpos (starEach (e :: es) X.env)).all (fun x => !x.1) && (backToKw cpos (keywordEach [] X.env)).all (fun x => x.1.isSome) && decide ((e :: es).length + ([] : List Keyword).length + (if ([] : List Keyword).isEmpty then 0 else 1) < 30)) = true := by rfl)
    (hline : (apos.endLine == cpos.line) = true := by rfl) (hs : starEach (e :: es) X.env = (false, eval e X.env) :: starEach es X.env := by rfl) (hplain : (backTo cpos (starEach es X.env)).any (·.1) = false := by rfl) :
    PE X (.Call (.Attribute o name apos) (e :: es) [] cpos) (tBM K T r to t) := by subst hK; exact pe_bm pa slot hty hm ho ha hbase hfew hline hs hplain
theorem pg_tupN (hK : X.K = K) {es : List Expr} {k : Nat} {t : TGs} {n : Nat} (hc : X.calm = true) (h : PGs X es t) (hn : (assignEach es X.env).length = n := by rfl) (hst : (assignEach es X.env).findIdx? (·.1) = none := by rfl) :
    PG X (.Tuple es k pos) (gTup K n t) := by subst hK; exact pg_tup hc h hn hst
theorem pa_starN (hK : X.K = K) (he : PE X e te) (hr : PA X es t) (hs : starEach (.Starred e p :: es) X.env = (true, eval e X.env) :: starEach es X.env := by rfl) : PA X (.Starred e p :: es) (StX.tStar K te t) := by subst hK; exact StX.pa_star he hr hs
theorem pi_enSqN (hK : X.K = K) {ta : TA} {tpos : Pos} {elts : List Expr} {kk : Nat} (hg : Gl X "enumerate") (hm : X.mg "enumerate" = none) (ha : PA X [e] ta) (hs : starEach [e] X.env = [(false, eval e X.env)] := by rfl) :
    PI X (.Tuple elts kk tpos) (.Call (.Name "enumerate" p) [e] [] pos) (iEnSq K ta) := by subst hK; exact pi_enSq hg hm ha hs
end
end L2

set_option Elab.async false
set_option linter.all false
set_option maxRecDepth 100000
set_option maxHeartbeats 4000000
/-! a generator's for over anything that walks -/
namespace L2
open PySem PySem.Spec PyProof.Rows GenW
theorem gfor_it {J : It} {n : Nat} {G : Hp → Prop} {Y : Nat → Hp → V → Hp → Prop} (w : Walk J n G Y) {g : TG} {tb : TGn} {D : GEnds} {ys : List V} {σ : St} {H : Hp} (Pv : Nat → List V → St → Hp → Prop) (h0 : Pv 0 ys σ H) (hG : ∀ i ys σ H, i ≤ n → Pv i ys σ H → G H)
    (hs : ∀ i x ys σ H H', i < n → Pv i ys σ H → Y i H x H' → g x σ H' fun σ2 H2 => tb { D with nx := Pv (i + 1), ct := Pv (i + 1), bk := D.nx } ys σ2 H2) (hd : ∀ ys σ H, Pv n ys σ H → D.nx ys σ H) :
    ∃ W : Nat → Nat → List V → St → Hp → Prop, (∃ m, W 0 m ys σ H) ∧ ∀ i m ys σ H, W i m ys σ H →
      (J.stop i H ∧ D.nx ys σ H) ∨ (J.go i H ∧ ∃ N : List V → St → Hp → Prop, (∀ ys' σ' H', N ys' σ' H' → ∃ m', m' < m ∧ W (i + 1) m' ys' σ' H') ∧ ∀ x H', J.yld i H x H' → g x σ H' fun σ2 H2 => tb { D with nx := N, ct := N, bk := D.nx } ys σ2 H2) := by
  refine ⟨fun i m ys σ H => m = n - i ∧ i ≤ n ∧ Pv i ys σ H, ⟨n - 0, rfl, Nat.zero_le _, h0⟩, ?_⟩
  rintro i m ys σ H ⟨rfl, hi, pv⟩
  by_cases hlt : i < n
  · exact .inr ⟨w.goes i H hlt (hG i ys σ H hi pv), Pv (i + 1), fun ys' σ' H' q => ⟨n - (i + 1), by omega, rfl, hlt, q⟩, fun x H' hy => hs i x ys σ H H' hlt pv (w.yields i H x H' hlt (hG i ys σ H hi pv) hy)⟩
  · obtain rfl : i = n := by omega
    exact .inl ⟨w.stops H (hG i ys σ H hi pv), hd ys σ H pv⟩
end L2

set_option Elab.async false
set_option linter.all false
set_option maxRecDepth 100000
set_option maxHeartbeats 4000000
/-! [x for x in f(..)]: a comprehension over a generator def's call -/
namespace L2
open PySem PySem.Spec PyProof.Rows GenW
section
variable {P : Program} {w : World}
/-- a list of ours is tracked -/
theorem hok_track {H' : Hp} {h : Heap} {S : Addr} {its : List Value} {c : Nat} {out : List V} (hok : HOk P w H' h) (hn : H' S = none) (hlen : out.length ≤ sizeLine) (e : h.get? S = some { cls := .type "list", data := .seq its.toArray c }) (r : Vals out its) : HOk P w (upd H' S (.lst out)) h := fun b u q => by
  by_cases hb : b = S
  · subst hb
    rw [upd_same] at q
    cases q
    exact ⟨hlen, its, c, r, e⟩
  · rw [upd_ne hb] at q
    exact (hok b u q).stay (fun _ _ _ z => z) (fun d z => by rw [upd_ne (ne_of_none z hn)]; exact z) fun d xs z => by rw [upd_ne (ne_of_none z hn)]; exact z
end
section
variable {X : Cx} {pins : List (Addr × Obj)} {σ : St} {H : Hp} {s : Shared} {n₀ : Nat}
theorem LowX.apart (L : LowX X pins n₀) {b : Addr} (hn : n₀ ≤ b) : (b ∈ X.ex ∨ X.s_0.heap.objs.size ≤ b) ∧ b ≠ X.env.locals ∧ (∀ x c, X.env.cells.lookup x = some c → c ≠ b) ∧ ∀ p ∈ X.pn ++ pins, p.1 ≠ b := by
  refine ⟨.inr (Nat.le_trans L.s0 hn), fun z => ?_, fun x c e z => ?_, fun p hp z => ?_⟩
  · rw [z] at hn; exact absurd (Nat.lt_of_lt_of_le L.loc hn) (Nat.lt_irrefl _)
  · rw [← z] at hn; exact absurd (Nat.lt_of_lt_of_le (L.cell x c e) hn) (Nat.lt_irrefl _)
  · rw [← z] at hn; exact absurd (Nat.lt_of_lt_of_le (L.pin p hp) hn) (Nat.lt_irrefl _)
theorem Inv.track {S : Addr} {its : List Value} {c : Nat} {out : List V} (I : Inv X pins σ H s) (L : LowX X pins n₀) (hS : n₀ ≤ S) (hn : H S = none) (hlen : out.length ≤ sizeLine) (e : s.heap.get? S = some { cls := .type "list", data := .seq its.toArray c }) (r : Vals out its) : Inv X pins σ (upd H S (.lst out)) s := by
  refine I.call' (ch := [S]) rfl ⟨fun b o q _ _ _ => q, fun b o q _ _ _ => ⟨o.slots, q⟩, fun b o q z hc => ?_, fun b o q _ => ⟨o, q⟩, fun b xs q => ?_, fun b o u q => ?_, fun b ps q => ?_⟩ (hok_track I.hok hn hlen e r) I.bare fun b hb => ?_
  · rw [upd_ne fun y => hc (by rw [y]; exact List.mem_singleton.mpr rfl)]; exact z
  · rw [upd_ne (ne_of_none q hn)]; exact q
  · rw [upd_ne (ne_of_none q hn)]; exact q
  · exact ⟨#[], by rw [upd_ne (ne_of_none q hn), q]; simp⟩
  · rw [List.mem_singleton.mp hb]; exact L.apart hS
/-- only untracked places from n₀ on have changed -/
theorem Inv.far {s' : Shared} {ch : List Addr} (I : Inv X pins σ H s) (L : LowX X pins n₀) (os : s'.os = s.os) (hb : AllBare s'.gens) (hch : ∀ b ∈ ch, n₀ ≤ b ∧ H b = none) (k : ∀ b o, b ∉ ch → s.heap.get? b = some o → s'.heap.get? b = some o) : Inv X pins σ H s' := by
  refine I.call' (ch := ch) os ⟨fun b o q _ _ hc => k b o hc q, fun b o q _ _ hc => ⟨o.slots, k b o hc q⟩, fun b o q z hc => z, fun b o q hc => ⟨o, k b o hc q⟩, fun b xs q => q, fun b o u q => q, fun b ps q => ⟨#[], by rw [q]; simp⟩⟩ (fun b u q => ?_) hb fun b hb => L.apart (hch b hb).1
  refine (I.hok b u q).stay (fun c v hc z => k c v (fun y => ?_) z) (fun _ z => z) fun _ _ z => z
  have hz := (hch c y).2
  rcases hc with hc | hc
  · rw [hc, q] at hz; cases hz
  · rw [hz] at hc; cases hc
end
/-- the items stand in the new list, the heap is the generator's own -/
def tLcG (sp : SpG3) (ta : TA) : TE := fun σ H Q => ta σ H fun vs H1 => ∀ cs ad, sp vs H1 ⟨cs, fun _ _ _ => True, fun _ _ H2 H3 => H3 = H2, ad⟩ (fun ys H' => ∀ D, H1 D = none → H' D = none → Q (.ref D) (upd H' D (.lst ys))) (fun _ _ _ => False)
section
variable {X : Cx} {k : Nat} {ps : List Str} {sp : SpG3} {x y : Str} {p p1 p2 pos pos2 pos' : Pos} {e : Expr} {es : List Expr} {ta : TA} {scope : Scope} {use : Option (Value → Sem Unit)} {Qf : Value → Shared → Prop} {pins : List (Addr × Obj)} {s : Shared} {σ : St} {H : Hp} {Q : VK}
theorem lcG_core (hc : X.calm = true) (I : Inv X pins σ H s) (O : OwnG3 X.prog X.w X.K X.mg X.base x k ps sp) (room : Room (k + 1) X.A) (ha : PA X (e :: es) ta) (hkind : scope.kind = .function) (hfr : ∀ y ∈ scope.names, y.2 = .free → X.env.scope.names.lookup y.1 = some .cell ∨ X.env.scope.names.lookup y.1 = some .free)
    (hnm : ∀ x ∈ scope.names, x.2 = .local → scope.names.lookup x.1 = some .local) (hy : scope.names.lookup y = some .local) (hgl : Gl X x) (hdb : (x == ("__debug__" : Str)) = false) (hdy : (y == ("__debug__" : Str)) = false)
    (he : starEach (e :: es) X.env = (false, eval e X.env) :: starEach es X.env) (hpl : (backTo pos2 (starEach es X.env)).any (·.1) = false) (hs : ∀ z, foldedSetIterable (.Call (.Name x p) (e :: es) [] pos2) X.env z = pure z)
    (h : tLcG sp ta σ H Q)
    (hRR : ∀ D C s' m H', Inv X pins σ H' s' → Q (.ref D) H' → s'.heap.Ns C m → FpOk X pins H' C → compPost (model X.prog X.w) X.A X.xe use Qf (.ref D) C (.ok .next) s') :
    wpAny (model X.prog X.w) X.A (comprehension (.ListComp (.Name y p1) [⟨.Name y p2, .Call (.Name x p) (e :: es) [] pos2, [], 0⟩] scope pos) scope X.env pos' (newList []) false (eval (.Call (.Name x p) (e :: es) [] pos2) X.env) use) Qf X.xe s := by
  have hfree : ∀ y ∈ scope.names, y.2 = .free → ∃ c, X.env.cells.lookup y.1 = some c := fun y hy e => I.ok.has _ (hfr y hy e)
  obtain ⟨f, fd, G, hm, hk, hbd⟩ := O.ex
  refine wpAny_comprehension_free (use := use) rfl hs (closure_ok hfree) hkind hnm
    (wpAny_Call_Name_kw (ld_glob I hgl hm (PySem.W.callWith_K (h₀ := X.base) I.ok.mod.kin hk (thn (ha.run pos2 pins s σ H _ I h) fun us s1 ⟨vs, H1, I1, r, q⟩ => ⟨I1.kIn, ?_⟩) he hpl) hdb))
  have hl2 : us.length = ps.length := by rw [← r.length]; exact G.len _ _ _ _ _ (q (fun _ _ _ => True) [])
  have hbs := hbd s1 us I1.kIn (by rw [List.append_nil]; exact hl2)
  rw [List.append_nil] at hbs
  obtain ⟨QQ, hQQ⟩ : ∃ QQ : List V → Hp → Prop, QQ = fun (ys : List V) (H' : Hp) => ∀ D, H1 D = none → H' D = none → Q (.ref D) (upd H' D (.lst ys)) := ⟨_, rfl⟩
  have q2 : ∀ cs ad, sp vs H1 ⟨cs, fun _ _ _ => True, fun _ _ H2 H3 => H3 = H2, ad⟩ QQ (fun _ _ _ => False) := by rw [hQQ]; exact q
  refine wpAny_call (codeAny_mono (G.run X.A X.stack s1 H1 ⟨us, []⟩ us vs (fun Dl' Q' => ∃ cs ad, Dl' = ⟨cs, fun _ _ _ => True, fun _ _ H2 H3 => H3 = H2, ad⟩ ∧ Q' = QQ) (fun _ _ _ => False) ⟨_, _, fun _ _ _ => True, [], rfl, rfl⟩ (room.mono (Nat.le_succ k)) I1.env0 hbs r (fun Dl' Q' z => by obtain ⟨cs, ad, z1, z2⟩ := z; rw [z1, z2]; exact q2 cs ad)) fun r s2 hq => ?_)
  cases r with
  | error _ => exact hq.elim
  | ok fl =>
  cases fl with
  | next => exact hq.elim
  | brk => exact hq.elim
  | cont => exact hq.elim
  | ret u =>
  obtain ⟨a, g, c, go, rfl, ha1, ha2, hgo, isg, hgs, hos, hba, hkp, wake⟩ := hq
  have I2 : Inv X pins σ H1 s2 := I1.call' (ch := []) hos (Un.kept hkp) (I1.hok.kept hkp) hba fun _ z => nomatch z
  refine wpAny_pyIter_gen (isg _ hgo) ?_
  have L : LowX X pins s1.heap.objs.size := I1.low
  have hfrF : ∀ b ∈ frs X.stack, b < s1.heap.objs.size := fun b hb => by
    obtain ⟨_, o, ho, _⟩ := I1.stack.mem hb
    exact Heap.lt_size ho
  have hgl2 : g < s2.gens.size := (Array.getElem?_eq_some_iff.mp hgs).1
  refine wpAny_newObj_type (newEnv_comp ?_) (by show 0 ≤ sizeLine; decide)
  obtain ⟨D, hD⟩ : ∃ D, s2.heap.objs.size = D := ⟨_, rfl⟩
  obtain ⟨C, hC⟩ : ∃ C, s2.heap.objs.size + 1 = C := ⟨_, rfl⟩
  have hDC : D ≠ C := by rw [← hD, ← hC]; exact Nat.ne_of_lt (Nat.lt_succ_self _)
  have nDlt : s1.heap.objs.size < D := by rw [← hD]; exact Nat.lt_of_le_of_lt ha1 ha2
  have nD : s1.heap.objs.size ≤ D := Nat.le_of_lt nDlt
  have nClt : s1.heap.objs.size < C := by rw [← hC]; exact Nat.lt_succ_of_lt (Nat.lt_of_le_of_lt ha1 ha2)
  have nC : s1.heap.objs.size ≤ C := Nat.le_of_lt nClt
  have hCs : (s2.heap.push { cls := .type "list", data := .seq ([] : List Value).toArray }).objs.size = C := by rw [Heap.size_push]; exact hC
  generalize hce : compEnvC scope (cellsFrom ((s2.heap.push { cls := .type "list", data := .seq ([] : List Value).toArray }).objs.size + 1) scope.names (cloFrom X.env.cells scope.names [])) (s2.heap.push { cls := .type "list", data := .seq ([] : List Value).toArray }).objs.size X.env = ce
  rw [hCs] at hce
  have cL : ce.locals = C := by subst hce; rfl
  have cK : ce.scope.kind = .function := by subst hce; exact hkind
  have cY : ce.kindOf y = some .local := by subst hce; exact lookup_relabel_local hy
  have cP : (ce.scope.kind == .class || (ce.scope.kind == .module && ce.locals != ce.globals)) = false := by rw [cK]; rfl
  show codeAny (model X.prog X.w) X.A (.compStart (.ListComp (.Name y p1) [⟨.Name y p2, .Call (.Name x p) (e :: es) [] pos2, [], 0⟩] scope pos) 0 (.ref a) (.ref s2.heap.objs.size) (compEnvC scope (cellsFrom ((s2.heap.push { cls := .type "list", data := .seq ([] : List Value).toArray }).objs.size + 1) scope.names (cloFrom X.env.cells scope.names [])) (s2.heap.push { cls := .type "list", data := .seq ([] : List Value).toArray }).objs.size X.env))
    (compPost (model X.prog X.w) X.A X.xe use Qf (.ref s2.heap.objs.size) (s2.heap.push { cls := .type "list", data := .seq ([] : List Value).toArray }).objs.size) { s2 with heap := pushCells ((s2.heap.push { cls := .type "list", data := .seq ([] : List Value).toArray }).push { cls := .type "dict", data := .dict #[] }) scope.names }
  rw [hCs, hD, hce]
  have nsC4 : (pushCells ((s2.heap.push { cls := .type "list", data := .seq ([] : List Value).toArray }).push { cls := .type "dict", data := .dict #[] }) scope.names).Ns C fun _ => none := by
    rw [← hCs]
    exact Heap.Ns.keeps (Heap.Ns.new ..) fun b o e => pushCells_keeps _ _ _ _ e
  have lD4 : (pushCells ((s2.heap.push { cls := .type "list", data := .seq ([] : List Value).toArray }).push { cls := .type "dict", data := .dict #[] }) scope.names).get? D = some { cls := .type "list", data := .seq ([] : List Value).toArray 0 } := by
    refine pushCells_keeps _ _ _ _ (Heap.get?_push_of_some _ ?_)
    rw [← hD]
    exact Heap.get?_push_size _ rfl
  have kp4 : ∀ b o, s2.heap.get? b = some o → (pushCells ((s2.heap.push { cls := .type "list", data := .seq ([] : List Value).toArray }).push { cls := .type "dict", data := .dict #[] }) scope.names).get? b = some o := fun b o e => pushCells_keeps _ _ _ _ (Heap.get?_push_of_some _ (Heap.get?_push_of_some _ e))
  obtain ⟨s4, hs4⟩ : ∃ s4 : Shared, s4 = { s2 with heap := pushCells ((s2.heap.push { cls := .type "list", data := .seq ([] : List Value).toArray }).push { cls := .type "dict", data := .dict #[] }) scope.names } := ⟨_, rfl⟩
  rw [← hs4]
  have nsC : s4.heap.Ns C fun _ => none := by rw [hs4]; exact nsC4
  have lD : s4.heap.get? D = some { cls := .type "list", data := .seq ([] : List Value).toArray 0 } := by rw [hs4]; exact lD4
  have kp : ∀ b o, s2.heap.get? b = some o → s4.heap.get? b = some o := by rw [hs4]; exact kp4
  have os4 : s4.os = s2.os := by rw [hs4]
  have gn4 : s4.gens = s2.gens := by rw [hs4]
  clear hs4 kp4 lD4 nsC4
  have hba4 : AllBare s4.gens := by rw [gn4]; exact hba
  have I4 : Inv X pins σ H1 s4 := I2.call' (ch := []) os4 (Un.kept kp) (I2.hok.kept kp) hba4 fun _ z => nomatch z
  have hCD : ∀ {b : Addr}, b ∈ [C, D] → b = C ∨ b = D := fun hb => by simpa using hb
  -- the deal
  generalize hDl : (⟨fun ys HE sE => Inv X pins σ HE sE ∧ (∃ m, sE.heap.Ns C m) ∧ ∃ its n, sE.heap.get? D = some { cls := .type "list", data := .seq (its : List Value).toArray n } ∧ Vals ys its ∧ ys.length ≤ sizeLine, fun _ _ _ => True, fun _ _ H2 H3 => H3 = H2, [C, D]⟩ : Deal) = Dl
  have hA : ∃ cs ad, Dl = ⟨cs, fun _ _ _ => True, fun _ _ H2 H3 => H3 = H2, ad⟩ ∧ QQ = QQ := ⟨_, _, hDl.symm, rfl⟩
  have adAt : ∀ {HE : Hp} {sE : Shared} {m : Str → Option Value} {its : List Value} {n : Nat}, sE.heap.Ns C m → sE.heap.get? D = some { cls := .type "list", data := .seq its.toArray n } → ∀ b ∈ Dl.ad, ∃ o, sE.heap.get? b = some o ∧ ∀ v, o.data ≠ .cell v := fun {HE sE m its n} hn hl b hb => by
    subst hDl
    rcases hCD hb with rfl | rfl
    · obtain ⟨o, es', ep, ho, hd, _⟩ := hn
      exact ⟨o, ho, fun v z => by rw [hd] at z; cases z⟩
    · exact ⟨_, hl, fun v z => by cases z⟩
  have mkWk : ∀ {H' s' m its n}, Inv X pins σ H' s' → s1.heap.objs.size ≤ s'.heap.objs.size → H' C = none → H' D = none → s'.heap.Ns C m → s'.heap.get? D = some { cls := .type "list", data := .seq (its : List Value).toArray n } → Wk X.prog X.w X.base X.stack s1.heap.objs.size Dl.ad H' s' := fun {H' s' m its n} I' hz hc' hd' hn hl =>
    ⟨I'.bare, I'.bs, I'.stack, fun b hb => ⟨hfrF b hb, I'.stkFree b hb⟩, I'.hok, hz, fun b hb => by
      have q := adAt (HE := H') hn hl b hb
      subst hDl
      rcases hCD hb with rfl | rfl
      · exact ⟨nClt, hc', fun z => absurd (hfrF _ z) (Nat.not_lt.mpr nC), q⟩
      · exact ⟨nDlt, hd', fun z => absurd (hfrF _ z) (Nat.not_lt.mpr nD), q⟩⟩
  have go4 : s4.heap.get? a = some go := kp _ _ hgo
  have loop : codeAny (model X.prog X.w) X.A (.compLoop (.ListComp (.Name y p1) [⟨.Name y p2, .Call (.Name x p) (e :: es) [] pos2, [], 0⟩] scope pos) 0 (.ref a) (.ref D) ce) (compPost (model X.prog X.w) X.A X.xe use Qf (.ref D) C) s4 := by
    obtain ⟨Pd, hPd⟩ : ∃ Pd : Nat → Shared → Prop, Pd = fun n s' => ∃ gs H', s'.gens[g]? = some gs ∧ gs.Goes (model X.prog X.w) X.A.in1 (End3 X.prog X.w X.stack s1.heap.objs.size Dl QQ (fun _ _ _ => False) a g) (GY3 X.prog X.w X.base X.stack [(a, go)] s1.heap.objs.size Dl) n (.send .none) (s'.setGen g .running) ∧ s'.heap.get? a = some go ∧ Inv X pins σ H' s' := ⟨_, rfl⟩
    refine compLoop_any Pd ?_ sizeLine ?_
    · intro n s3 hh
      rw [hPd] at hh
      obtain ⟨gs, H3, hgs3, hgoes, hgo3, I3⟩ := hh
      have hgl3 : g < s3.gens.size := (Array.getElem?_eq_some_iff.mp hgs3).1
      have hcd : ∃ nm qn, go.cls = .type "generator" ∧ go.data = .fields #[.int g 0, nm, qn] := by
        obtain ⟨o, nm, qn, ho, hc, hd, _⟩ := isg _ hgo
        rw [hgo] at ho; cases ho
        exact ⟨nm, qn, hc, hd⟩
      obtain ⟨nm, qn, hgc, hgd⟩ := hcd
      refine wpAny_gsz (n := g + 1) hgl3 (next_genG (A := X.A) (I3.ok.hd hc) I3.nolimit room.depth (isg _ hgo3) hgs3 hgoes (fun v s5 gs' hbare hv => ?_) (fun s5 hf h' hk' => ?_) fun er s5 her => ?_)
      · obtain ⟨ys, x1, HE, H4, mine, hn, rv, hcs, hz, un, os5, ag5, hok5, hpn, hz5, hcp, yd, hmine, hmad, wakes⟩ := hv
        intro hsz
        have hcs2 : Inv X pins σ HE (s3.setGen g .running) ∧ (∃ m, (s3.setGen g .running).heap.Ns C m) ∧ ∃ its n, (s3.setGen g .running).heap.get? D = some { cls := .type "list", data := .seq (its : List Value).toArray n } ∧ Vals ys its ∧ ys.length ≤ sizeLine := by subst hDl; exact hcs
        obtain ⟨IE, ⟨m, hnC⟩, its, nn, hlD, hvs, hlen0⟩ := hcs2
        have hsz5 : g < s5.gens.size := by
          have z : (s5.setGen g gs').gens.size = s5.gens.size := setGen_size _ _ _
          have z2 : g + 1 ≤ (s5.setGen g gs').gens.size := hsz
          omega
        have pin : ∀ b ∈ [C, D], ∀ o, (s3.setGen g .running).heap.get? b = some o → s5.heap.get? b = some o ∧ H4 b = none := fun b hb o eo => hcp (b, o) (by subst hDl; exact mem_pinsAt hb eo)
        have hnC5 : s5.heap.Ns C m := hnC.at' fun o eo => (pin C List.mem_cons_self o eo).1
        obtain ⟨hlD5, nD4⟩ := pin D (List.mem_cons_of_mem _ List.mem_cons_self) _ hlD
        have nC4 : H4 C = none := by
          obtain ⟨o, _, _, ho, _⟩ := hnC
          exact (pin C List.mem_cons_self o ho).2
        have I5 : Inv X pins σ H4 (s5.setGen g gs') := (IE.stretch L un hok5 os5 ag5).gensTo (allBare_setGen ag5 hbare)
        have hgo5 : s5.heap.get? a = some go := (hpn _ (List.mem_singleton.mpr rfl)).1
        refine go_of (s := s5.setGen g gs') hgo5 hgc hgd (by decide) ?_
        refine wpAny_assign_Name (wpAny_storeName_local cY (m := m) (by rw [cL]; exact hnC5) (fun h6 hn6 hb6 => ?_) cP)
        rw [cL] at hn6 hb6
        refine wpAny_tests_nil ?_
        rw [if_pos rfl]
        refine wpAny_Name (wpAny_loadName_local cK cY (m := fun z => if z = y then some v else m z) (by rw [cL]; exact hn6) (if_pos rfl) ?_) hdy
        have hlD6 : h6.get? D = some { cls := .type "list", data := .seq its.toArray nn } := (hb6.2 D hDC).trans hlD5
        have hlen := hvs.length
        refine append_at hlD6 (fun h7 hb7 hl7 => ?_) (by rw [List.size_toArray]; omega)
        have keep : ∀ b o, b ∉ [C, D] → s5.heap.get? b = some o → h7.get? b = some o := fun b o hb eo => by
          simp only [List.mem_cons, List.not_mem_nil, or_false, not_or] at hb
          exact (hb7.2 b hb.2).trans ((hb6.2 b hb.1).trans eo)
        have I7 : Inv X pins σ H4 { s5.setGen g gs' with heap := h7, toks := s5.toks + 1 } := I5.far L rfl I5.bare (ch := [C, D]) (fun b hb => by rcases hCD hb with rfl | rfl; exact ⟨nC, nC4⟩; exact ⟨nD, nD4⟩) keep
        have haC : a ∉ [C, D] := fun hb => by
          rcases hCD hb with z | z
          · rw [z, ← hC] at ha2; exact absurd (Nat.lt_trans ha2 (Nat.lt_succ_self _)) (Nat.lt_irrefl _)
          · rw [z, ← hD] at ha2; exact absurd ha2 (Nat.lt_irrefl _)
        have hnC7 : h7.Ns C fun z => if z = y then some v else m z := hn6.sameBut hb7 (Ne.symm hDC)
        obtain ⟨s7, hs7⟩ : ∃ s7 : Shared, s7 = { s5.setGen g gs' with heap := h7, toks := s5.toks + 1 } := ⟨_, rfl⟩
        have hp7 : s7.heap = h7 := by rw [hs7]
        have gn7 : s7.gens = (s5.setGen g gs').gens := by rw [hs7]
        rw [← hs7] at I7
        have I7r : Inv X pins σ H4 (s7.setGen g .running) := I7.gensTo (allBare_setGen I7.bare rfl)
        have hgs7 : s7.gens[g]? = some gs' := by rw [gn7]; exact setGen_at hsz5
        have hn7 : (s7.setGen g .running).heap.Ns C fun z => if z = y then some v else m z := by show s7.heap.Ns C _; rw [hp7]; exact hnC7
        have hl7' : (s7.setGen g .running).heap.get? D = some { cls := .type "list", data := .seq (its ++ [v]).toArray (nn + 1) } := by
          show s7.heap.get? D = _
          rw [hp7, hl7]
          simp
        have hz7 : s1.heap.objs.size ≤ (s7.setGen g .running).heap.objs.size := Nat.le_trans nC (Nat.le_of_lt hn7.lt)
        have wk := wakes H4 (s7.setGen g .running) (mkWk I7r hz7 nC4 nD4 hn7 hl7') (by subst hDl; exact ⟨I7r, ⟨_, hn7⟩, _, _, hl7', hvs.append (.cons rv .nil), by rw [List.length_append, List.length_singleton]; omega⟩) (fun b mb o eb => ⟨(by show s7.heap.get? b = _; rw [hp7]; exact keep b o (fun z => hmad b mb (by subst hDl; exact z)) eb), (hmine b mb).1⟩) (by subst hDl; rfl)
        cases n with
        | zero => exact False.elim wk
        | succ q =>
          have fin : Pd q s7 := by
            rw [hPd]
            exact ⟨gs', H4, hgs7, wk, by rw [hp7]; exact keep a go haC hgo5, I7⟩
          rw [hs7] at fin
          exact ⟨q, Nat.lt_succ_self q, fin⟩
      · obtain ⟨ys, HE, H4, hcs, hz, os5, ag5, un, hok5, hcp, hQ⟩ := hf
        intro _
        have hcs2 : Inv X pins σ HE (s3.setGen g .running) ∧ (∃ m, (s3.setGen g .running).heap.Ns C m) ∧ ∃ its n, (s3.setGen g .running).heap.get? D = some { cls := .type "list", data := .seq (its : List Value).toArray n } ∧ Vals ys its ∧ ys.length ≤ sizeLine := by subst hDl; exact hcs
        obtain ⟨IE, ⟨m, hnC⟩, its, nn, hlD, hvs, hlen0⟩ := hcs2
        have pin : ∀ b ∈ [C, D], ∀ o, (s3.setGen g .running).heap.get? b = some o → s5.heap.get? b = some o ∧ H4 b = none := fun b hb o eo => hcp (b, o) (by subst hDl; exact mem_pinsAt hb eo)
        have hnC5 : s5.heap.Ns C m := hnC.at' fun o eo => (pin C List.mem_cons_self o eo).1
        obtain ⟨hlD5, nD4⟩ := pin D (List.mem_cons_of_mem _ List.mem_cons_self) _ hlD
        have nC4 : H4 C = none := by
          obtain ⟨o, _, _, ho, _⟩ := hnC
          exact (pin C List.mem_cons_self o ho).2
        have I5 : Inv X pins σ H4 (s5.setGen g .finished) := (IE.stretch L un hok5 os5 ag5).gensTo (allBare_setGen ag5 rfl)
        have I6 : Inv X pins σ H4 { s5.setGen g .finished with heap := h' } := I5.call' (ch := []) rfl (Un.kept hk') (I5.hok.kept hk') I5.bare fun _ z => nomatch z
        have I7 := I6.track L nD nD4 hlen0 (hk' _ _ hlD5) hvs
        refine hRR D C _ m _ I7 ?_ (hnC5.keeps hk') ?_
        · rw [hQQ] at hQ
          exact hQ D (I1.hok.fresh nD) nD4
        · obtain ⟨t1, t2, t3, t4⟩ := L.apart nC
          exact ⟨by rw [upd_ne (Ne.symm hDC)]; exact nC4, t2, fun z => I1.nofs nC z, t1, t3, t4⟩
      · obtain ⟨ys, HE, sE, hcs, hz, cx, hge⟩ := her
        obtain ⟨_, _, _, _, _, _, _, _, _, _, _, _, hE⟩ := cx
        exact hE.elim
    · rw [hPd]
      refine ⟨.fresh c, H1, by rw [gn4]; exact hgs, ⟨rfl, ?_⟩, go4, I4⟩
      refine wake X.A.in1 (s4.setGen g .running) Dl QQ hA room.in1 I1.ok.frames kp (os4.trans hos) (allBare_setGen hba4 rfl) (fun b hb => ?_) ?_
      · refine ⟨?_, adAt (HE := H1) (sE := s4.setGen g .running) nsC lD b hb⟩
        subst hDl
        rcases hCD hb with rfl | rfl
        · rw [← hC]; exact Nat.le_succ _
        · rw [← hD]; exact Nat.le_refl _
      · subst hDl
        exact ⟨I4.gensTo (allBare_setGen hba4 rfl), ⟨_, nsC⟩, [], 0, lD, .nil, Nat.zero_le _⟩
  exact codeAny_compStart_list loop (wpAny_pyIter_gen (isg _ go4) loop)
end
end L2

set_option Elab.async false
set_option linter.all false
set_option maxRecDepth 100000
set_option maxHeartbeats 4000000
namespace L2
open PySem PySem.Spec PyProof.Rows GenW
theorem pi_tupK {X : Cx} {K : PySem.W.Frag} (h : X.K = K) {tg l : Expr} {tl : TE} (hl : PE X l tl) : PI X tg l (iTup K tl) := by subst h; exact pi_tup hl
theorem cr_minDK {X : Cx} {K : PySem.W.Frag} (h : X.K = K) (hc : X.calm = true) (hu : X.A.units + 64 < cLine) : CallRK X (.builtin "min") [Str.ofString "default"] (rMxD K mnD) := by subst h; exact cr_minD hc hu
theorem cr_maxDK {X : Cx} {K : PySem.W.Frag} (h : X.K = K) (hc : X.calm = true) (hu : X.A.units + 64 < cLine) : CallRK X (.builtin "max") [Str.ofString "default"] (rMxD K mxD) := by subst h; exact cr_maxD hc hu
section
variable {X : Cx} {k : Nat} {ps : List Str} {sp : SpG3} {x y : Str} {p p1 p2 pos pos2 : Pos} {e : Expr} {es : List Expr} {ta : TA} {scope : Scope} {own : List (Str × Nat)}
/-- as a value -/
theorem pe_lcG (hc : X.calm = true) (O : OwnG3 X.prog X.w X.K X.mg X.base x k ps sp) (room : Room (k + 1) X.A) (ha : PA X (e :: es) ta) (ok : BlkOk X.N X.env.scope scope own) (hy : scope.names.lookup y = some .local) (hgl : Gl X x := by rfl) (hdb : (x == ("__debug__" : Str)) = false := by decide) (hdy : (y == ("__debug__" : Str)) = false := by decide)
    (he : starEach (e :: es) X.env = (false, eval e X.env) :: starEach es X.env := by rfl) (hpl : (backTo pos2 (starEach es X.env)).any (·.1) = false := by rfl) (hs : ∀ z, foldedSetIterable (.Call (.Name x p) (e :: es) [] pos2) X.env z = pure z := by intro _; rfl) :
    PE X (.ListComp (.Name y p1) [⟨.Name y p2, .Call (.Name x p) (e :: es) [] pos2, [], 0⟩] scope pos) (tLcG sp ta) := by
  refine ⟨fun pins s σ H Q I h => ?_⟩
  rw [eval_ListComp]
  refine lcG_core hc I O room ha ok.kind ok.free (fun y hy e => by rw [ok.uniq y hy, e]) hy hgl hdb hdy he hpl hs h fun D C s' m H' I' q hn f => ⟨m, hn, fun h'' sb => ?_⟩
  obtain ⟨f0, f1, f2, f3, f4, f5⟩ := f
  exact ⟨.ref D, H', I'.turned (t' := s'.toks) (fun b o hb e => (sb.2 b hb).trans e) f0 f1 f3 f4 f5, rfl, q⟩
/-- name = [..] on one line, the name a local -/
theorem ps_setLcG {i : Nat} {n : Str} {py spos : Pos} (hc : X.calm = true) (hN : X.N.Nodup) (hn : X.N[i]? = some n) (hnl : X.env.scope.names.lookup n = some .local) (hsw : swapsWith (.ListComp (.Name y p1) [⟨.Name y p2, .Call (.Name x p) (e :: es) [] pos2, [], 0⟩] scope pos) (some (.Name n py)) spos.line X.env = pure true)
    (O : OwnG3 X.prog X.w X.K X.mg X.base x k ps sp) (room : Room (k + 1) X.A) (ha : PA X (e :: es) ta) (ok : BlkOk X.N X.env.scope scope own) (hy : scope.names.lookup y = some .local) (hgl : Gl X x := by rfl) (hdb : (x == ("__debug__" : Str)) = false := by decide) (hdy : (y == ("__debug__" : Str)) = false := by decide)
    (he : starEach (e :: es) X.env = (false, eval e X.env) :: starEach es X.env := by rfl) (hpl : (backTo pos2 (starEach es X.env)).any (·.1) = false := by rfl) (hs : ∀ z, foldedSetIterable (.Call (.Name x p) (e :: es) [] pos2) X.env z = pure z := by intro _; rfl) :
    PS X (.Assign [.Name n py] (.ListComp (.Name y p1) [⟨.Name y p2, .Call (.Name x p) (e :: es) [] pos2, [], 0⟩] scope pos) spos) (tAsg (tLcG sp ta) (gName i)) := by
  refine ⟨fun pins s σ H D I h => ?_⟩
  rw [exec_Assign_Name_used _ _ _ _ hsw]
  refine wpAny_bind (wpAny_standAt (wpAny_bind ?_))
  show wpAny _ X.A (do let _ ← comprehension (.ListComp (.Name y p1) [⟨.Name y p2, .Call (.Name x p) (e :: es) [] pos2, [], 0⟩] scope pos) scope X.env (firstIterPos [⟨.Name y p2, .Call (.Name x p) (e :: es) [] pos2, [], 0⟩] pos) (newList []) false (eval (.Call (.Name x p) (e :: es) [] pos2) X.env) (some (assign (.Name n py) X.env))) _ _ s
  have h : tLcG sp ta σ H (fun x H1 => gName i x σ H1 D.nx) := h
  refine wpAny_bind (thn (lcG_core (Qf := fun _ s' => SP X pins D .next s') hc I O room ha ok.kind ok.free (fun y hy e => by rw [ok.uniq y hy, e]) hy hgl hdb hdy he hpl hs h fun L C s' m H' I' q hm f => ?_) fun _ s' hq => wpAny_pure (wpAny_pure hq))
  show wpAny _ _ (assign (.Name n py) X.env (.ref L)) _ _ _
  refine wpAny_assign_Name (store_ok2 (v := V.ref L) I' hN hn (.inl hnl) rfl (fun s2 I2 ⟨a, sb, ha⟩ => ?_) (.inr hnl))
  obtain ⟨f0, f1, f2, f3, f4, f5⟩ := f
  have haC : C ≠ a := by
    rcases ha with z | z
    · rw [z]; exact f1
    · exact fun e => f4 n a z e.symm
  refine ⟨m, hm.sameBut sb haC, fun h3 sb3 => ?_⟩
  exact ⟨_, H', I2.turned (t' := s2.toks) (fun b o hb e => (sb3.2 b hb).trans e) f0 f1 f3 f4 f5, q⟩
end
end L2

set_option Elab.async false
set_option linter.all false
set_option maxRecDepth 100000
set_option maxHeartbeats 4000000
/-! [x for x in f(..)], where what is out carries a promise -/
namespace L2
open PySem PySem.Spec PyProof.Rows GenW
/-- the items stand in the new list, the heap is the generator's own -/
def tLcY (sp : SpG3) (ta : TA) : TE := fun σ H Q => ta σ H fun vs H1 => ∃ Y : List V → V → Hp → Prop, ∀ cs ad, sp vs H1 ⟨cs, Y, fun ys x H2 H3 => H3 = H2 ∧ Y ys x H2, ad⟩ (fun ys H' => ∀ D, H1 D = none → H' D = none → Q (.ref D) (upd H' D (.lst ys))) (fun _ _ _ => False)
section
variable {X : Cx} {k : Nat} {ps : List Str} {sp : SpG3} {x y : Str} {p p1 p2 pos pos2 pos' : Pos} {e : Expr} {es : List Expr} {ta : TA} {scope : Scope} {use : Option (Value → Sem Unit)} {Qf : Value → Shared → Prop} {pins : List (Addr × Obj)} {s : Shared} {σ : St} {H : Hp} {Q : VK}
theorem lcY_core (hc : X.calm = true) (I : Inv X pins σ H s) (O : OwnG3 X.prog X.w X.K X.mg X.base x k ps sp) (room : Room (k + 1) X.A) (ha : PA X (e :: es) ta) (hkind : scope.kind = .function) (hfr : ∀ y ∈ scope.names, y.2 = .free → X.env.scope.names.lookup y.1 = some .cell ∨ X.env.scope.names.lookup y.1 = some .free)
    (hnm : ∀ x ∈ scope.names, x.2 = .local → scope.names.lookup x.1 = some .local) (hy : scope.names.lookup y = some .local) (hgl : Gl X x) (hdb : (x == ("__debug__" : Str)) = false) (hdy : (y == ("__debug__" : Str)) = false)
    (he : starEach (e :: es) X.env = (false, eval e X.env) :: starEach es X.env) (hpl : (backTo pos2 (starEach es X.env)).any (·.1) = false) (hs : ∀ z, foldedSetIterable (.Call (.Name x p) (e :: es) [] pos2) X.env z = pure z)
    (h : tLcY sp ta σ H Q)
    (hRR : ∀ D C s' m H', Inv X pins σ H' s' → Q (.ref D) H' → s'.heap.Ns C m → FpOk X pins H' C → compPost (model X.prog X.w) X.A X.xe use Qf (.ref D) C (.ok .next) s') :
    wpAny (model X.prog X.w) X.A (comprehension (.ListComp (.Name y p1) [⟨.Name y p2, .Call (.Name x p) (e :: es) [] pos2, [], 0⟩] scope pos) scope X.env pos' (newList []) false (eval (.Call (.Name x p) (e :: es) [] pos2) X.env) use) Qf X.xe s := by
  have hfree : ∀ y ∈ scope.names, y.2 = .free → ∃ c, X.env.cells.lookup y.1 = some c := fun y hy e => I.ok.has _ (hfr y hy e)
  obtain ⟨f, fd, G, hm, hk, hbd⟩ := O.ex
  refine wpAny_comprehension_free (use := use) rfl hs (closure_ok hfree) hkind hnm
    (wpAny_Call_Name_kw (ld_glob I hgl hm (PySem.W.callWith_K (h₀ := X.base) I.ok.mod.kin hk (thn (ha.run pos2 pins s σ H _ I h) fun us s1 ⟨vs, H1, I1, r, Y, q⟩ => ⟨I1.kIn, ?_⟩) he hpl) hdb))
  have hl2 : us.length = ps.length := by rw [← r.length]; exact G.len _ _ _ _ _ (q (fun _ _ _ => True) [])
  have hbs := hbd s1 us I1.kIn (by rw [List.append_nil]; exact hl2)
  rw [List.append_nil] at hbs
  obtain ⟨QQ, hQQ⟩ : ∃ QQ : List V → Hp → Prop, QQ = fun (ys : List V) (H' : Hp) => ∀ D, H1 D = none → H' D = none → Q (.ref D) (upd H' D (.lst ys)) := ⟨_, rfl⟩
  have q2 : ∀ cs ad, sp vs H1 ⟨cs, Y, fun ys x H2 H3 => H3 = H2 ∧ Y ys x H2, ad⟩ QQ (fun _ _ _ => False) := by rw [hQQ]; exact q
  refine wpAny_call (codeAny_mono (G.run X.A X.stack s1 H1 ⟨us, []⟩ us vs (fun Dl' Q' => ∃ cs ad, Dl' = ⟨cs, Y, fun ys x H2 H3 => H3 = H2 ∧ Y ys x H2, ad⟩ ∧ Q' = QQ) (fun _ _ _ => False) ⟨_, _, fun _ _ _ => True, [], rfl, rfl⟩ (room.mono (Nat.le_succ k)) I1.env0 hbs r (fun Dl' Q' z => by obtain ⟨cs, ad, z1, z2⟩ := z; rw [z1, z2]; exact q2 cs ad)) fun r s2 hq => ?_)
  cases r with
  | error _ => exact hq.elim
  | ok fl =>
  cases fl with
  | next => exact hq.elim
  | brk => exact hq.elim
  | cont => exact hq.elim
  | ret u =>
  obtain ⟨a, g, c, go, rfl, ha1, ha2, hgo, isg, hgs, hos, hba, hkp, wake⟩ := hq
  have I2 : Inv X pins σ H1 s2 := I1.call' (ch := []) hos (Un.kept hkp) (I1.hok.kept hkp) hba fun _ z => nomatch z
  refine wpAny_pyIter_gen (isg _ hgo) ?_
  have L : LowX X pins s1.heap.objs.size := I1.low
  have hfrF : ∀ b ∈ frs X.stack, b < s1.heap.objs.size := fun b hb => by
    obtain ⟨_, o, ho, _⟩ := I1.stack.mem hb
    exact Heap.lt_size ho
  have hgl2 : g < s2.gens.size := (Array.getElem?_eq_some_iff.mp hgs).1
  refine wpAny_newObj_type (newEnv_comp ?_) (by show 0 ≤ sizeLine; decide)
  obtain ⟨D, hD⟩ : ∃ D, s2.heap.objs.size = D := ⟨_, rfl⟩
  obtain ⟨C, hC⟩ : ∃ C, s2.heap.objs.size + 1 = C := ⟨_, rfl⟩
  have hDC : D ≠ C := by rw [← hD, ← hC]; exact Nat.ne_of_lt (Nat.lt_succ_self _)
  have nDlt : s1.heap.objs.size < D := by rw [← hD]; exact Nat.lt_of_le_of_lt ha1 ha2
  have nD : s1.heap.objs.size ≤ D := Nat.le_of_lt nDlt
  have nClt : s1.heap.objs.size < C := by rw [← hC]; exact Nat.lt_succ_of_lt (Nat.lt_of_le_of_lt ha1 ha2)
  have nC : s1.heap.objs.size ≤ C := Nat.le_of_lt nClt
  have hCs : (s2.heap.push { cls := .type "list", data := .seq ([] : List Value).toArray }).objs.size = C := by rw [Heap.size_push]; exact hC
  generalize hce : compEnvC scope (cellsFrom ((s2.heap.push { cls := .type "list", data := .seq ([] : List Value).toArray }).objs.size + 1) scope.names (cloFrom X.env.cells scope.names [])) (s2.heap.push { cls := .type "list", data := .seq ([] : List Value).toArray }).objs.size X.env = ce
  rw [hCs] at hce
  have cL : ce.locals = C := by subst hce; rfl
  have cK : ce.scope.kind = .function := by subst hce; exact hkind
  have cY : ce.kindOf y = some .local := by subst hce; exact lookup_relabel_local hy
  have cP : (ce.scope.kind == .class || (ce.scope.kind == .module && ce.locals != ce.globals)) = false := by rw [cK]; rfl
  show codeAny (model X.prog X.w) X.A (.compStart (.ListComp (.Name y p1) [⟨.Name y p2, .Call (.Name x p) (e :: es) [] pos2, [], 0⟩] scope pos) 0 (.ref a) (.ref s2.heap.objs.size) (compEnvC scope (cellsFrom ((s2.heap.push { cls := .type "list", data := .seq ([] : List Value).toArray }).objs.size + 1) scope.names (cloFrom X.env.cells scope.names [])) (s2.heap.push { cls := .type "list", data := .seq ([] : List Value).toArray }).objs.size X.env))
    (compPost (model X.prog X.w) X.A X.xe use Qf (.ref s2.heap.objs.size) (s2.heap.push { cls := .type "list", data := .seq ([] : List Value).toArray }).objs.size) { s2 with heap := pushCells ((s2.heap.push { cls := .type "list", data := .seq ([] : List Value).toArray }).push { cls := .type "dict", data := .dict #[] }) scope.names }
  rw [hCs, hD, hce]
  have nsC4 : (pushCells ((s2.heap.push { cls := .type "list", data := .seq ([] : List Value).toArray }).push { cls := .type "dict", data := .dict #[] }) scope.names).Ns C fun _ => none := by
    rw [← hCs]
    exact Heap.Ns.keeps (Heap.Ns.new ..) fun b o e => pushCells_keeps _ _ _ _ e
  have lD4 : (pushCells ((s2.heap.push { cls := .type "list", data := .seq ([] : List Value).toArray }).push { cls := .type "dict", data := .dict #[] }) scope.names).get? D = some { cls := .type "list", data := .seq ([] : List Value).toArray 0 } := by
    refine pushCells_keeps _ _ _ _ (Heap.get?_push_of_some _ ?_)
    rw [← hD]
    exact Heap.get?_push_size _ rfl
  have kp4 : ∀ b o, s2.heap.get? b = some o → (pushCells ((s2.heap.push { cls := .type "list", data := .seq ([] : List Value).toArray }).push { cls := .type "dict", data := .dict #[] }) scope.names).get? b = some o := fun b o e => pushCells_keeps _ _ _ _ (Heap.get?_push_of_some _ (Heap.get?_push_of_some _ e))
  obtain ⟨s4, hs4⟩ : ∃ s4 : Shared, s4 = { s2 with heap := pushCells ((s2.heap.push { cls := .type "list", data := .seq ([] : List Value).toArray }).push { cls := .type "dict", data := .dict #[] }) scope.names } := ⟨_, rfl⟩
  rw [← hs4]
  have nsC : s4.heap.Ns C fun _ => none := by rw [hs4]; exact nsC4
  have lD : s4.heap.get? D = some { cls := .type "list", data := .seq ([] : List Value).toArray 0 } := by rw [hs4]; exact lD4
  have kp : ∀ b o, s2.heap.get? b = some o → s4.heap.get? b = some o := by rw [hs4]; exact kp4
  have os4 : s4.os = s2.os := by rw [hs4]
  have gn4 : s4.gens = s2.gens := by rw [hs4]
  clear hs4 kp4 lD4 nsC4
  have hba4 : AllBare s4.gens := by rw [gn4]; exact hba
  have I4 : Inv X pins σ H1 s4 := I2.call' (ch := []) os4 (Un.kept kp) (I2.hok.kept kp) hba4 fun _ z => nomatch z
  have hCD : ∀ {b : Addr}, b ∈ [C, D] → b = C ∨ b = D := fun hb => by simpa using hb
  -- the deal
  generalize hDl : (⟨fun ys HE sE => Inv X pins σ HE sE ∧ (∃ m, sE.heap.Ns C m) ∧ ∃ its n, sE.heap.get? D = some { cls := .type "list", data := .seq (its : List Value).toArray n } ∧ Vals ys its ∧ ys.length ≤ sizeLine, Y, fun ys x H2 H3 => H3 = H2 ∧ Y ys x H2, [C, D]⟩ : Deal) = Dl
  have hA : ∃ cs ad, Dl = ⟨cs, Y, fun ys x H2 H3 => H3 = H2 ∧ Y ys x H2, ad⟩ ∧ QQ = QQ := ⟨_, _, hDl.symm, rfl⟩
  have adAt : ∀ {HE : Hp} {sE : Shared} {m : Str → Option Value} {its : List Value} {n : Nat}, sE.heap.Ns C m → sE.heap.get? D = some { cls := .type "list", data := .seq its.toArray n } → ∀ b ∈ Dl.ad, ∃ o, sE.heap.get? b = some o ∧ ∀ v, o.data ≠ .cell v := fun {HE sE m its n} hn hl b hb => by
    subst hDl
    rcases hCD hb with rfl | rfl
    · obtain ⟨o, es', ep, ho, hd, _⟩ := hn
      exact ⟨o, ho, fun v z => by rw [hd] at z; cases z⟩
    · exact ⟨_, hl, fun v z => by cases z⟩
  have mkWk : ∀ {H' s' m its n}, Inv X pins σ H' s' → s1.heap.objs.size ≤ s'.heap.objs.size → H' C = none → H' D = none → s'.heap.Ns C m → s'.heap.get? D = some { cls := .type "list", data := .seq (its : List Value).toArray n } → Wk X.prog X.w X.base X.stack s1.heap.objs.size Dl.ad H' s' := fun {H' s' m its n} I' hz hc' hd' hn hl =>
    ⟨I'.bare, I'.bs, I'.stack, fun b hb => ⟨hfrF b hb, I'.stkFree b hb⟩, I'.hok, hz, fun b hb => by
      have q := adAt (HE := H') hn hl b hb
      subst hDl
      rcases hCD hb with rfl | rfl
      · exact ⟨nClt, hc', fun z => absurd (hfrF _ z) (Nat.not_lt.mpr nC), q⟩
      · exact ⟨nDlt, hd', fun z => absurd (hfrF _ z) (Nat.not_lt.mpr nD), q⟩⟩
  have go4 : s4.heap.get? a = some go := kp _ _ hgo
  have loop : codeAny (model X.prog X.w) X.A (.compLoop (.ListComp (.Name y p1) [⟨.Name y p2, .Call (.Name x p) (e :: es) [] pos2, [], 0⟩] scope pos) 0 (.ref a) (.ref D) ce) (compPost (model X.prog X.w) X.A X.xe use Qf (.ref D) C) s4 := by
    obtain ⟨Pd, hPd⟩ : ∃ Pd : Nat → Shared → Prop, Pd = fun n s' => ∃ gs H', s'.gens[g]? = some gs ∧ gs.Goes (model X.prog X.w) X.A.in1 (End3 X.prog X.w X.stack s1.heap.objs.size Dl QQ (fun _ _ _ => False) a g) (GY3 X.prog X.w X.base X.stack [(a, go)] s1.heap.objs.size Dl) n (.send .none) (s'.setGen g .running) ∧ s'.heap.get? a = some go ∧ Inv X pins σ H' s' := ⟨_, rfl⟩
    refine compLoop_any Pd ?_ sizeLine ?_
    · intro n s3 hh
      rw [hPd] at hh
      obtain ⟨gs, H3, hgs3, hgoes, hgo3, I3⟩ := hh
      have hgl3 : g < s3.gens.size := (Array.getElem?_eq_some_iff.mp hgs3).1
      have hcd : ∃ nm qn, go.cls = .type "generator" ∧ go.data = .fields #[.int g 0, nm, qn] := by
        obtain ⟨o, nm, qn, ho, hc, hd, _⟩ := isg _ hgo
        rw [hgo] at ho; cases ho
        exact ⟨nm, qn, hc, hd⟩
      obtain ⟨nm, qn, hgc, hgd⟩ := hcd
      refine wpAny_gsz (n := g + 1) hgl3 (next_genG (A := X.A) (I3.ok.hd hc) I3.nolimit room.depth (isg _ hgo3) hgs3 hgoes (fun v s5 gs' hbare hv => ?_) (fun s5 hf h' hk' => ?_) fun er s5 her => ?_)
      · obtain ⟨ys, x1, HE, H4, mine, hn, rv, hcs, hz, un, os5, ag5, hok5, hpn, hz5, hcp, yd, hmine, hmad, wakes⟩ := hv
        intro hsz
        have hcs2 : Inv X pins σ HE (s3.setGen g .running) ∧ (∃ m, (s3.setGen g .running).heap.Ns C m) ∧ ∃ its n, (s3.setGen g .running).heap.get? D = some { cls := .type "list", data := .seq (its : List Value).toArray n } ∧ Vals ys its ∧ ys.length ≤ sizeLine := by subst hDl; exact hcs
        obtain ⟨IE, ⟨m, hnC⟩, its, nn, hlD, hvs, hlen0⟩ := hcs2
        have hsz5 : g < s5.gens.size := by
          have z : (s5.setGen g gs').gens.size = s5.gens.size := setGen_size _ _ _
          have z2 : g + 1 ≤ (s5.setGen g gs').gens.size := hsz
          omega
        have pin : ∀ b ∈ [C, D], ∀ o, (s3.setGen g .running).heap.get? b = some o → s5.heap.get? b = some o ∧ H4 b = none := fun b hb o eo => hcp (b, o) (by subst hDl; exact mem_pinsAt hb eo)
        have hnC5 : s5.heap.Ns C m := hnC.at' fun o eo => (pin C List.mem_cons_self o eo).1
        obtain ⟨hlD5, nD4⟩ := pin D (List.mem_cons_of_mem _ List.mem_cons_self) _ hlD
        have nC4 : H4 C = none := by
          obtain ⟨o, _, _, ho, _⟩ := hnC
          exact (pin C List.mem_cons_self o ho).2
        have I5 : Inv X pins σ H4 (s5.setGen g gs') := (IE.stretch L un hok5 os5 ag5).gensTo (allBare_setGen ag5 hbare)
        have hgo5 : s5.heap.get? a = some go := (hpn _ (List.mem_singleton.mpr rfl)).1
        refine go_of (s := s5.setGen g gs') hgo5 hgc hgd (by decide) ?_
        refine wpAny_assign_Name (wpAny_storeName_local cY (m := m) (by rw [cL]; exact hnC5) (fun h6 hn6 hb6 => ?_) cP)
        rw [cL] at hn6 hb6
        refine wpAny_tests_nil ?_
        rw [if_pos rfl]
        refine wpAny_Name (wpAny_loadName_local cK cY (m := fun z => if z = y then some v else m z) (by rw [cL]; exact hn6) (if_pos rfl) ?_) hdy
        have hlD6 : h6.get? D = some { cls := .type "list", data := .seq its.toArray nn } := (hb6.2 D hDC).trans hlD5
        have hlen := hvs.length
        refine append_at hlD6 (fun h7 hb7 hl7 => ?_) (by rw [List.size_toArray]; omega)
        have keep : ∀ b o, b ∉ [C, D] → s5.heap.get? b = some o → h7.get? b = some o := fun b o hb eo => by
          simp only [List.mem_cons, List.not_mem_nil, or_false, not_or] at hb
          exact (hb7.2 b hb.2).trans ((hb6.2 b hb.1).trans eo)
        have I7 : Inv X pins σ H4 { s5.setGen g gs' with heap := h7, toks := s5.toks + 1 } := I5.far L rfl I5.bare (ch := [C, D]) (fun b hb => by rcases hCD hb with rfl | rfl; exact ⟨nC, nC4⟩; exact ⟨nD, nD4⟩) keep
        have haC : a ∉ [C, D] := fun hb => by
          rcases hCD hb with z | z
          · rw [z, ← hC] at ha2; exact absurd (Nat.lt_trans ha2 (Nat.lt_succ_self _)) (Nat.lt_irrefl _)
          · rw [z, ← hD] at ha2; exact absurd ha2 (Nat.lt_irrefl _)
        have hnC7 : h7.Ns C fun z => if z = y then some v else m z := hn6.sameBut hb7 (Ne.symm hDC)
        obtain ⟨s7, hs7⟩ : ∃ s7 : Shared, s7 = { s5.setGen g gs' with heap := h7, toks := s5.toks + 1 } := ⟨_, rfl⟩
        have hp7 : s7.heap = h7 := by rw [hs7]
        have gn7 : s7.gens = (s5.setGen g gs').gens := by rw [hs7]
        rw [← hs7] at I7
        have I7r : Inv X pins σ H4 (s7.setGen g .running) := I7.gensTo (allBare_setGen I7.bare rfl)
        have hgs7 : s7.gens[g]? = some gs' := by rw [gn7]; exact setGen_at hsz5
        have hn7 : (s7.setGen g .running).heap.Ns C fun z => if z = y then some v else m z := by show s7.heap.Ns C _; rw [hp7]; exact hnC7
        have hl7' : (s7.setGen g .running).heap.get? D = some { cls := .type "list", data := .seq (its ++ [v]).toArray (nn + 1) } := by
          show s7.heap.get? D = _
          rw [hp7, hl7]
          simp
        have hz7 : s1.heap.objs.size ≤ (s7.setGen g .running).heap.objs.size := Nat.le_trans nC (Nat.le_of_lt hn7.lt)
        have wk := wakes H4 (s7.setGen g .running) (mkWk I7r hz7 nC4 nD4 hn7 hl7') (by subst hDl; exact ⟨I7r, ⟨_, hn7⟩, _, _, hl7', hvs.append (.cons rv .nil), by rw [List.length_append, List.length_singleton]; omega⟩) (fun b mb o eb => ⟨(by show s7.heap.get? b = _; rw [hp7]; exact keep b o (fun z => hmad b mb (by subst hDl; exact z)) eb), (hmine b mb).1⟩) (by subst hDl; exact ⟨rfl, yd⟩)
        cases n with
        | zero => exact False.elim wk
        | succ q =>
          have fin : Pd q s7 := by
            rw [hPd]
            exact ⟨gs', H4, hgs7, wk, by rw [hp7]; exact keep a go haC hgo5, I7⟩
          rw [hs7] at fin
          exact ⟨q, Nat.lt_succ_self q, fin⟩
      · obtain ⟨ys, HE, H4, hcs, hz, os5, ag5, un, hok5, hcp, hQ⟩ := hf
        intro _
        have hcs2 : Inv X pins σ HE (s3.setGen g .running) ∧ (∃ m, (s3.setGen g .running).heap.Ns C m) ∧ ∃ its n, (s3.setGen g .running).heap.get? D = some { cls := .type "list", data := .seq (its : List Value).toArray n } ∧ Vals ys its ∧ ys.length ≤ sizeLine := by subst hDl; exact hcs
        obtain ⟨IE, ⟨m, hnC⟩, its, nn, hlD, hvs, hlen0⟩ := hcs2
        have pin : ∀ b ∈ [C, D], ∀ o, (s3.setGen g .running).heap.get? b = some o → s5.heap.get? b = some o ∧ H4 b = none := fun b hb o eo => hcp (b, o) (by subst hDl; exact mem_pinsAt hb eo)
        have hnC5 : s5.heap.Ns C m := hnC.at' fun o eo => (pin C List.mem_cons_self o eo).1
        obtain ⟨hlD5, nD4⟩ := pin D (List.mem_cons_of_mem _ List.mem_cons_self) _ hlD
        have nC4 : H4 C = none := by
          obtain ⟨o, _, _, ho, _⟩ := hnC
          exact (pin C List.mem_cons_self o ho).2
        have I5 : Inv X pins σ H4 (s5.setGen g .finished) := (IE.stretch L un hok5 os5 ag5).gensTo (allBare_setGen ag5 rfl)
        have I6 : Inv X pins σ H4 { s5.setGen g .finished with heap := h' } := I5.call' (ch := []) rfl (Un.kept hk') (I5.hok.kept hk') I5.bare fun _ z => nomatch z
        have I7 := I6.track L nD nD4 hlen0 (hk' _ _ hlD5) hvs
        refine hRR D C _ m _ I7 ?_ (hnC5.keeps hk') ?_
        · rw [hQQ] at hQ
          exact hQ D (I1.hok.fresh nD) nD4
        · obtain ⟨t1, t2, t3, t4⟩ := L.apart nC
          exact ⟨by rw [upd_ne (Ne.symm hDC)]; exact nC4, t2, fun z => I1.nofs nC z, t1, t3, t4⟩
      · obtain ⟨ys, HE, sE, hcs, hz, cx, hge⟩ := her
        obtain ⟨_, _, _, _, _, _, _, _, _, _, _, _, hE⟩ := cx
        exact hE.elim
    · rw [hPd]
      refine ⟨.fresh c, H1, by rw [gn4]; exact hgs, ⟨rfl, ?_⟩, go4, I4⟩
      refine wake X.A.in1 (s4.setGen g .running) Dl QQ hA room.in1 I1.ok.frames kp (os4.trans hos) (allBare_setGen hba4 rfl) (fun b hb => ?_) ?_
      · refine ⟨?_, adAt (HE := H1) (sE := s4.setGen g .running) nsC lD b hb⟩
        subst hDl
        rcases hCD hb with rfl | rfl
        · rw [← hC]; exact Nat.le_succ _
        · rw [← hD]; exact Nat.le_refl _
      · subst hDl
        exact ⟨I4.gensTo (allBare_setGen hba4 rfl), ⟨_, nsC⟩, [], 0, lD, .nil, Nat.zero_le _⟩
  exact codeAny_compStart_list loop (wpAny_pyIter_gen (isg _ go4) loop)
end
section
variable {X : Cx} {k : Nat} {ps : List Str} {sp : SpG3} {x y : Str} {p p1 p2 pos pos2 : Pos} {e : Expr} {es : List Expr} {ta : TA} {scope : Scope} {own : List (Str × Nat)}
/-- as a value -/
theorem pe_lcY (hc : X.calm = true) (O : OwnG3 X.prog X.w X.K X.mg X.base x k ps sp) (room : Room (k + 1) X.A) (ha : PA X (e :: es) ta) (ok : BlkOk X.N X.env.scope scope own) (hy : scope.names.lookup y = some .local) (hgl : Gl X x := by rfl) (hdb : (x == ("__debug__" : Str)) = false := by decide) (hdy : (y == ("__debug__" : Str)) = false := by decide)
    (he : starEach (e :: es) X.env = (false, eval e X.env) :: starEach es X.env := by rfl) (hpl : (backTo pos2 (starEach es X.env)).any (·.1) = false := by rfl) (hs : ∀ z, foldedSetIterable (.Call (.Name x p) (e :: es) [] pos2) X.env z = pure z := by intro _; rfl) :
    PE X (.ListComp (.Name y p1) [⟨.Name y p2, .Call (.Name x p) (e :: es) [] pos2, [], 0⟩] scope pos) (tLcY sp ta) := by
  refine ⟨fun pins s σ H Q I h => ?_⟩
  rw [eval_ListComp]
  refine lcY_core hc I O room ha ok.kind ok.free (fun y hy e => by rw [ok.uniq y hy, e]) hy hgl hdb hdy he hpl hs h fun D C s' m H' I' q hn f => ⟨m, hn, fun h'' sb => ?_⟩
  obtain ⟨f0, f1, f2, f3, f4, f5⟩ := f
  exact ⟨.ref D, H', I'.turned (t' := s'.toks) (fun b o hb e => (sb.2 b hb).trans e) f0 f1 f3 f4 f5, rfl, q⟩
end
end L2

set_option Elab.async false
set_option maxRecDepth 100000
set_option maxHeartbeats 4000000
/-! repr of data; defs whose promise holds where no repr is under way; the end of a law of such a def -/
namespace L2
open PySem PySem.Spec PyProof.Rows
section
variable {X : Cx}
/-- repr(x), x data of any depth -/
theorem call_repr (hg : X.A.guards = some []) (hu : X.A.units + 65 < cLine) : CallR X (.builtin "repr") (fun xs H Q => ∃ x d, xs = [x] ∧ Dp X.K H x d ∧ d.canLay0 = true ∧ d.depth ≤ 64 ∧ d.showable = true ∧ d.shown.length ≤ sizeLine ∧ Q (.str d.shown) H) := by
  intro pins s σ H xs us Q I r h
  obtain ⟨x, d, rfl, hd, hl, hdp, hs, hz, q⟩ := h
  obtain ⟨u, rfl, rx⟩ := vals1 r
  have big : ∀ a, x = .ref a → wpAny (model X.prog X.w) X.A (call (.builtin "repr") [u]) (EP X pins σ Q) X.xe s := fun a ea => by
    subst ea
    obtain rfl : u = Value.ref a := rx
    obtain ⟨as, r1⟩ := Dp.reads I d (.ref a) (.ref a) hd rfl
    exact repr_of_reads' r1 hs (PyData.noDict_hsm (PyData.hasDict_of_canLay d hl)) hg (by omega) (fun _ _ e => e) (fun h' u tk hk => ⟨.str _, H, I.kept hk, ⟨_, rfl⟩, q⟩) hz
  cases hd with
  | non =>
    obtain rfl : u = Value.none := rx
    rw [PyData.shown] at q
    exact PySem.P.repr_of_none ⟨.str _, H, I.tok _, ⟨_, rfl⟩, q⟩
  | bl b =>
    obtain rfl : u = Value.bool b := rx
    rw [PyData.shown] at q
    refine PySem.P.repr_of_bool ⟨.str _, H, I.tok _, ⟨_, rfl⟩, ?_⟩
    cases b <;> exact q
  | int i =>
    obtain ⟨t, rfl⟩ := rx
    rw [PyData.shown] at q
    exact PySem.P.repr_of_int (by simpa [PyData.showable] using hs) ⟨.str _, H, I.tok _, ⟨_, rfl⟩, q⟩
  | str z =>
    obtain ⟨t, rfl⟩ := rx
    rw [PyData.shown] at q hz
    exact PySem.P.repr_of_str ⟨.str _, H, I.tok _, ⟨_, rfl⟩, q⟩ hz
  | lst h1 h2 => exact big _ rfl
  | tup h1 h2 => exact big _ rfl
end
/-- a def whose promise holds where no repr is under way -/
structure FnClr (P : Program) (w : World) (K : PySem.W.Frag) (mg : Str → Option Value) (base : Heap) (CX : CXT) (k : Nat) (f : Addr) (fd : FuncData) (ps : List Str) (sp : Sp) : Prop where
  len : ∀ vs H Q E, sp vs H Q E → vs.length = ps.length
  run : ∀ (AA : Around) (outer : List Env) (sh : Shared) (H : Hp) (args : Args) (us : List Value) (vs : List V) (Q : VK) (E : XK), AA.guards = some [] → Room k AA → Env0 P w K mg base AA outer sh H →
    BindsTo sh fd args (ps.zip us) → Vals vs us → sp vs H Q E → codeAny (model P w) AA (.call (.ref f) args) (CR CX outer P w H sh Q E) sh
section
variable {CX : CXT} {P : Program} {w : World} {K : PySem.W.Frag} {mg : Str → Option Value} {base : Heap} {k : Nat} {f : Addr} {fd : FuncData} {x qual : Str} {st : Stmt} {N ps : List Str} {sp : Sp}
theorem FnOk.toClr (F : FnOk P w K mg base CX k f fd ps sp) : FnClr P w K mg base CX k f fd ps sp := ⟨F.len, fun AA outer sh H args us vs Q E _ hr => F.run AA outer sh H args us vs Q E hr⟩
theorem FnClr.imp {sp' : Sp} (F : FnClr P w K mg base CX k f fd ps sp) (h : ∀ vs H Q E, sp' vs H Q E → sp vs H Q E) : FnClr P w K mg base CX k f fd ps sp' :=
  ⟨fun vs H Q E z => F.len vs H Q E (h _ _ _ _ z), fun AA outer sh H args us vs Q E hg hr he hb hv z => F.run AA outer sh H args us vs Q E hg hr he hb hv (h _ _ _ _ z)⟩
theorem fnClr_of (F : Fun K x qual st f fd) (S : FnScope N ps (defScope st)) (len : ∀ vs H Q E, sp vs H Q E → vs.length = ps.length)
    (hbody : ∀ (cdv : Value) (AA : Around) (outer : List Env) (sh : Shared) (H : Hp) (vs : List V) (Q : VK) (E : XK), (AA.deeper (envOfC qual (defScope st) sh.heap.objs.size f cdv)).guards = some [] → Room k (AA.deeper (envOfC qual (defScope st) sh.heap.objs.size f cdv)) → sp vs H Q E →
      ∃ t, PSs (cxOf CX P w K mg base N qual (defScope st) f cdv AA outer sh H E) (defBody st) t ∧ t { nx := fun _ H' => Q .non H', rt := Q } (L2.start N vs) H) : FnClr P w K mg base CX (k + 1) f fd ps sp := by
  obtain ⟨oc, od, kV, doc, pm, an, cdv, ct, osl, rfl, lk, hcd⟩ := F.ex
  refine ⟨len, fun AA outer sh H args us vs Q E hg hr e0 hb r hsp => ?_⟩
  have hl := len _ _ _ _ hsp
  have KX : K.In sh.heap := e0.mod.kin.keeps fun b o e => (e0.bs b o e).1
  have lim : sh.heap.NoLimit := e0.mod.nolimit.keeps fun b o e => (e0.bs b o e).1
  have binds : ∀ y ∈ ps.zip us, (defScope st).names.lookup y.1 = some .local ∨ ((defScope st).names.lookup y.1 = some .cell ∧ ((cellsFrom (sh.heap.objs.size + 1) (defScope st).names []).lookup y.1).isSome = true) := by
    rintro ⟨n, v⟩ hy
    rcases S.par n (List.of_mem_zip hy).1 with q | q
    · exact .inl q
    · exact .inr ⟨q, PySem.W.cellsFrom_some _ _ _ (.inl q)⟩
  refine codeAny_call_function hr.depth (KX _ _ lk) rfl S.co S.gen rfl (PySem.W.codeRec_of KX hcd) (hb _ _ _ _ ?_)
  refine wpAny_newFunctionEnv_cells S.kind binds fun env he s1 xx => ?_
  subst he
  refine ⟨lim.keeps xx.toInCall.keep, codeAny_func ?_⟩
  obtain ⟨t, ht, hq⟩ := hbody cdv AA outer sh H vs Q E hg (hr.deeper _) hsp
  have I := inv_start (CX := CX) (cd := cdv) (E := E) S hr.hd e0 hl r xx
  refine wpAny_mono (ht.run [] s1 (L2.start N vs) H _ I hq) (fun fl s' hs => ?_) fun _ _ hs => hs
  cases fl with
  | ret u =>
    obtain ⟨v, σ', H', J, rv, q⟩ := hs
    exact ⟨v, H', J.os, J.bare, J.base, J.hok, rv, q⟩
  | next =>
    obtain ⟨σ', H', J, q⟩ := hs
    exact ⟨V.non, H', J.os, J.bare, J.base, J.hok, rfl, q⟩
  | brk =>
    obtain ⟨_, _, _, q⟩ := hs
    exact q.elim
  | cont =>
    obtain ⟨_, _, _, q⟩ := hs
    exact q.elim
/-- .. whose suite lets nothing past -/
theorem Fun.okClr (F : Fun K x qual st f fd) (S : FnScope N ps (defScope st)) (len : ∀ vs H Q E, sp vs H Q E → vs.length = ps.length)
    (hbody : ∀ (cdv : Value) (AA : Around) (outer : List Env) (sh : Shared) (H : Hp) (vs : List V) (Q : VK) (E : XK), (AA.deeper (envOfC qual (defScope st) sh.heap.objs.size f cdv)).guards = some [] → Room k (AA.deeper (envOfC qual (defScope st) sh.heap.objs.size f cdv)) → sp vs H Q E →
      ∃ t, PSs (cxOf CX0 P w K mg base N qual (defScope st) f cdv AA outer sh H E).nox (defBody st) t ∧ t { nx := fun _ H' => Q .non H', rt := Q } (L2.start N vs) H) : FnClr P w K mg base CX0 (k + 1) f fd ps sp :=
  fnClr_of F S len fun cdv AA outer sh H vs Q E hg hr hsp => by
    obtain ⟨t, h, q⟩ := hbody cdv AA outer sh H vs Q E hg hr hsp
    exact ⟨t, h.nox, q⟩
end
/-- a def of the top that keeps such a promise -/
structure OwnClr (P : Program) (w : World) (K : PySem.W.Frag) (mg : Str → Option Value) (base : Heap) (CX : CXT) (x : Str) (k : Nat) (ps : List Str) (sp : Sp) : Prop where
  ex : ∃ (f : Addr) (fd : FuncData), FnClr P w K mg base CX k f fd ps sp ∧ mg x = some (.ref f) ∧ PySem.W.keepIn K (.ref f) = true ∧ Binds K fd ps []
section
variable {P : Program} {w : World} {K : PySem.W.Frag} {mg : Str → Option Value} {base : Heap} {CX : CXT} {x : Str} {k : Nat} {ps : List Str} {sp : Sp} {st : Stmt}
theorem DefAt.ownClr (D : DefAt K mg x st ps) (h : ∀ f fd, Fun K x x st f fd → FnClr P w K mg base CX k f fd ps sp) : OwnClr P w K mg base CX x k ps sp := by
  obtain ⟨f, fd, F, hm, hb⟩ := D.ex
  exact ⟨f, fd, h f fd F, hm, F.kp, hb⟩
theorem Own.toClr (O : Own P w K mg base CX x k ps sp) : OwnClr P w K mg base CX x k ps sp := by
  obtain ⟨f, fd, F, hm, hk, hb⟩ := O.ex
  exact ⟨f, fd, F.toClr, hm, hk, hb⟩
end
section
variable {X : Cx} {CX : CXT} {x : Str} {k : Nat} {ps : List Str} {sp : Sp} {e : Expr} {es : List Expr} {t : TA} {p pos : Pos}
/-- f(e, ..) of such a def -/
theorem pe_ownClr (O : OwnClr X.prog X.w X.K X.mg X.base CX x k ps sp) (hg0 : X.A.guards = some []) (hr : Room k X.A) (hx : Passes CX X E0) (ha : PA X (e :: es) t) (hg : Gl X x := by rfl) (hdb : (x == ("__debug__" : Str)) = false := by decide)
    (he : starEach (e :: es) X.env = (false, eval e X.env) :: starEach es X.env := by rfl) (hpl : (backTo pos (starEach es X.env)).any (·.1) = false := by rfl) : PE X (.Call (.Name x p) (e :: es) [] pos) (tCall sp [] E0 t) := by
  obtain ⟨f, fd, F, hm, hk, hb⟩ := O.ex
  refine ⟨fun pins s σ H Q I h => wpAny_Call_Name_kw (ld_glob I hg hm ?_ hdb)⟩
  refine PySem.W.callWith_K (h₀ := X.base) I.ok.mod.kin hk (thn (ha.run pos pins s σ H _ I h) fun us s1 ⟨vs, H1, I1, r, hsp⟩ => ⟨I1.kIn, ?_⟩) he hpl
  have hsp : sp vs H1 Q E0 := by
    have z : sp (vs ++ []) H1 Q E0 := hsp
    rwa [List.append_nil] at z
  have hl : us.length = ps.length := by
    rw [← r.length]
    exact F.len _ _ _ _ hsp
  have bd := hb s1 us I1.kIn (by rw [List.append_nil]; exact hl)
  rw [List.append_nil] at bd
  refine wpAny_call (codeAny_mono (F.run X.A X.stack s1 H1 ⟨us, []⟩ us vs Q E0 hg0 hr I1.env0 bd r hsp) fun rr s' hq => ?_)
  match rr, hq with
  | .error ee, hq => exact hx pins σ H1 s1 ee s' I1 hq
  | .ok (.ret u), hq => exact I1.after hq
  | .ok .next, hq => exact hq.elim
  | .ok .brk, hq => exact hq.elim
  | .ok .cont, hq => exact hq.elim
end
/-! ### the end -/
/-- nothing is tracked but the script, where it is -/
def scr (t : Bool) (a : Addr) (o : Obj) (ns : List Int) : Hp := fun b => if t = true ∧ b = a then some (.frz o (.lst (ns.map V.int))) else none
theorem scr_at {t : Bool} {a b : Addr} {o : Obj} {ns : List Int} {u : HO} (h : scr t a o ns b = some u) : t = true ∧ b = a ∧ u = .frz o (.lst (ns.map V.int)) := by
  unfold scr at h
  by_cases hb : t = true ∧ b = a
  · rw [if_pos hb] at h
    cases h
    exact ⟨hb.1, hb.2, rfl⟩
  · rw [if_neg hb] at h
    cases h
theorem scr_no {t : Bool} {a b : Addr} {o : Obj} {ns : List Int} (h : ¬ (t = true ∧ b = a)) : scr t a o ns b = none := if_neg h
theorem law_callClr {P : Program} {w : World} {K : PySem.W.Frag} {mg mb : Str → Option Value} {CX : CXT} {k : Nat} {fa a : Addr} {fd : FuncData} {x : Str} {sp : Sp} {sh : Shared} {vs : List Value} {ns : List Int}
    (KX : K.In sh.heap) (hns : sh.heap.Ns mainGlobals mg) (hb : sh.heap.Ns builtinsNs mb) (hbb : ∀ x : Str, x ≠ "__name__" → mb x = bootBuiltins x) (hlim : sh.heap.NoLimit) (hgn : sh.gens = #[])
    (ha : sh.heap.get? a = some { cls := .type "list", data := .seq vs.toArray }) (hi : IntsAre vs ns) (hl : ns.length ≤ sizeLine) (hr : Room k callerA)
    (F : ∀ base : Heap, K.In base → base.Ns mainGlobals mg → FnClr P w K mg base CX k fa fd [x] sp) (hbind : ∀ (s : Shared) (u : Value), BindsTo s fd ⟨[u], []⟩ [(x, u)])
    (hsp : ∀ H : Hp, SqL K H a (ns.map V.int) → sp [.ref a] H (fun v _ => v = .bl true) fun _ _ _ => False)
    (hCX : ∀ H e s', CX [] H sh (fun _ _ _ => False) e s' → False) :
    codeAny (model P w) callerA (.call (.ref fa) ⟨[.ref a], []⟩) (fun r s' => r = .ok (.ret (.bool true)) ∧ OldK sh.heap s'.heap ∧ s'.os = sh.os ∧ AllBare s'.gens) sh := by
  have rv := vals_ints hi
  have hlen := hi.length
  obtain ⟨t, ht⟩ : ∃ t : Bool, t = true ↔ K.lookup a = none := by
    cases K.lookup a with
    | none => exact ⟨true, fun _ => rfl, fun _ => rfl⟩
    | some o => exact ⟨false, fun z => (by cases z), fun z => (by cases z)⟩
  -- what is in the fragment, and what is a dict, is not the script
  have nK : ∀ {b : Addr} {o : Obj}, K.lookup b = some o → scr t a { cls := .type "list", data := .seq vs.toArray } ns b = none := fun {b o} h => scr_no fun ⟨h1, h2⟩ => by
    rw [h2, ht.mp h1] at h
    cases h
  have nD : ∀ {b : Addr} {o : Obj} {es : Array DictEntry} {ep : Nat}, sh.heap.get? b = some o → o.data = .dict es ep → scr t a { cls := .type "list", data := .seq vs.toArray } ns b = none := fun {b o es ep} h hd => scr_no fun ⟨_, h2⟩ => by
    rw [h2, ha] at h
    cases h
    cases hd
  have hok : HOk P w (scr t a { cls := .type "list", data := .seq vs.toArray } ns) sh.heap := fun b u h => by
    obtain ⟨_, rfl, rfl⟩ := scr_at h
    exact ⟨ha, by rw [List.length_map]; exact hl, vs, _, rv, ha⟩
  have hS : SqL K (scr t a { cls := .type "list", data := .seq vs.toArray } ns) a (ns.map V.int) := by
    cases hk : K.lookup a with
    | none => exact .inl (.inr ⟨_, if_pos ⟨ht.mpr hk, rfl⟩⟩)
    | some o =>
      have e := KX a o hk
      rw [ha] at e
      cases e
      exact .inr ⟨_, vs.toArray, _, hk, rfl, rfl, rfl, by rw [List.size_toArray, hlen]; exact hl, by simpa using rv⟩
  have kin : K.In (hidT sh.heap (scr t a { cls := .type "list", data := .seq vs.toArray } ns)) := fun b o h => hidT_get (KX b o h) (nK h)
  have nsx : ∀ {b : Addr} {m : Str → Option Value}, sh.heap.Ns b m → (hidT sh.heap (scr t a { cls := .type "list", data := .seq vs.toArray } ns)).Ns b m := fun ⟨o, es, ep, h, d, r⟩ => ⟨o, es, ep, hidT_get h (nD h d), d, r⟩
  generalize hH : scr t a { cls := .type "list", data := .seq vs.toArray } ns = H at *
  have e0 : Env0 P w K mg (hidT sh.heap H) callerA [] sh H :=
    ⟨rfl, ⟨kin, nsx hns, ⟨mb, nsx hb, hbb⟩, by obtain ⟨mc, h1, h2⟩ := hlim; exact ⟨mc, nsx h1, h2⟩⟩, fun b o h => of_hidT h, Nat.le_of_eq (hidT_size _ _), trivial, fun b z => (by cases z), hok, .of_eq hgn⟩
  refine codeAny_mono ((F _ kin (nsx hns)).run callerA [] sh H ⟨[.ref a], []⟩ [.ref a] [.ref a] _ _ rfl hr e0 (hbind sh (.ref a)) (.cons rfl .nil) (hsp H hS)) fun r s' h => ?_
  match r, h with
  | .error e, h => exact (hCX H e s' h).elim
  | .ok .next, h => exact h.elim
  | .ok .brk, h => exact h.elim
  | .ok .cont, h => exact h.elim
  | .ok (.ret u), h =>
    obtain ⟨v, H', os, bare, un, hok', ru, q⟩ := h
    obtain rfl : v = .bl true := q
    obtain rfl : u = Value.bool true := ru
    refine ⟨rfl, OldK.of_keep fun b o h => ?_, os, bare⟩
    cases hb' : H b with
    | none => exact un.keep b o h hb' (fun z => by cases z) (fun z => by cases z)
    | some uu =>
      have hb2 := hb'
      rw [← hH] at hb2
      obtain ⟨_, _, rfl⟩ := scr_at hb2
      obtain ⟨h1, _⟩ := hok b _ hb'
      obtain ⟨h2, _⟩ := hok' b _ (un.frzs b _ _ hb')
      rw [h] at h1
      cases h1
      exact h2
theorem walk_ofClr {l : PySem.W.OpenLaw} {n k : Nat} {q : Program} {loose : List Str} {XP : (Str → Option Value) → Heap → Prop} {YP : World → Heap → Prop} {d : DefRec} {K : Params → PySem.W.Frag} {CX : World → CXT} {sp : World → Sp} {x : Str}
    (hn : l.most = some n) (hn2 : n ≤ sizeLine) (hdf : d.params.defaults = []) (hr : Room k callerA) (hY : ∀ (w : World) (h : Heap), YP w h → (K w.params).In h)
    (F : ∀ (w : World) (mg : Str → Option Value) (fa : Addr) (h : Heap), (K w.params).In h → h.Ns mainGlobals mg → mg d.name = some (.ref fa) →
      ∃ fd : FuncData, (∀ (s : Shared) (u : Value), BindsTo s fd ⟨[u], []⟩ [(x, u)]) ∧ ∀ base : Heap, (K w.params).In base → base.Ns mainGlobals mg → FnClr l.prog w (K w.params) mg base (CX w) k fa fd [x] (sp w))
    (hsp : ∀ (w : World) (H : Hp) (a : Addr) (ns : List Int), ns.length ≤ n → SqL (K w.params) H a (ns.map V.int) → sp w [.ref a] H (fun v _ => v = .bl true) fun _ _ _ => False)
    (hCX : ∀ (w : World) (H : Hp) (s : Shared) (e : Value) (s' : Shared), CX w [] H s (fun _ _ _ => False) e s' → False) :
    PySem.W.WalkO q loose XP YP l.row.toRowW d [] (fun f vs => PySem.call f vs) := by
  refine Att.attach_call hn hdf fun w s0 sh mg mb fa o pm cd doc a vs ns G Y ho hd hcd hmg hobj hints hlen hgn => ?_
  obtain ⟨fd, hb, hF⟩ := F w mg fa _ (hY w _ Y) G.T.g hmg
  exact law_callClr (hY w _ Y) G.T.g G.T.b G.T.builtins G.T.nolimit hgn hobj hints (Nat.le_trans hlen hn2) hr hF hb (fun H hS => hsp w H a ns hlen hS) fun H e s' => hCX w H sh e s'
end L2

set_option Elab.async false
set_option linter.all false
set_option maxRecDepth 100000
set_option maxHeartbeats 4000000
/-! o[i], o an instance with an own __getitem__ -/
namespace L2
open PySem PySem.Spec PyProof.Rows
section
variable {X : Cx} {CX : CXT} {k : Nat} {C : Addr} {ps : List Str} {sp : Sp}
def rIxO (C : Addr) (sp : Sp) : R2 := fun x y H Q => ∃ a dx fs, x = .ref a ∧ H a = some (.ins C dx fs) ∧ sp [x, y] H Q E0
theorem pe_ixO {a b : Expr} {ta tb : TE} {pos : Pos} (O : OwnM X.prog X.w X.K X.mg X.base CX C "__getitem__" k ps sp) (hn : ∀ g, PySem.W.findIn X.K (.ref C) "__getitem__" = some (some (.ref g)) → PySem.W.fnIn X.K g = true) (hr : Room (k + 1) X.A) (hx : Passes CX X E0) (ha : PE X a ta) (hb : PE X b tb)
    (hs : ∀ o i, subscripted b true o i = runValue (.builtin "lifetime.subscript" ⟨[o, i], []⟩)) : PE X (.Subscript a b pos) (tOp (rIxO C sp) ta tb) := by
  refine ⟨fun pins s σ H Q I h => ?_⟩
  refine Subscript_ (binT ha hb I h fun v u s2 x y H2 I2 rx ry hq => ?_)
  obtain ⟨f, fd, F, M, hi, hbd⟩ := O.ex
  obtain ⟨o, dx, fs, rfl, ho, q⟩ := hq
  cases (show v = Value.ref o from rx)
  obtain ⟨mA, J, _⟩ := ins_get I2.hok ho
  obtain ⟨od, J, _⟩ := J.look
  obtain ⟨m, hF⟩ := I2.fr
  refine PySem.W.sub_K hF I2.ok.mod.kin J M.at_ (hn f M.at_) hi ?_ (hs _ _)
  exact run_at (vs := [.ref o, y]) F hr.in1 rfl hbd hx I2 (.cons rfl (.cons ry .nil)) q
end
end L2

set_option Elab.async false
set_option linter.all false
set_option maxRecDepth 100000
/-! len of a set of ints and texts -/
namespace L2
open PySem PySem.Spec PyProof.Rows
def rLenSetK (P : Program) (w : World) : List V → Hp → VK → Prop := fun xs H Q => ∃ (a : Addr) (S : Key → Bool) (n : Nat), xs = [.ref a] ∧ H a = some (SetK P w a S n) ∧ n ≤ 1000 ∧ Q (.int n) H
theorem cr_lenSetK {X : Cx} : CallR X (.builtin "len") (rLenSetK X.prog X.w) := by
  intro pins s σ H xs us Q I r h
  obtain ⟨a, S, n, rfl, ha, h64, q⟩ := h
  have R := setK_get I ha
  rw [Vals.ref1 r]
  obtain ⟨o, es, ep, t, ho, hex, hd, _, _, _, hf, hn⟩ := R
  exact call_len_set ho hex hd hf (by rw [hn]; omega) ⟨.int n, H, I.tok _, ⟨_, by rw [hn]⟩, q⟩
end L2

set_option Elab.async false
set_option maxRecDepth 100000
set_option maxHeartbeats 4000000
namespace K02
open PySem PySem.Spec PyProof.Rows L2
def top (i : Nat) : Stmt := PySem.Challenge.pw_wholeline_k73_milder_lines_in_order.main.body.getD i (.Pass ⟨0, 0, 0, 0⟩)
abbrev s_has_milder_room : Stmt := top 2
abbrev nm_has_milder_room : List Str := ["room", "other", "bounds", "others", "bound"]
abbrev pm_has_milder_room : List Str := ["room", "other"]
theorem sc_has_milder_room : FnScope nm_has_milder_room pm_has_milder_room (defScope s_has_milder_room) := ⟨rfl, rfl, rfl, by decide +kernel, rfl, by decide +kernel, by decide +kernel⟩

abbrev s_is_milder : Stmt := top 3
abbrev nm_is_milder : List Str := ["line", "other"]
abbrev pm_is_milder : List Str := ["line", "other"]
theorem sc_is_milder : FnScope nm_is_milder pm_is_milder (defScope s_is_milder) := ⟨rfl, rfl, rfl, by decide +kernel, rfl, by decide +kernel, by decide +kernel⟩

abbrev s_BadPart_init : Stmt := inClass (top 6) 0
abbrev nm_BadPart_init : List Str := ["self", "part"]
abbrev pm_BadPart_init : List Str := ["self", "part"]
theorem sc_BadPart_init : FnScope nm_BadPart_init pm_BadPart_init (defScope s_BadPart_init) := ⟨rfl, rfl, rfl, by decide +kernel, rfl, by decide +kernel, by decide +kernel⟩

abbrev s_BadNumber_init : Stmt := inClass (top 7) 0
abbrev nm_BadNumber_init : List Str := ["self", "number"]
abbrev pm_BadNumber_init : List Str := ["self", "number"]
theorem sc_BadNumber_init : FnScope nm_BadNumber_init pm_BadNumber_init (defScope s_BadNumber_init) := ⟨rfl, rfl, rfl, by decide +kernel, rfl, by decide +kernel, by decide +kernel⟩

abbrev s_BadIndex_init : Stmt := inClass (top 8) 0
abbrev nm_BadIndex_init : List Str := ["self", "index"]
abbrev pm_BadIndex_init : List Str := ["self", "index"]
theorem sc_BadIndex_init : FnScope nm_BadIndex_init pm_BadIndex_init (defScope s_BadIndex_init) := ⟨rfl, rfl, rfl, by decide +kernel, rfl, by decide +kernel, by decide +kernel⟩

abbrev s_BadRow_init : Stmt := inClass (top 9) 0
abbrev nm_BadRow_init : List Str := ["self", "index"]
abbrev pm_BadRow_init : List Str := ["self", "index"]
theorem sc_BadRow_init : FnScope nm_BadRow_init pm_BadRow_init (defScope s_BadRow_init) := ⟨rfl, rfl, rfl, by decide +kernel, rfl, by decide +kernel, by decide +kernel⟩

abbrev s_BadLetter_init : Stmt := inClass (top 10) 0
abbrev nm_BadLetter_init : List Str := ["self", "spot"]
abbrev pm_BadLetter_init : List Str := ["self", "spot"]
theorem sc_BadLetter_init : FnScope nm_BadLetter_init pm_BadLetter_init (defScope s_BadLetter_init) := ⟨rfl, rfl, rfl, by decide +kernel, rfl, by decide +kernel, by decide +kernel⟩

abbrev s_BadSteps_init : Stmt := inClass (top 11) 0
abbrev nm_BadSteps_init : List Str := ["self", "index"]
abbrev pm_BadSteps_init : List Str := ["self", "index"]
theorem sc_BadSteps_init : FnScope nm_BadSteps_init pm_BadSteps_init (defScope s_BadSteps_init) := ⟨rfl, rfl, rfl, by decide +kernel, rfl, by decide +kernel, by decide +kernel⟩

abbrev s_BadBox_init : Stmt := inClass (top 12) 0
abbrev nm_BadBox_init : List Str := ["self", "index"]
abbrev pm_BadBox_init : List Str := ["self", "index"]
theorem sc_BadBox_init : FnScope nm_BadBox_init pm_BadBox_init (defScope s_BadBox_init) := ⟨rfl, rfl, rfl, by decide +kernel, rfl, by decide +kernel, by decide +kernel⟩

abbrev s_TooMany_init : Stmt := inClass (top 13) 0
abbrev nm_TooMany_init : List Str := ["self", "limit"]
abbrev pm_TooMany_init : List Str := ["self", "limit"]
theorem sc_TooMany_init : FnScope nm_TooMany_init pm_TooMany_init (defScope s_TooMany_init) := ⟨rfl, rfl, rfl, by decide +kernel, rfl, by decide +kernel, by decide +kernel⟩

abbrev s_is_integer : Stmt := top 16
abbrev nm_is_integer : List Str := ["value"]
abbrev pm_is_integer : List Str := ["value"]
theorem sc_is_integer : FnScope nm_is_integer pm_is_integer (defScope s_is_integer) := ⟨rfl, rfl, rfl, by decide +kernel, rfl, by decide +kernel, by decide +kernel⟩

abbrev s_is_between : Stmt := top 17
abbrev nm_is_between : List Str := ["value", "low", "high"]
abbrev pm_is_between : List Str := ["value", "low", "high"]
theorem sc_is_between : FnScope nm_is_between pm_is_between (defScope s_is_between) := ⟨rfl, rfl, rfl, by decide +kernel, rfl, by decide +kernel, by decide +kernel⟩

abbrev s_is_index : Stmt := top 18
abbrev nm_is_index : List Str := ["value", "many"]
abbrev pm_is_index : List Str := ["value", "many"]
theorem sc_is_index : FnScope nm_is_index pm_is_index (defScope s_is_index) := ⟨rfl, rfl, rfl, by decide +kernel, rfl, by decide +kernel, by decide +kernel⟩

abbrev s_is_list : Stmt := top 19
abbrev nm_is_list : List Str := ["value"]
abbrev pm_is_list : List Str := ["value"]
theorem sc_is_list : FnScope nm_is_list pm_is_list (defScope s_is_list) := ⟨rfl, rfl, rfl, by decide +kernel, rfl, by decide +kernel, by decide +kernel⟩

abbrev s_is_list_of : Stmt := top 20
abbrev nm_is_list_of : List Str := ["value", "low", "high"]
abbrev pm_is_list_of : List Str := ["value", "low", "high"]
theorem sc_is_list_of : FnScope nm_is_list_of pm_is_list_of (defScope s_is_list_of) := ⟨rfl, rfl, rfl, by decide +kernel, rfl, by decide +kernel, by decide +kernel⟩

abbrev s_is_name : Stmt := top 21
abbrev nm_is_name : List Str := ["value", "sign"]
abbrev pm_is_name : List Str := ["value"]
theorem sc_is_name : FnScope nm_is_name pm_is_name (defScope s_is_name) := ⟨rfl, rfl, rfl, by decide +kernel, rfl, by decide +kernel, by decide +kernel⟩

abbrev s_is_tuple_of : Stmt := top 22
abbrev nm_is_tuple_of : List Str := ["value", "many"]
abbrev pm_is_tuple_of : List Str := ["value", "many"]
theorem sc_is_tuple_of : FnScope nm_is_tuple_of pm_is_tuple_of (defScope s_is_tuple_of) := ⟨rfl, rfl, rfl, by decide +kernel, rfl, by decide +kernel, by decide +kernel⟩

abbrev s_is_letter : Stmt := top 28
abbrev nm_is_letter : List Str := ["value", "heads", "body", "head"]
abbrev pm_is_letter : List Str := ["value"]
theorem sc_is_letter : FnScope nm_is_letter pm_is_letter (defScope s_is_letter) := ⟨rfl, rfl, rfl, by decide +kernel, rfl, by decide +kernel, by decide +kernel⟩

abbrev s_check_row : Stmt := top 29
abbrev nm_check_row : List Str := ["at", "row", "index", "letter"]
abbrev pm_check_row : List Str := ["at", "row"]
theorem sc_check_row : FnScope nm_check_row pm_check_row (defScope s_check_row) := ⟨rfl, rfl, rfl, by decide +kernel, rfl, by decide +kernel, by decide +kernel⟩

abbrev s_Mail_init : Stmt := inClass (top 30) 0
abbrev nm_Mail_init : List Str := ["self", "rows", "at", "row", "letter"]
abbrev pm_Mail_init : List Str := ["self", "rows"]
theorem sc_Mail_init : FnScope nm_Mail_init pm_Mail_init (defScope s_Mail_init) := ⟨rfl, rfl, rfl, by decide +kernel, rfl, by decide +kernel, by decide +kernel⟩

abbrev s_Mail_len : Stmt := inClass (top 30) 6
abbrev nm_Mail_len : List Str := ["self"]
abbrev pm_Mail_len : List Str := ["self"]
theorem sc_Mail_len : FnScope nm_Mail_len pm_Mail_len (defScope s_Mail_len) := ⟨rfl, rfl, rfl, by decide +kernel, rfl, by decide +kernel, by decide +kernel⟩

abbrev s_Mail_getitem : Stmt := inClass (top 30) 7
abbrev nm_Mail_getitem : List Str := ["self", "at"]
abbrev pm_Mail_getitem : List Str := ["self", "at"]
theorem sc_Mail_getitem : FnScope nm_Mail_getitem pm_Mail_getitem (defScope s_Mail_getitem) := ⟨rfl, rfl, rfl, by decide +kernel, rfl, by decide +kernel, by decide +kernel⟩

abbrev s_Mail_iter : Stmt := inClass (top 30) 8
abbrev nm_Mail_iter : List Str := ["self"]
abbrev pm_Mail_iter : List Str := ["self"]
theorem sc_Mail_iter : FnScope nm_Mail_iter pm_Mail_iter (defScope s_Mail_iter) := ⟨rfl, rfl, rfl, by decide +kernel, rfl, by decide +kernel, by decide +kernel⟩

abbrev s_Mail_eq : Stmt := inClass (top 30) 9
abbrev nm_Mail_eq : List Str := ["self", "other"]
abbrev pm_Mail_eq : List Str := ["self", "other"]
theorem sc_Mail_eq : FnScope nm_Mail_eq pm_Mail_eq (defScope s_Mail_eq) := ⟨rfl, rfl, rfl, by decide +kernel, rfl, by decide +kernel, by decide +kernel⟩

abbrev s_is_begin : Stmt := top 37
abbrev nm_is_begin : List Str := ["value"]
abbrev pm_is_begin : List Str := ["value"]
theorem sc_is_begin : FnScope nm_is_begin pm_is_begin (defScope s_is_begin) := ⟨rfl, rfl, rfl, by decide +kernel, rfl, by decide +kernel, by decide +kernel⟩

abbrev s_are_delays : Stmt := top 38
abbrev nm_are_delays : List Str := ["least", "most"]
abbrev pm_are_delays : List Str := ["least", "most"]
theorem sc_are_delays : FnScope nm_are_delays pm_are_delays (defScope s_are_delays) := ⟨rfl, rfl, rfl, by decide +kernel, rfl, by decide +kernel, by decide +kernel⟩

abbrev s_is_box : Stmt := top 39
abbrev nm_is_box : List Str := ["value", "least", "most", "near", "far", "shortest", "longest"]
abbrev pm_is_box : List Str := ["value", "least", "most"]
theorem sc_is_box : FnScope nm_is_box pm_is_box (defScope s_is_box) := ⟨rfl, rfl, rfl, by decide +kernel, rfl, by decide +kernel, by decide +kernel⟩

abbrev s_Way_init : Stmt := inClass (top 40) 0
abbrev nm_Way_init : List Str := ["self", "begin", "least", "most", "boxes", "index", "box"]
abbrev pm_Way_init : List Str := ["self", "begin", "least", "most", "boxes"]
theorem sc_Way_init : FnScope nm_Way_init pm_Way_init (defScope s_Way_init) := ⟨rfl, rfl, rfl, by decide +kernel, rfl, by decide +kernel, by decide +kernel⟩

abbrev s_Way_eq : Stmt := inClass (top 40) 3
abbrev nm_Way_eq : List Str := ["self", "other"]
abbrev pm_Way_eq : List Str := ["self", "other"]
theorem sc_Way_eq : FnScope nm_Way_eq pm_Way_eq (defScope s_Way_eq) := ⟨rfl, rfl, rfl, by decide +kernel, rfl, by decide +kernel, by decide +kernel⟩

abbrev s_told_of : Stmt := top 49
abbrev nm_told_of : List Str := ["bounds", "free", "bound"]
abbrev pm_told_of : List Str := ["bounds", "free"]
theorem sc_told_of : FnScope nm_told_of pm_told_of (defScope s_told_of) := ⟨rfl, rfl, rfl, by decide +kernel, rfl, by decide +kernel, by decide +kernel⟩

abbrev s_are_under : Stmt := top 50
abbrev nm_are_under : List Str := ["bounds", "others", "free"]
abbrev pm_are_under : List Str := ["bounds", "others"]
theorem sc_are_under : FnScope nm_are_under pm_are_under (defScope s_are_under) := ⟨rfl, rfl, rfl, by decide +kernel, rfl, by decide +kernel, by decide +kernel⟩

abbrev s_Steps_init : Stmt := inClass (top 51) 0
abbrev nm_Steps_init : List Str := ["self", "bounds", "index", "bound"]
abbrev pm_Steps_init : List Str := ["self", "bounds"]
theorem sc_Steps_init : FnScope nm_Steps_init pm_Steps_init (defScope s_Steps_init) := ⟨rfl, rfl, rfl, by decide +kernel, rfl, by decide +kernel, by decide +kernel⟩

abbrev s_Steps_call : Stmt := inClass (top 51) 1
abbrev nm_Steps_call : List Str := ["self", "free"]
abbrev pm_Steps_call : List Str := ["self", "free"]
theorem sc_Steps_call : FnScope nm_Steps_call pm_Steps_call (defScope s_Steps_call) := ⟨rfl, rfl, rfl, by decide +kernel, rfl, by decide +kernel, by decide +kernel⟩

abbrev s_Steps_len : Stmt := inClass (top 51) 2
abbrev nm_Steps_len : List Str := ["self"]
abbrev pm_Steps_len : List Str := ["self"]
theorem sc_Steps_len : FnScope nm_Steps_len pm_Steps_len (defScope s_Steps_len) := ⟨rfl, rfl, rfl, by decide +kernel, rfl, by decide +kernel, by decide +kernel⟩

abbrev s_Steps_contains : Stmt := inClass (top 51) 3
abbrev nm_Steps_contains : List Str := ["self", "bound"]
abbrev pm_Steps_contains : List Str := ["self", "bound"]
theorem sc_Steps_contains : FnScope nm_Steps_contains pm_Steps_contains (defScope s_Steps_contains) := ⟨rfl, rfl, rfl, by decide +kernel, rfl, by decide +kernel, by decide +kernel⟩

abbrev s_Steps_le : Stmt := inClass (top 51) 4
abbrev nm_Steps_le : List Str := ["self", "other"]
abbrev pm_Steps_le : List Str := ["self", "other"]
theorem sc_Steps_le : FnScope nm_Steps_le pm_Steps_le (defScope s_Steps_le) := ⟨rfl, rfl, rfl, by decide +kernel, rfl, by decide +kernel, by decide +kernel⟩

abbrev s_Steps_add : Stmt := inClass (top 51) 5
abbrev nm_Steps_add : List Str := ["self", "bound", "told"]
abbrev pm_Steps_add : List Str := ["self", "bound"]
theorem sc_Steps_add : FnScope nm_Steps_add pm_Steps_add (defScope s_Steps_add) := ⟨rfl, rfl, rfl, by decide +kernel, rfl, by decide +kernel, by decide +kernel⟩

abbrev s_Steps_eq : Stmt := inClass (top 51) 6
abbrev nm_Steps_eq : List Str := ["self", "other"]
abbrev pm_Steps_eq : List Str := ["self", "other"]
theorem sc_Steps_eq : FnScope nm_Steps_eq pm_Steps_eq (defScope s_Steps_eq) := ⟨rfl, rfl, rfl, by decide +kernel, rfl, by decide +kernel, by decide +kernel⟩

abbrev s_Room_init : Stmt := inClass (top 52) 0
abbrev nm_Room_init : List Str := ["self", "size", "steps"]
abbrev pm_Room_init : List Str := ["self", "size", "steps"]
theorem sc_Room_init : FnScope nm_Room_init pm_Room_init (defScope s_Room_init) := ⟨rfl, rfl, rfl, by decide +kernel, rfl, by decide +kernel, by decide +kernel⟩

abbrev s_Room_told : Stmt := inClass (top 52) 1
abbrev nm_Room_told : List Str := ["self", "held"]
abbrev pm_Room_told : List Str := ["self", "held"]
theorem sc_Room_told : FnScope nm_Room_told pm_Room_told (defScope s_Room_told) := ⟨rfl, rfl, rfl, by decide +kernel, rfl, by decide +kernel, by decide +kernel⟩

abbrev s_Room_le : Stmt := inClass (top 52) 4
abbrev nm_Room_le : List Str := ["self", "other"]
abbrev pm_Room_le : List Str := ["self", "other"]
theorem sc_Room_le : FnScope nm_Room_le pm_Room_le (defScope s_Room_le) := ⟨rfl, rfl, rfl, by decide +kernel, rfl, by decide +kernel, by decide +kernel⟩

abbrev s_Room_eq : Stmt := inClass (top 52) 5
abbrev nm_Room_eq : List Str := ["self", "other"]
abbrev pm_Room_eq : List Str := ["self", "other"]
theorem sc_Room_eq : FnScope nm_Room_eq pm_Room_eq (defScope s_Room_eq) := ⟨rfl, rfl, rfl, by decide +kernel, rfl, by decide +kernel, by decide +kernel⟩

abbrev s_check_ways : Stmt := top 56
abbrev nm_check_ways : List Str := ["ways", "way"]
abbrev pm_check_ways : List Str := ["ways"]
theorem sc_check_ways : FnScope nm_check_ways pm_check_ways (defScope s_check_ways) := ⟨rfl, rfl, rfl, by decide +kernel, rfl, by decide +kernel, by decide +kernel⟩

abbrev s_are_widths : Stmt := top 63
abbrev nm_are_widths : List Str := ["value", "width", "one", "other"]
abbrev pm_are_widths : List Str := ["value"]
theorem sc_are_widths : FnScope nm_are_widths pm_are_widths (defScope s_are_widths) := ⟨rfl, rfl, rfl, by decide +kernel, rfl, by decide +kernel, by decide +kernel⟩

abbrev s_check_part : Stmt := top 64
abbrev nm_check_part : List Str := ["word", "value", "low", "high"]
abbrev pm_check_part : List Str := ["word", "value", "low", "high"]
theorem sc_check_part : FnScope nm_check_part pm_check_part (defScope s_check_part) := ⟨rfl, rfl, rfl, by decide +kernel, rfl, by decide +kernel, by decide +kernel⟩

abbrev s_check_boxes : Stmt := top 65
abbrev nm_check_boxes : List Str := ["ways", "turn", "way"]
abbrev pm_check_boxes : List Str := ["ways", "turn"]
theorem sc_check_boxes : FnScope nm_check_boxes pm_check_boxes (defScope s_check_boxes) := ⟨rfl, rfl, rfl, by decide +kernel, rfl, by decide +kernel, by decide +kernel⟩

abbrev s_Line_init : Stmt := inClass (top 66) 0
abbrev nm_Line_init : List Str := ["self", "mail", "ways", "widths", "turn", "numbers", "room", "head", "places", "cost", "period", "quiet", "silent", "losses"]
abbrev pm_Line_init : List Str := ["self", "mail", "ways", "widths", "turn", "numbers", "room", "head", "places", "cost", "period", "quiet", "silent", "losses"]
theorem sc_Line_init : FnScope nm_Line_init pm_Line_init (defScope s_Line_init) := ⟨rfl, rfl, rfl, by decide +kernel, rfl, by decide +kernel, by decide +kernel⟩

abbrev s_Line_eq : Stmt := inClass (top 66) 3
abbrev nm_Line_eq : List Str := ["self", "other"]
abbrev pm_Line_eq : List Str := ["self", "other"]
theorem sc_Line_eq : FnScope nm_Line_eq pm_Line_eq (defScope s_Line_eq) := ⟨rfl, rfl, rfl, by decide +kernel, rfl, by decide +kernel, by decide +kernel⟩

abbrev s__law_start : Stmt := top 68
abbrev nm__law_start : List Str := ["_law_script", "_law_first"]
abbrev pm__law_start : List Str := ["_law_script"]
theorem sc__law_start : FnScope nm__law_start pm__law_start (defScope s__law_start) := ⟨rfl, rfl, rfl, by decide +kernel, rfl, by decide +kernel, by decide +kernel⟩

abbrev s__law_draw : Stmt := top 69
abbrev nm__law_draw : List Str := ["_law_script", "_law_state", "_law_limit", "_law_number", "_law_cell", "_law_mixed"]
abbrev pm__law_draw : List Str := ["_law_script", "_law_state", "_law_limit"]
theorem sc__law_draw : FnScope nm__law_draw pm__law_draw (defScope s__law_draw) := ⟨rfl, rfl, rfl, by decide +kernel, rfl, by decide +kernel, by decide +kernel⟩

abbrev s__law_mail : Stmt := top 70
abbrev nm__law_mail : List Str := ["_law_script", "_law_state", "_law_rows", "_law_k", "_law_row", "_law_j", "_law_names", "_law_i"]
abbrev pm__law_mail : List Str := ["_law_script", "_law_state"]
theorem sc__law_mail : FnScope nm__law_mail pm__law_mail (defScope s__law_mail) := ⟨rfl, rfl, rfl, by decide +kernel, rfl, by decide +kernel, by decide +kernel⟩

abbrev s__law_rising : Stmt := top 71
abbrev nm__law_rising : List Str := ["_law_script", "_law_state", "_law_most", "_law_top", "_law_found", "_law_k"]
abbrev pm__law_rising : List Str := ["_law_script", "_law_state", "_law_most", "_law_top"]
theorem sc__law_rising : FnScope nm__law_rising pm__law_rising (defScope s__law_rising) := ⟨rfl, rfl, rfl, by decide +kernel, rfl, by decide +kernel, by decide +kernel⟩

abbrev s__law_box : Stmt := top 72
abbrev nm__law_box : List Str := ["_law_script", "_law_state", "_law_low", "_law_high", "_law_near", "_law_far", "_law_keep"]
abbrev pm__law_box : List Str := ["_law_script", "_law_state", "_law_low", "_law_high"]
theorem sc__law_box : FnScope nm__law_box pm__law_box (defScope s__law_box) := ⟨rfl, rfl, rfl, by decide +kernel, rfl, by decide +kernel, by decide +kernel⟩

abbrev s__law_way : Stmt := top 73
abbrev nm__law_way : List Str := ["_law_script", "_law_state", "_law_low", "_law_high", "_law_begin", "_law_boxes"]
abbrev pm__law_way : List Str := ["_law_script", "_law_state"]
theorem sc__law_way : FnScope nm__law_way pm__law_way (defScope s__law_way) := ⟨rfl, rfl, rfl, by decide +kernel, rfl, by decide +kernel, by decide +kernel⟩

abbrev s__law_raw : Stmt := top 74
abbrev nm__law_raw : List Str := ["_law_script", "_law_state", "_law_raw_here", "_law_begin", "_law_low", "_law_high", "_law_boxes", "_law_k"]
abbrev pm__law_raw : List Str := ["_law_script", "_law_state"]
theorem sc__law_raw : FnScope nm__law_raw pm__law_raw (defScope s__law_raw) := ⟨rfl, rfl, rfl, by decide +kernel, rfl, by decide +kernel, by decide +kernel⟩

abbrev s__law_made_ways : Stmt := top 75
abbrev nm__law_made_ways : List Str := ["_law_raw_here", "_law_begin", "_law_low", "_law_high", "_law_boxes"]
abbrev pm__law_made_ways : List Str := ["_law_raw_here"]
theorem sc__law_made_ways : FnScope nm__law_made_ways pm__law_made_ways (defScope s__law_made_ways) := ⟨rfl, rfl, rfl, by decide +kernel, rfl, by decide +kernel, by decide +kernel⟩

abbrev s__law_line : Stmt := top 76
abbrev nm__law_line : List Str := ["_law_raw_here", "_law_mail_here", "_law_made"]
abbrev pm__law_line : List Str := ["_law_raw_here"]
theorem sc__law_line : FnScope nm__law_line pm__law_line (defScope s__law_line) := ⟨rfl, rfl, rfl, by decide +kernel, rfl, by decide +kernel, by decide +kernel⟩

abbrev s__law_copy : Stmt := top 77
abbrev nm__law_copy : List Str := ["_law_raw_here", "_law_found", "_law_word"]
abbrev pm__law_copy : List Str := ["_law_raw_here"]
theorem sc__law_copy : FnScope nm__law_copy pm__law_copy (defScope s__law_copy) := ⟨rfl, rfl, rfl, by decide +kernel, rfl, by decide +kernel, by decide +kernel⟩

abbrev s__law_other : Stmt := top 78
abbrev nm__law_other : List Str := ["_law_script", "_law_state", "_law_raw_here", "_law_found", "_law_k", "_law_kind", "_law_word"]
abbrev pm__law_other : List Str := ["_law_script", "_law_state", "_law_raw_here"]
theorem sc__law_other : FnScope nm__law_other pm__law_other (defScope s__law_other) := ⟨rfl, rfl, rfl, by decide +kernel, rfl, by decide +kernel, by decide +kernel⟩

abbrev s__law_due : Stmt := top 79
abbrev nm__law_due : List Str := ["_law_one", "_law_two", "_law_word", "_law_bound"]
abbrev pm__law_due : List Str := ["_law_one", "_law_two"]
theorem sc__law_due : FnScope nm__law_due pm__law_due (defScope s__law_due) := ⟨rfl, rfl, rfl, by decide +kernel, rfl, by decide +kernel, by decide +kernel⟩

abbrev s_law : Stmt := top 80
abbrev nm_law : List Str := ["_law_script", "_law_state", "_law_raws", "_law_made", "_law_at", "_law_other_here", "_law_raw_here"]
abbrev pm_law : List Str := ["_law_script"]
theorem sc_law : FnScope nm_law pm_law (defScope s_law) := ⟨rfl, rfl, rfl, by decide +kernel, rfl, by decide +kernel, by decide +kernel⟩

structure Ad where
  (BadPart BadNumber BadIndex BadRow BadLetter BadSteps BadBox TooMany WholeError Mail Way Steps Room Line T0 : Addr)
structure Txt (K : PySem.W.Frag) (mg : Str → Option Value) (A : Ad) : Prop where
  n_isinstance : mg "isinstance" = none
  n_int : mg "int" = none
  n_bool : mg "bool" = none
  n_str : mg "str" = none
  n_list : mg "list" = none
  n_tuple : mg "tuple" = none
  n_len : mg "len" = none
  n_range : mg "range" = none
  n_enumerate : mg "enumerate" = none
  n_all : mg "all" = none
  n_abs : mg "abs" = none
  n_sum : mg "sum" = none
  n_repr : mg "repr" = none
  n_max : mg "max" = none
  n_zip : mg "zip" = none
  n_sorted : mg "sorted" = none
  g_MOST_HEADS : ∃ t, mg "MOST_HEADS" = some (.int 4 t)
  g_MOST_BODY : ∃ t, mg "MOST_BODY" = some (.int 60 t)
  g_MOST_LETTERS : ∃ t, mg "MOST_LETTERS" = some (.int 6 t)
  g_MOST_ROWS : ∃ t, mg "MOST_ROWS" = some (.int 3 t)
  g_MOST_PLACES : ∃ t, mg "MOST_PLACES" = some (.int 4 t)
  g_MOST_BEGIN : ∃ t, mg "MOST_BEGIN" = some (.int 1000 t)
  g_MOST_DELAY : ∃ t, mg "MOST_DELAY" = some (.int 50 t)
  g_MOST_BOXES : ∃ t, mg "MOST_BOXES" = some (.int 3 t)
  g_MOST_KEEP : ∃ t, mg "MOST_KEEP" = some (.int 10000 t)
  g_MOST_TURN : ∃ t, mg "MOST_TURN" = some (.int 200 t)
  g_MOST_NUMBERS : ∃ t, mg "MOST_NUMBERS" = some (.int 8 t)
  g_MOST_QUIET : ∃ t, mg "MOST_QUIET" = some (.int 500 t)
  g_MOST_LOST : ∃ t, mg "MOST_LOST" = some (.int 3 t)
  g_MOST_PERIOD : ∃ t, mg "MOST_PERIOD" = some (.int 200 t)
  g_MOST_BOUNDS : ∃ t, mg "MOST_BOUNDS" = some (.int 4 t)
  g_MOST_UNITS : ∃ t, mg "MOST_UNITS" = some (.int 60 t)
  g_MOST_WAYS : ∃ t, mg "MOST_WAYS" = some (.int 4 t)
  g_MOST_SILENT : ∃ t, mg "MOST_SILENT" = some (.int 3 t)
  g_MOST_WIDTHS : ∃ t, mg "MOST_WIDTHS" = some (.int 8 t)
  g_MOST_WIDTH : ∃ t, mg "MOST_WIDTH" = some (.int 100 t)
  g_MOST_HEAD : ∃ t, mg "MOST_HEAD" = some (.int 8 t)
  g_LEAST_COST : ∃ t, mg "LEAST_COST" = some (.int 2 t)
  g_MOST_COST : ∃ t, mg "MOST_COST" = some (.int 9 t)
  g_ALPHABET : ∃ t, mg "ALPHABET" = some (.str "abcdefghijklmnopqrstuvwxyz" t)
  Mail : ClsX K mg "Mail" A.Mail
  m_rows : NoAttr K A.Mail "rows"
  m_letters : NoAttr K A.Mail "letters"
  Way : ClsX K mg "Way" A.Way
  w_begin : NoAttr K A.Way "begin"
  w_least : NoAttr K A.Way "least"
  w_most : NoAttr K A.Way "most"
  w_boxes : NoAttr K A.Way "boxes"
  Steps : ClsX K mg "Steps" A.Steps
  s_bounds : NoAttr K A.Steps "bounds"
  Room : ClsX K mg "Room" A.Room
  r_size : NoAttr K A.Room "size"
  r_steps : NoAttr K A.Room "steps"
  Line : ClsX K mg "Line" A.Line
  l_mail : NoAttr K A.Line "mail"
  l_ways : NoAttr K A.Line "ways"
  l_widths : NoAttr K A.Line "widths"
  l_turn : NoAttr K A.Line "turn"
  l_numbers : NoAttr K A.Line "numbers"
  l_room : NoAttr K A.Line "room"
  l_head : NoAttr K A.Line "head"
  l_places : NoAttr K A.Line "places"
  l_cost : NoAttr K A.Line "cost"
  l_period : NoAttr K A.Line "period"
  l_quiet : NoAttr K A.Line "quiet"
  l_silent : NoAttr K A.Line "silent"
  l_losses : NoAttr K A.Line "losses"
  BadPart : XAt K mg "BadPart" "part" A.BadPart s_BadPart_init "BadPart.__init__"
  BadNumber : XAt K mg "BadNumber" "number" A.BadNumber s_BadNumber_init "BadNumber.__init__"
  BadIndex : XAt K mg "BadIndex" "index" A.BadIndex s_BadIndex_init "BadIndex.__init__"
  BadRow : XAt K mg "BadRow" "index" A.BadRow s_BadRow_init "BadRow.__init__"
  BadLetter : XAt K mg "BadLetter" "spot" A.BadLetter s_BadLetter_init "BadLetter.__init__"
  BadSteps : XAt K mg "BadSteps" "index" A.BadSteps s_BadSteps_init "BadSteps.__init__"
  BadBox : XAt K mg "BadBox" "index" A.BadBox s_BadBox_init "BadBox.__init__"
  TooMany : XOt K mg "TooMany" "limit" A.TooMany s_TooMany_init "TooMany.__init__"
  t0 : ∀ H, SqT K H A.T0 []
theorem pe_gstr {X : Cx} {x : Str} {z : Str} {pos : Pos} (hm : ∃ t, X.mg x = some (.str z t)) (hg : Gl X x := by rfl) (hd : (x == ("__debug__" : Str)) = false := by decide) : PE X (.Name x pos) (tC (.str z)) := by
  obtain ⟨t, h⟩ := hm
  exact pe_glob hg h ⟨_, rfl⟩ hd
section
variable {P : Program} {w : World} {K : PySem.W.Frag} {mg : Str → Option Value} {base : Heap} {A : Ad}
theorem ok_xp {f : Addr} {fd : FuncData} (F : Fun K "__init__" "BadPart.__init__" s_BadPart_init f fd) (T : Txt K mg A) : FnOk P w K mg base CX0 1 f fd ["self", "part"] (spXI A.BadPart "part") := by
  refine F.ok sc_BadPart_init (fun vs H Q E h => ?_) (fun cdv A' outer s H vs Q E hr h => ?_)
  · obtain ⟨a, y, rfl, _⟩ := h
    rfl
  · obtain ⟨a, y, rfl, ha, q⟩ := h
    refine ⟨_, pss_one (ps_ost (pv 0) (pv 1)), ?_⟩
    exact ⟨_, rfl, _, rfl, a, A.BadPart, rfl, T.BadPart.ox, T.BadPart.noA, .inl ⟨ha, fun dx h1 h2 => q dx h1 h2⟩⟩
theorem ok_x_BadNumber {f : Addr} {fd : FuncData} (F : Fun K "__init__" "BadNumber.__init__" s_BadNumber_init f fd) (T : Txt K mg A) : FnOk P w K mg base CX0 1 f fd ["self", "number"] (spXI A.BadNumber "number") := by
  refine F.ok sc_BadNumber_init (fun vs H Q E h => ?_) (fun cdv A' outer s H vs Q E hr h => ?_)
  · obtain ⟨a, y, rfl, _⟩ := h
    rfl
  · obtain ⟨a, y, rfl, ha, q⟩ := h
    refine ⟨_, pss_one (ps_ost (pv 0) (pv 1)), ?_⟩
    exact ⟨_, rfl, _, rfl, a, A.BadNumber, rfl, T.BadNumber.ox, T.BadNumber.noA, .inl ⟨ha, fun dx h1 h2 => q dx h1 h2⟩⟩
theorem ok_x_BadIndex {f : Addr} {fd : FuncData} (F : Fun K "__init__" "BadIndex.__init__" s_BadIndex_init f fd) (T : Txt K mg A) : FnOk P w K mg base CX0 1 f fd ["self", "index"] (spXI A.BadIndex "index") := by
  refine F.ok sc_BadIndex_init (fun vs H Q E h => ?_) (fun cdv A' outer s H vs Q E hr h => ?_)
  · obtain ⟨a, y, rfl, _⟩ := h
    rfl
  · obtain ⟨a, y, rfl, ha, q⟩ := h
    refine ⟨_, pss_one (ps_ost (pv 0) (pv 1)), ?_⟩
    exact ⟨_, rfl, _, rfl, a, A.BadIndex, rfl, T.BadIndex.ox, T.BadIndex.noA, .inl ⟨ha, fun dx h1 h2 => q dx h1 h2⟩⟩
theorem ok_x_BadRow {f : Addr} {fd : FuncData} (F : Fun K "__init__" "BadRow.__init__" s_BadRow_init f fd) (T : Txt K mg A) : FnOk P w K mg base CX0 1 f fd ["self", "index"] (spXI A.BadRow "index") := by
  refine F.ok sc_BadRow_init (fun vs H Q E h => ?_) (fun cdv A' outer s H vs Q E hr h => ?_)
  · obtain ⟨a, y, rfl, _⟩ := h
    rfl
  · obtain ⟨a, y, rfl, ha, q⟩ := h
    refine ⟨_, pss_one (ps_ost (pv 0) (pv 1)), ?_⟩
    exact ⟨_, rfl, _, rfl, a, A.BadRow, rfl, T.BadRow.ox, T.BadRow.noA, .inl ⟨ha, fun dx h1 h2 => q dx h1 h2⟩⟩
theorem ok_x_BadLetter {f : Addr} {fd : FuncData} (F : Fun K "__init__" "BadLetter.__init__" s_BadLetter_init f fd) (T : Txt K mg A) : FnOk P w K mg base CX0 1 f fd ["self", "spot"] (spXI A.BadLetter "spot") := by
  refine F.ok sc_BadLetter_init (fun vs H Q E h => ?_) (fun cdv A' outer s H vs Q E hr h => ?_)
  · obtain ⟨a, y, rfl, _⟩ := h
    rfl
  · obtain ⟨a, y, rfl, ha, q⟩ := h
    refine ⟨_, pss_one (ps_ost (pv 0) (pv 1)), ?_⟩
    exact ⟨_, rfl, _, rfl, a, A.BadLetter, rfl, T.BadLetter.ox, T.BadLetter.noA, .inl ⟨ha, fun dx h1 h2 => q dx h1 h2⟩⟩
theorem ok_x_BadSteps {f : Addr} {fd : FuncData} (F : Fun K "__init__" "BadSteps.__init__" s_BadSteps_init f fd) (T : Txt K mg A) : FnOk P w K mg base CX0 1 f fd ["self", "index"] (spXI A.BadSteps "index") := by
  refine F.ok sc_BadSteps_init (fun vs H Q E h => ?_) (fun cdv A' outer s H vs Q E hr h => ?_)
  · obtain ⟨a, y, rfl, _⟩ := h
    rfl
  · obtain ⟨a, y, rfl, ha, q⟩ := h
    refine ⟨_, pss_one (ps_ost (pv 0) (pv 1)), ?_⟩
    exact ⟨_, rfl, _, rfl, a, A.BadSteps, rfl, T.BadSteps.ox, T.BadSteps.noA, .inl ⟨ha, fun dx h1 h2 => q dx h1 h2⟩⟩
theorem ok_x_BadBox {f : Addr} {fd : FuncData} (F : Fun K "__init__" "BadBox.__init__" s_BadBox_init f fd) (T : Txt K mg A) : FnOk P w K mg base CX0 1 f fd ["self", "index"] (spXI A.BadBox "index") := by
  refine F.ok sc_BadBox_init (fun vs H Q E h => ?_) (fun cdv A' outer s H vs Q E hr h => ?_)
  · obtain ⟨a, y, rfl, _⟩ := h
    rfl
  · obtain ⟨a, y, rfl, ha, q⟩ := h
    refine ⟨_, pss_one (ps_ost (pv 0) (pv 1)), ?_⟩
    exact ⟨_, rfl, _, rfl, a, A.BadBox, rfl, T.BadBox.ox, T.BadBox.noA, .inl ⟨ha, fun dx h1 h2 => q dx h1 h2⟩⟩
theorem ok_x_TooMany {f : Addr} {fd : FuncData} (F : Fun K "__init__" "TooMany.__init__" s_TooMany_init f fd) (T : Txt K mg A) : FnOk P w K mg base CX0 1 f fd ["self", "limit"] (spXI A.TooMany "limit") := by
  refine F.ok sc_TooMany_init (fun vs H Q E h => ?_) (fun cdv A' outer s H vs Q E hr h => ?_)
  · obtain ⟨a, y, rfl, _⟩ := h
    rfl
  · obtain ⟨a, y, rfl, ha, q⟩ := h
    refine ⟨_, pss_one (ps_ostO (pv 0) (pv 1)), ?_⟩
    exact ⟨_, rfl, _, rfl, a, A.TooMany, rfl, T.TooMany.ox, T.TooMany.noA, ha, fun dx h1 h2 => q dx h1 h2⟩

/-! kinds, told by the data -/
theorem kd_str {d : PyData} : PySem.W.kitOne K (.type (tnD d)) (.type "str") = some (isStrD d) := by cases d <;> exact kit_ty (by dsimp only [tnD, isStrD]; decide +kernel)
def spInteger (K : PySem.W.Frag) : Sp := fun vs H Q _ => ∃ v d, vs = [v] ∧ Dp K H v d ∧ Q (.bl (isIntD d && !isBoolD d)) H
theorem ok_integer {f : Addr} {fd : FuncData} (F : Fun K "is_integer" "is_integer" s_is_integer f fd) (T : Txt K mg A) : FnOk P w K mg base CX0 1 f fd pm_is_integer (spInteger K) := by
  refine F.ok sc_is_integer (fun vs H Q E h => ?_) (fun cdv A' outer s H vs Q E hr h => ?_)
  · obtain ⟨v, k, rfl, _⟩ := h
    rfl
  · obtain ⟨v, d, rfl, hk, q⟩ := h
    refine ⟨_, pss_one (ps_ret (pe_and (pe_callB call_isi (by rfl) T.n_isinstance (by decide +kernel) (pa_cons (pv 0) (pa_cons (pe_bltn (v := .ty "int") (by rfl) T.n_int (by decide +kernel) rfl) pa_nil))) (pe_one (pe_not (pe_callB call_isi (by rfl) T.n_isinstance (by decide +kernel) (pa_cons (pv 0) (pa_cons (pe_bltn (v := .ty "bool") (by rfl) T.n_bool (by decide +kernel) rfl) pa_nil))))))), ?_⟩
    refine ⟨v, rfl, v, .ty "int", .type (tnD d), .type "int", isIntD d, rfl, .ty _, dp_ty hk, kd_int, _, rfl, ?_⟩
    cases h1 : isIntD d with
    | true =>
      rw [h1] at q
      exact iteT ⟨v, rfl, v, .ty "bool", .type (tnD d), .type "bool", isBoolD d, rfl, .ty _, dp_ty hk, kd_bool, _, rfl, q⟩
    | false =>
      rw [h1] at q
      exact iteF q
def spBetween (K : PySem.W.Frag) : Sp := fun vs H Q _ => ∃ v d a b, vs = [v, .int a, .int b] ∧ Dp K H v d ∧ Q (.bl (betD d a b)) H
theorem ok_between {f : Addr} {fd : FuncData} (F : Fun K "is_between" "is_between" s_is_between f fd) (O_is_integer : Own P w K mg base CX0 "is_integer" 1 pm_is_integer (spInteger K)) : FnOk P w K mg base CX0 2 f fd pm_is_between (spBetween K) := by
  refine F.ok sc_is_between (fun vs H Q E h => ?_) (fun cdv A' outer s H vs Q E hr h => ?_)
  · obtain ⟨v, k, a, b, rfl, _⟩ := h
    rfl
  · obtain ⟨v, d, a, b, rfl, hk, q⟩ := h
    refine ⟨_, pss_one (ps_ret (pe_and (pe_own O_is_integer (hr.mono (by decide)) pass0 (pa_cons (pv 0) pa_nil)) (pe_one (pe_chain op_le op_le (pv 1) (pv 0) (pv 2))))), ?_⟩
    refine ⟨v, rfl, v, d, rfl, hk, _, rfl, ?_⟩
    cases h1 : (isIntD d && !isBoolD d) with
    | true =>
      obtain ⟨n, rfl⟩ := int_yes h1
      obtain rfl := dp_int hk
      refine iteT ⟨_, rfl, _, rfl, _, _, rfl, rfl, _, rfl, ?_⟩
      rw [bet_int] at q
      cases h2 : decide (a ≤ n) with
      | true =>
        rw [h2] at q
        exact iteT ⟨_, rfl, _, _, rfl, rfl, q⟩
      | false =>
        rw [h2] at q
        exact iteF q
    | false =>
      rw [bet_not h1] at q
      exact iteF q
def spIndex (K : PySem.W.Frag) : Sp := fun vs H Q _ => ∃ v d n, vs = [v, .int n] ∧ Dp K H v d ∧ Q (.bl (betD d 0 (n - 1))) H
theorem ok_index {f : Addr} {fd : FuncData} (F : Fun K "is_index" "is_index" s_is_index f fd) (O_is_between : Own P w K mg base CX0 "is_between" 2 pm_is_between (spBetween K)) : FnOk P w K mg base CX0 3 f fd pm_is_index (spIndex K) := by
  refine F.ok sc_is_index (fun vs H Q E h => ?_) (fun cdv A' outer s H vs Q E hr h => ?_)
  · obtain ⟨_, _, _, rfl, _⟩ := h
    rfl
  · obtain ⟨v, d, n, rfl, hd, q⟩ := h
    refine ⟨_, pss_one (ps_ret (pe_own O_is_between (hr.mono (by decide)) pass0 (pa_cons (pv 0) (pa_cons (pe_int) (pa_cons (pe_op op_sub (pv 1) (pe_int)) pa_nil))))), ?_⟩
    exact ⟨v, rfl, _, rfl, _, _, rfl, rfl, v, d, 0, n - 1, rfl, hd, q⟩
def spIsList (K : PySem.W.Frag) : Sp := fun vs H Q _ => ∃ v t k, vs = [v] ∧ (∀ H', Ext H H' → TyX K H' v t) ∧ PySem.W.kitAny K t [.type "list", .type "tuple"] = some k ∧ ∀ H', Ext H H' → Q (.bl k) H'
theorem ok_isList {f : Addr} {fd : FuncData} (F : Fun K "is_list" "is_list" s_is_list f fd) (T : Txt K mg A) : FnOk P w K mg base CX0 1 f fd pm_is_list (spIsList K) := by
  refine F.ok sc_is_list (fun vs H Q E h => ?_) (fun cdv A' outer s H vs Q E hr h => ?_)
  · obtain ⟨v, t, k, rfl, _⟩ := h
    rfl
  · obtain ⟨v, t, k, rfl, hk, hs, q⟩ := h
    refine ⟨_, pss_one (ps_ret (pe_callB call_isiT (by rfl) T.n_isinstance (by decide +kernel) (pa_cons (pv 0) (pa_cons (pe_tup (pa_cons (pe_bltn (v := .ty "list") (by rfl) T.n_list (by decide +kernel) rfl) (pa_cons (pe_bltn (v := .ty "tuple") (by rfl) T.n_tuple (by decide +kernel) rfl) pa_nil))) pa_nil)))), ?_⟩
    refine ⟨v, rfl, by show 2 ≤ sizeLine; decide, fun p hp => ?_⟩
    exact ⟨v, p, [.ty "list", .ty "tuple"], t, [.type "list", .type "tuple"], k, rfl, upd_same, .cons (.ty _) (.cons (.ty _) .nil), hk _ (Ext.upd hp), hs, q _ (Ext.upd hp)⟩
theorem dp_lenD {H : Hp} {xs : List V} {ds : List PyData} {d : PyData} (ha : DpAll K H xs ds) (h : d = .list ds ∨ d = .tuple ds) : lenD d = xs.length := by
  rw [dps_len ha]
  rcases h with rfl | rfl <;> rfl
theorem dvi {a b : Int} : decide (V.int a = V.int b) = decide (a = b) := by simp
theorem dvs {a b : Str} : decide (V.str a = V.str b) = decide (a = b) := by simp
def spTupleOf (K : PySem.W.Frag) : Sp := fun vs H Q _ => ∃ v d a, vs = [v, .int a] ∧ Dp K H v d ∧ Q (.bl (isTupD d && decide ((lenD d : Int) = a))) H
theorem ok_tupleOf {f : Addr} {fd : FuncData} (F : Fun K "is_tuple_of" "is_tuple_of" s_is_tuple_of f fd) (T : Txt K mg A) : FnOk P w K mg base CX0 1 f fd pm_is_tuple_of (spTupleOf K) := by
  refine F.ok sc_is_tuple_of (fun vs H Q E h => ?_) (fun cdv A' outer s H vs Q E hr h => ?_)
  · obtain ⟨v, d, a, rfl, _⟩ := h
    rfl
  · obtain ⟨v, d, a, rfl, hk, q⟩ := h
    refine ⟨_, pss_one (ps_ret (pe_and (pe_callB call_isi (by rfl) T.n_isinstance (by decide +kernel) (pa_cons (pv 0) (pa_cons (pe_bltn (v := .ty "tuple") (by rfl) T.n_tuple (by decide +kernel) rfl) pa_nil))) (pe_one (pe_cmpR op_eq (pe_callB call_len_seq (by rfl) T.n_len (by decide +kernel) (pa_cons (pv 0) pa_nil)) (pv 1) (nomark _))))), ?_⟩
    refine ⟨v, rfl, v, .ty "tuple", .type (tnD d), .type "tuple", isTupD d, rfl, .ty _, dp_ty hk, kd_tup, _, rfl, ?_⟩
    cases h1 : isTupD d with
    | true =>
      rw [h1] at q
      obtain ⟨p, xs, ds, rfl, hx, ha, hd⟩ := dp_tup hk h1
      rw [dp_lenD ha (.inr hd)] at q
      refine iteT ⟨_, rfl, p, xs, rfl, .inr hx, _, rfl, rfl, ?_⟩
      show Q (.bl (decide (V.int (xs.length : Int) = V.int a))) H
      rw [dvi]
      exact q
    | false =>
      rw [h1] at q
      exact iteF q
/-! names -/
def inAl (c : Nat) : Bool := decide (c ∈ (("abcdefghijklmnopqrstuvwxyz" : Str)).cps.toList)
def nameS (s : Str) : Bool := (decide ((1 : Int) ≤ (s.length : Int)) && decide ((s.length : Int) ≤ 8)) && s.cps.toList.all inAl
def nameD : PyData → Bool | .str s => nameS s | _ => false
def SmD : PyData → Prop | .str s => s.length ≤ 1000 | _ => True
theorem small_sz {n : Nat} (h : n ≤ 2000) : n < sizeLine := Nat.lt_of_le_of_lt h (by decide)
theorem all_map {β : Type} {xs : List β} {f : β → Bool} : xs.map (fun x => V.bl (f x)) = (xs.map f).map V.bl := by
  rw [List.map_map]
  rfl
theorem all_id {β : Type} {xs : List β} {f : β → Bool} : (xs.map f).all id = xs.all f := by
  rw [List.all_map]
  rfl
def spName (K : PySem.W.Frag) : Sp := fun vs H Q _ => ∃ v d, vs = [v] ∧ Dp K H v d ∧ SmD d ∧ ∀ H', Ext H H' → Q (.bl (nameD d)) H'
theorem str_yes {H : Hp} {v : V} {d : PyData} (h : Dp K H v d) (hs : isStrD d = true) : ∃ s, d = .str s ∧ v = .str s := by
  cases h <;> first | exact ⟨_, rfl, rfl⟩ | cases hs
theorem ok_name {f : Addr} {fd : FuncData} (F : Fun K "is_name" "is_name" s_is_name f fd) (T : Txt K mg A) : FnOk P w K mg base CX0 1 f fd pm_is_name (spName K) := by
  refine F.ok sc_is_name (fun vs H Q E h => ?_) (fun cdv A' outer s H vs Q E hr h => ?_)
  · obtain ⟨_, _, rfl, _⟩ := h
    rfl
  · obtain ⟨v, d, rfl, hd, hsm, q⟩ := h
    refine ⟨_, pss_cons (ps_if (PW.pt (pw_or (pt_not (pt_val (pe_callB call_isi (by rfl) T.n_isinstance (by decide +kernel) (pa_cons (pv 0) (pa_cons (pe_bltn (v := .ty "str") (by rfl) T.n_str (by decide +kernel) rfl) pa_nil))))) (pw_or1 (pt_not (pt_chain op_le op_le (pe_int) (pe_callB call_len_str (by rfl) T.n_len (by decide +kernel) (pa_cons (pv 0) pa_nil)) (pe_int)))))) (pss_one (ps_ret (pe_bl))) (pss_nil))
      (pss_one (ps_ret (pe_callB (cr_all rfl) (by rfl) T.n_all (by decide +kernel) (pa_cons (pe_lc (own := [("sign", 1)]) (g := gName 1) (by rfl) sc_is_name.nd (pi_str (pv 0)) (blkOk_by (own := [("sign", 1)]) (N := nm_is_name) (sc := defScope s_is_name) (by decide +kernel)) (fun _ _ _ _ _ => pg_name (i := 1) sc_is_name.nd rfl (Or.inl rfl)) (fun s1 H1 C1 cl fp => pts_nil) (fun s1 H1 C1 cl fp => pe_cmpR op_in_sign (pv 1) (pe_gstr T.g_ALPHABET) (by with_unfolding_all rfl))) pa_nil)))), ?_⟩
    refine ⟨v, rfl, v, .ty "str", .type (tnD d), .type "str", isStrD d, rfl, .ty _, dp_ty hd, kd_str, _, rfl, ?_⟩
    cases h1 : isStrD d with
    | false =>
      have h := q H Ext.rfl'
      rw [show nameD d = false by cases d <;> first | rfl | cases h1] at h
      exact iteT h
    | true =>
      obtain ⟨z, rfl, rfl⟩ := str_yes hd h1
      have hz : z.length ≤ 1000 := hsm
      have hqn : ∀ H', Ext H H' → Q (.bl ((decide ((1 : Int) ≤ (z.length : Int)) && decide ((z.length : Int) ≤ 8)) && z.cps.toList.all inAl)) H' := q
      clear q
      refine iteF ⟨_, rfl, z, rfl, Nat.le_of_lt (small_sz (by omega)), _, _, rfl, rfl, _, rfl, ?_⟩
      cases h2 : decide ((1 : Int) ≤ (z.length : Int)) with
      | false =>
        have h := hqn H Ext.rfl'
        rw [h2] at h
        exact iteF ⟨_, rfl, iteT h⟩
      | true =>
        refine iteT ⟨_, _, rfl, rfl, _, rfl, ?_⟩
        cases h3 : decide ((z.length : Int) ≤ 8) with
        | false =>
          have h := hqn H Ext.rfl'
          rw [h2, h3] at h
          exact iteT h
        | true =>
          refine iteF ?_
          refine ⟨_, rfl, z, rfl, fun D hD => ?_⟩
          refine lc_it (walk_str (z := z)) (fun i H' => Ext H H' ∧ H' D = some (.lst ((((z.cps.toList.take i).map inAl)).map V.bl))) ⟨Ext.upd hD, upd_same⟩ (fun _ _ _ _ => True.intro) (fun i x H' H2 hi pv hy => ?_) (fun H' pv => ?_)
          · obtain ⟨e, hl⟩ := pv
            obtain ⟨rfl, c, hc, rfl⟩ := hy
            have hc' : z.cps.toList[i]? = some c := by rw [Array.getElem?_toList]; exact hc
            refine ⟨rfl, _, rfl, c, _, rfl, rfl, _, hl, small_sz ?_, ext_mut e hD, ?_⟩
            · rw [List.length_map, List.length_map, List.length_take]
              have : z.cps.toList.length = z.length := rfl
              omega
            · rw [upd_same, take_snoc hc', List.map_append, List.map_append]
              rfl
          · obtain ⟨e, hl⟩ := pv
            rw [List.take_of_length_le (by rw [Array.length_toList]; exact Nat.le_refl _)] at hl
            refine ⟨D, z.cps.toList.map inAl, rfl, SqL.of hl, ?_⟩
            have h := hqn H' e
            rw [h2, h3] at h
            rw [all_id]
            exact h
end
end K02

set_option Elab.async false
set_option maxRecDepth 100000
set_option maxHeartbeats 4000000
namespace K02
open PySem PySem.Spec PyProof.Rows L2
def sndD : PyData → PyData | .tuple (_ :: d :: _) => d | _ => .none
def toldD (d : PyData) (wd : Str) (m : Nat) : Bool := match d with
  | .tuple (.str s :: ds) => decide (ds.length + 1 = m) && decide (s = wd)
  | _ => false
def wordD (d : PyData) : Bool := if toldD d "short" 2 = true then betD (sndD d) 0 3 else toldD d "long" 2 && nameD (sndD d)
section
variable {P : Program} {w : World} {K : PySem.W.Frag} {mg : Str → Option Value} {base : Heap} {A : Ad}
def spTold (K : PySem.W.Frag) : Sp := fun vs H Q _ => ∃ (v : V) (d : PyData) (wd : Str) (m : Nat), vs = [v, .str wd, .int (m : Int)] ∧ Dp K H v d ∧ 1 ≤ m ∧ Q (.bl (toldD d wd m)) H
theorem told_no {d : PyData} {wd : Str} {m : Nat} (h : (isTupD d && decide ((lenD d : Int) = (m : Int))) = false) : toldD d wd m = false := by
  unfold toldD
  split
  · rename_i s ds
    rw [show decide (ds.length + 1 = m) = false from decide_eq_false fun e => by
      have z : decide (((ds.length + 1 : Nat) : Int) = (m : Int)) = false := h
      rw [decide_eq_true (by omega)] at z
      cases z]
    rfl
  · rfl
theorem told_yes {H : Hp} {v : V} {d : PyData} {wd : Str} (hd : Dp K H v d) (h : toldD d wd 2 = true) : ∃ p y d1, v = .ref p ∧ SqT K H p [.str wd, y] ∧ Dp K H y d1 ∧ d = .tuple [.str wd, d1] := by
  unfold toldD at h
  split at h
  · rename_i s ds
    rw [Bool.and_eq_true, decide_eq_true_eq, decide_eq_true_eq] at h
    obtain ⟨h1, rfl⟩ := h
    obtain ⟨p, xs, ds', rfl, hx, ha, e⟩ := dp_tup hd rfl
    cases e
    match ds, h1, ha with
    | [d1], _, ha =>
      cases ha with
      | cons a1 ha =>
        cases ha with
        | cons a2 ha =>
          cases ha
          cases a1
          exact ⟨p, _, d1, rfl, hx, a2, rfl⟩
  · cases h
def spWord (K : PySem.W.Frag) : Sp := fun vs H Q _ => ∃ (v : V) (d : PyData), vs = [v] ∧ Dp K H v d ∧ SmD (sndD d) ∧ ∀ H', Ext H H' → Q (.bl (wordD d)) H'
/-! heads -/
def itemsD : PyData → Option (List PyData) | .list ds => some ds | .tuple ds => some ds | _ => none
def badAt (ds : List PyData) : Option Nat := ds.findIdx? fun d => !nameD d
theorem find_at {ds : List PyData} {f : PyData → Bool} {i : Nat} {d : PyData} (h0 : ∀ (j : Nat) (d : PyData), j < i → ds[j]? = some d → f d = false) (hd : ds[i]? = some d) (h : f d = true) : ds.findIdx? f = some i := by
  induction ds generalizing i with
  | nil => cases hd
  | cons x xs ih =>
    rw [List.findIdx?_cons]
    cases i with
    | zero =>
      cases hd
      rw [h]
      rfl
    | succ i =>
      rw [h0 0 x (Nat.succ_pos _) rfl]
      have z := ih (i := i) (fun j d hj hd => h0 (j + 1) d (Nat.succ_lt_succ hj) hd) hd
      rw [z]
      rfl
theorem find_no {ds : List PyData} {f : PyData → Bool} (h0 : ∀ (j : Nat) (d : PyData), ds[j]? = some d → f d = false) : ds.findIdx? f = none := by
  rw [List.findIdx?_eq_none_iff]
  intro x hx
  obtain ⟨j, hj⟩ := List.mem_iff_getElem?.mp hx
  exact h0 j x hj
def ErrP (A : Ad) (E : XK) (H : Hp) (s : Str) : Prop := ∀ H', Ext H H' → ∀ e, H' e = none → E (.ref A.BadPart) (some e) (upd H' e (.xd [("part", .str s)]))
def spPlaces (K : PySem.W.Frag) (A : Ad) : Sp := fun vs H Q E => ∃ (v : V) (d : PyData), vs = [v] ∧ Dp K H v d ∧ (betD d 0 4 = false → ErrP A E H "places") ∧ (betD d 0 4 = true → Q .non H)
end
end K02

set_option Elab.async false
set_option maxRecDepth 100000
set_option maxHeartbeats 4000000
namespace K02
open PySem PySem.Spec PyProof.Rows L2
def letterD : PyData → Bool
  | .tuple [.tuple hs, b] => decide (hs.length ≤ 4) && (hs.all nameD && betD b 0 60)
  | _ => false
def SmL (d : PyData) : Prop := ∀ hs b, d = .tuple [.tuple hs, b] → ∀ x ∈ hs, SmD x
section
variable {P : Program} {w : World} {K : PySem.W.Frag} {mg : Str → Option Value} {base : Heap} {A : Ad}
theorem tup_two {H : Hp} {v : V} {d : PyData} (h : Dp K H v d) (h2 : (isTupD d && decide ((lenD d : Int) = 2)) = true) : ∃ p x y d1 d2, v = .ref p ∧ d = .tuple [d1, d2] ∧ SqT K H p [x, y] ∧ Dp K H x d1 ∧ Dp K H y d2 := by
  rw [Bool.and_eq_true, decide_eq_true_eq] at h2
  obtain ⟨p, xs, ds, rfl, hx, ha, hd⟩ := dp_tup h h2.1
  subst hd
  have hl : (ds.length : Int) = 2 := h2.2
  rcases ds with _ | ⟨d1, _ | ⟨d2, _ | ⟨d3, ds⟩⟩⟩
  · cases hl
  · cases hl
  · cases ha with
    | cons a1 ha =>
      cases ha with
      | cons a2 ha =>
        cases ha
        exact ⟨p, _, _, d1, d2, rfl, rfl, hx, a1, a2⟩
  · exfalso
    rw [List.length_cons, List.length_cons, List.length_cons] at hl
    omega
def spLetter (K : PySem.W.Frag) : Sp := fun vs H Q _ => ∃ (v : V) (d : PyData), vs = [v] ∧ Dp K H v d ∧ SmL d ∧ ∀ H', Ext H H' → Q (.bl (letterD d)) H'
theorem ok_letter {f : Addr} {fd : FuncData} (F : Fun K "is_letter" "is_letter" s_is_letter f fd) (T : Txt K mg A) (O_is_tuple_of : Own P w K mg base CX0 "is_tuple_of" 1 pm_is_tuple_of (spTupleOf K)) (O_is_name : Own P w K mg base CX0 "is_name" 1 pm_is_name (spName K)) (O_is_between : Own P w K mg base CX0 "is_between" 2 pm_is_between (spBetween K)) : FnOk P w K mg base CX0 3 f fd pm_is_letter (spLetter K) := by
  refine F.ok sc_is_letter (fun vs H Q E h => ?_) (fun cdv A' outer sh H vs Q E hr h => ?_)
  · obtain ⟨_, _, rfl, _⟩ := h
    rfl
  · obtain ⟨v, d, rfl, hd, hsm, q⟩ := h
    refine ⟨_, pss_cons (ps_if (pt_not (pt_val (pe_own O_is_tuple_of (hr.mono (by decide)) pass0 (pa_cons (pv 0) (pa_cons (pe_int) pa_nil))))) (pss_one (ps_ret (pe_bl))) (pss_nil))
      (pss_cons (ps_asg (pv 0) (pg_tup rfl (pgs_cons (pg_name (i := 1) sc_is_letter.nd rfl (Or.inl rfl)) (pgs_cons (pg_name (i := 2) sc_is_letter.nd rfl (Or.inl rfl)) (pgs_nil)))))
      (pss_cons (ps_if (PW.pt (pw_or (pt_not (pt_val (pe_callB call_isi (by rfl) T.n_isinstance (by decide +kernel) (pa_cons (pv 1) (pa_cons (pe_bltn (v := .ty "tuple") (by rfl) T.n_tuple (by decide +kernel) rfl) pa_nil))))) (pw_or1 (pt_cmpR op_gt (pe_callB call_len_seq (by rfl) T.n_len (by decide +kernel) (pa_cons (pv 1) pa_nil)) (pe_gint T.g_MOST_HEADS) (nomark _))))) (pss_one (ps_ret (pe_bl))) (pss_nil))
      (pss_one (ps_ret (pe_and (pe_callB (cr_all rfl) (by rfl) T.n_all (by decide +kernel) (pa_cons (pe_lc (own := [("head", 3)]) (g := gName 3) (by rfl) sc_is_letter.nd (pi_tup (pv 1)) (blkOk_by (own := [("head", 3)]) (N := nm_is_letter) (sc := defScope s_is_letter) (by decide +kernel)) (fun _ _ _ _ _ => pg_name (i := 3) sc_is_letter.nd rfl (Or.inl rfl)) (fun s1 H1 C1 cl fp => pts_nil) (fun s1 H1 C1 cl fp => pe_own O_is_name (hr.mono (by decide)) pass0 (pa_cons (pv 3) pa_nil))) pa_nil)) (pe_one (pe_own O_is_between (hr.mono (by decide)) pass0 (pa_cons (pv 2) (pa_cons (pe_int) (pa_cons (pe_gint T.g_MOST_BODY) pa_nil)))))))))), ?_⟩
    refine ⟨_, rfl, v, d, 2, rfl, hd, _, rfl, ?_⟩
    cases h2 : (isTupD d && decide ((lenD d : Int) = 2)) with
    | false =>
      refine iteT ?_
      have : letterD d = false := by
        unfold letterD
        split
        · rw [show (isTupD (PyData.tuple [.tuple _, _]) && decide ((lenD (PyData.tuple [.tuple _, _]) : Int) = 2)) = true from rfl] at h2
          cases h2
        · rfl
      rw [this] at q
      exact q H Ext.rfl'
    | true =>
      obtain ⟨p, x, y, d1, d2, rfl, rfl, hp, hx, hy⟩ := tup_two hd h2
      refine iteF ⟨_, rfl, p, [x, y], rfl, hp, rfl, _, _, rfl, _, _, rfl, rfl, ?_⟩
      refine ⟨_, rfl, x, .ty "tuple", .type (tnD d1), .type "tuple", isTupD d1, rfl, .ty _, dp_ty hx, kd_tup, _, rfl, ?_⟩
      cases h1 : isTupD d1 with
      | false =>
        refine iteT ?_
        have : letterD (.tuple [d1, d2]) = false := by cases d1 <;> first | rfl | cases h1
        rw [this] at q
        exact q H Ext.rfl'
      | true =>
        obtain ⟨p1, xs, ds, rfl, hx1, ha, rfl⟩ := dp_tup hx h1
        have hl := dps_len ha
        refine iteF ⟨_, rfl, p1, _, rfl, .inr hx1, _, _, rfl, rfl, _, rfl, ?_⟩
        replace q : ∀ H', Ext H H' → Q (.bl (decide (ds.length ≤ 4) && (ds.all nameD && betD d2 0 60))) H' := q
        by_cases h4 : ds.length ≤ 4
        · rw [decide_eq_false (show ¬ (xs.length : Int) > 4 by omega)]
          rw [decide_eq_true h4] at q
          refine iteF ⟨_, rfl, p1, rfl, ⟨_, hx1⟩, fun C hC => ?_⟩
          refine lc_it (walk_tup (xs := xs)) (fun m H' => Ext H H' ∧ H' C = some (.lst (((ds.take m).map nameD).map V.bl))) ⟨Ext.upd hC, upd_same⟩ (fun m H' _ pv => hx1.ext pv.1) (fun m z H' H2 hi pv hyy => ?_) (fun H' pv => ?_)
          · obtain ⟨e4, hC4⟩ := pv
            obtain ⟨rfl, hz⟩ := hyy
            obtain ⟨dz, hdz, hdp⟩ := dps_get (dps_ext e4 _ _ ha) hz
            refine ⟨rfl, _, rfl, z, dz, rfl, hdp, hsm _ _ rfl dz (List.mem_of_getElem? hdz), fun H3 e5 => ?_⟩
            refine ⟨_, e5 _ _ hC4, small_sz ?_, ext_mut (e4.trans e5) hC, ?_⟩
            · rw [List.length_map, List.length_map, List.length_take]
              omega
            · rw [upd_same, take_snoc hdz, List.map_append, List.map_append]
              rfl
          · obtain ⟨e4, hC4⟩ := pv
            rw [List.take_of_length_le (by omega)] at hC4
            refine ⟨C, _, rfl, SqL.of hC4, ?_⟩
            rw [all_id]
            have z0 := q H' e4
            cases hal : ds.all nameD with
            | false =>
              rw [hal] at z0
              exact ⟨false, rfl, z0⟩
            | true =>
              rw [hal] at z0
              exact ⟨true, rfl, _, rfl, y, d2, 0, 60, rfl, dp_ext e4 _ _ hy, z0⟩
        · rw [decide_eq_true (show (xs.length : Int) > 4 by omega)]
          rw [decide_eq_false h4] at q
          exact iteT (q H Ext.rfl')
end
end K02

set_option Elab.async false
set_option maxRecDepth 100000
set_option maxHeartbeats 4000000
namespace K02
open PySem PySem.Spec PyProof.Rows L2
def Thg (K : PySem.W.Frag) (H : Hp) (v : V) (d : PyData) : Prop := Dp K H v d ∨ (d = .dict [] ∧ ∃ a, v = .ref a ∧ H a = some (.dK []))
theorem Thg.ext {K : PySem.W.Frag} {H H' : Hp} {v : V} {d : PyData} (h : Thg K H v d) (e : Ext H H') : Thg K H' v d := by
  rcases h with h | ⟨h, a, rfl, h2⟩
  · exact .inl (dp_ext e _ _ h)
  · exact .inr ⟨h, a, rfl, e _ _ h2⟩
theorem Thg.ty {K : PySem.W.Frag} {H : Hp} {v : V} {d : PyData} (h : Thg K H v d) : TyX K H v (.type (tnD d)) := by
  rcases h with h | ⟨rfl, a, rfl, h2⟩
  · exact dp_ty h
  · exact .base (.dK h2)
def badL (ds : List PyData) : Option Nat := ds.findIdx? fun d => !letterD d
def ErrR (A : Ad) (E : XK) (H : Hp) (v : V) : Prop := ∀ H', Ext H H' → ∀ e, H' e = none → E (.ref A.BadRow) (some e) (upd H' e (.xd [("index", v)]))
def ErrL (A : Ad) (E : XK) (H : Hp) (a i : Int) : Prop := ∀ H' t, Ext H H' → H' t = some (.tup [.int a, .int i]) → ∀ e, H' e = none → E (.ref A.BadLetter) (some e) (upd H' e (.xd [("spot", .ref t)]))
def ErrLN (A : Ad) (E : XK) (H : Hp) : Prop := ∀ H', Ext H H' → ∀ e, H' e = none → E (.ref A.BadLetter) (some e) (upd H' e (.xd [("spot", .non)]))
def ErrM (A : Ad) (E : XK) (H : Hp) (k : Int) : Prop := ∀ H', Ext H H' → ∀ e, H' e = none → E (.ref A.TooMany) (some e) (upd H' e (.xd [("limit", .int k)]))
section
variable {P : Program} {w : World} {K : PySem.W.Frag} {mg : Str → Option Value} {base : Heap} {A : Ad}
structure RowS (K : PySem.W.Frag) (A : Ad) (vs : List V) (H : Hp) (Q : VK) (E : XK) : Prop where
  h : ∃ (a : Int) (v : V) (d : PyData), vs = [.int a, v] ∧ Thg K H v d ∧ (∀ ds, itemsD d = some ds → ds.length ≤ 1000 ∧ ∀ x ∈ ds, SmL x) ∧ ((isSeqD d = false ∨ itemsD d = some []) → ErrR A E H (.int a)) ∧
    (∀ ds i, itemsD d = some ds → badL ds = some i → ErrL A E H a (i : Nat)) ∧ (∀ ds, itemsD d = some ds → badL ds = none → 6 < ds.length → ErrM A E H 6) ∧
    ∀ ds, itemsD d = some ds → badL ds = none → 0 < ds.length → ds.length ≤ 6 → ∀ H', Ext H H' → Q .non H'
def spRow (K : PySem.W.Frag) (A : Ad) : Sp := fun vs H Q E => RowS K A vs H Q E
theorem ok_row {f : Addr} {fd : FuncData} (F : Fun K "check_row" "check_row" s_check_row f fd) (T : Txt K mg A) (O_is_list : Own P w K mg base CX0 "is_list" 1 pm_is_list (spIsList K)) (O_is_letter : Own P w K mg base CX0 "is_letter" 3 pm_is_letter (spLetter K)) (X_BadRow : XCls P w K mg base "BadRow" "index" A.BadRow) (X_BadLetter : XCls P w K mg base "BadLetter" "spot" A.BadLetter) (X_TooMany : OCls P w K mg base "TooMany" "limit" A.TooMany) : FnOk P w K mg base (L2.CX P w) 5 f fd pm_check_row (spRow K A) := by
  refine F.okX sc_check_row (fun vs H Q E h => ?_) (fun cdv A' outer sh H vs Q E hr h => ?_)
  · obtain ⟨_, _, _, rfl, _⟩ := h.h
    rfl
  · obtain ⟨a, v, d, rfl, hd, hsm, q1, q2, q3, q4⟩ := h.h
    refine ⟨_, pss_cons (ps_if (PW.pt (pw_or (pt_not (pt_val (pe_own O_is_list (hr.mono (by decide)) pass0 (pa_cons (pv 1) pa_nil)))) (pw_or1 (pt_cmpR op_eq (pe_callB call_len_seq (by rfl) T.n_len (by decide +kernel) (pa_cons (pv 1) pa_nil)) (pe_int) (nomark _))))) (pss_one (ps_raise rfl (takes_of rfl rfl rfl rfl) (pmk_X X_BadRow (hr.mono (by decide)) (pv 0) rfl))) (pss_nil))
      (pss_cons (ps_for (passes_of rfl) rfl (pi_enSq rfl T.n_enumerate (pa_cons (pv 1) pa_nil)) (pg_tup rfl (pgs_cons (pg_name (i := 2) sc_check_row.nd rfl (Or.inl rfl)) (pgs_cons (pg_name (i := 3) sc_check_row.nd rfl (Or.inl rfl)) (pgs_nil)))) (pss_one (ps_if (pt_not (pt_val (pe_own O_is_letter (hr.mono (by decide)) pass0 (pa_cons (pv 3) pa_nil)))) (pss_one (ps_raise rfl (takes_of rfl rfl rfl rfl) (pmk_X X_BadLetter (hr.mono (by decide)) (pe_tup (pa_cons (pv 0) (pa_cons (pv 2) pa_nil))) rfl))) (pss_nil))))
      (pss_one (ps_if (pt_cmpR op_gt (pe_callB call_len_seq (by rfl) T.n_len (by decide +kernel) (pa_cons (pv 1) pa_nil)) (pe_gint T.g_MOST_LETTERS) (nomark _)) (pss_one (ps_raise rfl (takes_of rfl rfl rfl rfl) (pmk_O X_TooMany (hr.mono (by decide)) (pe_gint T.g_MOST_LETTERS) rfl))) (pss_nil)))), ?_⟩
    refine ⟨v, rfl, v, .type (tnD d), isSeqD d, rfl, fun H' e => (hd.ext e).ty, by rw [kd_seq], fun H1 x1 => ⟨_, rfl, ?_⟩⟩
    cases h1 : isSeqD d with
    | false => exact iteT (iteT ⟨_, rfl, mkX_fin fun e he => q1 (.inl h1) _ x1 e he⟩)
    | true =>
      refine iteF ?_
      have hdp : Dp K H v d := by
        rcases hd with h | ⟨rfl, _⟩
        · exact h
        · cases h1
      obtain ⟨p, xs, ds, rfl, hx, ha, hdd⟩ := dp_seq (dp_ext x1 _ _ hdp) h1
      have hit : itemsD d = some ds := by rcases hdd with rfl | rfl <;> rfl
      obtain ⟨hl, hsl⟩ := hsm ds hit
      have hxl := dps_len ha
      refine ⟨_, rfl, p, _, rfl, hx, rfl, _, rfl, ?_⟩
      rw [dvi, hxl]
      by_cases h0 : (ds.length : Int) = 0
      · rw [decide_eq_true h0]
        have hn : ds = [] := List.eq_nil_of_length_eq_zero (by omega)
        exact iteT ⟨_, rfl, mkX_fin fun e he => q1 (.inr (by rw [hit, hn])) _ x1 e he⟩
      rw [decide_eq_false h0]
      refine iteF ⟨_, rfl, p, rfl, ?_⟩
      refine for_enSq (xs := xs) hx (fun i σ' H' => Ext H1 H' ∧ (∃ o1 o2, σ' = [some (.int a), some (.ref p), o1, o2]) ∧ ∀ j d, j < i → ds[j]? = some d → letterD d = true) ⟨Ext.rfl', ⟨_, _, rfl⟩, fun j d hj _ => absurd hj (Nat.not_lt_zero _)⟩ (fun i σ' H' pv => pv.1) (fun i v σ' H' T' hi pv hT => ?_) (fun σ' H' pv => ?_)
      · obtain ⟨x2, ⟨o1, o2, rfl⟩, hok⟩ := pv
        refine ⟨T', _, rfl, SqT.of upd_same, rfl, _, _, rfl, _, _, rfl, rfl, ?_⟩
        have x3 := x2.upd' (o := .tup [.int (i : Nat), v]) hT
        obtain ⟨d0, hdi, hdv⟩ := dps_get (dps_ext x3 _ _ ha) hi
        refine ⟨v, rfl, v, d0, rfl, hdv, hsl d0 (List.mem_of_getElem? hdi), fun H4 x4 => ⟨_, rfl, ?_⟩⟩
        cases h4 : letterD d0 with
        | false =>
          have hbad : badL ds = some i := find_at (f := fun d => !letterD d) (fun j d hj hd => by rw [hok j d hj hd]; rfl) hdi (by rw [h4]; rfl)
          refine iteT ⟨_, rfl, _, rfl, by show 2 ≤ sizeLine; decide, fun t ht => ?_⟩
          exact mkX_fin fun e he => q2 ds i hit hbad _ t ((((x1.trans x3).trans x4)).trans (Ext.upd ht)) upd_same e he
        | true =>
          refine iteF ⟨x3.trans x4, ⟨_, _, rfl⟩, fun j d hj hd => ?_⟩
          rcases Nat.lt_succ_iff_lt_or_eq.mp hj with hj | rfl
          · exact hok j d hj hd
          · rw [hdi] at hd
            cases hd
            exact h4
      · obtain ⟨x2, ⟨o1, o2, rfl⟩, hok⟩ := pv
        have hbad : badL ds = none := by
          unfold badL
          rw [List.findIdx?_eq_none_iff]
          intro d hd
          obtain ⟨j, hj⟩ := List.getElem?_of_mem hd
          have hjl := (List.getElem?_eq_some_iff.mp hj).1
          rw [hok j d (by rw [hxl]; exact hjl) hj]; rfl
        have hx2 : SqL K H' p xs ∨ SqT K H' p xs := by
          rcases hx with hx | hx
          · exact .inl (hx.ext x2)
          · exact .inr (hx.ext x2)
        refine ⟨_, rfl, p, xs, rfl, hx2, _, _, rfl, rfl, _, rfl, ?_⟩
        rw [hxl]
        by_cases h6 : (ds.length : Int) > 6
        · rw [decide_eq_true h6]
          exact iteT (mkX_fin fun e he => q3 ds hit hbad (by omega) _ (x1.trans x2) e he)
        · rw [decide_eq_false h6]
          exact iteF (q4 ds hit hbad (by omega) (by omega) _ (x1.trans x2))
end
end K02

set_option Elab.async false
set_option maxRecDepth 100000
set_option maxHeartbeats 4000000
namespace K02
open PySem PySem.Spec PyProof.Rows L2
theorem pi_sqK {X : Cx} {K : PySem.W.Frag} {tg l : Expr} {tl : TE} (h : X.K = K) (hl : PE X l tl) : PI X tg l (iSq K tl) := by
  subst h
  exact pi_sq hl
theorem steps_tup {K : PySem.W.Frag} {a : Addr} {xs : List V} {H0 : Hp} {Qd : Hp → Prop} {step : V → Hp → (Hp → Prop) → Prop} (Pv : Nat → Hp → Prop) (h0 : Pv 0 H0) (hl : ∀ i H, i ≤ xs.length → Pv i H → SqT K H a xs)
    (hs : ∀ i x H, xs[i]? = some x → Pv i H → step x H (Pv (i + 1))) (hd : ∀ H, Pv xs.length H → Qd H) :
    ∃ W : Nat → Nat → Hp → Prop, (∃ m, W 0 m H0) ∧ ∀ i m H, W i m H →
      ((Itt K a).stop i H ∧ Qd H) ∨ ((Itt K a).go i H ∧ ∃ N : Hp → Prop, (∀ H', N H' → ∃ m', m' < m ∧ W (i + 1) m' H') ∧ ∀ x H', (Itt K a).yld i H x H' → step x H' N) := by
  refine ⟨fun i m H => m + i = xs.length ∧ Pv i H, ⟨xs.length, rfl, h0⟩, ?_⟩
  rintro i m H ⟨hm, pv⟩
  have q := hl i H (by omega) pv
  rcases Nat.lt_or_ge i xs.length with h | h
  · have hx : xs[i]? = some xs[i] := List.getElem?_eq_getElem h
    refine .inr ⟨⟨xs, xs[i], q, hx⟩, Pv (i + 1), fun H' pv' => ⟨m - 1, by omega, by omega, pv'⟩, fun x H' y => ?_⟩
    obtain ⟨y1, y2⟩ := y
    subst y1
    exact hs i x _ (y2 xs q) pv
  · obtain rfl : i = xs.length := by omega
    exact .inl ⟨⟨xs, q, Nat.le_refl _⟩, hd H pv⟩
section
variable {K : PySem.W.Frag} {p : Addr} {xs : List V} {H : Hp} {g : TG} {tt : TT} {te : TE} {vs : List Nat} {σ : L2.St}
/-- a comprehension over a list or a tuple, by what stays -/
theorem lc_sqI {Qd : Addr → Hp → Prop} (hx : SqL K H p xs ∨ SqT K H p xs) (Pv : Addr → Nat → Hp → Prop) (h0 : ∀ D, H D = none → Pv D 0 (upd H D (.lst []))) (hE : ∀ D i H', H D = none → Pv D i H' → Ext H H')
    (hs : ∀ D i x H', H D = none → xs[i]? = some x → Pv D i H' → g x (wipe σ vs) H' fun σ2 H2 => wipe σ2 vs = wipe σ vs ∧ tt σ2 H2 fun b H3 =>
      if b = true then te σ2 H3 fun y H4 => ∃ acc, H4 D = some (.lst acc) ∧ acc.length < sizeLine ∧ Pv D (i + 1) (upd H4 D (.lst (acc ++ [y]))) else Pv D (i + 1) H3)
    (hd : ∀ D H', H D = none → Pv D xs.length H' → Qd D H') :
    ((∃ xs, SqL K H p xs) ∧ (fun J H1 => ∀ D, H1 D = none → ∃ W : Nat → Nat → Hp → Prop, (∃ m, W 0 m (upd H1 D (.lst []))) ∧ ∀ i m H, W i m H →
      (J.stop i H ∧ Qd D H) ∨ (J.go i H ∧ ∃ Nx : Hp → Prop, (∀ H', Nx H' → ∃ m', m' < m ∧ W (i + 1) m' H') ∧ ∀ x H', J.yld i H x H' → g x (wipe σ vs) H' fun σ2 H2 => wipe σ2 vs = wipe σ vs ∧ tt σ2 H2 fun b H3 =>
        if b = true then te σ2 H3 fun y H4 => ∃ acc, H4 D = some (.lst acc) ∧ acc.length < sizeLine ∧ Nx (upd H4 D (.lst (acc ++ [y]))) else Nx H3)) (Itl K p) H) ∨
    ((∃ xs, SqT K H p xs) ∧ (fun J H1 => ∀ D, H1 D = none → ∃ W : Nat → Nat → Hp → Prop, (∃ m, W 0 m (upd H1 D (.lst []))) ∧ ∀ i m H, W i m H →
      (J.stop i H ∧ Qd D H) ∨ (J.go i H ∧ ∃ Nx : Hp → Prop, (∀ H', Nx H' → ∃ m', m' < m ∧ W (i + 1) m' H') ∧ ∀ x H', J.yld i H x H' → g x (wipe σ vs) H' fun σ2 H2 => wipe σ2 vs = wipe σ vs ∧ tt σ2 H2 fun b H3 =>
        if b = true then te σ2 H3 fun y H4 => ∃ acc, H4 D = some (.lst acc) ∧ acc.length < sizeLine ∧ Nx (upd H4 D (.lst (acc ++ [y]))) else Nx H3)) (Itt K p) H) := by
  rcases hx with hx | hx
  · exact .inl ⟨⟨xs, hx⟩, fun D hD => lc_it (walk_list (xs := xs)) (Pv D) (h0 D hD) (fun i H' _ pv => hx.ext (hE D i H' hD pv)) (fun i x H' H2 hi pv hy => by obtain ⟨rfl, hxi⟩ := hy; exact hs D i x _ hD hxi pv) (fun H' pv => hd D H' hD pv)⟩
  · exact .inr ⟨⟨xs, hx⟩, fun D hD => lc_it (walk_tup (xs := xs)) (Pv D) (h0 D hD) (fun i H' _ pv => hx.ext (hE D i H' hD pv)) (fun i x H' H2 hi pv hy => by obtain ⟨rfl, hxi⟩ := hy; exact hs D i x _ hD hxi pv) (fun H' pv => hd D H' hD pv)⟩
end
/-- the rows that a mail is made of: each a row of letters -/
def rowsD : List PyData → List (List PyData)
  | [] => []
  | d :: ds => (itemsD d).getD [] :: rowsD ds
/-- data of tuples, texts and numbers stays where tuples stay -/
theorem str_keep {K : PySem.W.Frag} {H H' : Hp} {v : V} {d : PyData} (hd : nameD d = true) (h : Dp K H v d) : Dp K H' v d := by
  cases d <;> first | (cases hd; done) | skip
  cases h
  exact .str _
theorem strs_keep {K : PySem.W.Frag} {H H' : Hp} : ∀ {vs : List V} {ds : List PyData}, (∀ d ∈ ds, nameD d = true) → DpAll K H vs ds → DpAll K H' vs ds
  | [], _, _, h => by cases h; exact .nil
  | _ :: _, _, hd, h => by
    cases h with
    | cons a b => exact .cons (str_keep (hd _ List.mem_cons_self) a) (strs_keep (fun d hx => hd d (List.mem_cons_of_mem _ hx)) b)
theorem let_keep {K : PySem.W.Frag} {H H' : Hp} (tk : ∀ a xs, SqT K H a xs → SqT K H' a xs) {v : V} {d : PyData} (hl : letterD d = true) (h : Dp K H v d) : Dp K H' v d := by
  unfold letterD at hl
  split at hl
  · rename_i hs b
    rw [Bool.and_eq_true, Bool.and_eq_true] at hl
    cases h with
    | tup h1 h2 =>
      cases h2 with
      | cons a1 h2 =>
        cases h2 with
        | cons a2 h2 =>
          cases h2
          cases a1 with
          | tup b1 b2 =>
            refine .tup (tk _ _ h1) (.cons (.tup (tk _ _ b1) (strs_keep (List.all_eq_true.mp hl.2.1) b2)) (.cons ?_ .nil))
            obtain ⟨i, rfl, _, _⟩ := bet_yes hl.2.2
            cases a2
            exact .int _
  · cases hl
theorem lets_keep {K : PySem.W.Frag} {H H' : Hp} (tk : ∀ a xs, SqT K H a xs → SqT K H' a xs) : ∀ {vs : List V} {ds : List PyData}, (∀ d ∈ ds, letterD d = true) → DpAll K H vs ds → DpAll K H' vs ds
  | [], _, _, h => by cases h; exact .nil
  | _ :: _, _, hd, h => by
    cases h with
    | cons a b => exact .cons (let_keep tk (hd _ List.mem_cons_self) a) (lets_keep tk (fun d hx => hd d (List.mem_cons_of_mem _ hx)) b)
theorem rows_keep {K : PySem.W.Frag} {H H' : Hp} (tk : ∀ a xs, SqT K H a xs → SqT K H' a xs) : ∀ {vs : List V} {L : List (List PyData)}, (∀ r ∈ L, ∀ d ∈ r, letterD d = true) → DpAll K H vs (L.map PyData.tuple) → DpAll K H' vs (L.map PyData.tuple)
  | [], [], _, _ => .nil
  | [], _ :: _, _, h => by cases h
  | _ :: _, [], _, h => by cases h
  | _ :: _, r :: L, hd, h => by
    cases h with
    | cons a b =>
      cases a with
      | tup a1 a2 => exact .cons (.tup (tk _ _ a1) (lets_keep tk (hd r List.mem_cons_self) a2)) (rows_keep tk (fun r hr => hd r (List.mem_cons_of_mem _ hr)) b)
theorem rowsD_mem : ∀ {ds : List PyData} {r : List PyData}, r ∈ rowsD ds → ∃ x ∈ ds, r = (itemsD x).getD []
  | x :: ds, r, h => by
    rcases List.mem_cons.mp h with rfl | h
    · exact ⟨x, List.mem_cons_self, rfl⟩
    · obtain ⟨y, hy, e⟩ := rowsD_mem h
      exact ⟨y, List.mem_cons_of_mem _ hy, e⟩
theorem flat_len {L : List (List PyData)} (h : ∀ r ∈ L, r.length ≤ 6) : L.flatten.length ≤ 6 * L.length := by
  induction L with
  | nil => exact Nat.le_refl _
  | cons r L ih =>
    have h1 := h r List.mem_cons_self
    have h2 := ih fun r hr => h r (List.mem_cons_of_mem _ hr)
    rw [List.flatten_cons, List.length_append, List.length_cons]
    omega
theorem rowsD_len : ∀ ds : List PyData, (rowsD ds).length = ds.length
  | [] => rfl
  | _ :: ds => by
    have := rowsD_len ds
    show (rowsD ds).length + 1 = ds.length + 1
    omega
theorem rowsD_at : ∀ {ds : List PyData} {i : Nat} {x : PyData} {rs : List PyData}, ds[i]? = some x → itemsD x = some rs → (rowsD ds)[i]? = some rs
  | y :: ds, 0, x, rs, h, hi => by
    cases h
    show some ((itemsD y).getD []) = some rs
    rw [hi]; rfl
  | _ :: ds, i + 1, _, _, h, hi => rowsD_at (ds := ds) (i := i) h hi
theorem dps_snoc {K : PySem.W.Frag} {H : Hp} {v : V} {d : PyData} (hv : Dp K H v d) : ∀ {vs : List V} {ds : List PyData}, DpAll K H vs ds → DpAll K H (vs ++ [v]) (ds ++ [d])
  | [], _, h => by cases h; exact .cons hv .nil
  | _ :: _, _, h => by
    cases h with
    | cons a b => exact .cons a (dps_snoc hv b)
/-- a mail at m -/
def MailAt (K : PySem.W.Frag) (A : Ad) (H : Hp) (m : Addr) (L : List (List PyData)) : Prop := ∃ dx pr pl, H m = some (.ins A.Mail dx [("rows", .ref pr), ("letters", .ref pl)]) ∧ Dp K H (.ref pr) (.tuple (L.map PyData.tuple)) ∧ Dp K H (.ref pl) (.tuple L.flatten) ∧ ∀ r ∈ L, ∀ d ∈ r, letterD d = true
theorem MailAt.ext {K : PySem.W.Frag} {A : Ad} {H H' : Hp} {m : Addr} {L : List (List PyData)} (h : MailAt K A H m L) (e : Ext H H') : MailAt K A H' m L := by
  obtain ⟨dx, pr, pl, h1, h2, h3, h4⟩ := h
  exact ⟨dx, pr, pl, e _ _ h1, dp_ext e _ _ h2, dp_ext e _ _ h3, h4⟩
/-- a row that check_row takes -/
def okRow (d : PyData) : Bool := match itemsD d with
  | some ds => ds.all letterD && (decide (0 < ds.length) && decide (ds.length ≤ 6))
  | none => false
theorem okRow_is {d : PyData} (h : okRow d = true) : ∃ rs, itemsD d = some rs ∧ rs.all letterD = true ∧ 0 < rs.length ∧ rs.length ≤ 6 := by
  unfold okRow at h
  cases hi : itemsD d with
  | none => rw [hi] at h; cases h
  | some rs =>
    rw [hi] at h
    have h : (rs.all letterD && (decide (0 < rs.length) && decide (rs.length ≤ 6))) = true := h
    rw [Bool.and_eq_true, Bool.and_eq_true, decide_eq_true_eq, decide_eq_true_eq] at h
    exact ⟨rs, rfl, h.1, h.2.1, h.2.2⟩
theorem badL_no {rs : List PyData} (h : rs.all letterD = true) : badL rs = none := by
  unfold badL
  rw [List.findIdx?_eq_none_iff]
  intro d hd
  rw [List.all_eq_true.mp h d hd]; rfl
section
variable {P : Program} {w : World} {K : PySem.W.Frag} {mg : Str → Option Value} {base : Heap} {A : Ad}
theorem sqT_mut {H H' : Hp} {p a C dx : Addr} {fs : List (Str × V)} {xs : List V} (hp : H p = some (.ins C dx fs)) (e : ∀ x o, x ≠ p → H x = some o → H' x = some o) (h : SqT K H a xs) : SqT K H' a xs := by
  rcases h with (h | ⟨o, h⟩) | h
  · exact .inl (.inl (e a _ (fun z => by rw [z, hp] at h; cases h) h))
  · exact .inl (.inr ⟨o, e a _ (fun z => by rw [z, hp] at h; cases h) h⟩)
  · exact .inr h
theorem sqL_mut {H H' : Hp} {p a C dx : Addr} {fs : List (Str × V)} {xs : List V} (hp : H p = some (.ins C dx fs)) (e : ∀ x o, x ≠ p → H x = some o → H' x = some o) (h : SqL K H a xs) : SqL K H' a xs := by
  rcases h with (h | ⟨o, h⟩) | h
  · exact .inl (.inl (e a _ (fun z => by rw [z, hp] at h; cases h) h))
  · exact .inl (.inr ⟨o, e a _ (fun z => by rw [z, hp] at h; cases h) h⟩)
  · exact .inr h
mutual
theorem dp_mutI {H H' : Hp} {p C dx : Addr} {fs : List (Str × V)} (hp : H p = some (.ins C dx fs)) (e : ∀ x o, x ≠ p → H x = some o → H' x = some o) : ∀ {v : V} {d : PyData}, Dp K H v d → Dp K H' v d
  | _, _, .non => .non
  | _, _, .bl b => .bl b
  | _, _, .int i => .int i
  | _, _, .str x => .str x
  | _, _, .lst h1 h2 => .lst (sqL_mut hp e h1) (dps_mutI hp e h2)
  | _, _, .tup h1 h2 => .tup (sqT_mut hp e h1) (dps_mutI hp e h2)
theorem dps_mutI {H H' : Hp} {p C dx : Addr} {fs : List (Str × V)} (hp : H p = some (.ins C dx fs)) (e : ∀ x o, x ≠ p → H x = some o → H' x = some o) : ∀ {vs : List V} {ds : List PyData}, DpAll K H vs ds → DpAll K H' vs ds
  | _, _, .nil => .nil
  | _, _, .cons h t => .cons (dp_mutI hp e h) (dps_mutI hp e t)
end
theorem sqT_mutL {H H' : Hp} {D a : Addr} {ys xs : List V} (hD : H D = some (.lst ys)) (e : ∀ x o, x ≠ D → H x = some o → H' x = some o) (h : SqT K H a xs) : SqT K H' a xs := by
  rcases h with (h | ⟨o, h⟩) | h
  · exact .inl (.inl (e a _ (fun z => by rw [z, hD] at h; cases h) h))
  · exact .inl (.inr ⟨o, e a _ (fun z => by rw [z, hD] at h; cases h) h⟩)
  · exact .inr h
def spInitOk (K : PySem.W.Frag) (A : Ad) : Sp := fun vs H Q E => ∃ (p dx : Addr) (v : V) (d : PyData) (ds : List PyData), vs = [.ref p, v] ∧ H p = some (.ins A.Mail dx []) ∧ Dp K H v d ∧ itemsD d = some ds ∧ 0 < ds.length ∧ ds.length ≤ 3 ∧ (∀ r ∈ ds, okRow r = true ∧ ∀ rs, itemsD r = some rs → ∀ x ∈ rs, SmL x) ∧
  ∀ H', MailAt K A H' p (rowsD ds) → (∀ x o, x ≠ p → H x = some o → H' x = some o) → Q .non H'
theorem ok_initOk {f : Addr} {fd : FuncData} (F : Fun K "__init__" "Mail.__init__" s_Mail_init f fd) (T : Txt K mg A) (O_is_list : Own P w K mg base CX0 "is_list" 1 pm_is_list (spIsList K)) (O_check_row : Own P w K mg base (L2.CX P w) "check_row" 5 pm_check_row (spRow K A)) (X_BadPart : XCls P w K mg base "BadPart" "part" A.BadPart) (X_TooMany : OCls P w K mg base "TooMany" "limit" A.TooMany) : FnOk P w K mg base (L2.CX P w) 7 f fd pm_Mail_init (spInitOk K A) := by
  refine F.okX sc_Mail_init (fun vs H Q E h => ?_) (fun cdv A' outer sh H vs Q E hr h => ?_)
  · obtain ⟨_, _, _, _, _, rfl, _⟩ := h
    rfl
  · obtain ⟨p, dx, v, d, ds, rfl, hp, hd, hit, hl0, hl3, hrs, q⟩ := h
    refine ⟨_, pss_cons (ps_if (PW.pt (pw_or (pt_not (pt_val (pe_own O_is_list (hr.mono (by decide)) pass0 (pa_cons (pv 1) pa_nil)))) (pw_or1 (pt_cmpR op_eq (pe_callB call_len_seq (by rfl) T.n_len (by decide +kernel) (pa_cons (pv 1) pa_nil)) (pe_int) (nomark _))))) (pss_one (ps_raise rfl (takes_of rfl rfl rfl rfl) (pmk_X X_BadPart (hr.mono (by decide)) (pe_str) rfl))) (pss_nil))
      (pss_cons (ps_for (passes_of rfl) rfl (pi_enSq rfl T.n_enumerate (pa_cons (pv 1) pa_nil)) (pg_tup rfl (pgs_cons (pg_name (i := 2) sc_Mail_init.nd rfl (Or.inl rfl)) (pgs_cons (pg_name (i := 3) sc_Mail_init.nd rfl (Or.inl rfl)) (pgs_nil)))) (pss_one (ps_expr (pe_ownS O_check_row (hr.mono (by decide)) (takes_of rfl rfl rfl rfl) (pa_cons (pv 2) (pa_cons (pv 3) pa_nil))))))
      (pss_cons (ps_if (pt_cmpR op_gt (pe_callB call_len_seq (by rfl) T.n_len (by decide +kernel) (pa_cons (pv 1) pa_nil)) (pe_gint T.g_MOST_ROWS) (nomark _)) (pss_one (ps_raise rfl (takes_of rfl rfl rfl rfl) (pmk_O X_TooMany (hr.mono (by decide)) (pe_gint T.g_MOST_ROWS) rfl))) (pss_nil))
      (pss_cons (ps_fld (pv 0) (pe_callTy call_tuple_of (by rfl) T.n_tuple (by decide +kernel) (pa_cons (pe_lc (own := [("row", 3)]) (g := gName 3) (by rfl) sc_Mail_init.nd (pi_sq (pv 1)) (blkOk_by (own := [("row", 3)]) (N := nm_Mail_init) (sc := defScope s_Mail_init) (by decide +kernel)) (fun _ _ _ _ _ => pg_name (i := 3) sc_Mail_init.nd rfl (Or.inl rfl)) (fun s1 H1 C1 cl fp => pts_nil) (fun s1 H1 C1 cl fp => pe_callTy (call_tuple_ofK (K := K) rfl) (by rfl) T.n_tuple (by decide +kernel) (pa_cons (pv 3) pa_nil))) pa_nil)) rfl)
      (pss_one (ps_fld (pv 0) (pe_callTy call_tuple_of (by rfl) T.n_tuple (by decide +kernel) (pa_cons (pe_lc2 (own := [("row", 3), ("letter", 4)]) (vs1 := [4]) (g := gName 3) (g1 := gName 4) (by rfl) sc_Mail_init.nd (pi_sq (pv 1)) (blkOk_by (own := [("row", 3), ("letter", 4)]) (N := nm_Mail_init) (sc := defScope s_Mail_init) (by decide +kernel)) (by decide) (fun s1 H1 C1 cl fp => pg_name (i := 3) sc_Mail_init.nd rfl (Or.inl rfl)) (fun s1 H1 C1 cl fp => pts_nil) (fun s1 H1 C1 cl fp => pi_sqK (K := K) rfl (pv 3)) (fun s1 H1 C1 cl fp => pg_name (i := 4) sc_Mail_init.nd rfl (Or.inl rfl)) (fun s1 H1 C1 cl fp => pts_nil) (fun s1 H1 C1 cl fp => pv 4)) pa_nil)) rfl))))), ?_⟩
    have h1 : isSeqD d = true := by cases d <;> first | rfl | cases hit
    refine ⟨v, rfl, v, .type (tnD d), isSeqD d, rfl, fun H' e => dp_ty (dp_ext e _ _ hd), by rw [kd_seq], fun H1 x1 => ⟨_, rfl, ?_⟩⟩
    rw [h1]
    obtain ⟨r, xs, ds', rfl, hx, ha, hdd⟩ := dp_seq (dp_ext x1 _ _ hd) h1
    have hds : ds' = ds := by
      rcases hdd with rfl | rfl
      · exact Option.some.inj hit
      · exact Option.some.inj hit
    subst hds
    have hxl := dps_len ha
    refine iteF ⟨_, rfl, r, xs, rfl, hx, rfl, _, rfl, ?_⟩
    rw [dvi, hxl, decide_eq_false (by omega)]
    refine iteF ⟨_, rfl, r, rfl, ?_⟩
    refine for_enSq (xs := xs) hx (fun i σ' H' => Ext H1 H' ∧ ∃ o1 o2, σ' = [some (.ref p), some (.ref r), o1, o2, none]) ⟨Ext.rfl', _, _, rfl⟩ (fun i σ' H' pv => pv.1) (fun i u σ' H' T' hi pv hT => ?_) (fun σ' H' pv => ?_)
    · obtain ⟨x2, o1, o2, rfl⟩ := pv
      refine ⟨T', _, rfl, SqT.of upd_same, rfl, _, _, rfl, _, _, rfl, rfl, ?_⟩
      have x3 := x2.upd' (o := .tup [.int (i : Nat), u]) hT
      obtain ⟨d0, hdi, hdv⟩ := dps_get (dps_ext x3 _ _ ha) hi
      obtain ⟨hok, hsm⟩ := hrs d0 (List.mem_of_getElem? hdi)
      obtain ⟨rs, hri, hall, hr0, hr6⟩ := okRow_is hok
      refine ⟨_, rfl, _, rfl, ⟨(i : Int), u, d0, rfl, .inl hdv, fun ds h => ?_, fun h => ?_, fun ds j h1 h2 => ?_, fun ds h1 h2 h3 => ?_, fun ds h1 h2 _ _ H5 e5 => ⟨x3.trans e5, _, _, rfl⟩⟩⟩
      · rw [hri] at h
        cases h
        exact ⟨by omega, hsm rs hri⟩
      · rcases h with h | h
        · cases d0 <;> first | (cases h; done) | cases hri
        · rw [hri] at h
          cases h
          cases hr0
      · rw [hri] at h1
        cases h1
        rw [badL_no hall] at h2
        cases h2
      · rw [hri] at h1
        cases h1
        omega
    obtain ⟨x2, o1, o2, rfl⟩ := pv
    have hx2 : SqL K H' r xs ∨ SqT K H' r xs := by
      rcases hx with hx | hx
      · exact .inl (hx.ext x2)
      · exact .inr (hx.ext x2)
    have ha2 := dps_ext x2 _ _ ha
    have e2 := x1.trans x2
    refine ⟨_, rfl, r, xs, rfl, hx2, _, _, rfl, rfl, _, rfl, ?_⟩
    rw [hxl, decide_eq_false (by omega)]
    have hp2 := e2 _ _ hp
    have hlets : ∀ r ∈ rowsD ds', ∀ d ∈ r, letterD d = true := fun r hr d hd => by
      obtain ⟨x, hx, rfl⟩ := rowsD_mem hr
      obtain ⟨rs, hi, hall, _⟩ := okRow_is (hrs x hx).1
      rw [hi] at hd
      exact List.all_eq_true.mp hall d hd
    refine iteF ⟨_, rfl, r, rfl, lc_sqI hx2 (fun D i J => ∃ ys, Ext H' J ∧ J D = some (.lst ys) ∧ ys.length = i ∧ DpAll K J ys (((rowsD ds').take i).map PyData.tuple)) (fun D hD => ⟨[], Ext.upd hD, upd_same, rfl, .nil⟩) (fun D i J hD pv => by obtain ⟨_, e, _⟩ := pv; exact e) (fun D i x J hD hi pv => ?_) (fun D J hD pv => ?_)⟩
    · obtain ⟨ys, eJ, hDJ, hyl, hys⟩ := pv
      obtain ⟨d0, hdi, hdv⟩ := dps_get (dps_ext eJ _ _ ha2) hi
      have hmem := List.mem_of_getElem? hdi
      obtain ⟨rs, hri, hall, hr0, hr6⟩ := okRow_is (hrs d0 hmem).1
      have hsq : isSeqD d0 = true := by cases d0 <;> first | rfl | cases hri
      obtain ⟨a0, zs, ds0, rfl, hz, hza, hd0⟩ := dp_seq hdv hsq
      have hds0 : ds0 = rs := by
        rcases hd0 with rfl | rfl
        · exact Option.some.inj hri
        · exact Option.some.inj hri
      subst hds0
      have hri' : (rowsD ds')[i]? = some ds0 := rowsD_at hdi hri
      have fin : ∀ {J2 : Hp} {y : V}, Ext J J2 → J2 D = some (.lst ys) → Dp K J2 y (.tuple ds0) → ∃ acc, J2 D = some (.lst acc) ∧ acc.length < sizeLine ∧ ∃ ys, Ext H' (upd J2 D (.lst (acc ++ [y]))) ∧ upd J2 D (.lst (acc ++ [y])) D = some (.lst ys) ∧ ys.length = i + 1 ∧ DpAll K (upd J2 D (.lst (acc ++ [y]))) ys (((rowsD ds').take (i + 1)).map PyData.tuple) := fun {J2 y} e2' hD2 hy => by
        refine ⟨ys, hD2, small_sz (by have := (List.getElem?_eq_some_iff.mp hi).1; omega), ys ++ [y], ext_mut (eJ.trans e2') hD, upd_same, by rw [List.length_append, hyl]; rfl, ?_⟩
        refine rows_keep (H := J2) (fun a zs h => sqT_mutL hD2 (fun x o hx ho => by rw [upd_ne hx]; exact ho) h) (fun r hr => hlets r (List.mem_of_mem_take hr)) ?_
        rw [L2.take_snoc hri', List.map_append]
        exact dps_snoc hy (dps_ext e2' _ _ hys)
      refine ⟨rfl, _, rfl, a0, zs, rfl, ?_⟩
      rcases hz with hz | hz
      · exact .inl ⟨hz, fun l hl => fin (Ext.upd hl) (Ext.upd hl _ _ hDJ) (.tup (SqT.of upd_same) (dps_ext (Ext.upd hl) _ _ hza))⟩
      · exact .inr ⟨hz, fin Ext.rfl' hDJ (.tup hz hza)⟩
    obtain ⟨ys, eJ, hDJ, hyl, hys⟩ := pv
    rw [List.take_of_length_le (by rw [hxl, rowsD_len]; exact Nat.le_refl _)] at hys
    refine ⟨D, ys, rfl, .inl ⟨SqL.of hDJ, fun l hl => ?_⟩⟩
    have el := Ext.upd (o := .tup ys) hl
    have ml : upd J l (.tup ys) l = some (.tup ys) := upd_same
    have hpJ := (eJ.trans el) _ _ (e2 _ _ hp)
    refine ⟨_, rfl, p, A.Mail, dx, _, rfl, hpJ, T.Mail.cl, T.m_rows, (by show 0 < 1000; decide), ?_⟩
    have kp : ∀ x o, x ≠ p → upd J l (.tup ys) x = some o → upd (upd J l (.tup ys)) p (.ins A.Mail dx (putF "rows" (V.ref l) [])) x = some o := fun x o hx ho => by rw [upd_ne hx]; exact ho
    have hx3 : SqL K (upd (upd J l (.tup ys)) p (.ins A.Mail dx (putF "rows" (V.ref l) []))) r xs ∨ SqT K (upd (upd J l (.tup ys)) p (.ins A.Mail dx (putF "rows" (V.ref l) []))) r xs := by
      rcases hx2 with h | h
      · exact .inl (sqL_mut hpJ kp (h.ext (eJ.trans el)))
      · exact .inr (sqT_mut hpJ kp (h.ext (eJ.trans el)))
    have ha3 := dps_mutI hpJ kp (dps_ext (eJ.trans el) _ _ ha2)
    have hnJ : l ≠ p := fun z => by rw [z] at hl; rw [(eJ) _ _ hp2] at hl; cases hl
    have hG1 : upd (upd J l (.tup ys)) p (.ins A.Mail dx (putF "rows" (V.ref l) [])) l = some (.tup ys) := kp l _ hnJ ml
    have hG2 : upd (upd J l (.tup ys)) p (.ins A.Mail dx (putF "rows" (V.ref l) [])) p = some (.ins A.Mail dx [("rows", .ref l)]) := upd_same
    have hrw : DpAll K (upd (upd J l (.tup ys)) p (.ins A.Mail dx (putF "rows" (V.ref l) []))) ys ((rowsD ds').map PyData.tuple) := dps_mutI hpJ kp (dps_ext el _ _ hys)
    have hkp : ∀ x o, x ≠ p → H x = some o → upd (upd J l (.tup ys)) p (.ins A.Mail dx (putF "rows" (V.ref l) [])) x = some o := fun x o hx ho => kp x o hx ((eJ.trans el) _ _ (e2 _ _ ho))
    clear kp hpJ ml el hl hDJ hyl hys eJ ha2 hx2 x2 hx ha x1
    generalize upd (upd J l (.tup ys)) p (.ins A.Mail dx (putF "rows" (V.ref l) [])) = G at hx3 ha3 hG1 hG2 hrw hkp ⊢
    refine ⟨_, rfl, r, rfl, ?_⟩
    have hr6' : ∀ r ∈ rowsD ds', r.length ≤ 6 := fun r hr => by
      obtain ⟨x, hx, rfl⟩ := rowsD_mem hr
      obtain ⟨rs, hi, _, _, h6⟩ := okRow_is (hrs x hx).1
      rw [hi]
      exact h6
    rcases hx3 with hx3 | hx3
    · refine .inl ⟨⟨xs, hx3⟩, fun C hC => steps_list (xs := xs) (fun i J => ∃ zs, Ext G J ∧ J C = some (.lst zs) ∧ DpAll K J zs ((rowsD ds').take i).flatten) ⟨[], Ext.upd hC, upd_same, .nil⟩ (fun i J _ pv => by obtain ⟨_, e, _⟩ := pv; exact hx3.ext e) (fun i x J hi pv => ?_) (fun J pv => ?_)⟩
      · obtain ⟨us, eJ, hCJ, hus⟩ := pv
        obtain ⟨d0, hdi, hdv⟩ := dps_get ha3 hi
        have hmem := List.mem_of_getElem? hdi
        obtain ⟨rs, hri, hall, hr0, hr6⟩ := okRow_is (hrs d0 hmem).1
        have hsq : isSeqD d0 = true := by cases d0 <;> first | rfl | cases hri
        obtain ⟨a0, zs, ds0, rfl, hz, hza, hd0⟩ := dp_seq hdv hsq
        have hds0 : ds0 = rs := by
          rcases hd0 with rfl | rfl
          · exact Option.some.inj hri
          · exact Option.some.inj hri
        subst hds0
        have hri' : (rowsD ds')[i]? = some ds0 := rowsD_at hdi hri
        refine ⟨rfl, _, rfl, a0, rfl, ?_⟩
        rcases hz with hz | hz
        · refine .inl ⟨⟨zs, hz.ext eJ⟩, steps_list (xs := zs) (fun j J2 => ∃ us, Ext G J2 ∧ J2 C = some (.lst us) ∧ DpAll K J2 us (((rowsD ds').take i).flatten ++ ds0.take j)) ⟨us, eJ, hCJ, by rw [List.take_zero, List.append_nil]; exact hus⟩ (fun j J2 _ pv => by obtain ⟨_, e, _⟩ := pv; exact hz.ext e) (fun j u J2 hj pv => ?_) (fun J2 pv => ?_)⟩
          · obtain ⟨us2, eJ2, hC2, hus2⟩ := pv
            obtain ⟨du, hdu, hdd⟩ := dps_get (dps_ext eJ2 _ _ hza) hj
            have hul := dps_len hus2
            have hfl := flat_len (L := (rowsD ds').take i) fun r hr => hr6' r (List.mem_of_mem_take hr)
            have htl := List.length_take_le' j ds0
            have hti := List.length_take_le' i (rowsD ds')
            rw [List.length_append] at hul
            refine ⟨rfl, u, rfl, us2, hC2, small_sz (by rw [rowsD_len] at hti; omega), us2 ++ [u], ext_mut eJ2 hC, upd_same, ?_⟩
            refine lets_keep (H := J2) (fun a zs h => sqT_mutL hC2 (fun x o hx ho => by rw [upd_ne hx]; exact ho) h) (fun z hz => ?_) ?_
            · rcases List.mem_append.mp hz with hz | hz
              · obtain ⟨r, hr, hz⟩ := List.mem_flatten.mp hz
                exact hlets r (List.mem_of_mem_take hr) z hz
              · exact List.all_eq_true.mp hall z (List.mem_of_mem_take hz)
            · rw [L2.take_snoc hdu, ← List.append_assoc]
              exact dps_snoc hdd hus2
          · obtain ⟨us2, eJ2, hC2, hus2⟩ := pv
            refine ⟨us2, eJ2, hC2, ?_⟩
            rw [L2.take_snoc hri', List.flatten_append]
            rw [List.take_of_length_le (l := ds0) (by rw [dps_len hza]; exact Nat.le_refl _)] at hus2
            show DpAll K J2 us2 (((rowsD ds').take i).flatten ++ (ds0 ++ []))
            rw [List.append_nil]
            exact hus2
        · refine .inr ⟨⟨zs, hz.ext eJ⟩, steps_tup (xs := zs) (fun j J2 => ∃ us, Ext G J2 ∧ J2 C = some (.lst us) ∧ DpAll K J2 us (((rowsD ds').take i).flatten ++ ds0.take j)) ⟨us, eJ, hCJ, by rw [List.take_zero, List.append_nil]; exact hus⟩ (fun j J2 _ pv => by obtain ⟨_, e, _⟩ := pv; exact hz.ext e) (fun j u J2 hj pv => ?_) (fun J2 pv => ?_)⟩
          · obtain ⟨us2, eJ2, hC2, hus2⟩ := pv
            obtain ⟨du, hdu, hdd⟩ := dps_get (dps_ext eJ2 _ _ hza) hj
            have hul := dps_len hus2
            have hfl := flat_len (L := (rowsD ds').take i) fun r hr => hr6' r (List.mem_of_mem_take hr)
            have htl := List.length_take_le' j ds0
            have hti := List.length_take_le' i (rowsD ds')
            rw [List.length_append] at hul
            refine ⟨rfl, u, rfl, us2, hC2, small_sz (by rw [rowsD_len] at hti; omega), us2 ++ [u], ext_mut eJ2 hC, upd_same, ?_⟩
            refine lets_keep (H := J2) (fun a zs h => sqT_mutL hC2 (fun x o hx ho => by rw [upd_ne hx]; exact ho) h) (fun z hz => ?_) ?_
            · rcases List.mem_append.mp hz with hz | hz
              · obtain ⟨r, hr, hz⟩ := List.mem_flatten.mp hz
                exact hlets r (List.mem_of_mem_take hr) z hz
              · exact List.all_eq_true.mp hall z (List.mem_of_mem_take hz)
            · rw [L2.take_snoc hdu, ← List.append_assoc]
              exact dps_snoc hdd hus2
          · obtain ⟨us2, eJ2, hC2, hus2⟩ := pv
            refine ⟨us2, eJ2, hC2, ?_⟩
            rw [L2.take_snoc hri', List.flatten_append]
            rw [List.take_of_length_le (l := ds0) (by rw [dps_len hza]; exact Nat.le_refl _)] at hus2
            show DpAll K J2 us2 (((rowsD ds').take i).flatten ++ (ds0 ++ []))
            rw [List.append_nil]
            exact hus2
      · obtain ⟨us, eJ, hCJ, hus⟩ := pv
        rw [List.take_of_length_le (by rw [hxl, rowsD_len]; exact Nat.le_refl _)] at hus
        refine ⟨C, us, rfl, .inl ⟨SqL.of hCJ, fun l2 hl2 => ?_⟩⟩
        have e3 := eJ.trans (Ext.upd (o := .tup us) hl2)
        have hpl2 : p ≠ l2 := fun z => by rw [← z] at hl2; rw [eJ _ _ hG2] at hl2; cases hl2
        refine ⟨_, rfl, p, A.Mail, dx, _, rfl, e3 _ _ hG2, T.Mail.cl, T.m_letters, (by show 1 < 1000; decide), ?_⟩
        have hp3 := e3 _ _ hG2
        have kq : ∀ x o, x ≠ p → upd J l2 (.tup us) x = some o → upd (upd J l2 (.tup us)) p (.ins A.Mail dx (putF "letters" (V.ref l2) [("rows", .ref l)])) x = some o := fun x o hx ho => by rw [upd_ne hx]; exact ho
        refine q _ ⟨dx, l, l2, upd_same, dp_mutI hp3 kq (.tup (SqT.of (e3 _ _ hG1)) (dps_ext e3 _ _ hrw)), dp_mutI hp3 kq (.tup (SqT.of upd_same) (dps_ext (Ext.upd hl2) _ _ hus)), hlets⟩ fun x o hx ho => kq x o hx (e3 _ _ (hkp x o hx ho))
    · refine .inr ⟨⟨xs, hx3⟩, fun C hC => steps_tup (xs := xs) (fun i J => ∃ zs, Ext G J ∧ J C = some (.lst zs) ∧ DpAll K J zs ((rowsD ds').take i).flatten) ⟨[], Ext.upd hC, upd_same, .nil⟩ (fun i J _ pv => by obtain ⟨_, e, _⟩ := pv; exact hx3.ext e) (fun i x J hi pv => ?_) (fun J pv => ?_)⟩
      · obtain ⟨us, eJ, hCJ, hus⟩ := pv
        obtain ⟨d0, hdi, hdv⟩ := dps_get ha3 hi
        have hmem := List.mem_of_getElem? hdi
        obtain ⟨rs, hri, hall, hr0, hr6⟩ := okRow_is (hrs d0 hmem).1
        have hsq : isSeqD d0 = true := by cases d0 <;> first | rfl | cases hri
        obtain ⟨a0, zs, ds0, rfl, hz, hza, hd0⟩ := dp_seq hdv hsq
        have hds0 : ds0 = rs := by
          rcases hd0 with rfl | rfl
          · exact Option.some.inj hri
          · exact Option.some.inj hri
        subst hds0
        have hri' : (rowsD ds')[i]? = some ds0 := rowsD_at hdi hri
        refine ⟨rfl, _, rfl, a0, rfl, ?_⟩
        rcases hz with hz | hz
        · refine .inl ⟨⟨zs, hz.ext eJ⟩, steps_list (xs := zs) (fun j J2 => ∃ us, Ext G J2 ∧ J2 C = some (.lst us) ∧ DpAll K J2 us (((rowsD ds').take i).flatten ++ ds0.take j)) ⟨us, eJ, hCJ, by rw [List.take_zero, List.append_nil]; exact hus⟩ (fun j J2 _ pv => by obtain ⟨_, e, _⟩ := pv; exact hz.ext e) (fun j u J2 hj pv => ?_) (fun J2 pv => ?_)⟩
          · obtain ⟨us2, eJ2, hC2, hus2⟩ := pv
            obtain ⟨du, hdu, hdd⟩ := dps_get (dps_ext eJ2 _ _ hza) hj
            have hul := dps_len hus2
            have hfl := flat_len (L := (rowsD ds').take i) fun r hr => hr6' r (List.mem_of_mem_take hr)
            have htl := List.length_take_le' j ds0
            have hti := List.length_take_le' i (rowsD ds')
            rw [List.length_append] at hul
            refine ⟨rfl, u, rfl, us2, hC2, small_sz (by rw [rowsD_len] at hti; omega), us2 ++ [u], ext_mut eJ2 hC, upd_same, ?_⟩
            refine lets_keep (H := J2) (fun a zs h => sqT_mutL hC2 (fun x o hx ho => by rw [upd_ne hx]; exact ho) h) (fun z hz => ?_) ?_
            · rcases List.mem_append.mp hz with hz | hz
              · obtain ⟨r, hr, hz⟩ := List.mem_flatten.mp hz
                exact hlets r (List.mem_of_mem_take hr) z hz
              · exact List.all_eq_true.mp hall z (List.mem_of_mem_take hz)
            · rw [L2.take_snoc hdu, ← List.append_assoc]
              exact dps_snoc hdd hus2
          · obtain ⟨us2, eJ2, hC2, hus2⟩ := pv
            refine ⟨us2, eJ2, hC2, ?_⟩
            rw [L2.take_snoc hri', List.flatten_append]
            rw [List.take_of_length_le (l := ds0) (by rw [dps_len hza]; exact Nat.le_refl _)] at hus2
            show DpAll K J2 us2 (((rowsD ds').take i).flatten ++ (ds0 ++ []))
            rw [List.append_nil]
            exact hus2
        · refine .inr ⟨⟨zs, hz.ext eJ⟩, steps_tup (xs := zs) (fun j J2 => ∃ us, Ext G J2 ∧ J2 C = some (.lst us) ∧ DpAll K J2 us (((rowsD ds').take i).flatten ++ ds0.take j)) ⟨us, eJ, hCJ, by rw [List.take_zero, List.append_nil]; exact hus⟩ (fun j J2 _ pv => by obtain ⟨_, e, _⟩ := pv; exact hz.ext e) (fun j u J2 hj pv => ?_) (fun J2 pv => ?_)⟩
          · obtain ⟨us2, eJ2, hC2, hus2⟩ := pv
            obtain ⟨du, hdu, hdd⟩ := dps_get (dps_ext eJ2 _ _ hza) hj
            have hul := dps_len hus2
            have hfl := flat_len (L := (rowsD ds').take i) fun r hr => hr6' r (List.mem_of_mem_take hr)
            have htl := List.length_take_le' j ds0
            have hti := List.length_take_le' i (rowsD ds')
            rw [List.length_append] at hul
            refine ⟨rfl, u, rfl, us2, hC2, small_sz (by rw [rowsD_len] at hti; omega), us2 ++ [u], ext_mut eJ2 hC, upd_same, ?_⟩
            refine lets_keep (H := J2) (fun a zs h => sqT_mutL hC2 (fun x o hx ho => by rw [upd_ne hx]; exact ho) h) (fun z hz => ?_) ?_
            · rcases List.mem_append.mp hz with hz | hz
              · obtain ⟨r, hr, hz⟩ := List.mem_flatten.mp hz
                exact hlets r (List.mem_of_mem_take hr) z hz
              · exact List.all_eq_true.mp hall z (List.mem_of_mem_take hz)
            · rw [L2.take_snoc hdu, ← List.append_assoc]
              exact dps_snoc hdd hus2
          · obtain ⟨us2, eJ2, hC2, hus2⟩ := pv
            refine ⟨us2, eJ2, hC2, ?_⟩
            rw [L2.take_snoc hri', List.flatten_append]
            rw [List.take_of_length_le (l := ds0) (by rw [dps_len hza]; exact Nat.le_refl _)] at hus2
            show DpAll K J2 us2 (((rowsD ds').take i).flatten ++ (ds0 ++ []))
            rw [List.append_nil]
            exact hus2
      · obtain ⟨us, eJ, hCJ, hus⟩ := pv
        rw [List.take_of_length_le (by rw [hxl, rowsD_len]; exact Nat.le_refl _)] at hus
        refine ⟨C, us, rfl, .inl ⟨SqL.of hCJ, fun l2 hl2 => ?_⟩⟩
        have e3 := eJ.trans (Ext.upd (o := .tup us) hl2)
        have hpl2 : p ≠ l2 := fun z => by rw [← z] at hl2; rw [eJ _ _ hG2] at hl2; cases hl2
        refine ⟨_, rfl, p, A.Mail, dx, _, rfl, e3 _ _ hG2, T.Mail.cl, T.m_letters, (by show 1 < 1000; decide), ?_⟩
        have hp3 := e3 _ _ hG2
        have kq : ∀ x o, x ≠ p → upd J l2 (.tup us) x = some o → upd (upd J l2 (.tup us)) p (.ins A.Mail dx (putF "letters" (V.ref l2) [("rows", .ref l)])) x = some o := fun x o hx ho => by rw [upd_ne hx]; exact ho
        refine q _ ⟨dx, l, l2, upd_same, dp_mutI hp3 kq (.tup (SqT.of (e3 _ _ hG1)) (dps_ext e3 _ _ hrw)), dp_mutI hp3 kq (.tup (SqT.of upd_same) (dps_ext (Ext.upd hl2) _ _ hus)), hlets⟩ fun x o hx ho => kq x o hx (e3 _ _ (hkp x o hx ho))
end
end K02

set_option Elab.async false
set_option maxRecDepth 100000
set_option maxHeartbeats 4000000
namespace K02
open PySem PySem.Spec PyProof.Rows L2
section
variable {P : Program} {w : World} {K : PySem.W.Frag} {mg : Str → Option Value} {base : Heap} {A : Ad}
def spMEq (K : PySem.W.Frag) (A : Ad) : Sp := fun vs H Q _ => ∃ m L v, vs = [.ref m, v] ∧ MailAt K A H m L ∧ ((∃ m2 L2, v = .ref m2 ∧ MailAt K A H m2 L2 ∧ SeqAt.shaped (.tuple (L.map PyData.tuple)) = true ∧ SeqAt.shaped (.tuple (L2.map PyData.tuple)) = true ∧ Q (.bl (PyData.eqvAll (L.map PyData.tuple) (L2.map PyData.tuple))) H) ∨ ∃ d, Dp K H v d ∧ Q (.bl false) H)
theorem ok_meq {f : Addr} {fd : FuncData} (F : Fun K "__eq__" "Mail.__eq__" s_Mail_eq f fd) (T : Txt K mg A) : FnOk P w K mg base CX0 1 f fd pm_Mail_eq (spMEq K A) := by
  refine F.ok sc_Mail_eq (fun vs H Q E h => ?_) (fun cdv A' outer sh H vs Q E hr h => ?_)
  · obtain ⟨_, _, _, rfl, _⟩ := h
    rfl
  · obtain ⟨m, L, v, rfl, ⟨dx, pr, pl, hm, hpr, hpl, hlet⟩, h⟩ := h
    refine ⟨_, pss_one (ps_ret (pe_and (pe_callB call_isi (by rfl) T.n_isinstance (by decide +kernel) (pa_cons (pv 1) (pa_cons (pe_gcls T.Mail.gC) pa_nil))) (pe_one (pe_cmpR (op_eqD hr.units) (pe_fld (pv 0) rfl) (pe_fld (pv 1) rfl) (nomark _))))), ?_⟩
    rcases h with ⟨m2, L2, rfl, ⟨dy, pr2, pl2, hm2, hpr2, hpl2, hlet2⟩, s1, s2, q⟩ | ⟨d, hd, q⟩
    · refine ⟨_, rfl, _, .ref A.Mail, .ref A.Mail, .ref A.Mail, true, rfl, .own _, T.Mail.tyOf hm2, T.Mail.me, _, rfl, ?_⟩
      exact iteT ⟨_, rfl, m, A.Mail, dx, _, _, rfl, hm, T.Mail.cl, T.m_rows, rfl, _, rfl, m2, A.Mail, dy, _, _, rfl, hm2, T.Mail.cl, T.m_rows, rfl, _, _, hpr, hpr2, s1, s2, q⟩
    · refine ⟨_, rfl, _, .ref A.Mail, .type (tnD d), .ref A.Mail, false, rfl, .own _, dp_ty hd, T.Mail.kitB (sub_ty_ref kd_find) rfl, _, rfl, ?_⟩
      exact iteF q
end
end K02

set_option Elab.async false
set_option maxRecDepth 100000
set_option maxHeartbeats 4000000
namespace K08
open PySem PySem.Spec PyProof.Rows L2 K02
section
variable {P : Program} {w : World} {K : PySem.W.Frag} {mg : Str → Option Value} {base : Heap} {A : Ad}
/-! kinds, told by the data -/
theorem kd_str {d : PyData} : PySem.W.kitOne K (.type (tnD d)) (.type "str") = some (isStrD d) := by cases d <;> exact kit_ty (by dsimp only [tnD, isStrD]; decide +kernel)
def spInteger (K : PySem.W.Frag) : Sp := fun vs H Q _ => ∃ v d, vs = [v] ∧ Dp K H v d ∧ Q (.bl (isIntD d && !isBoolD d)) H
theorem ok_integer {f : Addr} {fd : FuncData} (F : Fun K "is_integer" "is_integer" s_is_integer f fd) (T : Txt K mg A) : FnOk P w K mg base CX0 1 f fd pm_is_integer (spInteger K) := by
  refine F.ok sc_is_integer (fun vs H Q E h => ?_) (fun cdv A' outer s H vs Q E hr h => ?_)
  · obtain ⟨v, k, rfl, _⟩ := h
    rfl
  · obtain ⟨v, d, rfl, hk, q⟩ := h
    refine ⟨_, pss_one (ps_ret (pe_and (pe_callB call_isi (by rfl) T.n_isinstance (by decide +kernel) (pa_cons (pv 0) (pa_cons (pe_bltn (v := .ty "int") (by rfl) T.n_int (by decide +kernel) rfl) pa_nil))) (pe_one (pe_not (pe_callB call_isi (by rfl) T.n_isinstance (by decide +kernel) (pa_cons (pv 0) (pa_cons (pe_bltn (v := .ty "bool") (by rfl) T.n_bool (by decide +kernel) rfl) pa_nil))))))), ?_⟩
    refine ⟨v, rfl, v, .ty "int", .type (tnD d), .type "int", isIntD d, rfl, .ty _, dp_ty hk, kd_int, _, rfl, ?_⟩
    cases h1 : isIntD d with
    | true =>
      rw [h1] at q
      exact iteT ⟨v, rfl, v, .ty "bool", .type (tnD d), .type "bool", isBoolD d, rfl, .ty _, dp_ty hk, kd_bool, _, rfl, q⟩
    | false =>
      rw [h1] at q
      exact iteF q
def spBetween (K : PySem.W.Frag) : Sp := fun vs H Q _ => ∃ v d a b, vs = [v, .int a, .int b] ∧ Dp K H v d ∧ Q (.bl (betD d a b)) H
theorem ok_between {f : Addr} {fd : FuncData} (F : Fun K "is_between" "is_between" s_is_between f fd) (O_is_integer : Own P w K mg base CX0 "is_integer" 1 pm_is_integer (spInteger K)) : FnOk P w K mg base CX0 2 f fd pm_is_between (spBetween K) := by
  refine F.ok sc_is_between (fun vs H Q E h => ?_) (fun cdv A' outer s H vs Q E hr h => ?_)
  · obtain ⟨v, k, a, b, rfl, _⟩ := h
    rfl
  · obtain ⟨v, d, a, b, rfl, hk, q⟩ := h
    refine ⟨_, pss_one (ps_ret (pe_and (pe_own O_is_integer (hr.mono (by decide)) pass0 (pa_cons (pv 0) pa_nil)) (pe_one (pe_chain op_le op_le (pv 1) (pv 0) (pv 2))))), ?_⟩
    refine ⟨v, rfl, v, d, rfl, hk, _, rfl, ?_⟩
    cases h1 : (isIntD d && !isBoolD d) with
    | true =>
      obtain ⟨n, rfl⟩ := int_yes h1
      obtain rfl := dp_int hk
      refine iteT ⟨_, rfl, _, rfl, _, _, rfl, rfl, _, rfl, ?_⟩
      rw [bet_int] at q
      cases h2 : decide (a ≤ n) with
      | true =>
        rw [h2] at q
        exact iteT ⟨_, rfl, _, _, rfl, rfl, q⟩
      | false =>
        rw [h2] at q
        exact iteF q
    | false =>
      rw [bet_not h1] at q
      exact iteF q
def spIsList (K : PySem.W.Frag) : Sp := fun vs H Q _ => ∃ v t k, vs = [v] ∧ (∀ H', Ext H H' → TyX K H' v t) ∧ PySem.W.kitAny K t [.type "list", .type "tuple"] = some k ∧ ∀ H', Ext H H' → Q (.bl k) H'
theorem ok_isList {f : Addr} {fd : FuncData} (F : Fun K "is_list" "is_list" s_is_list f fd) (T : Txt K mg A) : FnOk P w K mg base CX0 1 f fd pm_is_list (spIsList K) := by
  refine F.ok sc_is_list (fun vs H Q E h => ?_) (fun cdv A' outer s H vs Q E hr h => ?_)
  · obtain ⟨v, t, k, rfl, _⟩ := h
    rfl
  · obtain ⟨v, t, k, rfl, hk, hs, q⟩ := h
    refine ⟨_, pss_one (ps_ret (pe_callB call_isiT (by rfl) T.n_isinstance (by decide +kernel) (pa_cons (pv 0) (pa_cons (pe_tup (pa_cons (pe_bltn (v := .ty "list") (by rfl) T.n_list (by decide +kernel) rfl) (pa_cons (pe_bltn (v := .ty "tuple") (by rfl) T.n_tuple (by decide +kernel) rfl) pa_nil))) pa_nil)))), ?_⟩
    refine ⟨v, rfl, by show 2 ≤ sizeLine; decide, fun p hp => ?_⟩
    exact ⟨v, p, [.ty "list", .ty "tuple"], t, [.type "list", .type "tuple"], k, rfl, upd_same, .cons (.ty _) (.cons (.ty _) .nil), hk _ (Ext.upd hp), hs, q _ (Ext.upd hp)⟩
theorem dp_lenD {H : Hp} {xs : List V} {ds : List PyData} {d : PyData} (ha : DpAll K H xs ds) (h : d = .list ds ∨ d = .tuple ds) : lenD d = xs.length := by
  rw [dps_len ha]
  rcases h with rfl | rfl <;> rfl
theorem dvi {a b : Int} : decide (V.int a = V.int b) = decide (a = b) := by simp
theorem dvs {a b : Str} : decide (V.str a = V.str b) = decide (a = b) := by simp
theorem small_sz {n : Nat} (h : n ≤ 2000) : n < sizeLine := Nat.lt_of_le_of_lt h (by decide)
theorem all_map {β : Type} {xs : List β} {f : β → Bool} : xs.map (fun x => V.bl (f x)) = (xs.map f).map V.bl := by
  rw [List.map_map]
  rfl
theorem all_id {β : Type} {xs : List β} {f : β → Bool} : (xs.map f).all id = xs.all f := by
  rw [List.all_map]
  rfl
theorem kit_any2 {t a b : String} (h1 : kitB t a = some false) (h2 : kitB t b = some false) : PySem.W.kitAny K (.type t) [.type a, .type b] = some false :=
  kitAny_cons (kit_ty h1) (fun _ => kitAny_cons (kit_ty h2) (fun _ => rfl) fun h => nomatch h) fun h => nomatch h
/-- a dict stands for what is no data here -/
inductive Th (K : PySem.W.Frag) (H : Hp) (v : V) : Option PyData → Prop where
  | dat {d : PyData} (h : Dp K H v d) : Th K H v (some d)
  | dic {a : Addr} (e : v = .ref a) (h : H a = some (.dK [])) : Th K H v none
theorem Th.ext {H H' : Hp} {v : V} {o : Option PyData} (h : Th K H v o) (e : Ext H H') : Th K H' v o := by
  cases h with
  | dat h => exact .dat (dp_ext e _ _ h)
  | dic h1 h2 => exact .dic h1 (e _ _ h2)
def seqN : Option PyData → Option Nat
  | some (.list ds) => some ds.length
  | some (.tuple ds) => some ds.length
  | _ => none
def spListOf (K : PySem.W.Frag) : Sp := fun vs H Q _ => ∃ v o a b, vs = [v, .int a, .int b] ∧ Th K H v o ∧ ∀ H', Ext H H' → Q (.bl ((seqN o).elim false fun n => decide (a ≤ (n : Int)) && decide ((n : Int) ≤ b))) H'
theorem kd_seqN {d : PyData} : (seqN (some d)).isSome = isSeqD d := by cases d <;> rfl
theorem ok_listOf {f : Addr} {fd : FuncData} (F : Fun K "is_list_of" "is_list_of" s_is_list_of f fd) (T : Txt K mg A) (O_is_list : Own P w K mg base CX0 "is_list" 1 pm_is_list (spIsList K)) : FnOk P w K mg base CX0 2 f fd pm_is_list_of (spListOf K) := by
  refine F.ok sc_is_list_of (fun vs H Q E h => ?_) (fun cdv A' outer s H vs Q E hr h => ?_)
  · obtain ⟨_, _, _, _, rfl, _⟩ := h
    rfl
  · obtain ⟨v, o, a, b, rfl, ho, q⟩ := h
    refine ⟨_, pss_one (ps_ret (pe_and (pe_own O_is_list (hr.mono (by decide)) pass0 (pa_cons (pv 0) pa_nil)) (pe_one (pe_chain op_le op_le (pv 1) (pe_callB call_len_seq (by rfl) T.n_len (by decide +kernel) (pa_cons (pv 0) pa_nil)) (pv 2))))), ?_⟩
    cases ho with
    | dic e hz =>
      subst e
      exact ⟨_, rfl, _, .type "dict", false, rfl, fun H' e => .base (.dK (e _ _ hz)), kit_any2 (by decide +kernel) (by decide +kernel), fun H' e => ⟨_, rfl, iteF (q H' e)⟩⟩
    | @dat d hd =>
      refine ⟨v, rfl, v, .type (tnD d), isSeqD d, rfl, fun H' e => dp_ty (dp_ext e _ _ hd), by rw [kd_seq], fun H1 e1 => ⟨_, rfl, ?_⟩⟩
      have q1 := q H1 e1
      cases h1 : isSeqD d with
      | false =>
        rw [show seqN (some d) = none from (by cases d <;> first | rfl | cases h1)] at q1
        exact iteF q1
      | true =>
        obtain ⟨p, xs, ds, rfl, hx, ha, hdd⟩ := dp_seq (dp_ext e1 _ _ hd) h1
        have hn : seqN (some d) = some xs.length := by
          rw [dps_len ha]
          rcases hdd with rfl | rfl <;> rfl
        rw [hn] at q1
        replace q1 : Q (.bl (decide (a ≤ (xs.length : Int)) && decide ((xs.length : Int) ≤ b))) H1 := q1
        refine iteT ⟨_, rfl, _, rfl, p, xs, rfl, hx, _, _, rfl, rfl, _, rfl, ?_⟩
        cases h2 : decide (a ≤ (xs.length : Int)) with
        | true =>
          rw [h2] at q1
          exact iteT ⟨_, rfl, _, _, rfl, rfl, q1⟩
        | false =>
          rw [h2] at q1
          exact iteF q1
def spLesser : Sp := fun vs H Q _ => ∃ a b : Int, vs = [.int a, .int b] ∧ Q (.int (min a b)) H
end
end K08

set_option Elab.async false
set_option maxRecDepth 100000
set_option maxHeartbeats 4000000
namespace K08
open PySem PySem.Spec PyProof.Rows L2 K02
/-! what a row of bounds tells, told plainly -/
def told (bs : List Int) (f : Int) : Int := bs.foldl (fun a b => if b ≤ f then b else a) 0
def OkB (bs : List Int) : Prop := 1 ≤ bs.length ∧ bs.length ≤ 4 ∧ (∀ b ∈ bs, 1 ≤ b ∧ b ≤ 60) ∧ bs.Pairwise (· < ·)
theorem mxD_cons {b : Int} {l : List Int} (h : ∀ x ∈ l, b < x) : mxD b l = l.foldl max b := by
  cases l with
  | nil => rfl
  | cons n ns =>
    have := h n List.mem_cons_self
    show ns.foldl max n = ns.foldl max (max b n)
    rw [show max b n = n by omega]
theorem fold_max {f : Int} : ∀ (bs : List Int) (a : Int), (∀ b ∈ bs, a < b) → bs.Pairwise (· < ·) → bs.foldl (fun a b => if b ≤ f then b else a) a = mxD a (bs.filter fun b => decide (b ≤ f))
  | [], _, _, _ => rfl
  | b :: bs, a, ha, hp => by
    rw [List.pairwise_cons] at hp
    rw [List.foldl_cons]
    by_cases hb : b ≤ f
    · rw [if_pos hb, List.filter_cons_of_pos (by rw [decide_eq_true hb]), fold_max bs b hp.1 hp.2]
      exact mxD_cons fun x hx => hp.1 x (List.mem_filter.mp hx).1
    · rw [if_neg hb, List.filter_cons_of_neg (by rw [decide_eq_false hb]; exact Bool.false_ne_true)]
      exact fold_max bs a (fun x hx => ha x (List.mem_cons_of_mem _ hx)) hp.2
theorem told_max {bs : List Int} (h : OkB bs) (f : Int) : mxD 0 (bs.filter fun b => decide (b ≤ f)) = told bs f :=
  (fold_max bs 0 (fun b hb => by have := (h.2.2.1 b hb).1; omega) h.2.2.2).symm
def under (bs os : List Int) : Bool := (List.range 61).all fun f => decide (told bs (f : Int) ≤ told os (f : Int))
theorem fold_bd {f : Int} : ∀ (bs : List Int) (a : Int), 0 ≤ a → a ≤ 60 → (∀ b ∈ bs, 1 ≤ b ∧ b ≤ 60) → 0 ≤ bs.foldl (fun a b => if b ≤ f then b else a) a ∧ bs.foldl (fun a b => if b ≤ f then b else a) a ≤ 60
  | [], _, h1, h2, _ => ⟨h1, h2⟩
  | b :: bs, a, h1, h2, h => by
    have hb := h b List.mem_cons_self
    rw [List.foldl_cons]
    refine fold_bd bs _ ?_ ?_ fun x hx => h x (List.mem_cons_of_mem _ hx)
    · split <;> omega
    · split <;> omega
/-- the thing at place i may stand there, behind those that may -/
def okAt (ds : List PyData) (i : Nat) : Bool := match ds[i]? with
  | some (.int n) => (decide (1 ≤ n) && decide (n ≤ 60)) && (decide (i = 0) || match ds[i - 1]? with | some (.int m) => decide (m < n) | _ => false)
  | _ => false
theorem okAt_int {ds : List PyData} {i : Nat} (h : okAt ds i = true) : ∃ n, ds[i]? = some (.int n) ∧ 1 ≤ n ∧ n ≤ 60 ∧ (i = 0 ∨ ∃ m, ds[i - 1]? = some (.int m) ∧ m < n) := by
  unfold okAt at h
  split at h
  case h_1 n e =>
    rw [Bool.and_eq_true, Bool.and_eq_true, Bool.or_eq_true, decide_eq_true_eq, decide_eq_true_eq, decide_eq_true_eq] at h
    refine ⟨n, e, h.1.1, h.1.2, ?_⟩
    rcases h.2 with h2 | h2
    · exact .inl h2
    · split at h2
      case h_1 m e2 => exact .inr ⟨m, e2, of_decide_eq_true h2⟩
      case h_2 => cases h2
  case h_2 => cases h
theorem okAt_val {ds : List PyData} {i : Nat} {n : Int} (h : ds[i]? = some (.int n)) : okAt ds i = ((decide (1 ≤ n) && decide (n ≤ 60)) && (decide (i = 0) || match ds[i - 1]? with | some (.int m) => decide (m < n) | _ => false)) := by
  unfold okAt
  rw [h]
theorem ints_of : ∀ {ds : List PyData}, (∀ i, i < ds.length → ∃ n : Int, ds[i]? = some (.int n)) → ∃ bs : List Int, ds = bs.map .int
  | [], _ => ⟨[], rfl⟩
  | d :: ds, h => by
    obtain ⟨n, hn⟩ := h 0 (Nat.zero_lt_succ _)
    obtain ⟨bs, rfl⟩ := ints_of (ds := ds) fun i hi => by
      obtain ⟨m, hm⟩ := h (i + 1) (Nat.succ_lt_succ hi)
      exact ⟨m, by rw [List.getElem?_cons_succ] at hm; exact hm⟩
    rw [List.getElem?_cons_zero] at hn
    cases hn
    exact ⟨n :: bs, rfl⟩
theorem pw_adj : ∀ {bs : List Int}, (∀ i a b, bs[i]? = some a → bs[i + 1]? = some b → a < b) → bs.Pairwise (· < ·)
  | [], _ => .nil
  | [a], _ => List.pairwise_singleton _ _
  | a :: b :: bs, h => by
    have ih := pw_adj (bs := b :: bs) fun i x y hx hy => h (i + 1) x y (by rw [List.getElem?_cons_succ]; exact hx) (by rw [List.getElem?_cons_succ]; exact hy)
    have hab := h 0 a b rfl rfl
    refine List.pairwise_cons.mpr ⟨fun x hx => ?_, ih⟩
    rcases List.mem_cons.mp hx with rfl | hx
    · exact hab
    · have := (List.pairwise_cons.mp ih).1 x hx
      omega
theorem ok_all {ds : List PyData} (h1 : 1 ≤ ds.length) (h4 : ds.length ≤ 4) (h : ∀ i, i < ds.length → okAt ds i = true) : ∃ bs : List Int, ds = bs.map .int ∧ OkB bs := by
  obtain ⟨bs, rfl⟩ := ints_of (ds := ds) fun i hi => by
    obtain ⟨n, hn, _⟩ := okAt_int (h i hi)
    exact ⟨n, hn⟩
  rw [List.length_map] at h1 h4 h
  refine ⟨bs, rfl, h1, h4, fun b hb => ?_, pw_adj fun i a b ha hb => ?_⟩
  · obtain ⟨i, hi⟩ := List.getElem?_of_mem hb
    obtain ⟨n, hn, n1, n2, _⟩ := okAt_int (h i (List.getElem?_eq_some_iff.mp hi).1)
    rw [List.getElem?_map, hi] at hn
    cases hn
    exact ⟨n1, n2⟩
  · obtain ⟨n, hn, _, _, hz⟩ := okAt_int (h (i + 1) (List.getElem?_eq_some_iff.mp hb).1)
    rw [List.getElem?_map, hb] at hn
    cases hn
    rcases hz with hz | ⟨m, hm, hlt⟩
    · omega
    · rw [Nat.add_sub_cancel, List.getElem?_map, ha] at hm
      cases hm
      exact hlt
theorem all_ok {bs : List Int} (g : OkB bs) {i : Nat} (hi : i < bs.length) : okAt (bs.map PyData.int) i = true := by
  have hx : bs[i]? = some bs[i] := List.getElem?_eq_getElem hi
  have hb := g.2.2.1 _ (List.getElem_mem hi)
  rw [okAt_val (n := bs[i]) (by rw [List.getElem?_map, hx]; rfl), decide_eq_true hb.1, decide_eq_true hb.2]
  cases i with
  | zero => rfl
  | succ j =>
    have hj : j < bs.length := by omega
    rw [Nat.add_sub_cancel, List.getElem?_map, List.getElem?_eq_getElem hj]
    have := List.pairwise_iff_getElem.mp g.2.2.2 j (j + 1) hj hi (Nat.lt_succ_self _)
    show (_ && (_ || decide (bs[j] < bs[j + 1]))) = true
    rw [decide_eq_true this, Bool.or_true]
    rfl
end K08

set_option Elab.async false
set_option maxRecDepth 100000
set_option maxHeartbeats 4000000
namespace K08
open PySem PySem.Spec PyProof.Rows L2 K02
def inN (o : Option PyData) : Bool := (seqN o).elim false fun n => decide ((1 : Int) ≤ (n : Int)) && decide ((n : Int) ≤ 4)
section
variable {P : Program} {w : World} {K : PySem.W.Frag} {mg : Str → Option Value} {base : Heap} {A : Ad}
def ErrS (A : Ad) (E : XK) (H : Hp) (v : V) : Prop := ∀ H', Ext H H' → ∀ e, H' e = none → E (.ref A.BadSteps) (some e) (upd H' e (.xd [("index", v)]))
def ErrN (A : Ad) (E : XK) (H : Hp) (v : V) : Prop := ∀ H', Ext H H' → ∀ e, H' e = none → E (.ref A.BadNumber) (some e) (upd H' e (.xd [("number", v)]))
def ErrP (A : Ad) (E : XK) (H : Hp) (x : Str) : Prop := ∀ H', Ext H H' → ∀ e, H' e = none → E (.ref A.BadPart) (some e) (upd H' e (.xd [("part", .str x)]))
def ErrM (A : Ad) (E : XK) (H : Hp) : Prop := ∀ H', Ext H H' → ∀ e, H' e = none → E (.ref A.TooMany) (some e) (upd H' e (.xd [("limit", .int 4)]))
def StAt (K : PySem.W.Frag) (A : Ad) (H : Hp) (s : Addr) (bs : List Int) : Prop := ∃ dx pb, H s = some (.ins A.Steps dx [("bounds", .ref pb)]) ∧ SqT K H pb (bs.map V.int)
theorem StAt.ext {H H' : Hp} {s : Addr} {bs : List Int} (h : StAt K A H s bs) (e : Ext H H') : StAt K A H' s bs := by
  obtain ⟨dx, pb, h1, h2⟩ := h
  exact ⟨dx, pb, e _ _ h1, h2.ext e⟩
structure StI (K : PySem.W.Frag) (A : Ad) (vs : List V) (H : Hp) (Q : VK) (E : XK) : Prop where
  h : ∃ (p dx : Addr) (v : V) (o : Option PyData), vs = [.ref p, v] ∧ H p = some (.ins A.Steps dx []) ∧ Th K H v o ∧ (inN o = false → ErrS A E H .non) ∧
    (∀ ds, (o = some (.list ds) ∨ o = some (.tuple ds)) → inN o = true → (∀ i : Nat, i < ds.length → (∀ j, j < i → okAt ds j = true) → okAt ds i = false → ErrS A E H (.int (i : Int))) ∧
      ∀ bs : List Int, ds = bs.map .int → OkB bs → ∀ H', StAt K A H' p bs → (∀ x o, x ≠ p → H x = some o → H' x = some o) → Q .non H')
def spStepsInit (K : PySem.W.Frag) (A : Ad) : Sp := fun vs H Q E => StI K A vs H Q E
theorem sqT_mut {H H' : Hp} {p a C dx : Addr} {fs : List (Str × V)} {xs : List V} (hp : H p = some (.ins C dx fs)) (e : ∀ x o, x ≠ p → H x = some o → H' x = some o) (h : SqT K H a xs) : SqT K H' a xs := by
  rcases h with (h | ⟨o, h⟩) | h
  · exact .inl (.inl (e a _ (fun z => by rw [z, hp] at h; cases h) h))
  · exact .inl (.inr ⟨o, e a _ (fun z => by rw [z, hp] at h; cases h) h⟩)
  · exact .inr h
theorem dps_int {H : Hp} : ∀ {xs : List V} {bs : List Int}, DpAll K H xs (bs.map PyData.int) → xs = bs.map V.int
  | xs, [], h => by
    cases h
    rfl
  | xs, b :: bs, h => by
    cases h with
    | cons a1 a2 =>
      cases a1
      rw [dps_int a2]
      rfl
theorem okAt_bet {ds : List PyData} {i : Nat} {d : PyData} (h : ds[i]? = some d) (hb : betD d 1 60 = false) : okAt ds i = false := by
  unfold okAt
  rw [h]
  cases d with
  | int n =>
    rw [bet_int] at hb
    dsimp only
    rw [hb]
    rfl
  | _ => rfl
theorem dps_at {H : Hp} : ∀ {xs : List V} {ds : List PyData} {i : Nat} {d : PyData}, DpAll K H xs ds → ds[i]? = some d → ∃ x, xs[i]? = some x ∧ Dp K H x d
  | _, [], _, _, _, h => nomatch h
  | xs, d :: ds, i, d', h, hi => by
    cases h with
    | cons a1 a2 =>
      cases i with
      | zero =>
        cases hi
        exact ⟨_, rfl, a1⟩
      | succ i => exact dps_at (i := i) a2 hi
theorem ok_stepsInit {f : Addr} {fd : FuncData} (F : Fun K "__init__" "Steps.__init__" s_Steps_init f fd) (T : Txt K mg A) (O_is_list_of : Own P w K mg base CX0 "is_list_of" 2 pm_is_list_of (spListOf K)) (O_is_between : Own P w K mg base CX0 "is_between" 2 pm_is_between (spBetween K)) (X_BadSteps : XCls P w K mg base "BadSteps" "index" A.BadSteps) : FnOk P w K mg base (L2.CX P w) 3 f fd pm_Steps_init (spStepsInit K A) := by
  refine F.okX sc_Steps_init (fun vs H Q E h => ?_) (fun cdv A' outer sh H vs Q E hr h => ?_)
  · obtain ⟨_, _, _, _, rfl, _⟩ := h.h
    rfl
  · obtain ⟨p, dx, v, o, rfl, hp, hv, q1, q2⟩ := h.h
    refine ⟨_, pss_cons (ps_if (pt_not (pt_val (pe_own O_is_list_of (hr.mono (by decide)) pass0 (pa_cons (pv 1) (pa_cons (pe_int) (pa_cons (pe_gint T.g_MOST_BOUNDS) pa_nil)))))) (pss_one (ps_raise rfl (takes_of rfl rfl rfl rfl) (pmk_X X_BadSteps (hr.mono (by decide)) (pe_non) rfl))) (pss_nil))
      (pss_cons (ps_for (passes_of rfl) rfl (pi_enSq rfl T.n_enumerate (pa_cons (pv 1) pa_nil)) (pg_tup rfl (pgs_cons (pg_name (i := 2) sc_Steps_init.nd rfl (Or.inl rfl)) (pgs_cons (pg_name (i := 3) sc_Steps_init.nd rfl (Or.inl rfl)) (pgs_nil)))) (pss_one (ps_if (PW.pt (pw_or (pt_not (pt_val (pe_own O_is_between (hr.mono (by decide)) pass0 (pa_cons (pv 3) (pa_cons (pe_int) (pa_cons (pe_gint T.g_MOST_UNITS) pa_nil)))))) (pw_or1 (PW.pt (pw_and (pt_cmpR op_gt (pv 2) (pe_int) (nomark _)) (pw_and1 (pt_cmpR op_le (pv 3) (pe_either (pe_ix ix_list (pv 1) (pe_op op_sub (pv 2) (pe_int)) (fun _ _ => rfl)) (pe_ix ix_tup (pv 1) (pe_op op_sub (pv 2) (pe_int)) (fun _ _ => rfl))) (nomark _)))))))) (pss_one (ps_raise rfl (takes_of rfl rfl rfl rfl) (pmk_X X_BadSteps (hr.mono (by decide)) (pv 2) rfl))) (pss_nil))))
      (pss_one (ps_fld (pv 0) (pe_callTy call_tuple_of (by rfl) T.n_tuple (by decide +kernel) (pa_cons (pv 1) pa_nil)) rfl))), ?_⟩
    refine ⟨v, rfl, v, o, 1, 4, rfl, hv, fun H1 e1 => ⟨_, rfl, ?_⟩⟩
    rw [show ((seqN o).elim false fun n => decide ((1 : Int) ≤ (n : Int)) && decide ((n : Int) ≤ 4)) = inN o from rfl]
    cases hin : inN o with
    | false => exact iteT (mkX_fin fun e he => q1 hin _ e1 e he)
    | true =>
      refine iteF ?_
      cases hv with
      | dic _ _ => cases hin
      | @dat d hd =>
        have h1 : isSeqD d = true := by cases d <;> first | rfl | cases hin
        obtain ⟨a, xs, ds, rfl, hx, ha, hdd⟩ := dp_seq (dp_ext e1 _ _ hd) h1
        have hxl := dps_len ha
        have hn : 1 ≤ ds.length ∧ ds.length ≤ 4 := by
          have : inN (some d) = (decide ((1 : Int) ≤ (ds.length : Int)) && decide ((ds.length : Int) ≤ 4)) := by rcases hdd with rfl | rfl <;> rfl
          rw [this, Bool.and_eq_true, decide_eq_true_eq, decide_eq_true_eq] at hin
          omega
        obtain ⟨q2a, q2b⟩ := q2 ds (hdd.imp (fun h => by rw [h]) fun h => by rw [h]) hin
        clear q1 q2
        refine ⟨_, rfl, a, rfl, ?_⟩
        refine for_enSqM (H0 := H1) (xs := xs) hx (fun i σ' H' => Ext H1 H' ∧ ∃ o2 o3, σ' = [some (.ref p), some (.ref a), o2, o3] ∧ ∀ j, j < i → okAt ds j = true) ⟨Ext.rfl', _, _, rfl, fun j hj => absurd hj (Nat.not_lt_zero _)⟩ (fun i σ' H' pv => pv.1) (fun i x σ' H' T' hi pv hT => ?_) (fun σ' H' pv => ?_)
        · obtain ⟨e, o2, o3, rfl, hok⟩ := pv
          refine ⟨T', _, rfl, SqT.of upd_same, rfl, _, _, rfl, _, _, rfl, rfl, ?_⟩
          have e3 := e.upd' (o := .tup [.int (i : Nat), x]) hT
          generalize upd H' T' (.tup [.int (i : Nat), x]) = H3 at e3 ⊢
          have ha3 := dps_ext e3 _ _ ha
          have hx3 := hx.imp (fun h => h.ext e3) (fun h => h.ext e3)
          obtain ⟨d0, hdi, hdv⟩ := dps_get ha3 hi
          refine ⟨_, rfl, x, d0, 1, 60, rfl, hdv, _, rfl, ?_⟩
          cases hb : betD d0 1 60 with
          | false => exact iteT ⟨_, rfl, mkX_fin fun e he => q2a i (by have := (List.getElem?_eq_some_iff.mp hdi).1; omega) hok (okAt_bet hdi hb) _ (e1.trans e3) e he⟩
          | true =>
            obtain ⟨n, rfl, n1, n2⟩ := bet_yes hb
            obtain rfl := dp_int hdv
            refine iteF ⟨_, rfl, _, _, rfl, rfl, _, rfl, ?_⟩
            cases i with
            | zero =>
              rw [decide_eq_false (show ¬ ((0 : Nat) : Int) > 0 by omega)]
              refine iteF ⟨e3, _, _, rfl, fun j hj => ?_⟩
              obtain rfl : j = 0 := by omega
              rw [okAt_val hdi, decide_eq_true n1, decide_eq_true n2]
              rfl
            | succ j =>
              rw [decide_eq_true (show ((j + 1 : Nat) : Int) > 0 by omega)]
              obtain ⟨m, hm, _⟩ := okAt_int (hok j (Nat.lt_succ_self _))
              obtain ⟨xm, hxm, hdm⟩ := dps_at ha3 hm
              obtain rfl := dp_int hdm
              have hsub : ((j + 1 : Nat) : Int) - 1 = (j : Int) := by omega
              have hat : atI xs (((j + 1 : Nat) : Int) - 1) = some (V.int m) := by
                rw [hsub]
                exact atI_nat hxm
              have hval : okAt ds (j + 1) = decide (m < n) := by
                rw [okAt_val hdi, decide_eq_true n1, decide_eq_true n2, Nat.add_sub_cancel, hm]
                rfl
              refine iteT ⟨_, rfl, ?_⟩
              by_cases hlt : m < n
              · rw [decide_eq_true hlt] at hval
                have fin : ∀ k, k < j + 1 + 1 → okAt ds k = true := fun k hk => by
                  rcases Nat.lt_or_ge k (j + 1) with h | h
                  · exact hok k h
                  · obtain rfl : k = j + 1 := by omega
                    exact hval
                rcases hx3 with hl | hl
                · refine .inl ⟨_, rfl, _, rfl, _, _, rfl, rfl, a, xs, _, .int m, rfl, rfl, hl, hat, _, _, rfl, rfl, _, rfl, ?_⟩
                  rw [decide_eq_false (show ¬ n ≤ m by omega)]
                  exact iteF ⟨e3, _, _, rfl, fin⟩
                · refine .inr ⟨_, rfl, _, rfl, _, _, rfl, rfl, a, xs, _, .int m, rfl, rfl, hl, hat, _, _, rfl, rfl, _, rfl, ?_⟩
                  rw [decide_eq_false (show ¬ n ≤ m by omega)]
                  exact iteF ⟨e3, _, _, rfl, fin⟩
              · rw [decide_eq_false hlt] at hval
                have bad := q2a (j + 1) (by have := (List.getElem?_eq_some_iff.mp hdi).1; omega) hok hval _ (e1.trans e3)
                rcases hx3 with hl | hl
                · refine .inl ⟨_, rfl, _, rfl, _, _, rfl, rfl, a, xs, _, .int m, rfl, rfl, hl, hat, _, _, rfl, rfl, _, rfl, ?_⟩
                  rw [decide_eq_true (show n ≤ m by omega)]
                  exact iteT ⟨_, rfl, mkX_fin fun e he => bad e he⟩
                · refine .inr ⟨_, rfl, _, rfl, _, _, rfl, rfl, a, xs, _, .int m, rfl, rfl, hl, hat, _, _, rfl, rfl, _, rfl, ?_⟩
                  rw [decide_eq_true (show n ≤ m by omega)]
                  exact iteT ⟨_, rfl, mkX_fin fun e he => bad e he⟩
        · obtain ⟨e, o2, o3, rfl, hok⟩ := pv
          obtain ⟨bs, rfl, g⟩ := ok_all hn.1 hn.2 (fun i hi => hok i (by omega))
          obtain rfl := dps_int ha
          have e1e := e1.trans e
          have hp' := e1e _ _ hp
          rcases hx with hl | ht
          · refine ⟨_, rfl, a, _, rfl, .inl ⟨hl.ext e, fun t ht => ?_⟩⟩
            have et := Ext.upd (o := .tup (bs.map V.int)) ht
            have ht2 : L2.upd H' t (.tup (bs.map V.int)) t = some (.tup (bs.map V.int)) := upd_same
            have hp2 := et _ _ hp'
            have e2 := e1e.trans et
            generalize L2.upd H' t (.tup (bs.map V.int)) = H2 at ht2 hp2 e2 ⊢
            refine ⟨_, rfl, p, A.Steps, dx, _, rfl, hp2, T.Steps.cl, T.s_bounds, (by show 0 < 1000; decide), ?_⟩
            exact q2b bs rfl g _ ⟨dx, t, upd_same, sqT_mut hp2 (fun x o hx h => by rw [upd_ne hx]; exact h) (SqT.of ht2)⟩ fun x o hx ho => by rw [upd_ne hx]; exact e2 _ _ ho
          · refine ⟨_, rfl, a, _, rfl, .inr ⟨ht.ext e, ?_⟩⟩
            refine ⟨_, rfl, p, A.Steps, dx, _, rfl, hp', T.Steps.cl, T.s_bounds, (by show 0 < 1000; decide), ?_⟩
            exact q2b bs rfl g _ ⟨dx, a, upd_same, sqT_mut hp' (fun x o hx h => by rw [upd_ne hx]; exact h) (ht.ext e)⟩ fun x o hx ho => by rw [upd_ne hx]; exact e1e _ _ ho
end
end K08

set_option Elab.async false
set_option maxRecDepth 100000
set_option maxHeartbeats 4000000
namespace K08
open PySem PySem.Spec PyProof.Rows L2 K02
theorem okB_add {bs ns : List Int} {n : Int} (g : OkB bs) (hl : bs.length < 4) (h1 : 1 ≤ n) (h2 : n ≤ 60) (hn : n ∉ bs) (hp : ns.Perm (bs ++ [n])) (hs : ns.Pairwise (· ≤ ·)) : OkB ns := by
  have hlen := hp.length_eq
  rw [List.length_append] at hlen
  refine ⟨by rw [hlen]; exact Nat.le_add_left _ _, by rw [hlen]; exact hl, fun b hb => ?_, ?_⟩
  · rcases List.mem_append.mp (hp.mem_iff.mp hb) with h | h
    · exact g.2.2.1 b h
    · rw [List.mem_singleton.mp h]
      exact ⟨h1, h2⟩
  · have hnd : (bs ++ [n]).Nodup := by
      refine List.nodup_append.mpr ⟨g.2.2.2.imp fun {a b} h => by omega, List.pairwise_singleton _ _, fun a ha b hb => ?_⟩
      rw [List.mem_singleton.mp hb]
      exact fun e => hn (e ▸ ha)
    have hnd2 : ns.Nodup := hp.nodup_iff.mpr hnd
    exact (hs.and hnd2).imp fun {a b} h => by have := h.1; have := h.2; omega
section
variable {P : Program} {w : World} {K : PySem.W.Frag} {mg : Str → Option Value} {base : Heap} {A : Ad}
theorem dps_ints {H : Hp} {ns : List Int} : DpAll K H (ns.map V.int) (ns.map PyData.int) := by
  rw [← ints_pd]
  exact dp_all fl_ints
theorem mk_steps {H1 : Hp} {v : V} {d : PyData} {bs : List Int} {R : VK} {E : XK} {x0 dx : Addr} (hx0 : H1 x0 = none) (hdx : H1 dx = none) (hne : dx ≠ x0) (hv : Dp K H1 v d) (hd : d = .list (bs.map .int) ∨ d = .tuple (bs.map .int)) (g : OkB bs)
    (q : ∀ H', Ext H1 H' → StAt K A H' x0 bs → R .non H') : spStepsInit K A [.ref x0, v] (upd (upd H1 dx (.own x0)) x0 (.ins A.Steps dx [])) R E := by
  have e0 := (Ext.upd (o := .own x0) hdx).upd' (o := .ins A.Steps dx []) (by rw [upd_ne hne.symm]; exact hx0)
  have hb : inN (some d) = true := by
    have h1 := g.1
    have h2 := g.2.1
    have : inN (some d) = (decide ((1 : Int) ≤ ((bs.map PyData.int).length : Int)) && decide (((bs.map PyData.int).length : Int) ≤ 4)) := by rcases hd with rfl | rfl <;> rfl
    rw [this, List.length_map, decide_eq_true (by omega), decide_eq_true (by omega)]
    rfl
  refine ⟨x0, dx, v, some d, rfl, upd_same, .dat (dp_ext e0 _ _ hv), fun z => (by rw [hb] at z; cases z), fun ds hds _ => ?_⟩
  have he : ds = bs.map .int := by
    rcases hd with rfl | rfl <;> rcases hds with h | h <;> cases h <;> rfl
  subst he
  refine ⟨fun i hi _ hbad => ?_, fun bs' he g' H' hst hk => q H' (fun x o h => ?_) ?_⟩
  · rw [List.length_map] at hi
    rw [all_ok g hi] at hbad
    cases hbad
  · have hx : x ≠ x0 := ne_of_none h hx0
    refine hk x o hx ?_
    exact e0 _ _ h
  · have : bs = bs' := by
      have h := congrArg (List.filterMap fun d => match d with | PyData.int s => some s | _ => none) he
      rw [List.filterMap_map, List.filterMap_map] at h
      have z : ∀ l : List Int, l.filterMap ((fun d => match d with | PyData.int s => some s | _ => none) ∘ PyData.int) = l := fun l => List.filterMap_some
      rw [z, z] at h
      exact h
    rw [this]
    exact hst
def spCheckCap (K : PySem.W.Frag) (A : Ad) : Sp := fun vs H Q E => ∃ (v : V) (d : PyData), vs = [v] ∧ Dp K H v d ∧ (betD d 0 99 = false → ErrN A E H v) ∧ (betD d 0 99 = true → Q .non H)
def RmAt (K : PySem.W.Frag) (A : Ad) (H : Hp) (r : Addr) (z : Int) (bs : List Int) : Prop := ∃ dx s, H r = some (.ins A.Room dx [("size", .int z), ("steps", .ref s)]) ∧ StAt K A H s bs
theorem RmAt.ext {H H' : Hp} {r : Addr} {z : Int} {bs : List Int} (h : RmAt K A H r z bs) (e : Ext H H') : RmAt K A H' r z bs := by
  obtain ⟨dx, s, h1, h2⟩ := h
  exact ⟨dx, s, e _ _ h1, h2.ext e⟩
def spRoomInit (K : PySem.W.Frag) (A : Ad) : Sp := fun vs H Q E => ∃ (p dx : Addr) (v u : V) (d : PyData), vs = [.ref p, v, u] ∧ H p = some (.ins A.Room dx []) ∧ Dp K H v d ∧ (betD d 1 60 = false → ErrP A E H "size") ∧
  (betD d 1 60 = true → (∃ d', Dp K H u d' ∧ ErrP A E H "steps") ∨ ∃ s bs z, u = .ref s ∧ StAt K A H s bs ∧ d = .int z ∧ ∀ H', RmAt K A H' p z bs → (∀ x o, x ≠ p → H x = some o → H' x = some o) → Q .non H')
theorem ok_roomInit {f : Addr} {fd : FuncData} (F : Fun K "__init__" "Room.__init__" s_Room_init f fd) (T : Txt K mg A) (O_is_between : Own P w K mg base CX0 "is_between" 2 pm_is_between (spBetween K)) (X_BadPart : XCls P w K mg base "BadPart" "part" A.BadPart) : FnOk P w K mg base (L2.CX P w) 3 f fd pm_Room_init (spRoomInit K A) := by
  refine F.okX sc_Room_init (fun vs H Q E h => ?_) (fun cdv A' outer sh H vs Q E hr h => ?_)
  · obtain ⟨_, _, _, _, _, rfl, _⟩ := h
    rfl
  · obtain ⟨p, dx, v, u, d, rfl, hp, hd, q1, q2⟩ := h
    refine ⟨_, pss_cons (ps_if (pt_not (pt_val (pe_own O_is_between (hr.mono (by decide)) pass0 (pa_cons (pv 1) (pa_cons (pe_int) (pa_cons (pe_gint T.g_MOST_UNITS) pa_nil)))))) (pss_one (ps_raise rfl (takes_of rfl rfl rfl rfl) (pmk_X X_BadPart (hr.mono (by decide)) (pe_str) rfl))) (pss_nil))
      (pss_cons (ps_if (pt_not (pt_val (pe_callB call_isi (by rfl) T.n_isinstance (by decide +kernel) (pa_cons (pv 2) (pa_cons (pe_gcls T.Steps.gC) pa_nil))))) (pss_one (ps_raise rfl (takes_of rfl rfl rfl rfl) (pmk_X X_BadPart (hr.mono (by decide)) (pe_str) rfl))) (pss_nil))
      (pss_cons (ps_fld (pv 0) (pv 1) rfl)
      (pss_one (ps_fld (pv 0) (pv 2) rfl)))), ?_⟩
    refine ⟨v, rfl, v, d, 1, 60, rfl, hd, _, rfl, ?_⟩
    cases h1 : betD d 1 60 with
    | false => exact iteT (mkX_fin fun e he => q1 h1 _ Ext.rfl' e he)
    | true =>
      rcases q2 h1 with ⟨d', hu, q⟩ | ⟨s, bs, z, rfl, ⟨dy, pb, hs, hb⟩, rfl, q⟩
      · refine iteF ⟨_, rfl, u, .ref A.Steps, .type (tnD d'), .ref A.Steps, false, rfl, .own _, dp_ty hu, T.Steps.kitB (sub_ty_ref kd_find) rfl, _, rfl, ?_⟩
        exact iteT (mkX_fin fun e he => q _ Ext.rfl' e he)
      · obtain rfl := dp_int hd
        refine iteF ⟨_, rfl, _, .ref A.Steps, .ref A.Steps, .ref A.Steps, true, rfl, .own _, T.Steps.tyOf hs, T.Steps.me, _, rfl, ?_⟩
        refine iteF ⟨_, rfl, _, rfl, p, A.Room, dx, _, rfl, hp, T.Room.cl, T.r_size, (by show 0 < 1000; decide), ?_⟩
        refine ⟨_, rfl, _, rfl, p, A.Room, dx, _, rfl, upd_same, T.Room.cl, T.r_steps, (by show 1 < 1000; decide), ?_⟩
        rw [upd_upd]
        have hsp : s ≠ p := fun e => by
          rw [e, hp] at hs
          injection hs with hs
          injection hs with _ _ h3
          cases h3
        have hm : ∀ (o : HO) x u, x ≠ p → H x = some u → upd H p o x = some u := fun o x u hx h => by
          rw [upd_ne hx]
          exact h
        exact q _ ⟨dx, s, upd_same, dy, pb, hm _ _ _ hsp hs, sqT_mut hp (hm _) hb⟩ fun x o hx ho => hm _ _ _ hx ho
end
end K08

set_option Elab.async false
set_option maxRecDepth 100000
set_option maxHeartbeats 4000000
namespace K15
open PySem PySem.Spec PyProof.Rows L2 K02
section
variable {P : Program} {w : World} {K : PySem.W.Frag} {mg : Str → Option Value} {base : Heap} {A : Ad}
/-! kinds, told by the data -/
def spInteger (K : PySem.W.Frag) : Sp := fun vs H Q _ => ∃ v d, vs = [v] ∧ Dp K H v d ∧ Q (.bl (isIntD d && !isBoolD d)) H
theorem ok_integer {f : Addr} {fd : FuncData} (F : Fun K "is_integer" "is_integer" s_is_integer f fd) (T : Txt K mg A) : FnOk P w K mg base CX0 1 f fd pm_is_integer (spInteger K) := by
  refine F.ok sc_is_integer (fun vs H Q E h => ?_) (fun cdv A' outer s H vs Q E hr h => ?_)
  · obtain ⟨v, k, rfl, _⟩ := h
    rfl
  · obtain ⟨v, d, rfl, hk, q⟩ := h
    refine ⟨_, pss_one (ps_ret (pe_and (pe_callB call_isi (by rfl) T.n_isinstance (by decide +kernel) (pa_cons (pv 0) (pa_cons (pe_bltn (v := .ty "int") (by rfl) T.n_int (by decide +kernel) rfl) pa_nil))) (pe_one (pe_not (pe_callB call_isi (by rfl) T.n_isinstance (by decide +kernel) (pa_cons (pv 0) (pa_cons (pe_bltn (v := .ty "bool") (by rfl) T.n_bool (by decide +kernel) rfl) pa_nil))))))), ?_⟩
    refine ⟨v, rfl, v, .ty "int", .type (tnD d), .type "int", isIntD d, rfl, .ty _, dp_ty hk, kd_int, _, rfl, ?_⟩
    cases h1 : isIntD d with
    | true =>
      rw [h1] at q
      exact iteT ⟨v, rfl, v, .ty "bool", .type (tnD d), .type "bool", isBoolD d, rfl, .ty _, dp_ty hk, kd_bool, _, rfl, q⟩
    | false =>
      rw [h1] at q
      exact iteF q
def spBetween (K : PySem.W.Frag) : Sp := fun vs H Q _ => ∃ v d a b, vs = [v, .int a, .int b] ∧ Dp K H v d ∧ Q (.bl (betD d a b)) H
theorem ok_between {f : Addr} {fd : FuncData} (F : Fun K "is_between" "is_between" s_is_between f fd) (O_is_integer : Own P w K mg base CX0 "is_integer" 1 pm_is_integer (spInteger K)) : FnOk P w K mg base CX0 2 f fd pm_is_between (spBetween K) := by
  refine F.ok sc_is_between (fun vs H Q E h => ?_) (fun cdv A' outer s H vs Q E hr h => ?_)
  · obtain ⟨v, k, a, b, rfl, _⟩ := h
    rfl
  · obtain ⟨v, d, a, b, rfl, hk, q⟩ := h
    refine ⟨_, pss_one (ps_ret (pe_and (pe_own O_is_integer (hr.mono (by decide)) pass0 (pa_cons (pv 0) pa_nil)) (pe_one (pe_chain op_le op_le (pv 1) (pv 0) (pv 2))))), ?_⟩
    refine ⟨v, rfl, v, d, rfl, hk, _, rfl, ?_⟩
    cases h1 : (isIntD d && !isBoolD d) with
    | true =>
      obtain ⟨n, rfl⟩ := int_yes h1
      obtain rfl := dp_int hk
      refine iteT ⟨_, rfl, _, rfl, _, _, rfl, rfl, _, rfl, ?_⟩
      rw [bet_int] at q
      cases h2 : decide (a ≤ n) with
      | true =>
        rw [h2] at q
        exact iteT ⟨_, rfl, _, _, rfl, rfl, q⟩
      | false =>
        rw [h2] at q
        exact iteF q
    | false =>
      rw [bet_not h1] at q
      exact iteF q
def spIsList (K : PySem.W.Frag) : Sp := fun vs H Q _ => ∃ v d, vs = [v] ∧ Dp K H v d ∧ ∀ H', Ext H H' → Q (.bl (isSeqD d)) H'
theorem ok_isList {f : Addr} {fd : FuncData} (F : Fun K "is_list" "is_list" s_is_list f fd) (T : Txt K mg A) : FnOk P w K mg base CX0 1 f fd pm_is_list (spIsList K) := by
  refine F.ok sc_is_list (fun vs H Q E h => ?_) (fun cdv A' outer s H vs Q E hr h => ?_)
  · obtain ⟨v, k, rfl, _⟩ := h
    rfl
  · obtain ⟨v, d, rfl, hk, q⟩ := h
    refine ⟨_, pss_one (ps_ret (pe_callB call_isiT (by rfl) T.n_isinstance (by decide +kernel) (pa_cons (pv 0) (pa_cons (pe_tup (pa_cons (pe_bltn (v := .ty "list") (by rfl) T.n_list (by decide +kernel) rfl) (pa_cons (pe_bltn (v := .ty "tuple") (by rfl) T.n_tuple (by decide +kernel) rfl) pa_nil))) pa_nil)))), ?_⟩
    refine ⟨v, rfl, by show 2 ≤ sizeLine; decide, fun p hp => ?_⟩
    exact ⟨v, p, [.ty "list", .ty "tuple"], .type (tnD d), [.type "list", .type "tuple"], isSeqD d, rfl, upd_same, .cons (.ty _) (.cons (.ty _) .nil), dp_ty (dp_ext (Ext.upd hp) _ _ hk), kd_seq, q _ (Ext.upd hp)⟩
def spListOf (K : PySem.W.Frag) : Sp := fun vs H Q _ => ∃ v d a b, vs = [v, .int a, .int b] ∧ Dp K H v d ∧ ∀ H', Ext H H' → Q (.bl (isSeqD d && (decide (a ≤ (lenD d : Int)) && decide ((lenD d : Int) ≤ b)))) H'
theorem dp_lenD {H : Hp} {a : Addr} {xs : List V} {ds : List PyData} {d : PyData} (ha : DpAll K H xs ds) (h : d = .list ds ∨ d = .tuple ds) : lenD d = xs.length := by
  rw [dps_len ha]
  rcases h with rfl | rfl <;> rfl
theorem ok_listOf {f : Addr} {fd : FuncData} (F : Fun K "is_list_of" "is_list_of" s_is_list_of f fd) (T : Txt K mg A) (O_is_list : Own P w K mg base CX0 "is_list" 1 pm_is_list (spIsList K)) : FnOk P w K mg base CX0 2 f fd pm_is_list_of (spListOf K) := by
  refine F.ok sc_is_list_of (fun vs H Q E h => ?_) (fun cdv A' outer s H vs Q E hr h => ?_)
  · obtain ⟨v, d, a, b, rfl, _⟩ := h
    rfl
  · obtain ⟨v, d, a, b, rfl, hk, q⟩ := h
    refine ⟨_, pss_one (ps_ret (pe_and (pe_own O_is_list (hr.mono (by decide)) pass0 (pa_cons (pv 0) pa_nil)) (pe_one (pe_chain op_le op_le (pv 1) (pe_callB call_len_seq (by rfl) T.n_len (by decide +kernel) (pa_cons (pv 0) pa_nil)) (pv 2))))), ?_⟩
    refine ⟨v, rfl, v, d, rfl, hk, fun H1 e1 => ⟨_, rfl, ?_⟩⟩
    have q1 := q H1 e1
    cases h1 : isSeqD d with
    | false =>
      rw [h1] at q1
      exact iteF q1
    | true =>
      rw [h1] at q1
      obtain ⟨p, xs, ds, rfl, hx, ha, hd⟩ := dp_seq (dp_ext e1 _ _ hk) h1
      rw [dp_lenD (a := p) ha hd] at q1
      refine iteT ⟨_, rfl, _, rfl, p, xs, rfl, hx, _, _, rfl, rfl, _, rfl, ?_⟩
      cases h2 : decide (a ≤ (xs.length : Int)) with
      | true =>
        rw [h2] at q1
        exact iteT ⟨_, rfl, _, _, rfl, rfl, q1⟩
      | false =>
        rw [h2] at q1
        exact iteF q1
def spTupleOf (K : PySem.W.Frag) : Sp := fun vs H Q _ => ∃ v d a, vs = [v, .int a] ∧ Dp K H v d ∧ Q (.bl (isTupD d && decide ((lenD d : Int) = a))) H
theorem dvi {a b : Int} : decide (V.int a = V.int b) = decide (a = b) := by simp
theorem ok_tupleOf {f : Addr} {fd : FuncData} (F : Fun K "is_tuple_of" "is_tuple_of" s_is_tuple_of f fd) (T : Txt K mg A) : FnOk P w K mg base CX0 1 f fd pm_is_tuple_of (spTupleOf K) := by
  refine F.ok sc_is_tuple_of (fun vs H Q E h => ?_) (fun cdv A' outer s H vs Q E hr h => ?_)
  · obtain ⟨v, d, a, rfl, _⟩ := h
    rfl
  · obtain ⟨v, d, a, rfl, hk, q⟩ := h
    refine ⟨_, pss_one (ps_ret (pe_and (pe_callB call_isi (by rfl) T.n_isinstance (by decide +kernel) (pa_cons (pv 0) (pa_cons (pe_bltn (v := .ty "tuple") (by rfl) T.n_tuple (by decide +kernel) rfl) pa_nil))) (pe_one (pe_cmpR op_eq (pe_callB call_len_seq (by rfl) T.n_len (by decide +kernel) (pa_cons (pv 0) pa_nil)) (pv 1) (nomark _))))), ?_⟩
    refine ⟨v, rfl, v, .ty "tuple", .type (tnD d), .type "tuple", isTupD d, rfl, .ty _, dp_ty hk, kd_tup, _, rfl, ?_⟩
    cases h1 : isTupD d with
    | true =>
      rw [h1] at q
      obtain ⟨p, xs, ds, rfl, hx, ha, hd⟩ := dp_tup hk h1
      rw [dp_lenD (a := p) ha (.inr hd)] at q
      refine iteT ⟨_, rfl, p, xs, rfl, .inr hx, _, rfl, rfl, ?_⟩
      show Q (.bl (decide (V.int (xs.length : Int) = V.int a))) H
      rw [dvi]
      exact q
    | false =>
      rw [h1] at q
      exact iteF q
/-! what a way is made of -/
def beginD (d : PyData) : Bool := isNoneD d || betD d 0 1000
def spBegin (K : PySem.W.Frag) : Sp := fun vs H Q _ => ∃ v d, vs = [v] ∧ Dp K H v d ∧ Q (.bl (beginD d)) H
theorem ok_begin {f : Addr} {fd : FuncData} (F : Fun K "is_begin" "is_begin" s_is_begin f fd) (T : Txt K mg A) (O_is_between : Own P w K mg base CX0 "is_between" 2 pm_is_between (spBetween K)) : FnOk P w K mg base CX0 3 f fd pm_is_begin (spBegin K) := by
  refine F.ok sc_is_begin (fun vs H Q E h => ?_) (fun cdv A' outer s H vs Q E hr h => ?_)
  · obtain ⟨v, d, rfl, _⟩ := h
    rfl
  · obtain ⟨v, d, rfl, hk, q⟩ := h
    refine ⟨_, pss_one (ps_ret (pe_or (pe_cmpR op_isN (pv 0) (pe_non) (nomark _)) (pe_one (pe_own O_is_between (hr.mono (by decide)) pass0 (pa_cons (pv 0) (pa_cons (pe_int) (pa_cons (pe_gint T.g_MOST_BEGIN) pa_nil))))))), ?_⟩
    cases hk with
    | non => exact ⟨_, rfl, rfl, _, rfl, iteT q⟩
    | bl b => exact ⟨_, rfl, rfl, _, rfl, iteF ⟨_, rfl, _, _, 0, 1000, rfl, .bl b, q⟩⟩
    | int i => exact ⟨_, rfl, rfl, _, rfl, iteF ⟨_, rfl, _, _, 0, 1000, rfl, .int i, q⟩⟩
    | str b => exact ⟨_, rfl, rfl, _, rfl, iteF ⟨_, rfl, _, _, 0, 1000, rfl, .str b, q⟩⟩
    | lst a b => exact ⟨_, rfl, rfl, _, rfl, iteF ⟨_, rfl, _, _, 0, 1000, rfl, .lst a b, q⟩⟩
    | tup a b => exact ⟨_, rfl, rfl, _, rfl, iteF ⟨_, rfl, _, _, 0, 1000, rfl, .tup a b, q⟩⟩
def delaysD : PyData → PyData → Bool
  | .int l, .int m => decide (1 ≤ l) && decide (l ≤ m) && decide (m ≤ 50)
  | _, _ => false
def spDelays (K : PySem.W.Frag) : Sp := fun vs H Q _ => ∃ v u d e, vs = [v, u] ∧ Dp K H v d ∧ Dp K H u e ∧ Q (.bl (delaysD d e)) H
theorem delays_m {d e : PyData} (h : betD e 1 50 = false) : delaysD d e = false := by
  cases e <;> first | (cases d <;> rfl) | skip
  rename_i m
  cases d <;> first | rfl | skip
  rename_i l
  rw [bet_int] at h
  simp only [delaysD]
  simp at h ⊢
  omega
theorem delays_l {d : PyData} {m : Int} (h1 : 1 ≤ m ∧ m ≤ 50) : delaysD d (.int m) = betD d 1 m := by
  cases d <;> first | rfl | skip
  rename_i l
  rw [bet_int]
  simp only [delaysD]
  rw [decide_eq_true h1.2, Bool.and_true]
theorem ok_delays {f : Addr} {fd : FuncData} (F : Fun K "are_delays" "are_delays" s_are_delays f fd) (T : Txt K mg A) (O_is_between : Own P w K mg base CX0 "is_between" 2 pm_is_between (spBetween K)) : FnOk P w K mg base CX0 3 f fd pm_are_delays (spDelays K) := by
  refine F.ok sc_are_delays (fun vs H Q E h => ?_) (fun cdv A' outer s H vs Q E hr h => ?_)
  · obtain ⟨v, u, d, e, rfl, _⟩ := h
    rfl
  · obtain ⟨v, u, d, e, rfl, hk, hu, q⟩ := h
    refine ⟨_, pss_one (ps_ret (pe_and (pe_own O_is_between (hr.mono (by decide)) pass0 (pa_cons (pv 1) (pa_cons (pe_int) (pa_cons (pe_gint T.g_MOST_DELAY) pa_nil)))) (pe_one (pe_own O_is_between (hr.mono (by decide)) pass0 (pa_cons (pv 0) (pa_cons (pe_int) (pa_cons (pv 1) pa_nil))))))), ?_⟩
    refine ⟨u, rfl, u, e, 1, 50, rfl, hu, _, rfl, ?_⟩
    cases h1 : betD e 1 50 with
    | false =>
      rw [delays_m h1] at q
      exact iteF q
    | true =>
      obtain ⟨m, rfl, m1, m2⟩ := bet_yes h1
      obtain rfl := dp_int hu
      rw [delays_l ⟨m1, m2⟩] at q
      exact iteT ⟨v, rfl, _, rfl, v, d, 1, m, rfl, hk, q⟩
end
end K15

set_option Elab.async false
set_option maxRecDepth 100000
set_option maxHeartbeats 4000000
namespace K15
open PySem PySem.Spec PyProof.Rows L2 K02
section
variable {P : Program} {w : World} {K : PySem.W.Frag} {mg : Str → Option Value} {base : Heap} {A : Ad}
def boxD (d : PyData) (l m : Int) : Bool := match d with
  | .tuple [.int n, .int f, .int s, .int g] => decide (0 ≤ n ∧ n ≤ f ∧ f ≤ m ∧ n ≤ l ∧ 1 ≤ s ∧ s ≤ g ∧ g ≤ 10000)
  | _ => false
theorem box_f {a b c d : PyData} {l m : Int} (h : betD b 0 m = false) : boxD (.tuple [a, b, c, d]) l m = false := by
  cases a <;> first | rfl | skip
  cases b <;> first | rfl | skip
  cases c <;> first | rfl | skip
  cases d <;> first | rfl | skip
  rw [bet_int] at h
  simp at h
  simp only [boxD]
  rw [decide_eq_false (by omega)]
theorem box_n {a c d : PyData} {f l m : Int} (h : betD a 0 f = false) : boxD (.tuple [a, .int f, c, d]) l m = false := by
  cases a <;> first | rfl | skip
  cases c <;> first | rfl | skip
  cases d <;> first | rfl | skip
  rw [bet_int] at h
  simp at h
  simp only [boxD]
  rw [decide_eq_false (by omega)]
theorem box_l {c d : PyData} {n f l m : Int} (h : l < n) : boxD (.tuple [.int n, .int f, c, d]) l m = false := by
  cases c <;> first | rfl | skip
  cases d <;> first | rfl | skip
  simp only [boxD]
  rw [decide_eq_false (by omega)]
theorem box_g {c d : PyData} {n f l m : Int} (h : betD d 1 10000 = false) : boxD (.tuple [.int n, .int f, c, d]) l m = false := by
  cases c <;> first | rfl | skip
  cases d <;> first | rfl | skip
  rw [bet_int] at h
  simp at h
  simp only [boxD]
  rw [decide_eq_false (by omega)]
theorem box_s {c : PyData} {n f g l m : Int} (h : 0 ≤ n ∧ n ≤ f ∧ f ≤ m ∧ n ≤ l ∧ g ≤ 10000) : boxD (.tuple [.int n, .int f, c, .int g]) l m = betD c 1 g := by
  cases c <;> first | rfl | skip
  simp only [boxD]
  rw [bet_int, Bool.eq_iff_iff]
  simp
  omega
theorem box_t {d : PyData} {l m : Int} (h : (isTupD d && decide ((lenD d : Int) = 4)) = false) : boxD d l m = false := by
  unfold boxD
  split
  · exact absurd h (by simp [isTupD, lenD])
  · rfl
def spBoxOk (K : PySem.W.Frag) : Sp := fun vs H Q _ => ∃ v d l m, vs = [v, .int l, .int m] ∧ Dp K H v d ∧ Q (.bl (boxD d l m)) H
theorem ok_box {f : Addr} {fd : FuncData} (F : Fun K "is_box" "is_box" s_is_box f fd) (T : Txt K mg A) (O_is_between : Own P w K mg base CX0 "is_between" 2 pm_is_between (spBetween K)) (O_is_tuple_of : Own P w K mg base CX0 "is_tuple_of" 1 pm_is_tuple_of (spTupleOf K)) : FnOk P w K mg base CX0 3 f fd pm_is_box (spBoxOk K) := by
  refine F.ok sc_is_box (fun vs H Q E h => ?_) (fun cdv A' outer s H vs Q E hr h => ?_)
  · obtain ⟨v, d, l, m, rfl, _⟩ := h
    rfl
  · obtain ⟨v, d, l, m, rfl, hk, q⟩ := h
    refine ⟨_, pss_cons (ps_if (pt_not (pt_val (pe_own O_is_tuple_of (hr.mono (by decide)) pass0 (pa_cons (pv 0) (pa_cons (pe_int) pa_nil))))) (pss_one (ps_ret (pe_bl))) (pss_nil))
      (pss_cons (ps_asg (pv 0) (pg_tup rfl (pgs_cons (pg_name (i := 3) sc_is_box.nd rfl (Or.inl rfl)) (pgs_cons (pg_name (i := 4) sc_is_box.nd rfl (Or.inl rfl)) (pgs_cons (pg_name (i := 5) sc_is_box.nd rfl (Or.inl rfl)) (pgs_cons (pg_name (i := 6) sc_is_box.nd rfl (Or.inl rfl)) (pgs_nil)))))))
      (pss_cons (ps_if (PW.pt (pw_or (pt_not (pt_val (pe_own O_is_between (hr.mono (by decide)) pass0 (pa_cons (pv 4) (pa_cons (pe_int) (pa_cons (pv 2) pa_nil)))))) (pw_or (pt_not (pt_val (pe_own O_is_between (hr.mono (by decide)) pass0 (pa_cons (pv 3) (pa_cons (pe_int) (pa_cons (pv 4) pa_nil)))))) (pw_or1 (pt_cmpR op_gt (pv 3) (pv 1) (nomark _)))))) (pss_one (ps_ret (pe_bl))) (pss_nil))
      (pss_one (ps_ret (pe_and (pe_own O_is_between (hr.mono (by decide)) pass0 (pa_cons (pv 6) (pa_cons (pe_int) (pa_cons (pe_gint T.g_MOST_KEEP) pa_nil)))) (pe_one (pe_own O_is_between (hr.mono (by decide)) pass0 (pa_cons (pv 5) (pa_cons (pe_int) (pa_cons (pv 6) pa_nil)))))))))), ?_⟩
    refine ⟨v, rfl, v, d, 4, rfl, hk, _, rfl, ?_⟩
    cases h1 : (isTupD d && decide ((lenD d : Int) = 4)) with
    | false =>
      rw [box_t h1] at q
      exact iteT q
    | true =>
      refine iteF ?_
      rw [Bool.and_eq_true, decide_eq_true_eq] at h1
      obtain ⟨p, xs, ds, rfl, hx, ha, rfl⟩ := dp_tup hk h1.1
      have hl : ds.length = 4 := by
        have z : ((ds.length : Nat) : Int) = 4 := h1.2
        omega
      match ds, hl, ha, q with
      | [da, db, dc, dd], _, ha, q =>
        cases ha with
        | @cons va _ _ _ ha1 ha =>
          cases ha with
          | @cons vb _ _ _ hb1 ha =>
            cases ha with
            | @cons vc _ _ _ hc1 ha =>
              cases ha with
              | @cons vd _ _ _ hd1 ha =>
                cases ha
                refine ⟨_, rfl, p, _, rfl, hx, rfl, ?_⟩
                refine ⟨_, _, rfl, _, _, rfl, _, _, rfl, _, _, rfl, rfl, ?_⟩
                refine ⟨vb, rfl, _, rfl, vb, db, 0, m, rfl, hb1, _, rfl, ?_⟩
                cases h2 : betD db 0 m with
                | false =>
                  rw [box_f h2] at q
                  exact iteT q
                | true =>
                  refine iteF ?_
                  obtain ⟨f, rfl, f0, fm⟩ := bet_yes h2
                  obtain rfl := dp_int hb1
                  refine ⟨va, rfl, _, rfl, va, da, 0, f, rfl, ha1, _, rfl, ?_⟩
                  cases h3 : betD da 0 f with
                  | false =>
                    rw [box_n h3] at q
                    exact iteT q
                  | true =>
                    refine iteF ?_
                    obtain ⟨n, rfl, n0, nf⟩ := bet_yes h3
                    obtain rfl := dp_int ha1
                    refine ⟨_, rfl, _, rfl, _, _, rfl, rfl, _, rfl, ?_⟩
                    by_cases h4 : n > l
                    · rw [decide_eq_true h4]
                      rw [box_l h4] at q
                      exact iteT q
                    · rw [decide_eq_false h4]
                      refine iteF ?_
                      refine ⟨vd, rfl, vd, dd, 1, 10000, rfl, hd1, _, rfl, ?_⟩
                      cases h5 : betD dd 1 10000 with
                      | false =>
                        rw [box_g h5] at q
                        exact iteF q
                      | true =>
                        obtain ⟨g, rfl, g1, g2⟩ := bet_yes h5
                        obtain rfl := dp_int hd1
                        rw [box_s ⟨n0, nf, fm, by omega, g2⟩] at q
                        exact iteT ⟨vc, rfl, _, rfl, vc, dc, 1, g, rfl, hc1, q⟩
/-! ### Way -/
def itemsD : PyData → Option (List PyData) | .list ds => some ds | .tuple ds => some ds | _ => none
/-- what is wrong first: a part's word or a box's place -/
def wayDue (b l m x : PyData) : Option (Str ⊕ Nat) :=
  if beginD b = false then some (.inl "begin") else if delaysD l m = false then some (.inl "delays") else
    if (isSeqD x && (decide ((0 : Int) ≤ (lenD x : Int)) && decide ((lenD x : Int) ≤ 3))) = false then some (.inl "boxes") else
    match l, m, itemsD x with
    | .int l, .int m, some ds => (ds.findIdx? fun d => !boxD d l m).map .inr
    | _, _, _ => none
def wF (b l m x : V) : List (Str × V) := [("begin", b), ("least", l), ("most", m), ("boxes", x)]
/-- a way at p: its begin, delays, and the data of its boxes -/
def WayAt (K : PySem.W.Frag) (A : Ad) (H : Hp) (p : Addr) (b l m : V) (ds : List PyData) : Prop := ∃ dx T xs, H p = some (.ins A.Way dx (wF b l m (.ref T))) ∧ SqT K H T xs ∧ DpAll K H xs ds
def spWayInit (K : PySem.W.Frag) (A : Ad) : Sp := fun vs H Q E => ∃ (p dx : Addr) (vb vl vm vx : V) (b l m x : PyData), vs = [.ref p, vb, vl, vm, vx] ∧ H p = some (.ins A.Way dx []) ∧ Dp K H vb b ∧ Dp K H vl l ∧ Dp K H vm m ∧ Dp K H vx x ∧
  (∀ s, wayDue b l m x = some (.inl s) → ∀ H', Ext H H' → ∀ e, H' e = none → E (.ref A.BadPart) (some e) (upd H' e (.xd [("part", .str s)]))) ∧
  (∀ i, wayDue b l m x = some (.inr i) → ∀ H', Ext H H' → ∀ e, H' e = none → E (.ref A.BadBox) (some e) (upd H' e (.xd [("index", .int (i : Nat))]))) ∧
  (wayDue b l m x = none → ∀ ds H', itemsD x = some ds → (∃ T xs, H' p = some (.ins A.Way dx (wF vb vl vm (.ref T))) ∧ SqT K H' T xs ∧ DpAll K H' xs ds) → (∀ x o, x ≠ p → H x = some o → H' x = some o) → Q .non H')
theorem find_at {ds : List PyData} {f : PyData → Bool} {i : Nat} {d : PyData} (h0 : ∀ (j : Nat) (d : PyData), j < i → ds[j]? = some d → f d = false) (hd : ds[i]? = some d) (h : f d = true) : ds.findIdx? f = some i := by
  induction ds generalizing i with
  | nil => cases hd
  | cons x xs ih =>
    rw [List.findIdx?_cons]
    cases i with
    | zero =>
      cases hd
      rw [h]
      rfl
    | succ i =>
      rw [h0 0 x (Nat.succ_pos _) rfl]
      have z := ih (i := i) (fun j d hj hd => h0 (j + 1) d (Nat.succ_lt_succ hj) hd) hd
      rw [z]
      rfl
theorem find_no {ds : List PyData} {f : PyData → Bool} (h0 : ∀ (j : Nat) (d : PyData), ds[j]? = some d → f d = false) : ds.findIdx? f = none := by
  rw [List.findIdx?_eq_none_iff]
  intro x hx
  obtain ⟨j, hj⟩ := List.mem_iff_getElem?.mp hx
  exact h0 j x hj
theorem delays_yes {d e : PyData} (h : delaysD d e = true) : ∃ l m, d = .int l ∧ e = .int m ∧ 1 ≤ l ∧ l ≤ m ∧ m ≤ 50 := by
  cases d <;> first | cases h | skip
  cases e <;> first | cases h | skip
  simp only [delaysD, Bool.and_eq_true, decide_eq_true_eq] at h
  exact ⟨_, _, rfl, rfl, h.1.1, h.1.2, h.2⟩
section
variable {H H' : Hp} {p a C dx : Addr} {fs : List (Str × V)} {xs : List V}
theorem sqL_mut (hp : H p = some (.ins C dx fs)) (e : ∀ x o, x ≠ p → H x = some o → H' x = some o) (h : SqL K H a xs) : SqL K H' a xs := by
  rcases h with (h | ⟨o, h⟩) | h
  · exact .inl (.inl (e a _ (fun z => by rw [z, hp] at h; cases h) h))
  · exact .inl (.inr ⟨o, e a _ (fun z => by rw [z, hp] at h; cases h) h⟩)
  · exact .inr h
theorem sqT_mut (hp : H p = some (.ins C dx fs)) (e : ∀ x o, x ≠ p → H x = some o → H' x = some o) (h : SqT K H a xs) : SqT K H' a xs := by
  rcases h with (h | ⟨o, h⟩) | h
  · exact .inl (.inl (e a _ (fun z => by rw [z, hp] at h; cases h) h))
  · exact .inl (.inr ⟨o, e a _ (fun z => by rw [z, hp] at h; cases h) h⟩)
  · exact .inr h
mutual
theorem dp_mut (hp : H p = some (.ins C dx fs)) (e : ∀ x o, x ≠ p → H x = some o → H' x = some o) : ∀ (d : PyData) (v : V), Dp K H v d → Dp K H' v d
  | .none, _, h => by cases h; exact .non
  | .bool _, _, h => by cases h; exact .bl _
  | .int _, _, h => by cases h; exact .int _
  | .str _, _, h => by cases h; exact .str _
  | .list ds, _, h => by
    cases h with
    | lst hs ha => exact .lst (sqL_mut hp e hs) (dps_mut hp e ds _ ha)
  | .tuple ds, _, h => by
    cases h with
    | tup hs ha => exact .tup (sqT_mut hp e hs) (dps_mut hp e ds _ ha)
  | .dict _, _, h => by cases h
theorem dps_mut (hp : H p = some (.ins C dx fs)) (e : ∀ x o, x ≠ p → H x = some o → H' x = some o) : ∀ (ds : List PyData) (vs : List V), DpAll K H vs ds → DpAll K H' vs ds
  | [], _, h => by cases h; exact .nil
  | d :: ds, _, h => by
    cases h with
    | cons h1 h2 => exact .cons (dp_mut hp e d _ h1) (dps_mut hp e ds _ h2)
end
end
theorem ok_wayInit {f : Addr} {fd : FuncData} (F : FunD K "__init__" "Way.__init__" (defArgs s_Way_init) (defBody s_Way_init) (defScope s_Way_init) [.ref A.T0] [] f fd) (T : Txt K mg A)
    (O_is_begin : Own P w K mg base CX0 "is_begin" 3 pm_is_begin (spBegin K)) (O_are_delays : Own P w K mg base CX0 "are_delays" 3 pm_are_delays (spDelays K)) (O_is_list_of : Own P w K mg base CX0 "is_list_of" 2 pm_is_list_of (spListOf K))
    (O_is_box : Own P w K mg base CX0 "is_box" 3 pm_is_box (spBoxOk K)) (X_BadPart : XCls P w K mg base "BadPart" "part" A.BadPart) (X_BadBox : XCls P w K mg base "BadBox" "index" A.BadBox) : FnOk P w K mg base (L2.CX P w) 5 f fd pm_Way_init (spWayInit K A) := by
  refine F.ok sc_Way_init (fun vs H Q E h => ?_) (fun cdv A' outer s H vs Q E hr h => ?_)
  · obtain ⟨_, _, _, _, _, _, _, _, _, _, rfl, _⟩ := h
    rfl
  · obtain ⟨p, dx, vb, vl, vm, vx, b, l, m, x, rfl, hp, hb, hl, hm, hx, hEp, hEb, hQ⟩ := h
    refine ⟨_, pss_cons (ps_if (pt_not (pt_val (pe_own O_is_begin (hr.mono (by decide)) pass0 (pa_cons (pv 1) pa_nil)))) (pss_one (ps_raise rfl (takes_of rfl rfl rfl rfl) (pmk_X X_BadPart (hr.mono (by decide)) (pe_str) rfl))) (pss_nil))
      (pss_cons (ps_if (pt_not (pt_val (pe_own O_are_delays (hr.mono (by decide)) pass0 (pa_cons (pv 2) (pa_cons (pv 3) pa_nil))))) (pss_one (ps_raise rfl (takes_of rfl rfl rfl rfl) (pmk_X X_BadPart (hr.mono (by decide)) (pe_str) rfl))) (pss_nil))
      (pss_cons (ps_if (pt_not (pt_val (pe_own O_is_list_of (hr.mono (by decide)) pass0 (pa_cons (pv 4) (pa_cons (pe_int) (pa_cons (pe_gint T.g_MOST_BOXES) pa_nil)))))) (pss_one (ps_raise rfl (takes_of rfl rfl rfl rfl) (pmk_X X_BadPart (hr.mono (by decide)) (pe_str) rfl))) (pss_nil))
      (pss_cons (ps_for (passes_of rfl) rfl (pi_enSq rfl T.n_enumerate (pa_cons (pv 4) pa_nil)) (pg_tup rfl (pgs_cons (pg_name (i := 5) sc_Way_init.nd rfl (Or.inl rfl)) (pgs_cons (pg_name (i := 6) sc_Way_init.nd rfl (Or.inl rfl)) (pgs_nil)))) (pss_one (ps_if (pt_not (pt_val (pe_own O_is_box (hr.mono (by decide)) pass0 (pa_cons (pv 6) (pa_cons (pv 2) (pa_cons (pv 3) pa_nil)))))) (pss_one (ps_raise rfl (takes_of rfl rfl rfl rfl) (pmk_X X_BadBox (hr.mono (by decide)) (pv 5) rfl))) (pss_nil))))
      (pss_cons (ps_fld (pv 0) (pv 1) rfl)
      (pss_cons (ps_fld (pv 0) (pv 2) rfl)
      (pss_cons (ps_fld (pv 0) (pv 3) rfl)
      (pss_one (ps_fld (pv 0) (pe_callTy call_tuple_of (by rfl) T.n_tuple (by decide +kernel) (pa_cons (pv 4) pa_nil)) rfl)))))))), ?_⟩
    refine ⟨vb, rfl, vb, b, rfl, hb, _, rfl, ?_⟩
    cases h1 : beginD b with
    | false => exact iteT (mkX_fin fun e he => hEp _ (by unfold wayDue; rw [if_pos h1]) _ Ext.rfl' e he)
    | true =>
      refine iteF ?_
      refine ⟨vl, rfl, vm, rfl, vl, vm, l, m, rfl, hl, hm, _, rfl, ?_⟩
      cases h2 : delaysD l m with
      | false => exact iteT (mkX_fin fun e he => hEp _ (by unfold wayDue; rw [h1, if_neg (by decide), if_pos h2]) _ Ext.rfl' e he)
      | true =>
        refine iteF ?_
        obtain ⟨li, mi, rfl, rfl, l1, lm, m50⟩ := delays_yes h2
        obtain rfl := dp_int hl
        obtain rfl := dp_int hm
        refine ⟨vx, rfl, vx, x, 0, 3, rfl, hx, fun H1 e1 => ⟨_, rfl, ?_⟩⟩
        cases h3 : (isSeqD x && (decide ((0 : Int) ≤ (lenD x : Int)) && decide ((lenD x : Int) ≤ 3))) with
        | false => exact iteT (mkX_fin fun e he => hEp _ (by unfold wayDue; rw [h1, if_neg (by decide), h2, if_neg (by decide), if_pos h3]) _ e1 e he)
        | true =>
          refine iteF ?_
          have h3' := (Bool.and_eq_true_iff.mp h3).1
          obtain ⟨a, xs, ds, rfl, hsq, ha, hd⟩ := dp_seq (dp_ext e1 _ _ hx) h3'
          have hit : itemsD x = some ds := by rcases hd with rfl | rfl <;> rfl
          have due : wayDue b (.int li) (.int mi) x = (ds.findIdx? fun d => !boxD d li mi).map .inr := by
            unfold wayDue
            rw [h1, if_neg (by decide), h2, if_neg (by decide), h3, if_neg (by decide), hit]
          rw [due] at hEp hEb hQ
          have small : xs.length ≤ 3 := by
            have z := (Bool.and_eq_true_iff.mp (Bool.and_eq_true_iff.mp h3).2).2
            rw [dp_lenD (a := a) ha hd, decide_eq_true_eq] at z
            omega
          refine ⟨_, rfl, a, rfl, ?_⟩
          refine for_enSq (xs := xs) hsq (fun i σ' H' => Ext H1 H' ∧ (∃ o5 o6, σ' = [some (.ref p), some vb, some (.int li), some (.int mi), some (.ref a), o5, o6]) ∧ ∀ j d, j < i → ds[j]? = some d → boxD d li mi = true)
            ⟨Ext.rfl', ⟨_, _, rfl⟩, fun j d hj _ => absurd hj (Nat.not_lt_zero _)⟩ (fun i σ' H' pv => pv.1) (fun i v σ' H' T' hi pv hT => ?_) (fun σ' H' pv => ?_)
          · obtain ⟨e2, ⟨o5, o6, rfl⟩, hok⟩ := pv
            refine ⟨T', _, rfl, SqT.of upd_same, rfl, ?_⟩
            have e3 := e2.upd' (o := .tup [.int (i : Nat), v]) hT
            obtain ⟨d, hdi, hdv⟩ := dps_get (dps_ext e3 _ _ ha) hi
            refine ⟨_, _, rfl, _, _, rfl, rfl, ?_⟩
            refine ⟨v, rfl, _, rfl, _, rfl, v, d, li, mi, rfl, hdv, _, rfl, ?_⟩
            cases h4 : boxD d li mi with
            | false =>
              refine iteT ⟨_, rfl, mkX_fin fun e he => hEb i ?_ _ (e1.trans e3) e he⟩
              rw [find_at (f := fun d => !boxD d li mi) (fun j d hj hd => by rw [hok j d hj hd]; rfl) hdi (by rw [h4]; rfl)]
              rfl
            | true =>
              refine iteF ⟨e3, ⟨_, _, rfl⟩, fun j d' hj hd' => ?_⟩
              rcases Nat.lt_succ_iff_lt_or_eq.mp hj with hj | rfl
              · exact hok j d' hj hd'
              · rw [hdi] at hd'
                cases hd'
                exact h4
          · obtain ⟨e2, ⟨o5, o6, rfl⟩, hok⟩ := pv
            have hnone : ((ds.findIdx? fun d => !boxD d li mi).map Sum.inr : Option (Str ⊕ Nat)) = none := by
              rw [find_no (f := fun d => !boxD d li mi) fun j d hd => ?_]
              · rfl
              · have hj : j < xs.length := by
                  rw [dps_len ha]
                  exact (List.getElem?_eq_some_iff.mp hd).1
                rw [hok j d hj hd]
                rfl
            have e12 := e1.trans e2
            have hp2 := e12 _ _ hp
            refine ⟨_, rfl, _, rfl, p, A.Way, dx, _, rfl, hp2, T.Way.cl, T.w_begin, (by show 0 < 1000; decide), ?_⟩
            refine ⟨_, rfl, _, rfl, p, A.Way, dx, _, rfl, upd_same, T.Way.cl, T.w_least, (by show 1 < 1000; decide), ?_⟩
            refine ⟨_, rfl, _, rfl, p, A.Way, dx, _, rfl, upd_same, T.Way.cl, T.w_most, (by show 2 < 1000; decide), ?_⟩
            have hm3 : ∀ o y, y ≠ p → H' y = some o → (upd (upd (upd H' p (.ins A.Way dx (putF "begin" vb []))) p (.ins A.Way dx (putF "least" (.int li) (putF "begin" vb [])))) p (.ins A.Way dx (putF "most" (.int mi) (putF "least" (.int li) (putF "begin" vb []))))) y = some o := fun o y hy h => by
              rw [upd_ne hy, upd_ne hy, upd_ne hy]
              exact h
            have hp3 : (upd (upd (upd H' p (.ins A.Way dx (putF "begin" vb []))) p (.ins A.Way dx (putF "least" (.int li) (putF "begin" vb [])))) p (.ins A.Way dx (putF "most" (.int mi) (putF "least" (.int li) (putF "begin" vb []))))) p = some (.ins A.Way dx (putF "most" (.int mi) (putF "least" (.int li) (putF "begin" vb [])))) := upd_same
            have hda : DpAll K H' xs ds := dps_ext e2 _ _ ha
            generalize upd (upd (upd H' p (.ins A.Way dx (putF "begin" vb []))) p (.ins A.Way dx (putF "least" (.int li) (putF "begin" vb [])))) p (.ins A.Way dx (putF "most" (.int mi) (putF "least" (.int li) (putF "begin" vb [])))) = H3 at hm3 hp3 ⊢
            refine ⟨_, rfl, a, xs, rfl, ?_⟩
            rcases hsq with hsq | hsq
            · refine .inl ⟨sqL_mut hp2 (fun y o => hm3 o y) (hsq.ext e2), fun t ht => ⟨_, rfl, p, A.Way, dx, _, rfl, Ext.upd ht _ _ hp3, T.Way.cl, T.w_boxes, (by show 3 < 1000; decide), ?_⟩⟩
              have ntp : t ≠ p := fun z => by rw [z, hp3] at ht; cases ht
              refine hQ hnone ds _ hit ⟨t, xs, upd_same, SqT.of (by rw [upd_ne ntp]; exact upd_same), ?_⟩ fun y o hy h => ?_
              · exact dps_mut hp2 (fun y o hy h => by rw [upd_ne hy]; exact Ext.upd ht _ _ (hm3 o y hy h)) _ _ hda
              · rw [upd_ne hy]
                exact Ext.upd ht _ _ (hm3 o y hy (e12 _ _ h))
            · refine .inr ⟨sqT_mut hp2 (fun y o => hm3 o y) (hsq.ext e2), _, rfl, p, A.Way, dx, _, rfl, hp3, T.Way.cl, T.w_boxes, (by show 3 < 1000; decide), ?_⟩
              refine hQ hnone ds _ hit ⟨a, xs, upd_same, sqT_mut hp2 (fun y o hy h => by rw [upd_ne hy]; exact hm3 o y hy h) (hsq.ext e2), ?_⟩ fun y o hy h => ?_
              · exact dps_mut hp2 (fun y o hy h => by rw [upd_ne hy]; exact hm3 o y hy h) _ _ hda
              · rw [upd_ne hy]
                exact hm3 o y hy (e12 _ _ h)
end
end K15

set_option Elab.async false
set_option maxRecDepth 100000
set_option maxHeartbeats 4000000
namespace K15
open PySem PySem.Spec PyProof.Rows L2 K02
abbrev Bx := Int × Int × Int × Int
def bxD (q : Bx) : PyData := .tuple [.int q.1, .int q.2.1, .int q.2.2.1, .int q.2.2.2]
def bxOk (q : Bx) (l m : Int) : Prop := 0 ≤ q.1 ∧ q.1 ≤ q.2.1 ∧ q.2.1 ≤ m ∧ q.1 ≤ l ∧ 1 ≤ q.2.2.1 ∧ q.2.2.1 ≤ q.2.2.2 ∧ q.2.2.2 ≤ 10000
theorem box_yes {d : PyData} {l m : Int} (h : boxD d l m = true) : ∃ q, d = bxD q ∧ bxOk q l m := by
  unfold boxD at h
  split at h
  · rename_i n f s g
    rw [decide_eq_true_eq] at h
    exact ⟨(n, f, s, g), rfl, h⟩
  · cases h
theorem box_ok {q : Bx} {l m : Int} (h : bxOk q l m) : boxD (bxD q) l m = true := decide_eq_true h
theorem boxes_yes {l m : Int} : ∀ {ds : List PyData}, (∀ d ∈ ds, boxD d l m = true) → ∃ bs : List Bx, ds = bs.map bxD ∧ ∀ q ∈ bs, bxOk q l m
  | [], _ => ⟨[], rfl, fun _ h => nomatch h⟩
  | d :: ds, h => by
    obtain ⟨q, rfl, hq⟩ := box_yes (h d List.mem_cons_self)
    obtain ⟨bs, rfl, hb⟩ := boxes_yes (ds := ds) fun d hd => h d (List.mem_cons_of_mem _ hd)
    refine ⟨q :: bs, rfl, fun r hr => ?_⟩
    rcases List.mem_cons.mp hr with rfl | hr
    · exact hq
    · exact hb r hr
def bD : Option Int → PyData | some n => .int n | none => .none
def bV : Option Int → V | some n => .int n | none => .non
def bOk (b : Option Int) : Prop := ∀ n, b = some n → 0 ≤ n ∧ n ≤ 1000
theorem begin_yes {d : PyData} (h : beginD d = true) : ∃ b, d = bD b ∧ bOk b := by
  cases d with
  | none => exact ⟨none, rfl, fun n h => nomatch h⟩
  | int n =>
    have h' : betD (.int n) 0 1000 = true := h
    obtain ⟨m, e, h1, h2⟩ := bet_yes h'
    cases e
    exact ⟨some n, rfl, fun k e => by cases e; exact ⟨h1, h2⟩⟩
  | _ => cases h
theorem begin_ok {b : Option Int} (h : bOk b) : beginD (bD b) = true := by
  cases b with
  | none => rfl
  | some n =>
    obtain ⟨h1, h2⟩ := h n rfl
    show betD (.int n) 0 1000 = true
    rw [bet_int, decide_eq_true h1, decide_eq_true h2]
    rfl
theorem due_begin {b l m x : PyData} (h : beginD b = false) : wayDue b l m x = some (.inl "begin") := by
  unfold wayDue
  rw [if_pos h]
theorem due_none {b l m x : PyData} (h : wayDue b l m x = none) : ∃ (bo : Option Int) (li mi : Int) (bs : List Bx), b = bD bo ∧ bOk bo ∧ l = .int li ∧ m = .int mi ∧ (1 ≤ li ∧ li ≤ mi ∧ mi ≤ 50) ∧ itemsD x = some (bs.map bxD) ∧ bs.length ≤ 3 ∧ ∀ q ∈ bs, bxOk q li mi := by
  unfold wayDue at h
  cases h1 : beginD b with
  | false => rw [h1, if_pos rfl] at h; cases h
  | true =>
    rw [h1, if_neg (by decide)] at h
    cases h2 : delaysD l m with
    | false => rw [h2, if_pos rfl] at h; cases h
    | true =>
      rw [h2, if_neg (by decide)] at h
      obtain ⟨li, mi, rfl, rfl, d1, d2, d3⟩ := delays_yes h2
      cases h3 : (isSeqD x && (decide ((0 : Int) ≤ (lenD x : Int)) && decide ((lenD x : Int) ≤ 3))) with
      | false => rw [h3, if_pos rfl] at h; cases h
      | true =>
        rw [h3, if_neg (by decide)] at h
        obtain ⟨bo, rfl, hb⟩ := begin_yes h1
        have h4 := (Bool.and_eq_true_iff.mp (Bool.and_eq_true_iff.mp h3).2).2
        rw [decide_eq_true_eq] at h4
        have fin : ∀ ds : List PyData, itemsD x = some ds → lenD x = ds.length → (ds.findIdx? fun d => !boxD d li mi) = none → ∃ (bo' : Option Int) (li' mi' : Int) (bs : List Bx), bD bo = bD bo' ∧ bOk bo' ∧ PyData.int li = .int li' ∧ PyData.int mi = .int mi' ∧ (1 ≤ li' ∧ li' ≤ mi' ∧ mi' ≤ 50) ∧ itemsD x = some (bs.map bxD) ∧ bs.length ≤ 3 ∧ ∀ q ∈ bs, bxOk q li' mi' := by
          intro ds hi hl hf
          rw [List.findIdx?_eq_none_iff] at hf
          obtain ⟨bs, rfl, hbs⟩ := boxes_yes (ds := ds) (l := li) (m := mi) fun d hd => by
            have z := hf d hd
            cases hz : boxD d li mi with
            | true => rfl
            | false => rw [hz] at z; cases z
          refine ⟨bo, li, mi, bs, rfl, hb, rfl, rfl, ⟨d1, d2, d3⟩, hi, ?_, hbs⟩
          rw [hl, List.length_map] at h4
          omega
        cases x with
        | list ds =>
          refine fin ds rfl rfl ?_
          have h' : (ds.findIdx? fun d => !boxD d li mi).map (Sum.inr (α := Str)) = none := h
          rwa [Option.map_eq_none_iff] at h'
        | tuple ds =>
          refine fin ds rfl rfl ?_
          have h' : (ds.findIdx? fun d => !boxD d li mi).map (Sum.inr (α := Str)) = none := h
          rwa [Option.map_eq_none_iff] at h'
        | _ => cases h3
theorem due_ok {bo : Option Int} {li mi : Int} {bs : List Bx} {x : PyData} (hb : bOk bo) (hd : 1 ≤ li ∧ li ≤ mi ∧ mi ≤ 50) (hx : x = .list (bs.map bxD) ∨ x = .tuple (bs.map bxD)) (hl : bs.length ≤ 3) (hbs : ∀ q ∈ bs, bxOk q li mi) : wayDue (bD bo) (.int li) (.int mi) x = none := by
  have h2 : delaysD (.int li) (.int mi) = true := by
    simp only [delaysD]
    rw [decide_eq_true hd.1, decide_eq_true hd.2.1, decide_eq_true hd.2.2]
    rfl
  have hf : ((bs.map bxD).findIdx? fun d => !boxD d li mi) = none := by
    rw [List.findIdx?_eq_none_iff]
    intro d hd
    obtain ⟨q, hq, rfl⟩ := List.mem_map.mp hd
    rw [box_ok (hbs q hq)]
    rfl
  have h4 : decide (((bs.map bxD).length : Int) ≤ 3) = true := by
    rw [List.length_map]
    exact decide_eq_true (by omega)
  have h5 : decide ((0 : Int) ≤ ((bs.map bxD).length : Int)) = true := decide_eq_true (by omega)
  unfold wayDue
  rw [begin_ok hb, if_neg (by decide), h2, if_neg (by decide)]
  rcases hx with rfl | rfl
  · have h3 : (isSeqD (.list (bs.map bxD)) && (decide ((0 : Int) ≤ (lenD (.list (bs.map bxD)) : Int)) && decide ((lenD (.list (bs.map bxD)) : Int) ≤ 3))) = true := by
      show (true && (decide ((0 : Int) ≤ ((bs.map bxD).length : Int)) && decide (((bs.map bxD).length : Int) ≤ 3))) = true
      rw [h4, h5]
      rfl
    rw [h3, if_neg (by decide)]
    show ((bs.map bxD).findIdx? fun d => !boxD d li mi).map (Sum.inr (α := Str)) = none
    rw [hf]
    rfl
  · have h3 : (isSeqD (.tuple (bs.map bxD)) && (decide ((0 : Int) ≤ (lenD (.tuple (bs.map bxD)) : Int)) && decide ((lenD (.tuple (bs.map bxD)) : Int) ≤ 3))) = true := by
      show (true && (decide ((0 : Int) ≤ ((bs.map bxD).length : Int)) && decide (((bs.map bxD).length : Int) ≤ 3))) = true
      rw [h4, h5]
      rfl
    rw [h3, if_neg (by decide)]
    show ((bs.map bxD).findIdx? fun d => !boxD d li mi).map (Sum.inr (α := Str)) = none
    rw [hf]
    rfl
theorem eqv_bx (q r : Bx) : PyData.eqv (bxD q) (bxD r) = decide (q = r) := by
  obtain ⟨a, b, c, d⟩ := q
  obtain ⟨a', b', c', d'⟩ := r
  have h := eqv_ints [a, b, c, d] [a', b', c', d']
  show PyData.eqvAll [.int a, .int b, .int c, .int d] [.int a', .int b', .int c', .int d'] = _
  rw [show PyData.eqvAll [.int a, .int b, .int c, .int d] [.int a', .int b', .int c', .int d'] = decide ([a, b, c, d] = [a', b', c', d']) from h]
  simp
theorem eqv_bxs : ∀ (bs cs : List Bx), PyData.eqvAll (bs.map bxD) (cs.map bxD) = decide (bs = cs)
  | [], [] => rfl
  | [], _ :: _ => rfl
  | _ :: _, [] => rfl
  | b :: bs, c :: cs => by
    show (PyData.eqv (bxD b) (bxD c) && PyData.eqvAll (bs.map bxD) (cs.map bxD)) = _
    rw [eqv_bx, eqv_bxs bs cs, Bool.eq_iff_iff]
    simp
theorem lay_bxs : ∀ bs : List Bx, PyData.canLayAll0 (bs.map bxD) = true ∧ PyData.depthAll (bs.map bxD) ≤ 1
  | [] => ⟨rfl, Nat.zero_le _⟩
  | b :: bs => by
    obtain ⟨h1, h2⟩ := lay_bxs bs
    constructor
    · show ((bxD b).canLay0 && PyData.canLayAll0 (bs.map bxD)) = true
      rw [h1]
      rfl
    · show max (bxD b).depth (PyData.depthAll (bs.map bxD)) ≤ 1
      exact Nat.max_le.mpr ⟨Nat.le_refl 1, h2⟩
theorem shp_bxs (bs : List Bx) : SeqAt.shaped (.tuple (bs.map bxD)) = true := by
  obtain ⟨h1, h2⟩ := lay_bxs bs
  show (PyData.canLayAll0 (bs.map bxD) && decide (PyData.depthAll (bs.map bxD) + 1 ≤ 64)) = true
  rw [h1, decide_eq_true (by omega)]
  rfl
section
variable {P : Program} {w : World} {K : PySem.W.Frag} {mg : Str → Option Value} {base : Heap} {A : Ad}
theorem bV_dp {H : Hp} (b : Option Int) : Dp K H (bV b) (bD b) := by cases b <;> first | exact .non | exact .int _
theorem bV_of {H : Hp} {v : V} {b : Option Int} (h : Dp K H v (bD b)) : v = bV b := by
  cases b with
  | none => cases h; rfl
  | some n => cases h; rfl
theorem bV_eq (b c : Option Int) : decide (bV b = bV c) = decide (b = c) := by cases b <;> cases c <;> simp [bV]
theorem bV_sc (b c : Option Int) : scal (bV b) (bV c) = true := by cases b <;> cases c <;> rfl
def MyWay (K : PySem.W.Frag) (A : Ad) (H : Hp) (p : Addr) (b : Option Int) (l m : Int) (bs : List Bx) : Prop := WayAt K A H p (bV b) (.int l) (.int m) (bs.map bxD)
theorem MyWay.ext {H H' : Hp} {p : Addr} {b : Option Int} {l m : Int} {bs : List Bx} (h : MyWay K A H p b l m bs) (e : Ext H H') : MyWay K A H' p b l m bs := by
  obtain ⟨dx, T', xs, h1, h2, h3⟩ := h
  exact ⟨dx, T', xs, e _ _ h1, h2.ext e, dps_ext e _ _ h3⟩
def spWindow (K : PySem.W.Frag) (A : Ad) : Sp := fun vs H Q _ => ∃ p b l m bs, vs = [.ref p] ∧ MyWay K A H p b l m bs ∧ (b = none → Q .non H) ∧ ∀ n, b = some n → ∀ t H', Ext H H' → H' t = some (.tup [.int (n + 2 * l), .int (n + 2 * m)]) → Q (.ref t) H'
def spWayEq (K : PySem.W.Frag) (A : Ad) : Sp := fun vs H Q _ => ∃ p b l m bs v, vs = [.ref p, v] ∧ MyWay K A H p b l m bs ∧
  ((∃ q b' l' m' bs', v = .ref q ∧ MyWay K A H q b' l' m' bs' ∧ Q (.bl (decide (b = b' ∧ l = l' ∧ m = m' ∧ bs = bs'))) H) ∨ ∃ d, Dp K H v d ∧ Q (.bl false) H)
theorem ok_wayEq {f : Addr} {fd : FuncData} (F : Fun K "__eq__" "Way.__eq__" s_Way_eq f fd) (T : Txt K mg A) : FnOk P w K mg base CX0 1 f fd pm_Way_eq (spWayEq K A) := by
  refine F.ok sc_Way_eq (fun vs H Q E h => ?_) (fun cdv A' outer s H vs Q E hr h => ?_)
  · obtain ⟨_, _, _, _, _, _, rfl, _⟩ := h
    rfl
  · obtain ⟨p, b, l, m, bs, v, rfl, ⟨dx, T', xs, hp, hT, ha⟩, h⟩ := h
    refine ⟨_, pss_cons (ps_if (PW.pt (pw_or (pt_not (pt_val (pe_callB call_isi (by rfl) T.n_isinstance (by decide +kernel) (pa_cons (pv 1) (pa_cons (pe_gcls T.Way.gC) pa_nil))))) (pw_or1 (pt_cmpR op_ne (pe_fld (pv 0) rfl) (pe_fld (pv 1) rfl) (nomark _))))) (pss_one (ps_ret (pe_bl))) (pss_nil))
      (pss_one (ps_ret (pe_and (pe_cmpR op_eq (pe_fld (pv 0) rfl) (pe_fld (pv 1) rfl) (nomark _)) (pe_and (pe_cmpR op_eq (pe_fld (pv 0) rfl) (pe_fld (pv 1) rfl) (nomark _)) (pe_one (pe_cmpR (op_eqD hr.units) (pe_fld (pv 0) rfl) (pe_fld (pv 1) rfl) (nomark _))))))), ?_⟩
    rcases h with ⟨q, b', l', m', bs', rfl, ⟨dy, T2, ys, hq, hT2, ha2⟩, k⟩ | ⟨d, hd, h⟩
    · refine ⟨_, rfl, _, .ref A.Way, .ref A.Way, .ref A.Way, true, rfl, .own _, T.Way.tyOf hq, T.Way.me, _, rfl, ?_⟩
      refine iteF ?_
      refine ⟨_, rfl, p, A.Way, dx, _, _, rfl, hp, T.Way.cl, T.w_begin, rfl, _, rfl, q, A.Way, dy, _, _, rfl, hq, T.Way.cl, T.w_begin, rfl, bV_sc _ _, _, rfl, ?_⟩
      rw [bV_eq]
      by_cases h1 : b = b'
      · rw [decide_eq_true h1]
        refine iteF ?_
        refine ⟨_, rfl, p, A.Way, dx, _, _, rfl, hp, T.Way.cl, T.w_least, rfl, _, rfl, q, A.Way, dy, _, _, rfl, hq, T.Way.cl, T.w_least, rfl, rfl, _, rfl, ?_⟩
        rw [dvi]
        by_cases h2 : l = l'
        · rw [decide_eq_true h2]
          refine iteT ?_
          refine ⟨_, rfl, p, A.Way, dx, _, _, rfl, hp, T.Way.cl, T.w_most, rfl, _, rfl, q, A.Way, dy, _, _, rfl, hq, T.Way.cl, T.w_most, rfl, rfl, _, rfl, ?_⟩
          rw [dvi]
          by_cases h3 : m = m'
          · rw [decide_eq_true h3]
            refine iteT ?_
            refine ⟨_, rfl, p, A.Way, dx, _, _, rfl, hp, T.Way.cl, T.w_boxes, rfl, _, rfl, q, A.Way, dy, _, _, rfl, hq, T.Way.cl, T.w_boxes, rfl, ?_⟩
            refine ⟨_, _, .tup hT ha, .tup hT2 ha2, shp_bxs _, shp_bxs _, ?_⟩
            show Q (.bl (PyData.eqvAll (bs.map bxD) (bs'.map bxD))) H
            rw [eqv_bxs]
            have e : decide (b = b' ∧ l = l' ∧ m = m' ∧ bs = bs') = decide (bs = bs') := by simp [h1, h2, h3]
            rw [e] at k
            exact k
          · rw [decide_eq_false h3]
            rw [decide_eq_false (by simp [h3])] at k
            exact iteF k
        · rw [decide_eq_false h2]
          rw [decide_eq_false (by simp [h2])] at k
          exact iteF k
      · rw [decide_eq_false h1]
        rw [decide_eq_false (by simp [h1])] at k
        exact iteT k
    · refine ⟨_, rfl, _, .ref A.Way, .type (tnD d), .ref A.Way, false, rfl, .own _, dp_ty hd, T.Way.kitB (sub_ty_ref kd_find) rfl, _, rfl, ?_⟩
      exact iteT h
end
end K15

set_option Elab.async false
set_option maxRecDepth 100000
set_option maxHeartbeats 4000000
namespace K18
open PySem PySem.Spec PyProof.Rows L2 K02
/-! ### the state that is drawn from: a list of four numbers -/
def StB (H : Hp) (b : Addr) : Prop := ∃ x0 x1 x2 x3 : Int, H b = some (.lst [.int x0, .int x1, .int x2, .int x3])
def ExtB (b : Addr) (H H' : Hp) : Prop := ∀ x o, x ≠ b → H x = some o → H' x = some o
theorem ExtB.rfl' {b : Addr} {H : Hp} : ExtB b H H := fun _ _ _ h => h
theorem ExtB.trans {b : Addr} {H H1 H2 : Hp} (a : ExtB b H H1) (c : ExtB b H1 H2) : ExtB b H H2 := fun x o h1 e => c x o h1 (a x o h1 e)
theorem Ext.b {b : Addr} {H H' : Hp} (h : Ext H H') : ExtB b H H' := fun x o _ e => h x o e
theorem StB.ext {b : Addr} {H H' : Hp} (h : StB H b) (e : Ext H H') : StB H' b := by
  obtain ⟨x0, x1, x2, x3, hb⟩ := h
  exact ⟨x0, x1, x2, x3, e _ _ hb⟩
theorem StB.new {b l : Addr} {H : Hp} (h : StB H b) (hl : H l = none) : l ≠ b := by
  obtain ⟨x0, x1, x2, x3, hb⟩ := h
  exact (ne_of_none hb hl).symm
theorem StB.upd {b l : Addr} {H : Hp} {o : HO} (h : StB H b) (hb : l ≠ b) : StB (L2.upd H l o) b := by
  obtain ⟨x0, x1, x2, x3, h1⟩ := h
  exact ⟨x0, x1, x2, x3, by rw [upd_ne hb.symm]; exact h1⟩
theorem ExtB.mut {b l : Addr} {H H' : Hp} {o : HO} (e : ExtB b H H') (hl : H l = none) : ExtB b H (L2.upd H' l o) := fun x u h1 h => by
  rw [upd_ne (ne_of_none h hl)]
  exact e x u h1 h
theorem ExtB.none {b t : Addr} {H H' : Hp} (e : ExtB b H H') (h1 : t ≠ b) (h : H' t = none) : H t = none := by
  cases z : H t with
  | none => rfl
  | some o =>
    rw [e t o h1 z] at h
    cases h
theorem ExtB.set {b : Addr} {H : Hp} {o : HO} : ExtB b H (L2.upd H b o) := fun x u h1 h => by
  rw [upd_ne h1]
  exact h
theorem sqL_b {K : PySem.W.Frag} {a b : Addr} {H H' : Hp} {xs : List V} (h : SqL K H a xs) (n : a = b → ∀ H', SqL K H' a xs) (e : ExtB b H H') : SqL K H' a xs := by
  by_cases hab : a = b
  · exact n hab _
  · exact h.elim (fun h => .inl (h.elim (fun h => .inl (e _ _ hab h)) fun ⟨o, h⟩ => .inr ⟨o, e _ _ hab h⟩)) fun h => .inr h
theorem sqL_new {K : PySem.W.Frag} {a b : Addr} {H : Hp} {xs : List V} (h : SqL K H a xs) (hb : H b = none) : a = b → ∀ H', SqL K H' a xs := by
  rintro rfl H'
  rcases h with (h | ⟨o, h⟩) | h
  · rw [hb] at h
    cases h
  · rw [hb] at h
    cases h
  · exact .inr h
section
variable {P : Program} {w : World} {K : PySem.W.Frag} {mg : Str → Option Value} {base : Heap} {A : Ad}
def spStart (K : PySem.W.Frag) : Sp := fun vs H Q _ => ∃ (a : Addr) (ns : List Int), vs = [.ref a] ∧ SqL K H a (ns.map V.int) ∧ ns.length ≤ 63 ∧ ∀ b H', H b = none → StB H' b → Ext H H' → Q (.ref b) H'
theorem ok_start {f : Addr} {fd : FuncData} (F : Fun K "_law_start" "_law_start" s__law_start f fd) (T : Txt K mg A) : FnOk P w K mg base CX0 1 f fd pm__law_start (spStart K) := by
  refine F.ok sc__law_start (fun vs H Q E h => ?_) (fun cdv A' outer sh H vs Q E hr h => ?_)
  · obtain ⟨_, _, rfl, _⟩ := h
    rfl
  · obtain ⟨a, ns, rfl, hS, hlen, k⟩ := h
    refine ⟨_, pss_cons (ps_set (i := 1) sc__law_start.nd rfl (Or.inl rfl) (pe_int))
      (Evl.pss_cut (ps_if (pt_cmpR op_gt (pe_callB call_len_seq (by rfl) T.n_len (by decide +kernel) (pa_cons (pv 0) pa_nil)) (pe_int) (nomark _)) (pss_one (ps_set (i := 1) sc__law_start.nd rfl (Or.inl rfl) (pe_ix ix_list (pv 0) (pe_int) (fun _ _ => rfl)))) (pss_nil))
      (pss_one (ps_ret (pe_lst (pa_cons (pe_callB call_abs (by rfl) T.n_abs (by decide +kernel) (pa_cons (pe_callTy call_int1 (by rfl) T.n_int (by decide +kernel) (pa_cons (pv 1) pa_nil)) pa_nil)) (pa_cons (pe_callTy call_int1 (by rfl) T.n_int (by decide +kernel) (pa_cons (pe_cmpR op_ge (pe_callB call_abs (by rfl) T.n_abs (by decide +kernel) (pa_cons (pe_callTy call_int1 (by rfl) T.n_int (by decide +kernel) (pa_cons (pv 1) pa_nil)) pa_nil)) (pe_op op_pow (pe_int) (pe_int)) (nomark _)) pa_nil)) (pa_cons (pe_int) (pa_cons (pe_int) pa_nil)))))))), ?_⟩
    refine ⟨fun σ H' => H' = H ∧ ∃ c, σ = [some (.ref a), some (.int c)], ?_, ?_⟩
    · refine ⟨_, rfl, a, _, rfl, .inl hS, _, _, rfl, rfl, _, rfl, ?_⟩
      cases ns with
      | nil => exact iteF ⟨rfl, 0, rfl⟩
      | cons n ns =>
        rw [List.length_map, List.length_cons, decide_eq_true (show ((ns.length + 1 : Nat) : Int) > 0 by omega)]
        exact iteT ⟨_, rfl, a, _, ((0 : Nat) : Int), .int n, rfl, rfl, hS, atI_nat rfl, rfl, n, rfl⟩
    · rintro σ H' ⟨rfl, c, rfl⟩
      refine ⟨_, rfl, .inl ⟨c, rfl, _, rfl, ?_⟩⟩
      refine ⟨_, rfl, .inl ⟨c, rfl, _, rfl, _, _, rfl, rfl, ⟨by decide, by decide, by decide⟩, _, _, rfl, rfl, .inr ⟨_, rfl, by show 4 ≤ sizeLine; decide, fun p hp => ?_⟩⟩⟩
      exact k p _ hp ⟨_, _, _, _, upd_same⟩ (Ext.upd hp)
end
section
variable {P : Program} {w : World} {K : PySem.W.Frag} {mg : Str → Option Value} {base : Heap} {A : Ad}
def spDrawB (K : PySem.W.Frag) : Sp := fun vs H Q _ => ∃ (a b : Addr) (ns : List Int) (L : Int), vs = [.ref a, .ref b, .int L] ∧ SqL K H a (ns.map V.int) ∧ (a = b → ∀ H', SqL K H' a (ns.map V.int)) ∧ StB H b ∧ 1 ≤ L ∧ L ≤ 2000000 ∧ ∀ n H', 0 ≤ n → n < L → StB H' b → ExtB b H H' → Q (.int n) H'
theorem ok_draw {f : Addr} {fd : FuncData} (F : Fun K "_law_draw" "_law_draw" s__law_draw f fd) (T : Txt K mg A) : FnOk P w K mg base CX0 1 f fd pm__law_draw (spDrawB K) := by
  refine F.ok sc__law_draw (fun vs H Q E h => ?_) (fun cdv A' outer sh H vs Q E hr h => ?_)
  · obtain ⟨_, _, _, _, rfl, _⟩ := h
    rfl
  · obtain ⟨a, b, ns, L, rfl, hS, nab, ⟨x0, x1, x2, x3, hb⟩, hL, hL2, k⟩ := h
    refine ⟨_, pss_cons (ps_asg (pe_op op_add (pe_ix ix_list (pv 1) (pe_int) (fun _ _ => rfl)) (pe_int)) (pg_sub (pv 1) (pe_int) set_list))
      (pss_cons (ps_if (PW.pt (pw_and (pt_cmpR op_eq (pe_ix ix_list (pv 1) (pe_int) (fun _ _ => rfl)) (pe_int) (nomark _)) (pw_and1 (pt_cmpR op_gt (pe_ix ix_list (pv 1) (pe_int) (fun _ _ => rfl)) (pe_int) (nomark _))))) (pss_cons (ps_set (i := 3) sc__law_draw.nd rfl (Or.inl rfl) (pe_op op_modN (pe_callTy call_int1 (by rfl) T.n_int (by decide +kernel) (pa_cons (pe_ix ix_list (pv 1) (pe_int) (fun _ _ => rfl)) pa_nil)) (pv 2)))
      (pss_cons (ps_asg (pe_op op_fdivN (pe_ix ix_list (pv 1) (pe_int) (fun _ _ => rfl)) (pv 2)) (pg_sub (pv 1) (pe_int) set_list))
      (pss_one (ps_ret (pv 3))))) (pss_nil))
      (pss_cons (ps_asg (pe_int) (pg_sub (pv 1) (pe_int) set_list))
      (pss_cons (ps_set (i := 4) sc__law_draw.nd rfl (Or.inl rfl) (pe_int))
      (Evl.pss_cut (ps_if (pt_cmpR op_gt (pe_callB call_len_seq (by rfl) T.n_len (by decide +kernel) (pa_cons (pv 0) pa_nil)) (pe_int) (nomark _)) (pss_one (ps_set (i := 4) sc__law_draw.nd rfl (Or.inl rfl) (pe_ix ix_list (pv 0) (pe_op op_modN (pe_callTy call_int1 (by rfl) T.n_int (by decide +kernel) (pa_cons (pe_ix ix_list (pv 1) (pe_int) (fun _ _ => rfl)) pa_nil)) (pe_callB call_len_seq (by rfl) T.n_len (by decide +kernel) (pa_cons (pv 0) pa_nil))) (fun _ _ => rfl)))) (pss_nil))
      (pss_cons (ps_asg (pe_op op_add (pe_ix ix_list (pv 1) (pe_int) (fun _ _ => rfl)) (pe_int)) (pg_sub (pv 1) (pe_int) set_list))
      (pss_cons (ps_set (i := 5) sc__law_draw.nd rfl (Or.inl rfl) (pe_op op_mul (pe_op op_mod (pe_callTy call_int1 (by rfl) T.n_int (by decide +kernel) (pa_cons (pe_ix ix_list (pv 1) (pe_int) (fun _ _ => rfl)) pa_nil)) (pe_int)) (pe_int)))
      (pss_cons (ps_set (i := 5) sc__law_draw.nd rfl (Or.inl rfl) (pe_op op_add (pe_op op_add (pe_op op_add (pv 5) (pe_op op_mod (pe_callTy call_int1 (by rfl) T.n_int (by decide +kernel) (pa_cons (pv 4) pa_nil)) (pe_int))) (pe_op op_mul (pe_int) (pe_ix ix_list (pv 1) (pe_int) (fun _ _ => rfl)))) (pe_int)))
      (pss_cons (ps_asg (pe_op op_mod (pe_callTy call_int1 (by rfl) T.n_int (by decide +kernel) (pa_cons (pv 5) pa_nil)) (pe_int)) (pg_sub (pv 1) (pe_int) set_list))
      (pss_cons (ps_set (i := 5) sc__law_draw.nd rfl (Or.inl rfl) (pe_op op_mod (pe_callTy call_int1 (by rfl) T.n_int (by decide +kernel) (pa_cons (pe_op op_add (pe_op op_mul (pe_ix ix_list (pv 1) (pe_int) (fun _ _ => rfl)) (pe_int)) (pe_ix ix_list (pv 1) (pe_int) (fun _ _ => rfl))) pa_nil)) (pe_int)))
      (pss_one (ps_ret (pe_op op_modN (pe_callTy call_int1 (by rfl) T.n_int (by decide +kernel) (pa_cons (pe_op op_fdiv (pv 5) (pe_int)) pa_nil)) (pv 2))))))))))))), ?_⟩
    refine ⟨_, rfl, b, _, 3, .int x3, rfl, rfl, SqL.of hb, rfl, _, _, rfl, rfl, _, rfl, b, _, 3, 3, rfl, rfl, hb, rfl, ?_⟩
    have hb1 : upd H b (.lst ([V.int x0, .int x1, .int x2, .int x3].set 3 (.int (x3 + 1)))) b = some (.lst [.int x0, .int x1, .int x2, .int (x3 + 1)]) := upd_same
    have e1 : ExtB b H (upd H b (.lst ([V.int x0, .int x1, .int x2, .int x3].set 3 (.int (x3 + 1))))) := ExtB.set
    generalize upd H b (.lst ([V.int x0, .int x1, .int x2, .int x3].set 3 (.int (x3 + 1)))) = H1 at hb1 e1 ⊢
    refine ⟨_, rfl, b, _, 1, .int x1, rfl, rfl, SqL.of hb1, rfl, rfl, _, rfl, ?_⟩
    rw [dvi]
    by_cases h1 : x1 = 1
    case' pos =>
      rw [decide_eq_true h1]
      refine iteT ⟨_, rfl, b, _, 0, .int x0, rfl, rfl, SqL.of hb1, rfl, _, _, rfl, rfl, _, rfl, ?_⟩
      by_cases h0 : x0 > 0
      case' pos =>
        rw [decide_eq_true h0]
        refine iteT ⟨_, rfl, b, _, 0, .int x0, rfl, rfl, SqL.of hb1, rfl, .inl ⟨_, rfl, _, rfl, _, _, rfl, rfl, (by show L ≠ 0; omega), ?_⟩⟩
        refine ⟨_, rfl, b, _, 0, .int x0, rfl, rfl, SqL.of hb1, rfl, _, rfl, _, _, rfl, rfl, ⟨by omega, by omega⟩, _, rfl, b, _, 0, 0, rfl, rfl, hb1, rfl, _, rfl, ?_⟩
        exact k _ _ (Int.fmod_nonneg_of_pos _ (by omega)) (Int.fmod_lt_of_pos _ (by omega)) ⟨_, _, _, _, upd_same⟩ (e1.trans ExtB.set)
      case' neg =>
        rw [decide_eq_false h0]
        refine iteF ?_
    case' neg =>
      rw [decide_eq_false h1]
      refine iteF (iteF ?_)
    all_goals (
      refine ⟨_, rfl, b, _, 1, 1, rfl, rfl, hb1, rfl, ?_⟩
      have hb2 : upd H1 b (.lst ([V.int x0, .int x1, .int x2, .int (x3 + 1)].set 1 (.int 0))) b = some (.lst [.int x0, .int 0, .int x2, .int (x3 + 1)]) := upd_same
      have e2 : ExtB b H (upd H1 b (.lst ([V.int x0, .int x1, .int x2, .int (x3 + 1)].set 1 (.int 0)))) := e1.trans ExtB.set
      generalize upd H1 b (.lst ([V.int x0, .int x1, .int x2, .int (x3 + 1)].set 1 (.int 0))) = H2 at hb2 e2 ⊢
      have hS2 := sqL_b hS nab e2
      refine ⟨fun σ H' => H' = H2 ∧ ∃ c, σ = [some (.ref a), some (.ref b), some (.int L), Option.none, some (.int c), Option.none], ?_, ?_⟩
      · refine ⟨_, rfl, a, _, rfl, .inl hS2, _, _, rfl, rfl, _, rfl, ?_⟩
        by_cases hn : ns = []
        · subst hn
          exact iteF ⟨rfl, 0, rfl⟩
        · have hlp : 0 < (ns.length : Int) := by
            have := List.length_pos_iff.mpr hn
            omega
          rw [List.length_map, decide_eq_true hlp]
          obtain ⟨j, hj⟩ : ∃ j : Nat, x2.fmod (ns.length : Int) = (j : Int) := ⟨(x2.fmod (ns.length : Int)).toNat, (Int.toNat_of_nonneg (Int.fmod_nonneg_of_pos _ hlp)).symm⟩
          have hjl : j < ns.length := by
            have z := Int.fmod_lt_of_pos x2 hlp
            omega
          have hj' : x2.fmod ((ns.map V.int).length : Int) = (j : Int) := by rw [List.length_map]; exact hj
          have hjv : (ns.map V.int)[j]? = some (.int ns[j]) := by rw [List.getElem?_map, List.getElem?_eq_getElem hjl] <;> rfl
          refine iteT ⟨_, rfl, _, rfl, b, _, 2, .int x2, rfl, rfl, SqL.of hb2, rfl, .inl ⟨_, rfl, _, rfl, a, _, rfl, .inl hS2, _, _, rfl, rfl, (by show ((ns.map V.int).length : Int) ≠ 0; rw [List.length_map]; omega), a, _, _, .int ns[j], rfl, rfl, hS2, by rw [hj']; exact atI_nat hjv, rfl, _, rfl⟩⟩
      · rintro σ H2' ⟨rfl, c, rfl⟩
        refine ⟨_, rfl, b, _, 2, .int x2, rfl, rfl, SqL.of hb2, rfl, _, _, rfl, rfl, _, rfl, b, _, 2, 2, rfl, rfl, hb2, rfl, ?_⟩
        have hb3 : upd H2' b (.lst ([V.int x0, .int 0, .int x2, .int (x3 + 1)].set 2 (.int (x2 + 1)))) b = some (.lst [.int x0, .int 0, .int (x2 + 1), .int (x3 + 1)]) := upd_same
        have e3 : ExtB b H (upd H2' b (.lst ([V.int x0, .int 0, .int x2, .int (x3 + 1)].set 2 (.int (x2 + 1))))) := e2.trans ExtB.set
        generalize upd H2' b (.lst ([V.int x0, .int 0, .int x2, .int (x3 + 1)].set 2 (.int (x2 + 1)))) = H3 at hb3 e3 ⊢
        refine ⟨_, rfl, b, _, 0, .int x0, rfl, rfl, SqL.of hb3, rfl, .inl ⟨_, rfl, _, _, rfl, rfl, (by show (0 : Int) < 2147483647; decide), _, _, rfl, rfl, .inr ⟨by decide, by decide⟩, ?_⟩⟩
        refine ⟨_, rfl, _, rfl, .inl ⟨_, rfl, _, _, rfl, rfl, (by show (0 : Int) < 2147483629; decide), _, _, rfl, rfl, _, rfl, b, _, 3, .int (x3 + 1), rfl, rfl, SqL.of hb3, rfl, _, _, rfl, rfl, .inl ⟨by decide, by decide⟩, _, _, rfl, rfl, _, _, rfl, rfl, ?_⟩⟩
        refine ⟨_, rfl, .inl ⟨_, rfl, _, _, rfl, rfl, (by show (0 : Int) < 2147483647; decide), _, rfl, b, _, 0, 0, rfl, rfl, hb3, rfl, ?_⟩⟩
        generalize x0 % 2147483647 * 48271 + c % 2147483629 + 7 * (x3 + 1) + 11 = mx
        have hb4 : upd H3 b (.lst ([V.int x0, .int 0, .int (x2 + 1), .int (x3 + 1)].set 0 (.int (mx % 2147483647)))) b = some (.lst [.int (mx % 2147483647), .int 0, .int (x2 + 1), .int (x3 + 1)]) := upd_same
        have e4 : ExtB b H (upd H3 b (.lst ([V.int x0, .int 0, .int (x2 + 1), .int (x3 + 1)].set 0 (.int (mx % 2147483647))))) := e3.trans ExtB.set
        generalize upd H3 b (.lst ([V.int x0, .int 0, .int (x2 + 1), .int (x3 + 1)].set 0 (.int (mx % 2147483647)))) = H4 at hb4 e4 ⊢
        refine ⟨_, rfl, b, _, 0, .int (mx % 2147483647), rfl, rfl, SqL.of hb4, rfl, _, _, rfl, rfl, .inr ⟨by decide, by decide⟩, _, rfl, b, _, 3, .int (x3 + 1), rfl, rfl, SqL.of hb4, rfl, _, _, rfl, rfl, .inl ⟨_, rfl, _, _, rfl, rfl, (by show (0 : Int) < 2147483629; decide), ?_⟩⟩
        refine ⟨_, rfl, _, _, rfl, rfl, ⟨by decide, by decide⟩, .inl ⟨_, rfl, _, rfl, _, _, rfl, rfl, (by show L ≠ 0; omega), ?_⟩⟩
        exact k _ _ (Int.fmod_nonneg_of_pos _ (by omega)) (Int.fmod_lt_of_pos _ (by omega)) ⟨_, _, _, _, hb4⟩ e4)
end
end K18

set_option Elab.async false
set_option maxRecDepth 100000
set_option maxHeartbeats 4000000
namespace K02
open PySem PySem.Spec PyProof.Rows L2
section
variable {P : Program} {w : World} {K : PySem.W.Frag} {mg : Str → Option Value} {base : Heap} {A : Ad}
/-! ### things in lists, of whatever kind -/
def spListOfT (K : PySem.W.Frag) : Sp := fun vs H Q _ => ∃ v t k a b xs, vs = [v, .int a, .int b] ∧ (∀ H', Ext H H' → TyX K H' v t) ∧ PySem.W.kitAny K t [.type "list", .type "tuple"] = some k ∧ (k = true → ∃ p, v = .ref p ∧ (SqL K H p xs ∨ SqT K H p xs)) ∧
  ∀ H', Ext H H' → Q (.bl (k && (decide (a ≤ (xs.length : Int)) && decide ((xs.length : Int) ≤ b)))) H'
theorem ok_listOfT {f : Addr} {fd : FuncData} (F : Fun K "is_list_of" "is_list_of" s_is_list_of f fd) (T : Txt K mg A) (O_is_list : Own P w K mg base CX0 "is_list" 1 pm_is_list (spIsList K)) : FnOk P w K mg base CX0 2 f fd pm_is_list_of (spListOfT K) := by
  refine F.ok sc_is_list_of (fun vs H Q E h => ?_) (fun cdv A' outer s H vs Q E hr h => ?_)
  · obtain ⟨v, t, k, a, b, xs, rfl, _⟩ := h
    rfl
  · obtain ⟨v, t, k, a, b, xs, rfl, hk, hs, hq, q⟩ := h
    refine ⟨_, pss_one (ps_ret (pe_and (pe_own O_is_list (hr.mono (by decide)) pass0 (pa_cons (pv 0) pa_nil)) (pe_one (pe_chain op_le op_le (pv 1) (pe_callB call_len_seq (by rfl) T.n_len (by decide +kernel) (pa_cons (pv 0) pa_nil)) (pv 2))))), ?_⟩
    refine ⟨v, rfl, v, t, k, rfl, hk, hs, fun H1 e1 => ⟨_, rfl, ?_⟩⟩
    have q1 := q H1 e1
    cases k with
    | false => exact iteF q1
    | true =>
      obtain ⟨p, rfl, hx⟩ := hq rfl
      refine iteT ⟨_, rfl, _, rfl, p, xs, rfl, hx.imp (fun h => h.ext e1) (fun h => h.ext e1), _, _, rfl, rfl, _, rfl, ?_⟩
      cases h2 : decide (a ≤ (xs.length : Int)) with
      | true =>
        rw [h2] at q1
        exact iteT ⟨_, rfl, _, _, rfl, rfl, q1⟩
      | false =>
        rw [h2] at q1
        exact iteF q1
/-! ### ways with their boxes, told -/
abbrev Wy := Option Int × Int × Int × List K15.Bx
def WayY (K : PySem.W.Frag) (A : Ad) (H : Hp) (p : Addr) (d : Wy) : Prop := K15.MyWay K A H p d.1 d.2.1 d.2.2.1 d.2.2.2
theorem WayY.ext {H H' : Hp} {p : Addr} {d : Wy} (h : WayY K A H p d) (e : Ext H H') : WayY K A H' p d := K15.MyWay.ext h e
theorem wy_ins {H : Hp} {a : Addr} {d : Wy} (h : WayY K A H a d) : ∃ dx fs, H a = some (.ins A.Way dx fs) := by
  obtain ⟨dx, T, xs, h1, _⟩ := h
  exact ⟨dx, _, h1⟩
/-- ways that stand in a list or a tuple -/
def WaysY (K : PySem.W.Frag) (A : Ad) (H : Hp) (ws : List V) (ds : List Wy) : Prop := ws.length = ds.length ∧ ∀ (i : Nat) (x : V) (d : Wy), ws[i]? = some x → ds[i]? = some d → ∃ q, x = .ref q ∧ WayY K A H q d
theorem WaysY.ext {H H' : Hp} {ws : List V} {ds : List Wy} (h : WaysY K A H ws ds) (e : Ext H H') : WaysY K A H' ws ds := ⟨h.1, fun i x d h1 h2 => by
  obtain ⟨q, e1, e2⟩ := h.2 i x d h1 h2
  exact ⟨q, e1, e2.ext e⟩⟩
theorem WaysY.at {H : Hp} {ws : List V} {ds : List Wy} (h : WaysY K A H ws ds) {i : Nat} {x : V} (hx : ws[i]? = some x) : ∃ q d, x = .ref q ∧ ds[i]? = some d ∧ WayY K A H q d := by
  have hi := (List.getElem?_eq_some_iff.mp hx).1
  have hj : i < ds.length := by rw [← h.1]; exact hi
  obtain ⟨q, e1, e2⟩ := h.2 i x ds[i] hx (List.getElem?_eq_getElem hj)
  exact ⟨q, _, e1, List.getElem?_eq_getElem hj, e2⟩
def spCheckWays (K : PySem.W.Frag) (A : Ad) : Sp := fun vs H Q _ => ∃ (p : Addr) (xs : List V) (ds : List Wy), vs = [.ref p] ∧ (SqL K H p xs ∨ SqT K H p xs) ∧ WaysY K A H xs ds ∧ 1 ≤ ds.length ∧ ds.length ≤ 4 ∧ ∀ H', Ext H H' → Q .non H'
theorem sq_ty {H : Hp} {p : Addr} {xs : List V} (h : SqL K H p xs ∨ SqT K H p xs) : ∃ t, (∀ H', Ext H H' → TyX K H' (.ref p) t) ∧ PySem.W.kitAny K t [.type "list", .type "tuple"] = some true := by
  rcases h with h | h
  · refine ⟨.type "list", fun H' e => ?_, ?_⟩
    · rcases h.ext e with (h | ⟨o, h⟩) | ⟨o, its, n, e, c, _⟩
      · exact .base (.lst h)
      · exact .base (.frz h)
      · exact .kList e c
    · have z := kd_seq (K := K) (d := .list [])
      exact z
  · refine ⟨.type "tuple", fun H' e => ?_, ?_⟩
    · rcases h.ext e with (h | ⟨o, h⟩) | ⟨o, its, n, e, c, _⟩
      · exact .base (.tup h)
      · exact .fTuple h
      · exact .kTuple e c
    · have z := kd_seq (K := K) (d := .tuple [])
      exact z
theorem ok_checkWays {f : Addr} {fd : FuncData} (F : Fun K "check_ways" "check_ways" s_check_ways f fd) (T : Txt K mg A) (O_is_list_of : Own P w K mg base CX0 "is_list_of" 2 pm_is_list_of (spListOfT K)) (X_BadPart : XCls P w K mg base "BadPart" "part" A.BadPart) : FnOk P w K mg base (L2.CX P w) 4 f fd pm_check_ways (spCheckWays K A) := by
  refine F.okX sc_check_ways (fun vs H Q E h => ?_) (fun cdv A' outer s H vs Q E hr h => ?_)
  · obtain ⟨_, _, _, rfl, _⟩ := h
    rfl
  · obtain ⟨p, xs, ds, rfl, hx, hw, l1, l4, q⟩ := h
    have hIsi : ∀ s1 H1 sc ce fp, CallR ((cxOf (L2.CX P w) P w K mg base nm_check_ways "check_ways" (defScope s_check_ways) f cdv A' outer s H E).blk s1 H1 sc ce fp) (.builtin "isinstance") (rIsi K) := fun s1 H1 sc ce fp =>
      call_isi (X := (cxOf (L2.CX P w) P w K mg base nm_check_ways "check_ways" (defScope s_check_ways) f cdv A' outer s H E).blk s1 H1 sc ce fp)
    refine ⟨_, pss_one (ps_if (PW.pt (pw_or (pt_not (pt_val (pe_own O_is_list_of (hr.mono (by decide)) pass0 (pa_cons (pv 0) (pa_cons (pe_int) (pa_cons (pe_gint T.g_MOST_WAYS) pa_nil)))))) (pw_or1 (pt_not (pt_val (pe_callB (cr_all rfl) (by rfl) T.n_all (by decide +kernel) (pa_cons (pe_lc (own := [("way", 1)]) (g := gName 1) (by rfl) sc_check_ways.nd (pi_sq (pv 0)) (blkOk_by (own := [("way", 1)]) (N := nm_check_ways) (sc := defScope s_check_ways) (by decide +kernel)) (fun _ _ _ _ _ => pg_name (i := 1) sc_check_ways.nd rfl (Or.inl rfl)) (fun s1 H1 C1 cl fp => pts_nil) (fun s1 H1 C1 cl fp => pe_callB (hIsi _ _ _ _ _) (by rfl) T.n_isinstance (by decide +kernel) (pa_cons (pv 1) (pa_cons (pe_gcls T.Way.gC) pa_nil)))) pa_nil))))))) (pss_one (ps_raise rfl (takes_of rfl rfl rfl rfl) (pmk_X X_BadPart (hr.mono (by decide)) (pe_str) rfl))) (pss_nil)), ?_⟩
    obtain ⟨t, t1, t2⟩ := sq_ty hx
    have hl : xs.length = ds.length := hw.1
    refine ⟨_, rfl, _, t, true, 1, 4, xs, rfl, t1, t2, fun _ => ⟨p, rfl, hx⟩, fun H1 e1 => ⟨_, rfl, ?_⟩⟩
    rw [decide_eq_true (show (1 : Int) ≤ (xs.length : Int) by omega), decide_eq_true (show (xs.length : Int) ≤ 4 by omega)]
    refine iteF ⟨_, rfl, p, rfl, lc_sqG (f := fun _ => .bl true) (b := fun _ => true) (hx.imp (fun h => h.ext e1) (fun h => h.ext e1)) (small1000 (by omega)) (fun x => rfl) (fun x hm H' e' Q' q' => q' _ Ext.rfl') (fun x hm _ H' e' Q' q' => ?_) (fun D H2 hD e2 hl2 => ?_)⟩
    · obtain ⟨i, hi, rfl⟩ := List.getElem_of_mem hm
      obtain ⟨r, d, hr2, _, hy⟩ := hw.at (List.getElem?_eq_getElem hi)
      rw [hr2]
      obtain ⟨dx, fs, hq⟩ := wy_ins hy
      exact ⟨_, rfl, _, .ref A.Way, .ref A.Way, .ref A.Way, true, rfl, .own _, T.Way.tyOf (e' _ _ (e1 _ _ hq)), T.Way.me, q' _ Ext.rfl'⟩
    · rw [L2.filter_all] at hl2
      refine ⟨D, xs.map fun _ => true, rfl, SqL.of (by rw [List.map_map]; exact hl2), _, rfl, ?_⟩
      have : (xs.map fun _ => true).all id = true := by
        rw [List.all_map]
        exact List.all_eq_true.mpr fun _ _ => rfl
      rw [this]
      exact iteF (q _ (e1.trans e2))
end
end K02

set_option Elab.async false
set_option maxRecDepth 100000
set_option maxHeartbeats 4000000
namespace K02
open PySem PySem.Spec PyProof.Rows L2
/-- a line, told -/
structure LnD where
  rows : List (List PyData)
  ways : List Wy
  widths : List Int
  turn : Int
  numbers : Int
  head : Int
  places : Int
  cost : Int
  period : Int
  quiet : Int
  silent : Int
  losses : Int
  size : Int
  bounds : List Int
def WdOk (ns : List Int) : Prop := 1 ≤ ns.length ∧ ns.length ≤ 8 ∧ (∀ n ∈ ns, 1 ≤ n ∧ n ≤ 100) ∧ ns.Pairwise (· < ·)
def Fits (ds : List Wy) (t : Int) : Prop := ∀ d ∈ ds, d.1 ≠ none → d.2.2.2 ≠ [] → 2 * d.2.2.1 ≤ t
structure GoodL (x : LnD) : Prop where
  ways : 1 ≤ x.ways.length ∧ x.ways.length ≤ 4
  widths : WdOk x.widths
  turn : 1 ≤ x.turn ∧ x.turn ≤ 200
  numbers : 2 ≤ x.numbers ∧ x.numbers ≤ 8
  head : 1 ≤ x.head ∧ x.head ≤ 8
  places : 0 ≤ x.places ∧ x.places ≤ 4
  cost : 2 ≤ x.cost ∧ x.cost ≤ 9
  period : 1 ≤ x.period ∧ x.period ≤ 200
  quiet : 1 ≤ x.quiet ∧ x.quiet ≤ 500
  silent : 0 ≤ x.silent ∧ x.silent ≤ 3
  losses : 1 ≤ x.losses ∧ x.losses ≤ 3
  fits : Fits x.ways x.turn
theorem cut1L {α : Type} (ns : List α) : ns.drop 1 = ns.tail := by cases ns <;> rfl
theorem pw_next {ns : List Int} (h : ns.Pairwise (· < ·)) {i : Nat} {a b : Int} (ha : ns[i]? = some a) (hb : ns.tail[i]? = some b) : a < b := by
  obtain ⟨hi, rfl⟩ := List.getElem?_eq_some_iff.mp ha
  rw [List.getElem?_tail] at hb
  obtain ⟨hj, rfl⟩ := List.getElem?_eq_some_iff.mp hb
  exact List.pairwise_iff_getElem.mp h _ _ hi hj (by omega)
theorem cut1 {xs : List V} (h : 1 ≤ xs.length) : cutV xs (some 1) Option.none = xs.drop 1 := by
  have h1 : HT.sIx xs.length 0 (some 1) = 1 := by
    unfold HT.sIx
    simp
    omega
  have h2 : HT.sIx xs.length xs.length Option.none = xs.length := rfl
  unfold cutV
  rw [h1, h2, List.take_of_length_le (by rw [List.length_drop]; omega)]
section
variable {P : Program} {w : World} {K : PySem.W.Frag} {mg : Str → Option Value} {base : Heap} {A : Ad}
def spWidths (K : PySem.W.Frag) : Sp := fun vs H Q _ => ∃ (p : Addr) (ns : List Int), vs = [.ref p] ∧ SqL K H p (ns.map V.int) ∧ WdOk ns ∧ ∀ H', Ext H H' → Q (.bl true) H'
theorem ok_widths {f : Addr} {fd : FuncData} (F : Fun K "are_widths" "are_widths" s_are_widths f fd) (T : Txt K mg A) (O_is_list_of : Own P w K mg base CX0 "is_list_of" 2 pm_is_list_of (spListOfT K)) (O_is_between : Own P w K mg base CX0 "is_between" 2 pm_is_between (spBetween K)) : FnOk P w K mg base CX0 4 f fd pm_are_widths (spWidths K) := by
  refine F.ok sc_are_widths (fun vs H Q E h => ?_) (fun cdv A' outer s H vs Q E hr h => ?_)
  · obtain ⟨_, _, rfl, _⟩ := h
    rfl
  · obtain ⟨p, ns, rfl, hx, ⟨n1, n8, hn, hpw⟩, q⟩ := h
    refine ⟨_, pss_cons (ps_if (PW.pt (pw_or (pt_not (pt_val (pe_own O_is_list_of (hr.mono (by decide)) pass0 (pa_cons (pv 0) (pa_cons (pe_int) (pa_cons (pe_gint T.g_MOST_WIDTHS) pa_nil)))))) (pw_or1 (pt_not (pt_val (pe_callB (cr_all rfl) (by rfl) T.n_all (by decide +kernel) (pa_cons (pe_lc (own := [("width", 1)]) (g := gName 1) (by rfl) sc_are_widths.nd (pi_sqK rfl (pv 0)) (blkOk_by (own := [("width", 1)]) (N := nm_are_widths) (sc := defScope s_are_widths) (by decide +kernel)) (fun _ _ _ _ _ => pg_name (i := 1) sc_are_widths.nd rfl (Or.inl rfl)) (fun s1 H1 C1 cl fp => pts_nil) (fun s1 H1 C1 cl fp => pe_own O_is_between (hr.mono (by decide)) pass0 (pa_cons (pv 1) (pa_cons (pe_int) (pa_cons (pe_gint T.g_MOST_WIDTH) pa_nil))))) pa_nil))))))) (pss_one (ps_ret (pe_bl))) (pss_nil))
      (pss_one (ps_ret (pe_callB (cr_all rfl) (by rfl) T.n_all (by decide +kernel) (pa_cons (pe_lc (own := [("one", 2), ("other", 3)]) (g := gTup K 2 (gCons (gName 2) (gCons (gName 3) (gNil)))) (by rfl) sc_are_widths.nd (pi_zipB false false (by rfl) T.n_zip (pa_cons (pv 0) (pa_cons (pe_slice sl_list (pv 0) (po_some (pe_int)) po_none) pa_nil))) (blkOk_by (own := [("one", 2), ("other", 3)]) (N := nm_are_widths) (sc := defScope s_are_widths) (by decide +kernel)) (fun _ _ _ _ _ => pg_tup rfl (pgs_cons (pg_name (i := 2) sc_are_widths.nd rfl (Or.inl rfl)) (pgs_cons (pg_name (i := 3) sc_are_widths.nd rfl (Or.inl rfl)) (pgs_nil)))) (fun s1 H1 C1 cl fp => pts_nil) (fun s1 H1 C1 cl fp => pe_cmpR op_lt (pv 2) (pv 3) (nomark _))) pa_nil)))), ?_⟩
    obtain ⟨t, t1, t2⟩ := sq_ty (.inl hx)
    have hl : (ns.map V.int).length = ns.length := List.length_map ..
    refine ⟨_, rfl, _, t, true, 1, 8, _, rfl, t1, t2, fun _ => ⟨p, rfl, .inl hx⟩, fun H1 e1 => ⟨_, rfl, ?_⟩⟩
    rw [decide_eq_true (show (1 : Int) ≤ ((ns.map V.int).length : Int) by omega), decide_eq_true (show ((ns.map V.int).length : Int) ≤ 8 by omega)]
    refine iteF ⟨_, rfl, p, rfl, lc_sqG (f := fun _ => .bl true) (b := fun _ => true) (.inl (hx.ext e1)) (small1000 (by omega)) (fun x => rfl) (fun x hm H' e' Q' q' => q' _ Ext.rfl') (fun x hm _ H' e' Q' q' => ?_) (fun D H2 hD e2 hl2 => ?_)⟩
    · obtain ⟨n, hnm, rfl⟩ := List.mem_map.mp hm
      refine ⟨_, rfl, _, .int n, 1, 100, rfl, .int _, ?_⟩
      rw [bet_int, decide_eq_true (hn n hnm).1, decide_eq_true (hn n hnm).2]
      exact q' _ Ext.rfl'
    · rw [L2.filter_all] at hl2
      refine ⟨D, (ns.map V.int).map fun _ => true, rfl, SqL.of (by rw [List.map_map]; exact hl2), _, rfl, ?_⟩
      have : ((ns.map V.int).map fun _ => true).all id = true := by
        rw [List.all_map]
        exact List.all_eq_true.mpr fun _ _ => rfl
      rw [this]
      have e12 := e1.trans e2
      refine iteF ⟨_, rfl, _, rfl, 1, rfl, p, _, rfl, hx.ext e12, fun t ht => ⟨p, t, ns.map V.int, _, rfl, (hx.ext e12).ext (Ext.upd ht), SqL.of upd_same, fun D2 hD2 => ?_⟩⟩
      rw [cut1 (show 1 ≤ (ns.map V.int).length by omega), ← List.map_drop] at hD2 ⊢
      have et := Ext.upd (o := .lst ((ns.drop 1).map V.int)) ht
      have ht1 : upd H2 t (.lst ((ns.drop 1).map V.int)) t = some (.lst ((ns.drop 1).map V.int)) := upd_same
      generalize upd H2 t (.lst ((ns.drop 1).map V.int)) = H3 at hD2 et ht1 ⊢
      refine lc_it (walk_zipB (t1 := false) (t2 := false) rfl) (fun i J => Ext H3 J ∧ J D2 = some (.lst ((List.replicate i true).map V.bl))) ⟨Ext.upd hD2, upd_same⟩ (fun i J _ pv => ⟨(hx.ext e12).ext (et.trans pv.1), SqL.of (pv.1 _ _ ht1)⟩) (fun i z J J' hi pv hy => ?_) (fun J pv => ?_)
      · obtain ⟨T2, x, y, rfl, hT, rfl, hx2, hy2⟩ := hy
        obtain ⟨e3, hl3⟩ := pv
        dsimp only at hx2 hy2
        rw [List.getElem?_map] at hx2 hy2
        obtain ⟨a, ha, rfl⟩ : ∃ a, ns[i]? = some a ∧ .int a = x := by
          cases h : ns[i]? with
          | none => rw [h] at hx2; cases hx2
          | some a => rw [h] at hx2; exact ⟨a, rfl, Option.some.inj hx2⟩
        obtain ⟨c, hc, rfl⟩ : ∃ a, (ns.drop 1)[i]? = some a ∧ .int a = y := by
          cases h : (ns.drop 1)[i]? with
          | none => rw [h] at hy2; cases hy2
          | some a => rw [h] at hy2; exact ⟨a, rfl, Option.some.inj hy2⟩
        rw [cut1L] at hc
        have hlt := pw_next hpw ha hc
        have nTD : D2 ≠ T2 := fun z => by rw [z, hT] at hl3; cases hl3
        refine ⟨T2, _, rfl, SqT.of upd_same, rfl, _, _, rfl, _, _, rfl, rfl, rfl, ?_⟩
        refine ⟨_, rfl, _, rfl, _, _, rfl, rfl, _, by rw [upd_ne nTD]; exact hl3, small1000 (by rw [List.length_map, List.length_replicate]; have := hi; rw [List.length_map] at this; omega), ext_mut (e3.upd' hT) hD2, ?_⟩
        dsimp only
        rw [decide_eq_true hlt, upd_same, List.replicate_succ', List.map_append]
        rfl
      · obtain ⟨e3, hl3⟩ := pv
        refine ⟨D2, _, rfl, SqL.of hl3, ?_⟩
        rw [show (List.replicate (min (ns.map V.int).length (List.map V.int (ns.drop 1)).length) true).all id = true from List.all_eq_true.mpr fun b hb => List.eq_of_mem_replicate hb]
        exact q _ (e12.trans (et.trans e3))
def spCheckPart (K : PySem.W.Frag) (A : Ad) : Sp := fun vs H Q E => ∃ (s : Str) (v : V) (d : PyData) (a b : Int), vs = [.str s, v, .int a, .int b] ∧ Dp K H v d ∧ (betD d a b = false → ErrP A E H s) ∧ (betD d a b = true → Q .non H)
theorem ok_checkPart {f : Addr} {fd : FuncData} (F : Fun K "check_part" "check_part" s_check_part f fd) (T : Txt K mg A) (O_is_between : Own P w K mg base CX0 "is_between" 2 pm_is_between (spBetween K)) (X_BadPart : XCls P w K mg base "BadPart" "part" A.BadPart) : FnOk P w K mg base (L2.CX P w) 4 f fd pm_check_part (spCheckPart K A) := by
  refine F.okX sc_check_part (fun vs H Q E h => ?_) (fun cdv A' outer sh H vs Q E hr h => ?_)
  · obtain ⟨_, _, _, _, _, rfl, _⟩ := h
    rfl
  · obtain ⟨s, v, d, a, b, rfl, hd, q1, q2⟩ := h
    refine ⟨_, pss_one (ps_if (pt_not (pt_val (pe_own O_is_between (hr.mono (by decide)) pass0 (pa_cons (pv 1) (pa_cons (pv 2) (pa_cons (pv 3) pa_nil)))))) (pss_one (ps_raise rfl (takes_of rfl rfl rfl rfl) (pmk_X X_BadPart (hr.mono (by decide)) (pv 0) rfl))) (pss_nil)), ?_⟩
    refine ⟨v, rfl, _, rfl, _, rfl, v, d, a, b, rfl, hd, _, rfl, ?_⟩
    cases h1 : betD d a b with
    | false => exact iteT ⟨_, rfl, mkX_fin fun e he => q1 h1 _ Ext.rfl' e he⟩
    | true => exact iteF (q2 h1)
theorem cpF {n a b : Int} {p : Prop} (h : a ≤ n ∧ n ≤ b) (z : betD (.int n) a b = false) : p := by
  rw [bet_int, decide_eq_true h.1, decide_eq_true h.2] at z
  cases z
def spCheckBoxes (K : PySem.W.Frag) (A : Ad) : Sp := fun vs H Q _ => ∃ (p : Addr) (xs : List V) (ds : List Wy) (t : Int), vs = [.ref p, .int t] ∧ (SqL K H p xs ∨ SqT K H p xs) ∧ WaysY K A H xs ds ∧ Fits ds t ∧ Q .non H
theorem ok_checkBoxes {f : Addr} {fd : FuncData} (F : Fun K "check_boxes" "check_boxes" s_check_boxes f fd) (T : Txt K mg A) (X_BadPart : XCls P w K mg base "BadPart" "part" A.BadPart) : FnOk P w K mg base (L2.CX P w) 4 f fd pm_check_boxes (spCheckBoxes K A) := by
  refine F.okX sc_check_boxes (fun vs H Q E h => ?_) (fun cdv A' outer sh H vs Q E hr h => ?_)
  · obtain ⟨_, _, _, _, rfl, _⟩ := h
    rfl
  · obtain ⟨p, xs, ds, t, rfl, hx, hw, hf, q⟩ := h
    refine ⟨_, pss_one (ps_for (passes_of rfl) rfl (pi_sq (pv 0)) (pg_name (i := 2) sc_check_boxes.nd rfl (Or.inl rfl)) (pss_one (ps_if (PW.pt (pw_and (pt_cmpR op_notN (pe_fld (pv 2) rfl) (pe_non) (nomark _)) (pw_and (pt_truthK (K := K) rfl (pe_fld (pv 2) rfl) (by intro _; rfl)) (pw_and1 (pt_cmpR op_lt (pv 1) (pe_op op_mul (pe_int) (pe_fld (pv 2) rfl)) (nomark _)))))) (pss_one (ps_raise rfl (takes_of rfl rfl rfl rfl) (pmk_X X_BadPart (hr.mono (by decide)) (pe_str) rfl))) (pss_nil)))), ?_⟩
    refine ⟨_, rfl, p, rfl, for_sq hx (fun i σ' J => J = H ∧ ∃ o, σ' = [some (.ref p), some (.int t), o]) ⟨rfl, _, rfl⟩ (fun i σ' J pv => pv.1 ▸ Ext.rfl') (fun i x σ' J hi pv => ?_) (fun σ' J pv => ?_)⟩
    · obtain ⟨rfl, o, rfl⟩ := pv
      obtain ⟨r, d, rfl, hd, dx, Tb, bs, hr1, hr2, hr3⟩ := hw.at hi
      obtain ⟨bo, l, m, bx⟩ := d
      refine ⟨_, rfl, ?_⟩
      refine ⟨r, A.Way, dx, _, _, rfl, hr1, T.Way.cl, T.w_begin, rfl, rfl, _, rfl, ?_⟩
      cases bo with
      | none => exact iteF ⟨rfl, _, rfl⟩
      | some n =>
        refine iteT ⟨_, rfl, r, A.Way, dx, _, _, rfl, hr1, T.Way.cl, T.w_boxes, rfl, !(bs.isEmpty), ?_, ?_⟩
        · exact .inr (.inl ⟨bs, hr2, rfl⟩)
        cases hb : bs.isEmpty with
        | true => exact iteF ⟨rfl, _, rfl⟩
        | false =>
          have hbx : bx ≠ [] := fun z => by
            rw [z] at hr3
            cases hr3
            cases hb
          have hle := hf _ (List.mem_of_getElem? hd) (fun z => nomatch z) hbx
          refine iteT ⟨_, rfl, _, rfl, r, A.Way, dx, _, _, rfl, hr1, T.Way.cl, T.w_most, rfl, _, _, rfl, rfl, .inl ⟨by decide, by decide⟩, _, _, rfl, rfl, _, rfl, ?_⟩
          rw [decide_eq_false (show ¬ t < 2 * m by have z : 2 * m ≤ t := hle; omega)]
          exact iteF ⟨rfl, _, rfl⟩
    · obtain ⟨rfl, o, rfl⟩ := pv
      exact q
def LineAt (K : PySem.W.Frag) (A : Ad) (H : Hp) (p : Addr) (x : LnD) : Prop := ∃ dx m tw tg r ws, H p = some (.ins A.Line dx [("mail", .ref m), ("ways", .ref tw), ("widths", .ref tg), ("turn", .int x.turn), ("numbers", .int x.numbers), ("room", .ref r), ("head", .int x.head), ("places", .int x.places), ("cost", .int x.cost), ("period", .int x.period), ("quiet", .int x.quiet), ("silent", .int x.silent), ("losses", .int x.losses)]) ∧ MailAt K A H m x.rows ∧ SqT K H tw ws ∧ WaysY K A H ws x.ways ∧ SqT K H tg (x.widths.map V.int) ∧ K08.RmAt K A H r x.size x.bounds
theorem LineAt.ext {H H' : Hp} {p : Addr} {x : LnD} (h : LineAt K A H p x) (e : Ext H H') : LineAt K A H' p x := by
  obtain ⟨dx, m, tw, tg, r, ws, h1, h2, h3, h4, h5, h6⟩ := h
  exact ⟨dx, m, tw, tg, r, ws, e _ _ h1, h2.ext e, h3.ext e, h4.ext e, h5.ext e, K08.RmAt.ext h6 e⟩
/-- a line's making, its parts good -/
def spLineInit (K : PySem.W.Frag) (A : Ad) : Sp := fun vs H Q _ => ∃ (p dx m a g r : Addr) (ws : List V) (x : LnD), vs = [.ref p, .ref m, .ref a, .ref g, .int x.turn, .int x.numbers, .ref r, .int x.head, .int x.places, .int x.cost, .int x.period, .int x.quiet, .int x.silent, .int x.losses] ∧ H p = some (.ins A.Line dx []) ∧
  MailAt K A H m x.rows ∧ SqL K H a ws ∧ WaysY K A H ws x.ways ∧ SqL K H g (x.widths.map V.int) ∧ K08.RmAt K A H r x.size x.bounds ∧ GoodL x ∧ ∀ H', LineAt K A H' p x → (∀ y o, y ≠ p → H y = some o → H' y = some o) → Q .non H'
theorem MailAt.mutI {H H' : Hp} {p C dx m : Addr} {L : List (List PyData)} (hp : H p = some (.ins C dx [])) (e : ∀ x o, x ≠ p → H x = some o → H' x = some o) (h : MailAt K A H m L) : MailAt K A H' m L := by
  obtain ⟨dy, pr, pl, h1, h2, h3, h4⟩ := h
  have nm : m ≠ p := fun z => by
    rw [z, hp] at h1
    injection h1 with h1
    injection h1 with _ _ h1
    cases h1
  exact ⟨dy, pr, pl, e _ _ nm h1, dp_mutI hp e h2, dp_mutI hp e h3, h4⟩
theorem WaysY.mutI {H H' : Hp} {p C dx : Addr} {ws : List V} {ds : List Wy} (hp : H p = some (.ins C dx [])) (e : ∀ x o, x ≠ p → H x = some o → H' x = some o) (h : WaysY K A H ws ds) : WaysY K A H' ws ds := ⟨h.1, fun i v d h1 h2 => by
  obtain ⟨q, e1, dy, Tb, bs, g1, g2, g3⟩ := h.2 i v d h1 h2
  have nq : q ≠ p := fun z => by
    rw [z, hp] at g1
    injection g1 with g1
    injection g1 with _ _ g1
    cases g1
  exact ⟨q, e1, dy, Tb, bs, e _ _ nq g1, K15.sqT_mut hp e g2, K15.dps_mut hp e _ _ g3⟩⟩
theorem rm_mutI {H H' : Hp} {p C dx r : Addr} {z : Int} {bs : List Int} (hp : H p = some (.ins C dx [])) (e : ∀ x o, x ≠ p → H x = some o → H' x = some o) (h : K08.RmAt K A H r z bs) : K08.RmAt K A H' r z bs := by
  obtain ⟨dy, s, h1, dz, pb, h2, h3⟩ := h
  have nr : r ≠ p := fun z => by
    rw [z, hp] at h1
    injection h1 with h1
    injection h1 with _ _ h1
    cases h1
  have ns : s ≠ p := fun z => by
    rw [z, hp] at h2
    injection h2 with h2
    injection h2 with _ _ h2
    cases h2
  exact ⟨dy, s, e _ _ nr h1, dz, pb, e _ _ ns h2, K15.sqT_mut hp e h3⟩
theorem ok_lineInit {f : Addr} {fd : FuncData} (F : Fun K "__init__" "Line.__init__" s_Line_init f fd) (T : Txt K mg A) (O_check_ways : Own P w K mg base (L2.CX P w) "check_ways" 4 pm_check_ways (spCheckWays K A)) (O_are_widths : Own P w K mg base CX0 "are_widths" 4 pm_are_widths (spWidths K))
    (O_check_part : Own P w K mg base (L2.CX P w) "check_part" 4 pm_check_part (spCheckPart K A)) (O_check_boxes : Own P w K mg base (L2.CX P w) "check_boxes" 4 pm_check_boxes (spCheckBoxes K A)) (X_BadPart : XCls P w K mg base "BadPart" "part" A.BadPart) : FnOk P w K mg base (L2.CX P w) 6 f fd pm_Line_init (spLineInit K A) := by
  refine F.okX sc_Line_init (fun vs H Q E h => ?_) (fun cdv A' outer sh H vs Q E hr h => ?_)
  · obtain ⟨_, _, _, _, _, _, _, _, rfl, _⟩ := h
    rfl
  · obtain ⟨p, dx, m, a, g, r, ws, x, rfl, hp, hm, ha, hw, hg, hrm, gd, q⟩ := h
    refine ⟨_, pss_cons (ps_if (pt_not (pt_val (pe_callB call_isi (by rfl) T.n_isinstance (by decide +kernel) (pa_cons (pv 1) (pa_cons (pe_gcls T.Mail.gC) pa_nil))))) (pss_one (ps_raise rfl (takes_of rfl rfl rfl rfl) (pmk_X X_BadPart (hr.mono (by decide)) (pe_str) rfl))) (pss_nil))
      (pss_cons (ps_expr (pe_ownS O_check_ways (hr.mono (by decide)) (takes_of rfl rfl rfl rfl) (pa_cons (pv 2) pa_nil)))
      (pss_cons (ps_if (pt_not (pt_val (pe_own O_are_widths (hr.mono (by decide)) pass0 (pa_cons (pv 3) pa_nil)))) (pss_one (ps_raise rfl (takes_of rfl rfl rfl rfl) (pmk_X X_BadPart (hr.mono (by decide)) (pe_str) rfl))) (pss_nil))
      (pss_cons (ps_expr (pe_ownS O_check_part (hr.mono (by decide)) (takes_of rfl rfl rfl rfl) (pa_cons (pe_str) (pa_cons (pv 4) (pa_cons (pe_int) (pa_cons (pe_gint T.g_MOST_TURN) pa_nil))))))
      (pss_cons (ps_expr (pe_ownS O_check_part (hr.mono (by decide)) (takes_of rfl rfl rfl rfl) (pa_cons (pe_str) (pa_cons (pv 5) (pa_cons (pe_int) (pa_cons (pe_gint T.g_MOST_NUMBERS) pa_nil))))))
      (pss_cons (ps_if (pt_not (pt_val (pe_callB call_isi (by rfl) T.n_isinstance (by decide +kernel) (pa_cons (pv 6) (pa_cons (pe_gcls T.Room.gC) pa_nil))))) (pss_one (ps_raise rfl (takes_of rfl rfl rfl rfl) (pmk_X X_BadPart (hr.mono (by decide)) (pe_str) rfl))) (pss_nil))
      (pss_cons (ps_expr (pe_ownS O_check_part (hr.mono (by decide)) (takes_of rfl rfl rfl rfl) (pa_cons (pe_str) (pa_cons (pv 7) (pa_cons (pe_int) (pa_cons (pe_gint T.g_MOST_HEAD) pa_nil))))))
      (pss_cons (ps_expr (pe_ownS O_check_part (hr.mono (by decide)) (takes_of rfl rfl rfl rfl) (pa_cons (pe_str) (pa_cons (pv 8) (pa_cons (pe_int) (pa_cons (pe_gint T.g_MOST_PLACES) pa_nil))))))
      (pss_cons (ps_expr (pe_ownS O_check_part (hr.mono (by decide)) (takes_of rfl rfl rfl rfl) (pa_cons (pe_str) (pa_cons (pv 9) (pa_cons (pe_gint T.g_LEAST_COST) (pa_cons (pe_gint T.g_MOST_COST) pa_nil))))))
      (pss_cons (ps_expr (pe_ownS O_check_part (hr.mono (by decide)) (takes_of rfl rfl rfl rfl) (pa_cons (pe_str) (pa_cons (pv 10) (pa_cons (pe_int) (pa_cons (pe_gint T.g_MOST_PERIOD) pa_nil))))))
      (pss_cons (ps_expr (pe_ownS O_check_part (hr.mono (by decide)) (takes_of rfl rfl rfl rfl) (pa_cons (pe_str) (pa_cons (pv 11) (pa_cons (pe_int) (pa_cons (pe_gint T.g_MOST_QUIET) pa_nil))))))
      (pss_cons (ps_expr (pe_ownS O_check_part (hr.mono (by decide)) (takes_of rfl rfl rfl rfl) (pa_cons (pe_str) (pa_cons (pv 12) (pa_cons (pe_int) (pa_cons (pe_gint T.g_MOST_SILENT) pa_nil))))))
      (pss_cons (ps_expr (pe_ownS O_check_part (hr.mono (by decide)) (takes_of rfl rfl rfl rfl) (pa_cons (pe_str) (pa_cons (pv 13) (pa_cons (pe_int) (pa_cons (pe_gint T.g_MOST_LOST) pa_nil))))))
      (pss_cons (ps_expr (pe_ownS O_check_boxes (hr.mono (by decide)) (takes_of rfl rfl rfl rfl) (pa_cons (pv 2) (pa_cons (pv 4) pa_nil))))
      (pss_cons (ps_fld (pv 0) (pv 1) rfl)
      (pss_cons (ps_fld (pv 0) (pe_callTy call_tuple_of (by rfl) T.n_tuple (by decide +kernel) (pa_cons (pv 2) pa_nil)) rfl)
      (pss_cons (ps_fld (pv 0) (pe_callTy call_tuple_of (by rfl) T.n_tuple (by decide +kernel) (pa_cons (pv 3) pa_nil)) rfl)
      (pss_cons (ps_fld (pv 0) (pv 4) rfl)
      (pss_cons (ps_fld (pv 0) (pv 5) rfl)
      (pss_cons (ps_fld (pv 0) (pv 6) rfl)
      (pss_cons (ps_fld (pv 0) (pv 7) rfl)
      (pss_cons (ps_fld (pv 0) (pv 8) rfl)
      (pss_cons (ps_fld (pv 0) (pv 9) rfl)
      (pss_cons (ps_fld (pv 0) (pv 10) rfl)
      (pss_cons (ps_fld (pv 0) (pv 11) rfl)
      (pss_cons (ps_fld (pv 0) (pv 12) rfl)
      (pss_one (ps_fld (pv 0) (pv 13) rfl))))))))))))))))))))))))))), ?_⟩
    obtain ⟨dm, pr, pl, hm1, _⟩ := id hm
    refine ⟨_, rfl, _, .ref A.Mail, .ref A.Mail, .ref A.Mail, true, rfl, .own _, T.Mail.tyOf hm1, T.Mail.me, _, rfl, ?_⟩
    refine iteF ⟨_, rfl, a, ws, x.ways, rfl, .inl ha, hw, gd.ways.1, gd.ways.2, fun H1 e1 => ?_⟩
    refine ⟨_, rfl, g, x.widths, rfl, hg.ext e1, gd.widths, fun H2 e2 => ⟨_, rfl, iteF ?_⟩⟩
    have e12 := e1.trans e2
    refine ⟨_, rfl, _, _, .int _, _, _, rfl, .int _, cpF gd.turn, fun _ => ?_⟩
    refine ⟨_, rfl, _, _, .int _, _, _, rfl, .int _, cpF gd.numbers, fun _ => ?_⟩
    obtain ⟨dr, sr, hr1, _⟩ := id (K08.RmAt.ext hrm e12)
    refine ⟨_, rfl, _, .ref A.Room, .ref A.Room, .ref A.Room, true, rfl, .own _, T.Room.tyOf hr1, T.Room.me, _, rfl, ?_⟩
    refine iteF ⟨_, rfl, _, _, .int _, _, _, rfl, .int _, cpF gd.head, fun _ => ?_⟩
    refine ⟨_, rfl, _, _, .int _, _, _, rfl, .int _, cpF gd.places, fun _ => ?_⟩
    refine ⟨_, rfl, _, _, .int _, _, _, rfl, .int _, cpF gd.cost, fun _ => ?_⟩
    refine ⟨_, rfl, _, _, .int _, _, _, rfl, .int _, cpF gd.period, fun _ => ?_⟩
    refine ⟨_, rfl, _, _, .int _, _, _, rfl, .int _, cpF gd.quiet, fun _ => ?_⟩
    refine ⟨_, rfl, _, _, .int _, _, _, rfl, .int _, cpF gd.silent, fun _ => ?_⟩
    refine ⟨_, rfl, _, _, .int _, _, _, rfl, .int _, cpF gd.losses, fun _ => ?_⟩
    refine ⟨_, rfl, _, rfl, a, ws, x.ways, x.turn, rfl, .inl (ha.ext e12), hw.ext e12, gd.fits, ?_⟩
    have hp0 := e12 _ _ hp
    have m0 : ∀ y o, y ≠ p → H2 y = some o → H2 y = some o := fun y o _ h => h
    clear hr1
    refine ⟨_, rfl, _, rfl, p, A.Line, dx, _, rfl, hp0, T.Line.cl, T.l_mail, (by show 0 < 1000; decide), ?_⟩
    have hp1 : upd H2 p (.ins A.Line dx (putF "mail" (.ref m) [])) p = some (.ins A.Line dx (putF "mail" (.ref m) [])) := upd_same
    have m1 : ∀ y o, y ≠ p → H2 y = some o → upd H2 p (.ins A.Line dx (putF "mail" (.ref m) [])) y = some o := fun y o hy h => (upd_ne hy).trans (m0 y o hy h)
    generalize upd H2 p (.ins A.Line dx (putF "mail" (.ref m) [])) = J1 at hp1 m1 ⊢
    refine ⟨_, rfl, a, _, rfl, .inl ⟨sqL_mut hp0 (fun y o => m1 y o) (ha.ext e12), fun tw htw => ⟨_, rfl, p, A.Line, dx, _, rfl, Ext.upd htw _ _ hp1, T.Line.cl, T.l_ways, (by show 1 < 1000; decide), ?_⟩⟩⟩
    have ntw : tw ≠ p := fun z => by rw [z, hp1] at htw; cases htw
    have mt1 : ∀ y o, y ≠ p → H2 y = some o → upd J1 tw (.tup (ws)) y = some o := fun y o hy h => Ext.upd htw _ _ (m1 y o hy h)
    have htw1 : upd J1 tw (.tup (ws)) tw = some (.tup (ws)) := upd_same
    generalize upd J1 tw (.tup (ws)) = J1t at mt1 htw1  ⊢
    have hp2 : upd J1t p (.ins A.Line dx (putF "ways" (.ref tw) (putF "mail" (.ref m) []))) p = some (.ins A.Line dx (putF "ways" (.ref tw) (putF "mail" (.ref m) []))) := upd_same
    have m2 : ∀ y o, y ≠ p → H2 y = some o → upd J1t p (.ins A.Line dx (putF "ways" (.ref tw) (putF "mail" (.ref m) []))) y = some o := fun y o hy h => (upd_ne hy).trans (mt1 y o hy h)
    have w2 : ∀ y o, y ≠ p → J1t y = some o → upd J1t p (.ins A.Line dx (putF "ways" (.ref tw) (putF "mail" (.ref m) []))) y = some o := fun y o hy h => (upd_ne hy).trans (h)
    generalize upd J1t p (.ins A.Line dx (putF "ways" (.ref tw) (putF "mail" (.ref m) []))) = J2 at hp2 m2 w2 ⊢
    refine ⟨_, rfl, g, _, rfl, .inl ⟨sqL_mut hp0 (fun y o => m2 y o) (hg.ext e12), fun tg htg => ⟨_, rfl, p, A.Line, dx, _, rfl, Ext.upd htg _ _ hp2, T.Line.cl, T.l_widths, (by show 2 < 1000; decide), ?_⟩⟩⟩
    have ntg : tg ≠ p := fun z => by rw [z, hp2] at htg; cases htg
    have mt2 : ∀ y o, y ≠ p → H2 y = some o → upd J2 tg (.tup (x.widths.map V.int)) y = some o := fun y o hy h => Ext.upd htg _ _ (m2 y o hy h)
    have wt2 : ∀ y o, y ≠ p → J1t y = some o → upd J2 tg (.tup (x.widths.map V.int)) y = some o := fun y o hy h => Ext.upd htg _ _ (w2 y o hy h)
    have htg1 : upd J2 tg (.tup (x.widths.map V.int)) tg = some (.tup (x.widths.map V.int)) := upd_same
    generalize upd J2 tg (.tup (x.widths.map V.int)) = J2t at mt2 htg1 wt2 ⊢
    have hp3 : upd J2t p (.ins A.Line dx (putF "widths" (.ref tg) (putF "ways" (.ref tw) (putF "mail" (.ref m) [])))) p = some (.ins A.Line dx (putF "widths" (.ref tg) (putF "ways" (.ref tw) (putF "mail" (.ref m) [])))) := upd_same
    have m3 : ∀ y o, y ≠ p → H2 y = some o → upd J2t p (.ins A.Line dx (putF "widths" (.ref tg) (putF "ways" (.ref tw) (putF "mail" (.ref m) [])))) y = some o := fun y o hy h => (upd_ne hy).trans (mt2 y o hy h)
    have w3 : ∀ y o, y ≠ p → J1t y = some o → upd J2t p (.ins A.Line dx (putF "widths" (.ref tg) (putF "ways" (.ref tw) (putF "mail" (.ref m) [])))) y = some o := fun y o hy h => (upd_ne hy).trans (wt2 y o hy h)
    have g3 : ∀ y o, y ≠ p → J2t y = some o → upd J2t p (.ins A.Line dx (putF "widths" (.ref tg) (putF "ways" (.ref tw) (putF "mail" (.ref m) [])))) y = some o := fun y o hy h => (upd_ne hy).trans (h)
    generalize upd J2t p (.ins A.Line dx (putF "widths" (.ref tg) (putF "ways" (.ref tw) (putF "mail" (.ref m) [])))) = J3 at hp3 m3 w3 g3 ⊢
    refine ⟨_, rfl, _, rfl, p, A.Line, dx, _, rfl, hp3, T.Line.cl, T.l_turn, (by show 3 < 1000; decide), ?_⟩
    have hp4 : upd J3 p (.ins A.Line dx (putF "turn" (.int x.turn) (putF "widths" (.ref tg) (putF "ways" (.ref tw) (putF "mail" (.ref m) []))))) p = some (.ins A.Line dx (putF "turn" (.int x.turn) (putF "widths" (.ref tg) (putF "ways" (.ref tw) (putF "mail" (.ref m) []))))) := upd_same
    have m4 : ∀ y o, y ≠ p → H2 y = some o → upd J3 p (.ins A.Line dx (putF "turn" (.int x.turn) (putF "widths" (.ref tg) (putF "ways" (.ref tw) (putF "mail" (.ref m) []))))) y = some o := fun y o hy h => (upd_ne hy).trans (m3 y o hy h)
    have w4 : ∀ y o, y ≠ p → J1t y = some o → upd J3 p (.ins A.Line dx (putF "turn" (.int x.turn) (putF "widths" (.ref tg) (putF "ways" (.ref tw) (putF "mail" (.ref m) []))))) y = some o := fun y o hy h => (upd_ne hy).trans (w3 y o hy h)
    have g4 : ∀ y o, y ≠ p → J2t y = some o → upd J3 p (.ins A.Line dx (putF "turn" (.int x.turn) (putF "widths" (.ref tg) (putF "ways" (.ref tw) (putF "mail" (.ref m) []))))) y = some o := fun y o hy h => (upd_ne hy).trans (g3 y o hy h)
    generalize upd J3 p (.ins A.Line dx (putF "turn" (.int x.turn) (putF "widths" (.ref tg) (putF "ways" (.ref tw) (putF "mail" (.ref m) []))))) = J4 at hp4 m4 w4 g4 ⊢
    refine ⟨_, rfl, _, rfl, p, A.Line, dx, _, rfl, hp4, T.Line.cl, T.l_numbers, (by show 4 < 1000; decide), ?_⟩
    have hp5 : upd J4 p (.ins A.Line dx (putF "numbers" (.int x.numbers) (putF "turn" (.int x.turn) (putF "widths" (.ref tg) (putF "ways" (.ref tw) (putF "mail" (.ref m) [])))))) p = some (.ins A.Line dx (putF "numbers" (.int x.numbers) (putF "turn" (.int x.turn) (putF "widths" (.ref tg) (putF "ways" (.ref tw) (putF "mail" (.ref m) [])))))) := upd_same
    have m5 : ∀ y o, y ≠ p → H2 y = some o → upd J4 p (.ins A.Line dx (putF "numbers" (.int x.numbers) (putF "turn" (.int x.turn) (putF "widths" (.ref tg) (putF "ways" (.ref tw) (putF "mail" (.ref m) [])))))) y = some o := fun y o hy h => (upd_ne hy).trans (m4 y o hy h)
    have w5 : ∀ y o, y ≠ p → J1t y = some o → upd J4 p (.ins A.Line dx (putF "numbers" (.int x.numbers) (putF "turn" (.int x.turn) (putF "widths" (.ref tg) (putF "ways" (.ref tw) (putF "mail" (.ref m) [])))))) y = some o := fun y o hy h => (upd_ne hy).trans (w4 y o hy h)
    have g5 : ∀ y o, y ≠ p → J2t y = some o → upd J4 p (.ins A.Line dx (putF "numbers" (.int x.numbers) (putF "turn" (.int x.turn) (putF "widths" (.ref tg) (putF "ways" (.ref tw) (putF "mail" (.ref m) [])))))) y = some o := fun y o hy h => (upd_ne hy).trans (g4 y o hy h)
    generalize upd J4 p (.ins A.Line dx (putF "numbers" (.int x.numbers) (putF "turn" (.int x.turn) (putF "widths" (.ref tg) (putF "ways" (.ref tw) (putF "mail" (.ref m) [])))))) = J5 at hp5 m5 w5 g5 ⊢
    refine ⟨_, rfl, _, rfl, p, A.Line, dx, _, rfl, hp5, T.Line.cl, T.l_room, (by show 5 < 1000; decide), ?_⟩
    have hp6 : upd J5 p (.ins A.Line dx (putF "room" (.ref r) (putF "numbers" (.int x.numbers) (putF "turn" (.int x.turn) (putF "widths" (.ref tg) (putF "ways" (.ref tw) (putF "mail" (.ref m) []))))))) p = some (.ins A.Line dx (putF "room" (.ref r) (putF "numbers" (.int x.numbers) (putF "turn" (.int x.turn) (putF "widths" (.ref tg) (putF "ways" (.ref tw) (putF "mail" (.ref m) []))))))) := upd_same
    have m6 : ∀ y o, y ≠ p → H2 y = some o → upd J5 p (.ins A.Line dx (putF "room" (.ref r) (putF "numbers" (.int x.numbers) (putF "turn" (.int x.turn) (putF "widths" (.ref tg) (putF "ways" (.ref tw) (putF "mail" (.ref m) []))))))) y = some o := fun y o hy h => (upd_ne hy).trans (m5 y o hy h)
    have w6 : ∀ y o, y ≠ p → J1t y = some o → upd J5 p (.ins A.Line dx (putF "room" (.ref r) (putF "numbers" (.int x.numbers) (putF "turn" (.int x.turn) (putF "widths" (.ref tg) (putF "ways" (.ref tw) (putF "mail" (.ref m) []))))))) y = some o := fun y o hy h => (upd_ne hy).trans (w5 y o hy h)
    have g6 : ∀ y o, y ≠ p → J2t y = some o → upd J5 p (.ins A.Line dx (putF "room" (.ref r) (putF "numbers" (.int x.numbers) (putF "turn" (.int x.turn) (putF "widths" (.ref tg) (putF "ways" (.ref tw) (putF "mail" (.ref m) []))))))) y = some o := fun y o hy h => (upd_ne hy).trans (g5 y o hy h)
    generalize upd J5 p (.ins A.Line dx (putF "room" (.ref r) (putF "numbers" (.int x.numbers) (putF "turn" (.int x.turn) (putF "widths" (.ref tg) (putF "ways" (.ref tw) (putF "mail" (.ref m) []))))))) = J6 at hp6 m6 w6 g6 ⊢
    refine ⟨_, rfl, _, rfl, p, A.Line, dx, _, rfl, hp6, T.Line.cl, T.l_head, (by show 6 < 1000; decide), ?_⟩
    have hp7 : upd J6 p (.ins A.Line dx (putF "head" (.int x.head) (putF "room" (.ref r) (putF "numbers" (.int x.numbers) (putF "turn" (.int x.turn) (putF "widths" (.ref tg) (putF "ways" (.ref tw) (putF "mail" (.ref m) [])))))))) p = some (.ins A.Line dx (putF "head" (.int x.head) (putF "room" (.ref r) (putF "numbers" (.int x.numbers) (putF "turn" (.int x.turn) (putF "widths" (.ref tg) (putF "ways" (.ref tw) (putF "mail" (.ref m) [])))))))) := upd_same
    have m7 : ∀ y o, y ≠ p → H2 y = some o → upd J6 p (.ins A.Line dx (putF "head" (.int x.head) (putF "room" (.ref r) (putF "numbers" (.int x.numbers) (putF "turn" (.int x.turn) (putF "widths" (.ref tg) (putF "ways" (.ref tw) (putF "mail" (.ref m) [])))))))) y = some o := fun y o hy h => (upd_ne hy).trans (m6 y o hy h)
    have w7 : ∀ y o, y ≠ p → J1t y = some o → upd J6 p (.ins A.Line dx (putF "head" (.int x.head) (putF "room" (.ref r) (putF "numbers" (.int x.numbers) (putF "turn" (.int x.turn) (putF "widths" (.ref tg) (putF "ways" (.ref tw) (putF "mail" (.ref m) [])))))))) y = some o := fun y o hy h => (upd_ne hy).trans (w6 y o hy h)
    have g7 : ∀ y o, y ≠ p → J2t y = some o → upd J6 p (.ins A.Line dx (putF "head" (.int x.head) (putF "room" (.ref r) (putF "numbers" (.int x.numbers) (putF "turn" (.int x.turn) (putF "widths" (.ref tg) (putF "ways" (.ref tw) (putF "mail" (.ref m) [])))))))) y = some o := fun y o hy h => (upd_ne hy).trans (g6 y o hy h)
    generalize upd J6 p (.ins A.Line dx (putF "head" (.int x.head) (putF "room" (.ref r) (putF "numbers" (.int x.numbers) (putF "turn" (.int x.turn) (putF "widths" (.ref tg) (putF "ways" (.ref tw) (putF "mail" (.ref m) [])))))))) = J7 at hp7 m7 w7 g7 ⊢
    refine ⟨_, rfl, _, rfl, p, A.Line, dx, _, rfl, hp7, T.Line.cl, T.l_places, (by show 7 < 1000; decide), ?_⟩
    have hp8 : upd J7 p (.ins A.Line dx (putF "places" (.int x.places) (putF "head" (.int x.head) (putF "room" (.ref r) (putF "numbers" (.int x.numbers) (putF "turn" (.int x.turn) (putF "widths" (.ref tg) (putF "ways" (.ref tw) (putF "mail" (.ref m) []))))))))) p = some (.ins A.Line dx (putF "places" (.int x.places) (putF "head" (.int x.head) (putF "room" (.ref r) (putF "numbers" (.int x.numbers) (putF "turn" (.int x.turn) (putF "widths" (.ref tg) (putF "ways" (.ref tw) (putF "mail" (.ref m) []))))))))) := upd_same
    have m8 : ∀ y o, y ≠ p → H2 y = some o → upd J7 p (.ins A.Line dx (putF "places" (.int x.places) (putF "head" (.int x.head) (putF "room" (.ref r) (putF "numbers" (.int x.numbers) (putF "turn" (.int x.turn) (putF "widths" (.ref tg) (putF "ways" (.ref tw) (putF "mail" (.ref m) []))))))))) y = some o := fun y o hy h => (upd_ne hy).trans (m7 y o hy h)
    have w8 : ∀ y o, y ≠ p → J1t y = some o → upd J7 p (.ins A.Line dx (putF "places" (.int x.places) (putF "head" (.int x.head) (putF "room" (.ref r) (putF "numbers" (.int x.numbers) (putF "turn" (.int x.turn) (putF "widths" (.ref tg) (putF "ways" (.ref tw) (putF "mail" (.ref m) []))))))))) y = some o := fun y o hy h => (upd_ne hy).trans (w7 y o hy h)
    have g8 : ∀ y o, y ≠ p → J2t y = some o → upd J7 p (.ins A.Line dx (putF "places" (.int x.places) (putF "head" (.int x.head) (putF "room" (.ref r) (putF "numbers" (.int x.numbers) (putF "turn" (.int x.turn) (putF "widths" (.ref tg) (putF "ways" (.ref tw) (putF "mail" (.ref m) []))))))))) y = some o := fun y o hy h => (upd_ne hy).trans (g7 y o hy h)
    generalize upd J7 p (.ins A.Line dx (putF "places" (.int x.places) (putF "head" (.int x.head) (putF "room" (.ref r) (putF "numbers" (.int x.numbers) (putF "turn" (.int x.turn) (putF "widths" (.ref tg) (putF "ways" (.ref tw) (putF "mail" (.ref m) []))))))))) = J8 at hp8 m8 w8 g8 ⊢
    refine ⟨_, rfl, _, rfl, p, A.Line, dx, _, rfl, hp8, T.Line.cl, T.l_cost, (by show 8 < 1000; decide), ?_⟩
    have hp9 : upd J8 p (.ins A.Line dx (putF "cost" (.int x.cost) (putF "places" (.int x.places) (putF "head" (.int x.head) (putF "room" (.ref r) (putF "numbers" (.int x.numbers) (putF "turn" (.int x.turn) (putF "widths" (.ref tg) (putF "ways" (.ref tw) (putF "mail" (.ref m) [])))))))))) p = some (.ins A.Line dx (putF "cost" (.int x.cost) (putF "places" (.int x.places) (putF "head" (.int x.head) (putF "room" (.ref r) (putF "numbers" (.int x.numbers) (putF "turn" (.int x.turn) (putF "widths" (.ref tg) (putF "ways" (.ref tw) (putF "mail" (.ref m) [])))))))))) := upd_same
    have m9 : ∀ y o, y ≠ p → H2 y = some o → upd J8 p (.ins A.Line dx (putF "cost" (.int x.cost) (putF "places" (.int x.places) (putF "head" (.int x.head) (putF "room" (.ref r) (putF "numbers" (.int x.numbers) (putF "turn" (.int x.turn) (putF "widths" (.ref tg) (putF "ways" (.ref tw) (putF "mail" (.ref m) [])))))))))) y = some o := fun y o hy h => (upd_ne hy).trans (m8 y o hy h)
    have w9 : ∀ y o, y ≠ p → J1t y = some o → upd J8 p (.ins A.Line dx (putF "cost" (.int x.cost) (putF "places" (.int x.places) (putF "head" (.int x.head) (putF "room" (.ref r) (putF "numbers" (.int x.numbers) (putF "turn" (.int x.turn) (putF "widths" (.ref tg) (putF "ways" (.ref tw) (putF "mail" (.ref m) [])))))))))) y = some o := fun y o hy h => (upd_ne hy).trans (w8 y o hy h)
    have g9 : ∀ y o, y ≠ p → J2t y = some o → upd J8 p (.ins A.Line dx (putF "cost" (.int x.cost) (putF "places" (.int x.places) (putF "head" (.int x.head) (putF "room" (.ref r) (putF "numbers" (.int x.numbers) (putF "turn" (.int x.turn) (putF "widths" (.ref tg) (putF "ways" (.ref tw) (putF "mail" (.ref m) [])))))))))) y = some o := fun y o hy h => (upd_ne hy).trans (g8 y o hy h)
    generalize upd J8 p (.ins A.Line dx (putF "cost" (.int x.cost) (putF "places" (.int x.places) (putF "head" (.int x.head) (putF "room" (.ref r) (putF "numbers" (.int x.numbers) (putF "turn" (.int x.turn) (putF "widths" (.ref tg) (putF "ways" (.ref tw) (putF "mail" (.ref m) [])))))))))) = J9 at hp9 m9 w9 g9 ⊢
    refine ⟨_, rfl, _, rfl, p, A.Line, dx, _, rfl, hp9, T.Line.cl, T.l_period, (by show 9 < 1000; decide), ?_⟩
    have hp10 : upd J9 p (.ins A.Line dx (putF "period" (.int x.period) (putF "cost" (.int x.cost) (putF "places" (.int x.places) (putF "head" (.int x.head) (putF "room" (.ref r) (putF "numbers" (.int x.numbers) (putF "turn" (.int x.turn) (putF "widths" (.ref tg) (putF "ways" (.ref tw) (putF "mail" (.ref m) []))))))))))) p = some (.ins A.Line dx (putF "period" (.int x.period) (putF "cost" (.int x.cost) (putF "places" (.int x.places) (putF "head" (.int x.head) (putF "room" (.ref r) (putF "numbers" (.int x.numbers) (putF "turn" (.int x.turn) (putF "widths" (.ref tg) (putF "ways" (.ref tw) (putF "mail" (.ref m) []))))))))))) := upd_same
    have m10 : ∀ y o, y ≠ p → H2 y = some o → upd J9 p (.ins A.Line dx (putF "period" (.int x.period) (putF "cost" (.int x.cost) (putF "places" (.int x.places) (putF "head" (.int x.head) (putF "room" (.ref r) (putF "numbers" (.int x.numbers) (putF "turn" (.int x.turn) (putF "widths" (.ref tg) (putF "ways" (.ref tw) (putF "mail" (.ref m) []))))))))))) y = some o := fun y o hy h => (upd_ne hy).trans (m9 y o hy h)
    have w10 : ∀ y o, y ≠ p → J1t y = some o → upd J9 p (.ins A.Line dx (putF "period" (.int x.period) (putF "cost" (.int x.cost) (putF "places" (.int x.places) (putF "head" (.int x.head) (putF "room" (.ref r) (putF "numbers" (.int x.numbers) (putF "turn" (.int x.turn) (putF "widths" (.ref tg) (putF "ways" (.ref tw) (putF "mail" (.ref m) []))))))))))) y = some o := fun y o hy h => (upd_ne hy).trans (w9 y o hy h)
    have g10 : ∀ y o, y ≠ p → J2t y = some o → upd J9 p (.ins A.Line dx (putF "period" (.int x.period) (putF "cost" (.int x.cost) (putF "places" (.int x.places) (putF "head" (.int x.head) (putF "room" (.ref r) (putF "numbers" (.int x.numbers) (putF "turn" (.int x.turn) (putF "widths" (.ref tg) (putF "ways" (.ref tw) (putF "mail" (.ref m) []))))))))))) y = some o := fun y o hy h => (upd_ne hy).trans (g9 y o hy h)
    generalize upd J9 p (.ins A.Line dx (putF "period" (.int x.period) (putF "cost" (.int x.cost) (putF "places" (.int x.places) (putF "head" (.int x.head) (putF "room" (.ref r) (putF "numbers" (.int x.numbers) (putF "turn" (.int x.turn) (putF "widths" (.ref tg) (putF "ways" (.ref tw) (putF "mail" (.ref m) []))))))))))) = J10 at hp10 m10 w10 g10 ⊢
    refine ⟨_, rfl, _, rfl, p, A.Line, dx, _, rfl, hp10, T.Line.cl, T.l_quiet, (by show 10 < 1000; decide), ?_⟩
    have hp11 : upd J10 p (.ins A.Line dx (putF "quiet" (.int x.quiet) (putF "period" (.int x.period) (putF "cost" (.int x.cost) (putF "places" (.int x.places) (putF "head" (.int x.head) (putF "room" (.ref r) (putF "numbers" (.int x.numbers) (putF "turn" (.int x.turn) (putF "widths" (.ref tg) (putF "ways" (.ref tw) (putF "mail" (.ref m) [])))))))))))) p = some (.ins A.Line dx (putF "quiet" (.int x.quiet) (putF "period" (.int x.period) (putF "cost" (.int x.cost) (putF "places" (.int x.places) (putF "head" (.int x.head) (putF "room" (.ref r) (putF "numbers" (.int x.numbers) (putF "turn" (.int x.turn) (putF "widths" (.ref tg) (putF "ways" (.ref tw) (putF "mail" (.ref m) [])))))))))))) := upd_same
    have m11 : ∀ y o, y ≠ p → H2 y = some o → upd J10 p (.ins A.Line dx (putF "quiet" (.int x.quiet) (putF "period" (.int x.period) (putF "cost" (.int x.cost) (putF "places" (.int x.places) (putF "head" (.int x.head) (putF "room" (.ref r) (putF "numbers" (.int x.numbers) (putF "turn" (.int x.turn) (putF "widths" (.ref tg) (putF "ways" (.ref tw) (putF "mail" (.ref m) [])))))))))))) y = some o := fun y o hy h => (upd_ne hy).trans (m10 y o hy h)
    have w11 : ∀ y o, y ≠ p → J1t y = some o → upd J10 p (.ins A.Line dx (putF "quiet" (.int x.quiet) (putF "period" (.int x.period) (putF "cost" (.int x.cost) (putF "places" (.int x.places) (putF "head" (.int x.head) (putF "room" (.ref r) (putF "numbers" (.int x.numbers) (putF "turn" (.int x.turn) (putF "widths" (.ref tg) (putF "ways" (.ref tw) (putF "mail" (.ref m) [])))))))))))) y = some o := fun y o hy h => (upd_ne hy).trans (w10 y o hy h)
    have g11 : ∀ y o, y ≠ p → J2t y = some o → upd J10 p (.ins A.Line dx (putF "quiet" (.int x.quiet) (putF "period" (.int x.period) (putF "cost" (.int x.cost) (putF "places" (.int x.places) (putF "head" (.int x.head) (putF "room" (.ref r) (putF "numbers" (.int x.numbers) (putF "turn" (.int x.turn) (putF "widths" (.ref tg) (putF "ways" (.ref tw) (putF "mail" (.ref m) [])))))))))))) y = some o := fun y o hy h => (upd_ne hy).trans (g10 y o hy h)
    generalize upd J10 p (.ins A.Line dx (putF "quiet" (.int x.quiet) (putF "period" (.int x.period) (putF "cost" (.int x.cost) (putF "places" (.int x.places) (putF "head" (.int x.head) (putF "room" (.ref r) (putF "numbers" (.int x.numbers) (putF "turn" (.int x.turn) (putF "widths" (.ref tg) (putF "ways" (.ref tw) (putF "mail" (.ref m) [])))))))))))) = J11 at hp11 m11 w11 g11 ⊢
    refine ⟨_, rfl, _, rfl, p, A.Line, dx, _, rfl, hp11, T.Line.cl, T.l_silent, (by show 11 < 1000; decide), ?_⟩
    have hp12 : upd J11 p (.ins A.Line dx (putF "silent" (.int x.silent) (putF "quiet" (.int x.quiet) (putF "period" (.int x.period) (putF "cost" (.int x.cost) (putF "places" (.int x.places) (putF "head" (.int x.head) (putF "room" (.ref r) (putF "numbers" (.int x.numbers) (putF "turn" (.int x.turn) (putF "widths" (.ref tg) (putF "ways" (.ref tw) (putF "mail" (.ref m) []))))))))))))) p = some (.ins A.Line dx (putF "silent" (.int x.silent) (putF "quiet" (.int x.quiet) (putF "period" (.int x.period) (putF "cost" (.int x.cost) (putF "places" (.int x.places) (putF "head" (.int x.head) (putF "room" (.ref r) (putF "numbers" (.int x.numbers) (putF "turn" (.int x.turn) (putF "widths" (.ref tg) (putF "ways" (.ref tw) (putF "mail" (.ref m) []))))))))))))) := upd_same
    have m12 : ∀ y o, y ≠ p → H2 y = some o → upd J11 p (.ins A.Line dx (putF "silent" (.int x.silent) (putF "quiet" (.int x.quiet) (putF "period" (.int x.period) (putF "cost" (.int x.cost) (putF "places" (.int x.places) (putF "head" (.int x.head) (putF "room" (.ref r) (putF "numbers" (.int x.numbers) (putF "turn" (.int x.turn) (putF "widths" (.ref tg) (putF "ways" (.ref tw) (putF "mail" (.ref m) []))))))))))))) y = some o := fun y o hy h => (upd_ne hy).trans (m11 y o hy h)
    have w12 : ∀ y o, y ≠ p → J1t y = some o → upd J11 p (.ins A.Line dx (putF "silent" (.int x.silent) (putF "quiet" (.int x.quiet) (putF "period" (.int x.period) (putF "cost" (.int x.cost) (putF "places" (.int x.places) (putF "head" (.int x.head) (putF "room" (.ref r) (putF "numbers" (.int x.numbers) (putF "turn" (.int x.turn) (putF "widths" (.ref tg) (putF "ways" (.ref tw) (putF "mail" (.ref m) []))))))))))))) y = some o := fun y o hy h => (upd_ne hy).trans (w11 y o hy h)
    have g12 : ∀ y o, y ≠ p → J2t y = some o → upd J11 p (.ins A.Line dx (putF "silent" (.int x.silent) (putF "quiet" (.int x.quiet) (putF "period" (.int x.period) (putF "cost" (.int x.cost) (putF "places" (.int x.places) (putF "head" (.int x.head) (putF "room" (.ref r) (putF "numbers" (.int x.numbers) (putF "turn" (.int x.turn) (putF "widths" (.ref tg) (putF "ways" (.ref tw) (putF "mail" (.ref m) []))))))))))))) y = some o := fun y o hy h => (upd_ne hy).trans (g11 y o hy h)
    generalize upd J11 p (.ins A.Line dx (putF "silent" (.int x.silent) (putF "quiet" (.int x.quiet) (putF "period" (.int x.period) (putF "cost" (.int x.cost) (putF "places" (.int x.places) (putF "head" (.int x.head) (putF "room" (.ref r) (putF "numbers" (.int x.numbers) (putF "turn" (.int x.turn) (putF "widths" (.ref tg) (putF "ways" (.ref tw) (putF "mail" (.ref m) []))))))))))))) = J12 at hp12 m12 w12 g12 ⊢
    refine ⟨_, rfl, _, rfl, p, A.Line, dx, _, rfl, hp12, T.Line.cl, T.l_losses, (by show 12 < 1000; decide), ?_⟩
    have hp13 : upd J12 p (.ins A.Line dx (putF "losses" (.int x.losses) (putF "silent" (.int x.silent) (putF "quiet" (.int x.quiet) (putF "period" (.int x.period) (putF "cost" (.int x.cost) (putF "places" (.int x.places) (putF "head" (.int x.head) (putF "room" (.ref r) (putF "numbers" (.int x.numbers) (putF "turn" (.int x.turn) (putF "widths" (.ref tg) (putF "ways" (.ref tw) (putF "mail" (.ref m) [])))))))))))))) p = some (.ins A.Line dx (putF "losses" (.int x.losses) (putF "silent" (.int x.silent) (putF "quiet" (.int x.quiet) (putF "period" (.int x.period) (putF "cost" (.int x.cost) (putF "places" (.int x.places) (putF "head" (.int x.head) (putF "room" (.ref r) (putF "numbers" (.int x.numbers) (putF "turn" (.int x.turn) (putF "widths" (.ref tg) (putF "ways" (.ref tw) (putF "mail" (.ref m) [])))))))))))))) := upd_same
    have m13 : ∀ y o, y ≠ p → H2 y = some o → upd J12 p (.ins A.Line dx (putF "losses" (.int x.losses) (putF "silent" (.int x.silent) (putF "quiet" (.int x.quiet) (putF "period" (.int x.period) (putF "cost" (.int x.cost) (putF "places" (.int x.places) (putF "head" (.int x.head) (putF "room" (.ref r) (putF "numbers" (.int x.numbers) (putF "turn" (.int x.turn) (putF "widths" (.ref tg) (putF "ways" (.ref tw) (putF "mail" (.ref m) [])))))))))))))) y = some o := fun y o hy h => (upd_ne hy).trans (m12 y o hy h)
    have w13 : ∀ y o, y ≠ p → J1t y = some o → upd J12 p (.ins A.Line dx (putF "losses" (.int x.losses) (putF "silent" (.int x.silent) (putF "quiet" (.int x.quiet) (putF "period" (.int x.period) (putF "cost" (.int x.cost) (putF "places" (.int x.places) (putF "head" (.int x.head) (putF "room" (.ref r) (putF "numbers" (.int x.numbers) (putF "turn" (.int x.turn) (putF "widths" (.ref tg) (putF "ways" (.ref tw) (putF "mail" (.ref m) [])))))))))))))) y = some o := fun y o hy h => (upd_ne hy).trans (w12 y o hy h)
    have g13 : ∀ y o, y ≠ p → J2t y = some o → upd J12 p (.ins A.Line dx (putF "losses" (.int x.losses) (putF "silent" (.int x.silent) (putF "quiet" (.int x.quiet) (putF "period" (.int x.period) (putF "cost" (.int x.cost) (putF "places" (.int x.places) (putF "head" (.int x.head) (putF "room" (.ref r) (putF "numbers" (.int x.numbers) (putF "turn" (.int x.turn) (putF "widths" (.ref tg) (putF "ways" (.ref tw) (putF "mail" (.ref m) [])))))))))))))) y = some o := fun y o hy h => (upd_ne hy).trans (g12 y o hy h)
    generalize upd J12 p (.ins A.Line dx (putF "losses" (.int x.losses) (putF "silent" (.int x.silent) (putF "quiet" (.int x.quiet) (putF "period" (.int x.period) (putF "cost" (.int x.cost) (putF "places" (.int x.places) (putF "head" (.int x.head) (putF "room" (.ref r) (putF "numbers" (.int x.numbers) (putF "turn" (.int x.turn) (putF "widths" (.ref tg) (putF "ways" (.ref tw) (putF "mail" (.ref m) [])))))))))))))) = J13 at hp13 m13 w13 g13 ⊢
    have keep : ∀ y o, y ≠ p → H y = some o → J13 y = some o := fun y o hy h => m13 y o hy (e12 _ _ h)
    exact q J13 ⟨dx, m, tw, tg, r, ws, hp13, hm.mutI hp keep, SqT.of (w13 _ _ ntw htw1), hw.mutI hp keep, SqT.of (g13 _ _ ntg htg1), rm_mutI hp keep hrm⟩ keep
end
end K02

set_option Elab.async false
set_option maxRecDepth 100000
set_option maxHeartbeats 4000000
namespace K02
open PySem PySem.Spec PyProof.Rows L2
def hd0 (bs : List Int) : Int := bs.headD 0
def rmMilder (z : Int) (bs : List Int) (z2 : Int) (bs2 : List Int) : Bool := decide (z2 ≤ z) && decide (hd0 bs = hd0 bs2) && bs2.all fun b => decide (b ∈ bs)
def milder (x y : LnD) : Bool := decide (x.turn = y.turn) && decide (x.period = y.period) && decide (x.quiet = y.quiet) && decide (y.numbers ≤ x.numbers) && decide (hd0 y.widths ≤ hd0 x.widths) && decide (y.places ≤ x.places) &&
  decide (x.head ≤ y.head) && decide (x.cost ≤ y.cost) && decide (x.silent ≤ y.silent) && decide (x.losses ≤ y.losses) && rmMilder x.size x.bounds y.size y.bounds
theorem atI_hd {ns : List Int} (h : 1 ≤ ns.length) : atI (ns.map V.int) 0 = some (.int (hd0 ns)) := by
  cases ns with
  | nil => exact absurd h (by decide)
  | cons a t => exact atI_nat (j := 0) rfl
theorem mem_vi {b : Int} {bs : List Int} : (V.int b ∈ bs.map V.int) ↔ b ∈ bs := by
  rw [List.mem_map]
  constructor
  · rintro ⟨a, h, e⟩
    injection e with e
    exact e ▸ h
  · exact fun h => ⟨b, h, rfl⟩
theorem mild_all {x y : LnD} (h : milder x y = true) : x.turn = y.turn ∧ x.period = y.period ∧ x.quiet = y.quiet ∧ y.numbers ≤ x.numbers ∧ hd0 y.widths ≤ hd0 x.widths ∧ y.places ≤ x.places ∧ x.head ≤ y.head ∧ x.cost ≤ y.cost ∧ x.silent ≤ y.silent ∧ x.losses ≤ y.losses ∧ rmMilder x.size x.bounds y.size y.bounds = true := by
  unfold milder at h
  simp only [Bool.and_eq_true, decide_eq_true_eq] at h
  exact ⟨h.1.1.1.1.1.1.1.1.1.1, h.1.1.1.1.1.1.1.1.1.2, h.1.1.1.1.1.1.1.1.2, h.1.1.1.1.1.1.1.2, h.1.1.1.1.1.1.2, h.1.1.1.1.1.2, h.1.1.1.1.2, h.1.1.1.2, h.1.1.2, h.1.2, h.2⟩
theorem mild_no {x y : LnD} (h : ¬ (x.turn = y.turn ∧ x.period = y.period ∧ x.quiet = y.quiet ∧ y.numbers ≤ x.numbers ∧ hd0 y.widths ≤ hd0 x.widths ∧ y.places ≤ x.places ∧ x.head ≤ y.head ∧ x.cost ≤ y.cost ∧ x.silent ≤ y.silent ∧ x.losses ≤ y.losses)) : milder x y = false :=
  Bool.eq_false_iff.mpr fun z => h (by
    obtain ⟨a, b, c, d, e, f, g, i, j, k, _⟩ := mild_all z
    exact ⟨a, b, c, d, e, f, g, i, j, k⟩)
section
variable {P : Program} {w : World} {K : PySem.W.Frag} {mg : Str → Option Value} {base : Heap} {A : Ad}
def spRoomMilder (K : PySem.W.Frag) (A : Ad) : Sp := fun vs H Q _ => ∃ r q z bs z2 bs2, vs = [.ref r, .ref q] ∧ K08.RmAt K A H r z bs ∧ K08.RmAt K A H q z2 bs2 ∧ 1 ≤ bs.length ∧ 1 ≤ bs2.length ∧ bs.length ≤ 4 ∧ bs2.length ≤ 4 ∧ ∀ H', Ext H H' → Q (.bl (rmMilder z bs z2 bs2)) H'
theorem ok_roomMilder {f : Addr} {fd : FuncData} (F : Fun K "has_milder_room" "has_milder_room" s_has_milder_room f fd) (T : Txt K mg A) : FnOk P w K mg base CX0 2 f fd pm_has_milder_room (spRoomMilder K A) := by
  refine F.ok sc_has_milder_room (fun vs H Q E h => ?_) (fun cdv A' outer sh H vs Q E hr h => ?_)
  · obtain ⟨_, _, _, _, _, _, rfl, _⟩ := h
    rfl
  · obtain ⟨r, q, z, bs, z2, bs2, rfl, ⟨dx, s, hr1, ds, pb, hs, hb⟩, ⟨dy, s2, hq1, ds2, pb2, hs2, hb2⟩, l1, l2, l3, l4, k⟩ := h
    refine ⟨_, pss_cons (ps_asg (pe_tup (pa_cons (pe_fld (pe_fld (pv 0) rfl) rfl) (pa_cons (pe_fld (pe_fld (pv 1) rfl) rfl) pa_nil))) (pg_tup rfl (pgs_cons (pg_name (i := 2) sc_has_milder_room.nd rfl (Or.inr rfl)) (pgs_cons (pg_name (i := 3) sc_has_milder_room.nd rfl (Or.inl rfl)) (pgs_nil)))))
      (pss_cons (ps_if (PW.pt (pw_or (pt_cmpR op_lt (pe_fld (pv 0) rfl) (pe_fld (pv 1) rfl) (nomark _)) (pw_or1 (pt_cmpR op_ne (pe_ix ix_tup (pv 2) (pe_int) (fun _ _ => rfl)) (pe_ix ix_tup (pv 3) (pe_int) (fun _ _ => rfl)) (nomark _))))) (pss_one (ps_ret (pe_bl))) (pss_nil))
      (pss_one (ps_ret (pe_callB (cr_all rfl) (by rfl) T.n_all (by decide +kernel) (pa_cons (pe_lc (own := [("bound", 4)]) (g := gName 4) (by rfl) sc_has_milder_room.nd (pi_sq (pv 3)) (blkOk_by (own := [("bound", 4)]) (N := nm_has_milder_room) (sc := defScope s_has_milder_room) (by decide +kernel)) (fun _ _ _ _ _ => pg_name (i := 4) sc_has_milder_room.nd rfl (Or.inl rfl)) (fun s1 H1 C1 cl fp => pts_nil) (fun s1 H1 C1 cl fp => pe_cmpR (op_in_seqK (K := K) rfl) (pv 4) (pv 2) (by with_unfolding_all rfl))) pa_nil))))), ?_⟩
    refine ⟨_, rfl, r, A.Room, dx, _, _, rfl, hr1, T.Room.cl, T.r_steps, rfl, s, A.Steps, ds, _, _, rfl, hs, T.Steps.cl, T.s_bounds, rfl, _, rfl, q, A.Room, dy, _, _, rfl, hq1, T.Room.cl, T.r_steps, rfl, s2, A.Steps, ds2, _, _, rfl, hs2, T.Steps.cl, T.s_bounds, rfl, by show 2 ≤ sizeLine; decide, fun t ht => ?_⟩
    have et := Ext.upd (o := .tup [V.ref pb, .ref pb2]) ht
    refine ⟨t, _, rfl, SqT.of upd_same, rfl, _, _, rfl, _, _, rfl, rfl, ?_⟩
    generalize upd H t (.tup [V.ref pb, .ref pb2]) = H1 at et ⊢
    refine ⟨_, rfl, r, A.Room, dx, _, _, rfl, et _ _ hr1, T.Room.cl, T.r_size, rfl, _, rfl, q, A.Room, dy, _, _, rfl, et _ _ hq1, T.Room.cl, T.r_size, rfl, _, _, rfl, rfl, _, rfl, ?_⟩
    by_cases h1 : z < z2
    · rw [decide_eq_true h1]
      refine iteT (iteT ?_)
      have kk := k H1 et
      rw [show rmMilder z bs z2 bs2 = false by unfold rmMilder; rw [decide_eq_false (by omega)]; rfl] at kk
      exact kk
    rw [decide_eq_false h1]
    refine iteF ⟨_, rfl, pb, _, 0, _, rfl, rfl, hb.ext et, atI_hd l1, _, rfl, pb2, _, 0, _, rfl, rfl, hb2.ext et, atI_hd l2, ?_⟩
    refine ⟨rfl, _, rfl, ?_⟩
    rw [dvi]
    by_cases h2 : hd0 bs = hd0 bs2
    · rw [decide_eq_true h2]
      refine iteF ⟨_, rfl, pb2, rfl, lc_sqG (f := fun v => .bl (inV v (bs.map V.int))) (b := fun _ => true) (.inr (hb2.ext et)) (small1000 (by rw [List.length_map]; omega)) (fun x => rfl) (fun x hm H' e' Q' q' => q' _ Ext.rfl') (fun x hm _ H' e' Q' q' => ?_) (fun D H2 hD e2 hl => ?_)⟩
      · obtain ⟨n, hn, rfl⟩ := List.mem_map.mp hm
        exact ⟨_, rfl, _, rfl, pb, _, rfl, .inr (hb.ext (et.trans e')), rfl, flat_ints, q' _ Ext.rfl'⟩
      · rw [L2.filter_all] at hl
        refine ⟨D, (bs2.map fun b => decide (b ∈ bs)), rfl, SqL.of ?_, ?_⟩
        · rw [hl, List.map_map, List.map_map]
          congr 2
          exact List.map_congr_left fun n _ => by
            show V.bl (inV (.int n) (bs.map V.int)) = .bl (decide (n ∈ bs))
            rw [inV_ints]
        · have kk := k H2 (et.trans e2)
          rw [show rmMilder z bs z2 bs2 = (bs2.map fun b => decide (b ∈ bs)).all id by unfold rmMilder; rw [decide_eq_true (by omega), decide_eq_true h2, List.all_map]; rfl] at kk
          exact kk
    · rw [decide_eq_false h2]
      refine iteT ?_
      have kk := k H1 et
      rw [show rmMilder z bs z2 bs2 = false by unfold rmMilder; rw [decide_eq_false h2, Bool.and_false]; rfl] at kk
      exact kk
def spMilder (K : PySem.W.Frag) (A : Ad) : Sp := fun vs H Q _ => ∃ p q x y, vs = [.ref p, .ref q] ∧ LineAt K A H p x ∧ LineAt K A H q y ∧ x.rows = y.rows ∧ x.ways = y.ways ∧ x.ways.length ≤ 4 ∧ SeqAt.shaped (.tuple (x.rows.map PyData.tuple)) = true ∧
  1 ≤ x.widths.length ∧ 1 ≤ y.widths.length ∧ 1 ≤ x.bounds.length ∧ 1 ≤ y.bounds.length ∧ x.bounds.length ≤ 4 ∧ y.bounds.length ≤ 4 ∧ ∀ H', Ext H H' → Q (.bl (milder x y)) H'
/-! ways that are told alike -/
def RwayY (K : PySem.W.Frag) (A : Ad) : Addr → Addr → Hp → Bool → Prop := fun a b H k => ∃ d, WayY K A H a d ∧ WayY K A H b d ∧ k = true
abbrev DWayY (K : PySem.W.Frag) (A : Ad) : EqvB := DInsB A.Way (RwayY K A)
theorem mon_way : MonB (DWayY K A) := fun x y H H' k e d => by
  obtain ⟨a, b, dx, dy, fs, gs, rfl, rfl, h1, h2, d1, w1, w2, hk⟩ := d
  exact ⟨a, b, dx, dy, fs, gs, rfl, rfl, e _ _ h1, e _ _ h2, d1, w1.ext e, w2.ext e, hk⟩
theorem way_imp {H : Hp} {Q : VK} {E : XK} {vs : List V} (h : spEqB (RwayY K A) vs H Q E) : K15.spWayEq K A vs H Q E := by
  obtain ⟨a, b, k, rfl, ⟨d, w1, w2, rfl⟩, q⟩ := h
  obtain ⟨b1, l1, m1, bx⟩ := d
  refine ⟨a, b1, l1, m1, bx, .ref b, rfl, w1, .inl ⟨b, b1, l1, m1, bx, rfl, w2, ?_⟩⟩
  rw [decide_eq_true ⟨rfl, rfl, rfl, rfl⟩]
  exact q H Ext.rfl'
theorem eqB_way {X : Cx} (O : OwnM X.prog X.w X.K X.mg X.base CX0 A.Way "__eq__" 1 pm_Way_eq (K15.spWayEq X.K A)) : EqB X 1 (DWayY X.K A) := by
  obtain ⟨f, fd, F, M, hi, hb⟩ := O.ex
  refine (rcB_ins (E := E0) (F.imp fun vs H Q E h => way_imp h) M.at_ hi hb pass0).eqB fun x y H k d => ?_
  obtain ⟨a, b, _, _, _, _, rfl, rfl, _, _, d1, w1, w2, rfl⟩ := d
  exact ⟨a, b, rfl, rfl, fun _ => rfl⟩
theorem tup_ways {H : Hp} {a b : Addr} {ws vs : List V} {ds : List Wy} (ha : SqT K H a ws) (hb : SqT K H b vs) (hw : WaysY K A H ws ds) (hv : WaysY K A H vs ds) : DTupB K (DWayY K A) (.ref a) (.ref b) H true := by
  refine ⟨a, b, ws, vs, ds.map fun _ => true, rfl, rfl, ha, hb, by rw [hw.1, hv.1], by rw [List.length_map, hw.1], fun i x y c h1 h2 h3 => ?_, (List.all_eq_true.mpr fun b hb => by obtain ⟨_, _, rfl⟩ := List.mem_map.mp hb; rfl).symm⟩
  rw [List.getElem?_map] at h3
  cases e1 : ds[i]? with
  | none => rw [e1] at h3; cases h3
  | some d =>
    rw [e1] at h3
    cases h3
    obtain ⟨q, rfl, w1⟩ := hw.2 i x d h1 e1
    obtain ⟨r, rfl, w2⟩ := hv.2 i y d h2 e1
    obtain ⟨dx, fs, i1⟩ := wy_ins w1
    obtain ⟨dy, gs, i2⟩ := wy_ins w2
    exact ⟨q, r, dx, dy, fs, gs, rfl, rfl, i1, i2, d, w1, w2, rfl⟩
theorem ok_milder {f : Addr} {fd : FuncData} (F : Fun K "is_milder" "is_milder" s_is_milder f fd) (T : Txt K mg A) (O_Mail_eq : OwnM P w K mg base CX0 A.Mail "__eq__" 1 pm_Mail_eq (spMEq K A)) (O_Way_eq : OwnM P w K mg base CX0 A.Way "__eq__" 1 pm_Way_eq (K15.spWayEq K A))
    (O_has_milder_room : Own P w K mg base CX0 "has_milder_room" 2 pm_has_milder_room (spRoomMilder K A)) : FnOk P w K mg base CX0 4 f fd pm_is_milder (spMilder K A) := by
  refine F.ok sc_is_milder (fun vs H Q E h => ?_) (fun cdv A' outer sh H vs Q E hr h => ?_)
  · obtain ⟨_, _, _, _, rfl, _⟩ := h
    rfl
  · obtain ⟨p, q, x, y, rfl, ⟨dx, m, tw, tg, r, ws, hp, hm, htw, hw, htg, hrm⟩, ⟨dy, m2, tw2, tg2, r2, ws2, hp2, hm2, htw2, hw2, htg2, hrm2⟩, er, ew, w4, shp, l1, l2, l3, l4, l5, l6, k⟩ := h
    refine ⟨_, pss_cons (ps_if (PW.pt (pw_or (pt_cmpR (neO O_Mail_eq T.Mail.neM (hr.mono (by decide)) pass0) (pe_fld (pv 0) rfl) (pe_fld (pv 1) rfl) (nomark _)) (pw_or (pt_cmpR (op_neB (rcNB_tup mon_way (eqB_way O_Way_eq)) (hr.mono (by decide))) (pe_fld (pv 0) rfl) (pe_fld (pv 1) rfl) (nomark _)) (pw_or1 (pt_cmpR op_ne (pe_fld (pv 0) rfl) (pe_fld (pv 1) rfl) (nomark _)))))) (pss_one (ps_ret (pe_bl))) (pss_nil))
      (pss_cons (ps_if (PW.pt (pw_or (pt_cmpR op_ne (pe_fld (pv 0) rfl) (pe_fld (pv 1) rfl) (nomark _)) (pw_or1 (pt_cmpR op_ne (pe_fld (pv 0) rfl) (pe_fld (pv 1) rfl) (nomark _))))) (pss_one (ps_ret (pe_bl))) (pss_nil))
      (pss_cons (ps_if (PW.pt (pw_or (pt_cmpR op_lt (pe_fld (pv 0) rfl) (pe_fld (pv 1) rfl) (nomark _)) (pw_or (pt_cmpR op_lt (pe_ix ix_tup (pe_fld (pv 0) rfl) (pe_int) (fun _ _ => rfl)) (pe_ix ix_tup (pe_fld (pv 1) rfl) (pe_int) (fun _ _ => rfl)) (nomark _)) (pw_or1 (pt_cmpR op_lt (pe_fld (pv 0) rfl) (pe_fld (pv 1) rfl) (nomark _)))))) (pss_one (ps_ret (pe_bl))) (pss_nil))
      (pss_cons (ps_if (PW.pt (pw_or (pt_cmpR op_gt (pe_fld (pv 0) rfl) (pe_fld (pv 1) rfl) (nomark _)) (pw_or (pt_cmpR op_gt (pe_fld (pv 0) rfl) (pe_fld (pv 1) rfl) (nomark _)) (pw_or (pt_cmpR op_gt (pe_fld (pv 0) rfl) (pe_fld (pv 1) rfl) (nomark _)) (pw_or1 (pt_cmpR op_gt (pe_fld (pv 0) rfl) (pe_fld (pv 1) rfl) (nomark _))))))) (pss_one (ps_ret (pe_bl))) (pss_nil))
      (pss_one (ps_ret (pe_own O_has_milder_room (hr.mono (by decide)) pass0 (pa_cons (pe_fld (pv 0) rfl) (pa_cons (pe_fld (pv 1) rfl) pa_nil)))))))), ?_⟩
    refine ⟨_, rfl, p, A.Line, dx, _, _, rfl, hp, T.Line.cl, T.l_mail, rfl, _, rfl, q, A.Line, dy, _, _, rfl, hp2, T.Line.cl, T.l_mail, rfl, ?_⟩
    obtain ⟨dm, pr, pl, hmi, _⟩ := id hm
    obtain ⟨dm2, pr2, pl2, hmi2, _⟩ := id hm2
    refine ⟨m, _, _, .ref A.Mail, rfl, hmi, T.Mail.tyOf hmi2, T.Mail.nfMe, m, x.rows, .ref m2, rfl, hm, .inl ⟨m2, y.rows, rfl, hm2, shp, er ▸ shp, _, rfl, _, rfl, ?_⟩⟩
    have hl0 := (Bool.and_eq_true_iff.mp shp).1
    have same : PyData.eqvAll (x.rows.map PyData.tuple) (y.rows.map PyData.tuple) = true := by
      rw [← er]
      exact PySem.SeqAt.eqv_refl (.tuple (x.rows.map PyData.tuple)) hl0
    rw [same]
    refine iteF ⟨_, rfl, p, A.Line, dx, _, _, rfl, hp, T.Line.cl, T.l_ways, rfl, _, rfl, q, A.Line, dy, _, _, rfl, hp2, T.Line.cl, T.l_ways, rfl, ?_⟩
    refine ⟨true, tup_ways htw htw2 hw (ew ▸ hw2), fun H1 e1 => ⟨_, rfl, ?_⟩⟩
    have k1 := fun H' (e : Ext H1 H') => k H' (e1.trans e)
    refine iteF ⟨_, rfl, p, A.Line, dx, _, _, rfl, e1 _ _ hp, T.Line.cl, T.l_turn, rfl, _, rfl, q, A.Line, dy, _, _, rfl, e1 _ _ hp2, T.Line.cl, T.l_turn, rfl, rfl, _, rfl, ?_⟩
    rw [dvi]
    by_cases hturn : x.turn = y.turn
    rotate_left
    · rw [decide_eq_false hturn]
      have kk := k1 H1 Ext.rfl'
      rw [mild_no (x := x) (y := y) (by omega)] at kk
      exact iteT kk
    rw [decide_eq_true hturn]
    refine iteF ⟨_, rfl, p, A.Line, dx, _, _, rfl, e1 _ _ hp, T.Line.cl, T.l_period, rfl, _, rfl, q, A.Line, dy, _, _, rfl, e1 _ _ hp2, T.Line.cl, T.l_period, rfl, rfl, _, rfl, ?_⟩
    rw [dvi]
    by_cases hperiod : x.period = y.period
    rotate_left
    · rw [decide_eq_false hperiod]
      have kk := k1 H1 Ext.rfl'
      rw [mild_no (x := x) (y := y) (by omega)] at kk
      exact iteT (iteT kk)
    rw [decide_eq_true hperiod]
    refine iteF ⟨_, rfl, p, A.Line, dx, _, _, rfl, e1 _ _ hp, T.Line.cl, T.l_quiet, rfl, _, rfl, q, A.Line, dy, _, _, rfl, e1 _ _ hp2, T.Line.cl, T.l_quiet, rfl, rfl, _, rfl, ?_⟩
    rw [dvi]
    by_cases hquiet : x.quiet = y.quiet
    rotate_left
    · rw [decide_eq_false hquiet]
      have kk := k1 H1 Ext.rfl'
      rw [mild_no (x := x) (y := y) (by omega)] at kk
      exact iteT kk
    rw [decide_eq_true hquiet]
    refine iteF ⟨_, rfl, p, A.Line, dx, _, _, rfl, e1 _ _ hp, T.Line.cl, T.l_numbers, rfl, _, rfl, q, A.Line, dy, _, _, rfl, e1 _ _ hp2, T.Line.cl, T.l_numbers, rfl, _, _, rfl, rfl, _, rfl, ?_⟩
    by_cases hnumbers : x.numbers < y.numbers
    · rw [decide_eq_true hnumbers]
      have kk := k1 H1 Ext.rfl'
      rw [mild_no (x := x) (y := y) (by omega)] at kk
      exact iteT (iteT kk)
    rw [decide_eq_false hnumbers]
    refine iteF ⟨_, rfl, p, A.Line, dx, _, _, rfl, e1 _ _ hp, T.Line.cl, T.l_widths, rfl, tg, _, 0, _, rfl, rfl, htg.ext e1, atI_hd l1, _, rfl, q, A.Line, dy, _, _, rfl, e1 _ _ hp2, T.Line.cl, T.l_widths, rfl, tg2, _, 0, _, rfl, rfl, htg2.ext e1, atI_hd l2, _, _, rfl, rfl, _, rfl, ?_⟩
    by_cases hwidths : hd0 x.widths < hd0 y.widths
    · rw [decide_eq_true hwidths]
      have kk := k1 H1 Ext.rfl'
      rw [mild_no (x := x) (y := y) (by omega)] at kk
      exact iteT (iteT kk)
    rw [decide_eq_false hwidths]
    refine iteF ⟨_, rfl, p, A.Line, dx, _, _, rfl, e1 _ _ hp, T.Line.cl, T.l_places, rfl, _, rfl, q, A.Line, dy, _, _, rfl, e1 _ _ hp2, T.Line.cl, T.l_places, rfl, _, _, rfl, rfl, _, rfl, ?_⟩
    by_cases hplaces : x.places < y.places
    · rw [decide_eq_true hplaces]
      have kk := k1 H1 Ext.rfl'
      rw [mild_no (x := x) (y := y) (by omega)] at kk
      exact iteT kk
    rw [decide_eq_false hplaces]
    refine iteF ⟨_, rfl, p, A.Line, dx, _, _, rfl, e1 _ _ hp, T.Line.cl, T.l_head, rfl, _, rfl, q, A.Line, dy, _, _, rfl, e1 _ _ hp2, T.Line.cl, T.l_head, rfl, _, _, rfl, rfl, _, rfl, ?_⟩
    by_cases hhead : x.head > y.head
    · rw [decide_eq_true hhead]
      have kk := k1 H1 Ext.rfl'
      rw [mild_no (x := x) (y := y) (by omega)] at kk
      exact iteT (iteT kk)
    rw [decide_eq_false hhead]
    refine iteF ⟨_, rfl, p, A.Line, dx, _, _, rfl, e1 _ _ hp, T.Line.cl, T.l_cost, rfl, _, rfl, q, A.Line, dy, _, _, rfl, e1 _ _ hp2, T.Line.cl, T.l_cost, rfl, _, _, rfl, rfl, _, rfl, ?_⟩
    by_cases hcost : x.cost > y.cost
    · rw [decide_eq_true hcost]
      have kk := k1 H1 Ext.rfl'
      rw [mild_no (x := x) (y := y) (by omega)] at kk
      exact iteT (iteT kk)
    rw [decide_eq_false hcost]
    refine iteF ⟨_, rfl, p, A.Line, dx, _, _, rfl, e1 _ _ hp, T.Line.cl, T.l_silent, rfl, _, rfl, q, A.Line, dy, _, _, rfl, e1 _ _ hp2, T.Line.cl, T.l_silent, rfl, _, _, rfl, rfl, _, rfl, ?_⟩
    by_cases hsilent : x.silent > y.silent
    · rw [decide_eq_true hsilent]
      have kk := k1 H1 Ext.rfl'
      rw [mild_no (x := x) (y := y) (by omega)] at kk
      exact iteT (iteT kk)
    rw [decide_eq_false hsilent]
    refine iteF ⟨_, rfl, p, A.Line, dx, _, _, rfl, e1 _ _ hp, T.Line.cl, T.l_losses, rfl, _, rfl, q, A.Line, dy, _, _, rfl, e1 _ _ hp2, T.Line.cl, T.l_losses, rfl, _, _, rfl, rfl, _, rfl, ?_⟩
    by_cases hlosses : x.losses > y.losses
    · rw [decide_eq_true hlosses]
      have kk := k1 H1 Ext.rfl'
      rw [mild_no (x := x) (y := y) (by omega)] at kk
      exact iteT kk
    rw [decide_eq_false hlosses]
    refine iteF ⟨_, rfl, p, A.Line, dx, _, _, rfl, e1 _ _ hp, T.Line.cl, T.l_room, rfl, _, rfl, q, A.Line, dy, _, _, rfl, e1 _ _ hp2, T.Line.cl, T.l_room, rfl, r, r2, x.size, x.bounds, y.size, y.bounds, rfl, K08.RmAt.ext hrm e1, K08.RmAt.ext hrm2 e1, l3, l4, l5, l6, fun H2 e2 => ?_⟩
    have kk := k1 H2 e2
    rw [show milder x y = rmMilder x.size x.bounds y.size y.bounds by
      unfold milder
      rw [decide_eq_true hturn, decide_eq_true hperiod, decide_eq_true hquiet, decide_eq_true (by omega), decide_eq_true (by omega), decide_eq_true (by omega), decide_eq_true (by omega), decide_eq_true (by omega), decide_eq_true (by omega), decide_eq_true (by omega)]
      rfl] at kk
    exact kk
end
end K02

set_option Elab.async false
set_option maxRecDepth 100000
set_option maxHeartbeats 4000000
namespace K02
open PySem PySem.Spec PyProof.Rows L2
open K18 (StB ExtB spDrawB)
/-! ### what stands beside the state -/
def hb (b : Addr) (H : Hp) : Hp := fun a => if a = b then none else H a
theorem hb_ext {b : Addr} {H : Hp} : Ext (hb b H) H := fun a o h => by
  unfold hb at h
  split at h
  · cases h
  · exact h
theorem hb_b {b : Addr} {H H' : Hp} (x : ExtB b H H') : Ext (hb b H) (hb b H') := fun a o h => by
  unfold hb at h ⊢
  split at h
  · cases h
  · rename_i hn
    rw [if_neg hn]
    exact x _ _ hn h
theorem hb_at {b p : Addr} {H : Hp} {o : HO} (hn : p ≠ b) (h : H p = some o) : hb b H p = some o := (if_neg hn).trans h
def Drw (K : PySem.W.Frag) (a b : Addr) (ns : List Int) (H : Hp) : Prop := SqL K H a (ns.map V.int) ∧ (a = b → ∀ H', SqL K H' a (ns.map V.int)) ∧ StB H b
theorem Drw.x {K : PySem.W.Frag} {a b : Addr} {ns : List Int} {H H' : Hp} (h : Drw K a b ns H) (s : StB H' b) (e : ExtB b H H') : Drw K a b ns H' := ⟨K18.sqL_b h.1 h.2.1 e, h.2.1, s⟩
theorem Drw.ext {K : PySem.W.Frag} {a b : Addr} {ns : List Int} {H H' : Hp} (h : Drw K a b ns H) (e : Ext H H') : Drw K a b ns H' := h.x (K18.StB.ext h.2.2 e) (K18.Ext.b e)
theorem Drw.new {K : PySem.W.Frag} {a b l : Addr} {ns : List Int} {H : Hp} (h : Drw K a b ns H) (hl : H l = none) : l ≠ b := K18.StB.new h.2.2 hl
/-- a thing of the law's own is written -/
theorem Drw.own {K : PySem.W.Frag} {a b D : Addr} {ns : List Int} {H J : Hp} {o : HO} (h : Drw K a b ns J) (h0 : Drw K a b ns H) (hD : H D = none) : Drw K a b ns (upd J D o) := by
  refine ⟨?_, h.2.1, K18.StB.upd h.2.2 (h0.new hD)⟩
  by_cases e : a = D
  · rcases h0.1 with (z | ⟨o, z⟩) | z
    · rw [e, hD] at z; cases z
    · rw [e, hD] at z; cases z
    · exact .inr z
  · exact h.1.elim (fun h => .inl (h.elim (fun h => .inl (by rw [upd_ne e]; exact h)) fun ⟨o, h⟩ => .inr ⟨o, by rw [upd_ne e]; exact h⟩)) fun h => .inr h
theorem hb_tup {K : PySem.W.Frag} {b t : Addr} {H : Hp} {xs : List V} (hs : StB H b) (h : H t = some (.tup xs)) : hb b H t = some (.tup xs) := by
  refine hb_at (fun z => ?_) h
  obtain ⟨_, _, _, _, e⟩ := hs
  rw [z, e] at h
  cases h
theorem dps_of {K : PySem.W.Frag} {H : Hp} : ∀ {vs : List V} {ds : List PyData}, vs.length = ds.length → (∀ (i : Nat) (d : PyData), ds[i]? = some d → ∃ v, vs[i]? = some v ∧ Dp K H v d) → DpAll K H vs ds
  | [], [], _, _ => .nil
  | [], _ :: _, h, _ => by cases h
  | _ :: _, [], h, _ => by cases h
  | v :: vs, d :: ds, h, hi => .cons (by obtain ⟨u, h1, h2⟩ := hi 0 d rfl; cases h1; exact h2) (dps_of (Nat.succ.inj h) fun i e he => hi (i + 1) e he)
theorem tup_dp {K : PySem.W.Frag} {H : Hp} {a : Addr} {ds : List PyData} (h : Dp K H (.ref a) (.tuple ds)) : ∃ xs, SqT K H a xs ∧ DpAll K H xs ds := by
  cases h with
  | tup h1 h2 => exact ⟨_, h1, h2⟩
theorem tk_l {K : PySem.W.Frag} {H : Hp} {D a : Addr} {ys zs xs : List V} (hD : H D = some (.lst ys)) (h : SqT K H a xs) : SqT K (upd H D (.lst zs)) a xs := sqT_mutL hD (fun y o hy ho => by rw [upd_ne hy]; exact ho) h
theorem letD_of {hs : List Str} {b : Int} (h1 : ∀ h ∈ hs, nameS h = true) (h2 : hs.length ≤ 4) (b0 : 0 ≤ b) (b6 : b ≤ 60) : letterD (.tuple [.tuple (hs.map PyData.str), .int b]) = true ∧ SmL (.tuple [.tuple (hs.map PyData.str), .int b]) := by
  refine ⟨?_, fun hs' b' e x hx => ?_⟩
  · show (decide ((hs.map PyData.str).length ≤ 4) && ((hs.map PyData.str).all nameD && betD (.int b) 0 60)) = true
    rw [decide_eq_true (by rw [List.length_map]; exact h2), bet_int, decide_eq_true b0, decide_eq_true b6, List.all_eq_true.mpr fun x hx => by
      obtain ⟨u, hu, rfl⟩ := List.mem_map.mp hx
      exact h1 u hu]; rfl
  · injection e with e
    injection e with e1 e2
    injection e1 with e1
    rw [← e1] at hx
    obtain ⟨u, hu, rfl⟩ := List.mem_map.mp hx
    have := h1 u hu
    unfold nameS at this
    rw [Bool.and_eq_true, Bool.and_eq_true, decide_eq_true_eq, decide_eq_true_eq] at this
    show u.length ≤ 1000
    omega
theorem MailAt.keep {K : PySem.W.Frag} {A : Ad} {H H' : Hp} {m : Addr} {L : List (List PyData)} (h : MailAt K A H m L) (hm : ∀ o, H m = some o → H' m = some o) (tk : ∀ a xs, SqT K H a xs → SqT K H' a xs) : MailAt K A H' m L := by
  obtain ⟨dx, pr, pl, h1, h2, h3, h4⟩ := h
  obtain ⟨rs, hr, hra⟩ := tup_dp h2
  obtain ⟨ls, hl, hla⟩ := tup_dp h3
  exact ⟨dx, pr, pl, hm _ h1, .tup (tk _ _ hr) (rows_keep tk h4 hra), .tup (tk _ _ hl) (lets_keep tk (fun d hd => by
    obtain ⟨r, hr, hd⟩ := List.mem_flatten.mp hd
    exact h4 r hr d hd) hla), h4⟩
theorem MailAt.mutL {K : PySem.W.Frag} {A : Ad} {H : Hp} {m D : Addr} {ys zs : List V} {L : List (List PyData)} (h : MailAt K A H m L) (hD : H D = some (.lst ys)) : MailAt K A (upd H D (.lst zs)) m L := by
  obtain ⟨dx, pr, pl, h1, _⟩ := id h
  refine h.keep (fun o ho => ?_) fun a xs => tk_l hD
  rw [upd_ne (fun z => by rw [z, hD] at h1; cases h1)]
  exact ho
structure RowsP (K : PySem.W.Frag) (st D : Addr) (H : Hp) (xs : List V) (L : List (List PyData)) : Prop where
  len : xs.length = L.length
  at_ : ∀ (i : Nat) (r : List PyData), L[i]? = some r → ∃ b ys, xs[i]? = some (.ref b) ∧ b ≠ D ∧ b ≠ st ∧ H b = some (.lst ys) ∧ DpAll K H ys r
  good : ∀ r ∈ L, 0 < r.length ∧ r.length ≤ 5 ∧ ∀ d ∈ r, letterD d = true ∧ SmL d
theorem RowsP.step {K : PySem.W.Frag} {st D : Addr} {H H' : Hp} {xs : List V} {L : List (List PyData)} (h : RowsP K st D H xs L) (kp : ∀ x o, x ≠ D → x ≠ st → H x = some o → H' x = some o) (tk : ∀ a us, SqT K H a us → SqT K H' a us) : RowsP K st D H' xs L :=
  ⟨h.len, fun i r hr => by
    obtain ⟨b, ys, h1, h2, h3, h4, h5⟩ := h.at_ i r hr
    exact ⟨b, ys, h1, h2, h3, kp _ _ h2 h3 h4, lets_keep tk (fun d hd => ((h.good r (List.mem_of_getElem? hr)).2.2 d hd).1) h5⟩, h.good⟩
theorem RowsP.ext {K : PySem.W.Frag} {st D : Addr} {H H' : Hp} {xs : List V} {L : List (List PyData)} (h : RowsP K st D H xs L) (e : Ext H H') : RowsP K st D H' xs L := h.step (fun x o _ _ ho => e x o ho) fun _ _ z => z.ext e
theorem RowsP.dps {K : PySem.W.Frag} {st D : Addr} {H : Hp} {xs : List V} {L : List (List PyData)} (h : RowsP K st D H xs L) : DpAll K H xs (L.map PyData.list) := dps_of (by rw [List.length_map, h.len]) fun i z hz => by
  rw [List.getElem?_map] at hz
  obtain ⟨r, hr, rfl⟩ := Option.map_eq_some_iff.mp hz
  obtain ⟨b, ys, h1, _, _, h4, h5⟩ := h.at_ i r hr
  exact ⟨.ref b, h1, .lst (SqL.of h4) h5⟩
theorem tk_b {K : PySem.W.Frag} {H H' : Hp} {b a : Addr} {xs : List V} (hst : StB H b) (x : ExtB b H H') (h : SqT K H a xs) : SqT K H' a xs := by
  obtain ⟨_, _, _, _, hs⟩ := hst
  exact sqT_mutL hs (fun y o hy ho => x y o hy ho) h
theorem RowsP.b {K : PySem.W.Frag} {st D : Addr} {H H' : Hp} {xs : List V} {L : List (List PyData)} (h : RowsP K st D H xs L) (hst : StB H st) (x : ExtB st H H') : RowsP K st D H' xs L := h.step (fun y o _ hy ho => x y o hy ho) fun _ _ => tk_b hst x
theorem RowsP.hb {K : PySem.W.Frag} {st D : Addr} {H : Hp} {xs : List V} {L : List (List PyData)} (h : RowsP K st D H xs L) (hst : StB H st) : DpAll K (hb st H) xs (L.map PyData.list) := dps_of (by rw [List.length_map, h.len]) fun i z hz => by
  rw [List.getElem?_map] at hz
  obtain ⟨r, hr, rfl⟩ := Option.map_eq_some_iff.mp hz
  obtain ⟨b, ys, h1, _, h3, h4, h5⟩ := h.at_ i r hr
  obtain ⟨_, _, _, _, hs⟩ := hst
  exact ⟨.ref b, h1, .lst (SqL.of (hb_at h3 h4)) (lets_keep (fun a us z => sqT_mutL hs (fun x o hx ho => hb_at hx ho) z) (fun d hd => ((h.good r (List.mem_of_getElem? hr)).2.2 d hd).1) h5)⟩
def xyz : List Str := ["x", "y", "z"]
theorem xyz_name : ∀ h ∈ xyz, nameS h = true := by decide +kernel
section
variable {P : Program} {w : World} {K : PySem.W.Frag} {mg : Str → Option Value} {base : Heap} {A : Ad}
def GoodM (L : List (List PyData)) : Prop := 1 ≤ L.length ∧ L.length ≤ 2 ∧ ∀ r ∈ L, 0 < r.length ∧ r.length ≤ 5 ∧ ∀ d ∈ r, letterD d = true ∧ SmL d
def spMailL (K : PySem.W.Frag) : Sp := fun vs H Q _ => ∃ (a b : Addr) (ns : List Int), vs = [.ref a, .ref b] ∧ Drw K a b ns H ∧ ∀ l L H', Drw K a b ns H' → ExtB b H H' → l ≠ b → Dp K (hb b H') (.ref l) (.list (L.map PyData.list)) → GoodM L → Q (.ref l) H'
theorem ok_mailL {f : Addr} {fd : FuncData} (F : Fun K "_law_mail" "_law_mail" s__law_mail f fd) (T : Txt K mg A) (O__law_draw : Own P w K mg base CX0 "_law_draw" 1 pm__law_draw (spDrawB K)) : FnOk P w K mg base CX0 2 f fd pm__law_mail (spMailL K) := by
  refine F.ok sc__law_mail (fun vs H Q E h => ?_) (fun cdv A' outer sh H vs Q E hr h => ?_)
  · obtain ⟨_, _, _, rfl, _⟩ := h
    rfl
  · obtain ⟨a, b, ns, rfl, hD, k⟩ := h
    refine ⟨_, pss_cons (ps_set (i := 2) sc__law_mail.nd rfl (Or.inl rfl) (pe_lst (pa_nil)))
      (pss_cons (ps_for PassesOwn.never rfl (pi_range1 rfl T.n_range (pa_cons (pe_op op_add (pe_int) (pe_own O__law_draw (hr.mono (by decide)) pass0 (pa_cons (pv 0) (pa_cons (pv 1) (pa_cons (pe_int) pa_nil))))) pa_nil)) (pg_name (i := 3) sc__law_mail.nd rfl (Or.inl rfl)) (pss_cons (ps_set (i := 4) sc__law_mail.nd rfl (Or.inl rfl) (pe_lst (pa_nil)))
      (pss_cons (ps_for PassesOwn.never rfl (pi_range1 rfl T.n_range (pa_cons (pe_op op_add (pe_int) (pe_own O__law_draw (hr.mono (by decide)) pass0 (pa_cons (pv 0) (pa_cons (pv 1) (pa_cons (pe_int) pa_nil))))) pa_nil)) (pg_name (i := 5) sc__law_mail.nd rfl (Or.inl rfl)) (pss_cons (ps_set (i := 6) sc__law_mail.nd rfl (Or.inl rfl) (pe_tup (pa_nil)))
      (pss_cons (ps_for PassesOwn.never rfl (pi_range1 rfl T.n_range (pa_cons (pe_own O__law_draw (hr.mono (by decide)) pass0 (pa_cons (pv 0) (pa_cons (pv 1) (pa_cons (pe_int) pa_nil)))) pa_nil)) (pg_name (i := 7) sc__law_mail.nd rfl (Or.inl rfl)) (pss_one (ps_set (i := 6) sc__law_mail.nd rfl (Or.inl rfl) (pe_op op_catE (pv 6) (pe_tup (pa_cons (pe_ix ix_list (pe_lst (pa_cons (pe_str) (pa_cons (pe_str) (pa_cons (pe_str) pa_nil)))) (pe_own O__law_draw (hr.mono (by decide)) pass0 (pa_cons (pv 0) (pa_cons (pv 1) (pa_cons (pe_int) pa_nil)))) (fun _ _ => rfl)) pa_nil))))))
      (pss_one (ps_expr (pe_bm PySem.F.plainAttrs_list PySem.F.slot_list_append PySem.F.type_list_append mt_append (pv 4) (pa_cons (pe_tup (pa_cons (pv 6) (pa_cons (pe_own O__law_draw (hr.mono (by decide)) pass0 (pa_cons (pv 0) (pa_cons (pv 1) (pa_cons (pe_int) pa_nil)))) pa_nil))) pa_nil)))))))
      (pss_one (ps_expr (pe_bm PySem.F.plainAttrs_list PySem.F.slot_list_append PySem.F.type_list_append mt_append (pv 2) (pa_cons (pv 4) pa_nil)))))))
      (pss_one (ps_ret (pv 2)))), ?_⟩
    refine ⟨by show 0 ≤ sizeLine; decide, fun D hDn => ?_⟩
    have nDb := hD.new hDn
    have e0 := Ext.upd (o := .lst []) hDn
    have hD0 : upd H D (.lst []) D = some (.lst []) := upd_same
    generalize upd H D (.lst []) = H0 at e0 hD0 ⊢
    have d0 := hD.ext e0
    refine ⟨_, rfl, _, rfl, a, b, ns, 2, rfl, d0.1, d0.2.1, d0.2.2, by omega, by omega, fun n H1 n0 n2 s1 x1 => ⟨_, _, rfl, rfl, 1 + n, rfl, by omega, by omega, ?_⟩⟩
    have d1 := d0.x s1 x1
    refine for_range (fun i σ' J => ∃ o3 o4 o5 o6 o7 xs L, σ' = [some (.ref a), some (.ref b), some (.ref D), o3, o4, o5, o6, o7] ∧ Drw K a b ns J ∧ ExtB b H J ∧ J D = some (.lst xs) ∧ L.length = i ∧ RowsP K b D J xs L)
      ⟨_, _, _, _, _, [], [], rfl, d1, (K18.Ext.b e0).trans x1, x1 _ _ nDb hD0, rfl, rfl, fun i r h => (by cases h), fun r hr => (by cases hr)⟩ (fun i σ' J hi pv => ?_) (fun σ' J pv => ?_)
    · obtain ⟨o3, o4, o5, o6, o7, xs, L, rfl, dj, xj, hDx, hLi, hR⟩ := pv
      refine ⟨by show 0 ≤ sizeLine; decide, fun D2 hD2 => ?_⟩
      have nD2b := dj.new hD2
      have nD2 : D2 ≠ D := fun z => by rw [z, hDx] at hD2; cases hD2
      have e2 := Ext.upd (o := .lst []) hD2
      have hD20 : upd J D2 (.lst []) D2 = some (.lst []) := upd_same
      generalize upd J D2 (.lst []) = J0 at e2 hD20 ⊢
      have dj0 := dj.ext e2
      refine ⟨_, rfl, _, rfl, a, b, ns, 2, rfl, dj0.1, dj0.2.1, dj0.2.2, by omega, by omega, fun m J1 m0 m2 sj1 xj1 => ⟨_, _, rfl, rfl, 1 + m, rfl, by omega, by omega, ?_⟩⟩
      have dj1 := dj0.x sj1 xj1
      have x01 := (K18.Ext.b e2).trans xj1
      refine for_range (fun j σ' M => ∃ o5 o6 o7 ys r, σ' = [some (.ref a), some (.ref b), some (.ref D), some (.int (0 + (i : Int))), some (.ref D2), o5, o6, o7] ∧ Drw K a b ns M ∧ ExtB b J M ∧ M D2 = some (.lst ys) ∧ r.length = j ∧ DpAll K M ys r ∧ ∀ d ∈ r, letterD d = true ∧ SmL d)
        ⟨_, _, _, [], [], rfl, dj1, x01, xj1 _ _ nD2b hD20, rfl, .nil, fun d hd => (by cases hd)⟩ (fun j σ' M hj pv => ?_) (fun σ' M pv => ?_)
      · obtain ⟨o5, o6, o7, ys, r, rfl, dm, xm, hDy, hrj, hya, hgood⟩ := pv
        refine ⟨by show 0 ≤ sizeLine; decide, fun t0 ht0 => ?_⟩
        have et := Ext.upd (o := .tup []) ht0
        have ht01 : upd M t0 (.tup []) t0 = some (.tup []) := upd_same
        generalize upd M t0 (.tup []) = M0 at et ht01 ⊢
        have dm0 := dm.ext et
        refine ⟨_, rfl, _, rfl, a, b, ns, 3, rfl, dm0.1, dm0.2.1, dm0.2.2, by omega, by omega, fun c M1 c0 c3 sm1 xm1 => ⟨c, rfl, by omega, by omega, ?_⟩⟩
        have dm1 := dm0.x sm1 xm1
        refine for_range (fun u σ' N => ∃ (o7 : Option V) (t : Addr) (hs : List Str), σ' = [some (.ref a), some (.ref b), some (.ref D), some (.int (0 + (i : Int))), some (.ref D2), some (.int (0 + (j : Int))), some (.ref t), o7] ∧ Drw K a b ns N ∧ ExtB b M N ∧ N t = some (.tup (hs.map V.str)) ∧ hs.length = u ∧ ∀ h ∈ hs, h ∈ xyz)
          ⟨_, t0, [], rfl, dm1, (K18.Ext.b et).trans xm1, xm1 _ _ (dm.new ht0) ht01, rfl, fun h hh => (by cases hh)⟩ (fun u σ' N hu pv => ?_) (fun σ' N pv => ?_)
        · obtain ⟨o7, t, hs, rfl, dn, xn, ht, hlen, hx⟩ := pv
          refine ⟨_, rfl, by show 3 ≤ sizeLine; decide, fun l hl => ?_⟩
          have el := Ext.upd (o := .lst [V.str "x", .str "y", .str "z"]) hl
          have hl1 : upd N l (.lst [V.str "x", .str "y", .str "z"]) l = some (.lst [V.str "x", .str "y", .str "z"]) := upd_same
          have nlb := dn.new hl
          generalize upd N l (.lst [V.str "x", .str "y", .str "z"]) = N0 at el hl1 ⊢
          have dn0 := dn.ext el
          refine ⟨_, rfl, _, rfl, a, b, ns, 3, rfl, dn0.1, dn0.2.1, dn0.2.2, by omega, by omega, fun y N1 y0 y3 sn1 xn1 => ?_⟩
          have dn1 := dn0.x sn1 xn1
          obtain ⟨s, hat, hsx⟩ : ∃ s, atI [V.str "x", .str "y", .str "z"] y = some (.str s) ∧ s ∈ xyz := by
            have : y = 0 ∨ y = 1 ∨ y = 2 := by omega
            rcases this with rfl | rfl | rfl
            · exact ⟨_, atI_nat (j := 0) rfl, by decide⟩
            · exact ⟨_, atI_nat (j := 1) rfl, by decide⟩
            · exact ⟨_, atI_nat (j := 2) rfl, by decide⟩
          refine ⟨l, _, y, _, rfl, rfl, SqL.of (xn1 _ _ nlb hl1), hat, by show 1 ≤ sizeLine; decide, fun t1 ht1 => ?_⟩
          have e1t := Ext.upd (o := .tup [V.str s]) ht1
          have hr1 : upd N1 t1 (.tup [V.str s]) t1 = some (.tup [V.str s]) := upd_same
          generalize upd N1 t1 (.tup [V.str s]) = N2 at e1t hr1 ⊢
          have nt : t ≠ b := fun z => by
            obtain ⟨_, _, _, _, e⟩ := dn.2.2
            rw [z, e] at ht
            cases ht
          have htN := e1t _ _ (xn1 _ _ nt (el _ _ ht))
          refine ⟨t, t1, _, _, rfl, rfl, htN, hr1, by rw [List.length_map]; exact Nat.le_trans (show hs.length + 1 ≤ 1000 by omega) (by decide), fun p N3 e3 hp => ?_⟩
          exact ⟨_, p, hs ++ [s], rfl, (dn1.ext e1t).ext e3, ((xn.trans (K18.Ext.b el)).trans xn1).trans (K18.Ext.b (e1t.trans e3)), by rw [List.map_append]; exact hp, by rw [List.length_append, hlen]; rfl, fun h hh => by
            rcases List.mem_append.mp hh with hh | hh
            · exact hx h hh
            · rw [List.mem_singleton.mp hh]; exact hsx⟩
        · obtain ⟨o7, t, hs, rfl, dn, xn, ht, hlen, hx⟩ := pv
          have hDyN := xn _ _ nD2b hDy
          refine ⟨_, rfl, .inl ⟨rfl, _, SqL.of hDyN⟩, _, rfl, _, rfl, _, rfl, a, b, ns, 7, rfl, dn.1, dn.2.1, dn.2.2, by omega, by omega, fun q N1 q0 q7 sn1 xn1 => ⟨by show 2 ≤ sizeLine; decide, fun t2 ht2 => ?_⟩⟩
          have dn1 := dn.x sn1 xn1
          have e2t := Ext.upd (o := .tup [V.ref t, .int q]) ht2
          have hr2 : upd N1 t2 (.tup [V.ref t, .int q]) t2 = some (.tup [V.ref t, .int q]) := upd_same
          generalize upd N1 t2 (.tup [V.ref t, .int q]) = N2 at e2t hr2 ⊢
          have nt : t ≠ b := fun z => by
            obtain ⟨_, _, _, _, e⟩ := dn.2.2
            rw [z, e] at ht
            cases ht
          have htN := e2t _ _ (xn1 _ _ nt ht)
          have dn2 := dn1.ext e2t
          have xMN2 := (xn.trans xn1).trans (K18.Ext.b e2t)
          have hDy2 := xMN2 _ _ nD2b hDy
          have hld := letD_of (hs := hs) (b := q) (fun h hh => xyz_name h (hx h hh)) (by omega) q0 (by omega)
          have hyl := dps_len hya
          refine ⟨D2, ys, _, rfl, rfl, hDy2, small_sz (by omega), _, _, _, ys ++ [.ref t2], r ++ [.tuple [.tuple (hs.map PyData.str), .int q]], rfl, dn2.own dj hD2, (xm.trans xMN2).mut hD2, upd_same, by rw [List.length_append, hrj]; rfl, ?_, fun d hd => ?_⟩
          · refine lets_keep (H := N2) (fun a us => tk_l hDy2) (fun d hd => ?_) (dps_snoc (.tup (SqT.of hr2) (.cons (.tup (SqT.of htN) ?_) (.cons (.int _) .nil))) (lets_keep (fun a us => tk_b dm.2.2 xMN2) (fun d hd => (hgood d hd).1) hya))
            · rcases List.mem_append.mp hd with hd | hd
              · exact (hgood d hd).1
              · rw [List.mem_singleton.mp hd]; exact hld.1
            · exact dps_of (by rw [List.length_map, List.length_map]) fun i d hd => by
                rw [List.getElem?_map] at hd ⊢
                obtain ⟨h, hh, rfl⟩ := Option.map_eq_some_iff.mp hd
                rw [hh]
                exact ⟨_, rfl, .str _⟩
          · rcases List.mem_append.mp hd with hd | hd
            · exact hgood d hd
            · rw [List.mem_singleton.mp hd]; exact hld
      · obtain ⟨o5, o6, o7, ys, r, rfl, dm, xm, hDy, hrj, hya, hgood⟩ := pv
        have hDx2 := xm _ _ nDb hDx
        have hR2 := hR.b dj.2.2 xm
        refine ⟨_, rfl, .inl ⟨rfl, _, SqL.of hDx2⟩, _, rfl, D, xs, _, rfl, rfl, hDx2, small_sz (by rw [hR.len]; omega), _, _, _, _, _, xs ++ [.ref D2], L ++ [r], rfl, dm.own hD hDn, (xj.trans xm).mut hDn, upd_same, by rw [List.length_append, hLi]; rfl, ?_⟩
        have hR3 : RowsP K b D (upd M D (.lst (xs ++ [.ref D2]))) xs L := hR2.step (fun x o hx _ ho => by rw [upd_ne hx]; exact ho) fun a us => tk_l hDx2
        refine ⟨by rw [List.length_append, List.length_append, hR.len]; rfl, fun i' r' hr' => ?_, fun r' hr' => ?_⟩
        · by_cases hi' : i' < L.length
          · rw [List.getElem?_append_left hi'] at hr'
            obtain ⟨b, ys', h1, h2⟩ := hR3.at_ i' r' hr'
            exact ⟨b, ys', by rw [List.getElem?_append_left (by rw [hR.len]; exact hi')]; exact h1, h2⟩
          · rw [List.getElem?_append_right (by omega)] at hr'
            cases hj : i' - L.length with
            | succ j => rw [hj] at hr'; cases hr'
            | zero =>
              rw [hj] at hr'
              cases hr'
              refine ⟨D2, ys, ?_, nD2, nD2b, by rw [upd_ne nD2]; exact hDy, lets_keep (fun a us => tk_l hDx2) (fun d hd => (hgood d hd).1) hya⟩
              rw [List.getElem?_append_right (by rw [hR.len]; omega), hR.len, hj]
              rfl
        · rcases List.mem_append.mp hr' with hr' | hr'
          · exact hR.good r' hr'
          · rw [List.mem_singleton.mp hr']
            exact ⟨by omega, by omega, hgood⟩
    · obtain ⟨o3, o4, o5, o6, o7, xs, L, rfl, dj, xj, hDx, hLi, hR⟩ := pv
      refine ⟨_, rfl, k D L J dj xj nDb (.lst (SqL.of (hb_at nDb hDx)) (hR.hb dj.2.2)) ⟨by omega, by omega, hR.good⟩⟩
end
end K02

set_option Elab.async false
set_option maxRecDepth 100000
set_option maxHeartbeats 4000000
namespace K15
open PySem PySem.Spec PyProof.Rows L2 K02
structure Good (l m : Int) (bs : List Bx) : Prop where
  d : 1 ≤ l ∧ l ≤ m ∧ m ≤ 50
  n : bs.length ≤ 3
  b : ∀ q ∈ bs, bxOk q l m
theorem shp_bxl (bs : List Bx) : SeqAt.shaped (.list (bs.map bxD)) = true := by
  obtain ⟨h1, h2⟩ := lay_bxs bs
  show (PyData.canLayAll0 (bs.map bxD) && decide (PyData.depthAll (bs.map bxD) + 1 ≤ 64)) = true
  rw [h1, decide_eq_true (by omega)]
  rfl
theorem eqv_nilB (bs : List Bx) : PyData.eqv (.list (bs.map bxD)) (.list []) = decide (bs = []) := by
  show PyData.eqvAll (bs.map bxD) [] = _
  cases bs with
  | nil => rfl
  | cons b bs => exact (decide_eq_false (fun h => nomatch h)).symm
theorem eqv_i (a b : Int) : PyData.eqv (.int a) (.int b) = (a == b) := by
  unfold PyData.eqv
  rfl
section
variable {P : Program} {w : World} {K : PySem.W.Frag} {mg : Str → Option Value} {base : Heap} {A : Ad}
theorem mk_way {H1 : Hp} {vx : V} {bo : Option Int} {l m : Int} {bs : List Bx} {x : PyData} {R : VK} {E : XK} {x0 dx : Addr} (hx0 : H1 x0 = none) (hdx : H1 dx = none) (hne : dx ≠ x0) (hb : bOk bo) (hg : Good l m bs) (hx : Dp K H1 vx x) (hxx : x = .list (bs.map bxD) ∨ x = .tuple (bs.map bxD))
    (q : ∀ H', Ext H1 H' → MyWay K A H' x0 bo l m bs → R .non H') : spWayInit K A (.ref x0 :: [bV bo, .int l, .int m, vx]) (upd (upd H1 dx (.own x0)) x0 (.ins A.Way dx [])) R E := by
  have e0 := (Ext.upd (o := .own x0) hdx).upd' (o := .ins A.Way dx []) (by rw [upd_ne hne.symm]; exact hx0)
  have due := due_ok (x := x) hb hg.d hxx hg.n hg.b
  refine ⟨x0, dx, bV bo, .int l, .int m, vx, bD bo, .int l, .int m, x, rfl, upd_same, bV_dp bo, .int _, .int _, dp_ext e0 _ _ hx, fun s hs => (by rw [due] at hs; cases hs), fun i hi => (by rw [due] at hi; cases hi), fun _ ds H' hds hw hB => ?_⟩
  have hd : ds = bs.map bxD := by rcases hxx with rfl | rfl <;> cases hds <;> rfl
  subst hd
  obtain ⟨T2, ys, h1, h2, h3⟩ := hw
  exact q H' (fun a o h => hB a o (ne_of_none h hx0) (e0 a o h)) ⟨dx, T2, ys, h1, h2, h3⟩
theorem nfD {C : Addr} {d : PyData} : PySem.W.notFirst K C (.type (tnD d)) = true := by
  show (Value.type (tnD d) == Value.ref C || PySem.W.subIn K (.type (tnD d)) (.ref C) == some false) = true
  rw [sub_ty_ref kd_find]
  exact Bool.or_eq_true_iff.mpr (.inr (by decide))
end
end K15

set_option Elab.async false
set_option maxRecDepth 100000
set_option maxHeartbeats 4000000
namespace K08
open PySem PySem.Spec PyProof.Rows L2 K02
section
variable {P : Program} {w : World} {K : PySem.W.Frag} {mg : Str → Option Value} {base : Heap} {A : Ad}
theorem mk_room {H1 : Hp} {z : Int} {s : Addr} {bs : List Int} {R : VK} {E : XK} {x0 dx : Addr} (hx0 : H1 x0 = none) (hdx : H1 dx = none) (hne : dx ≠ x0) (z1 : 1 ≤ z) (z60 : z ≤ 60) (hS : StAt K A H1 s bs)
    (q : ∀ H', Ext H1 H' → RmAt K A H' x0 z bs → R .non H') : spRoomInit K A [.ref x0, .int z, .ref s] (upd (upd H1 dx (.own x0)) x0 (.ins A.Room dx [])) R E := by
  have e0 := (Ext.upd (o := .own x0) hdx).upd' (o := .ins A.Room dx []) (by rw [upd_ne hne.symm]; exact hx0)
  have hb : betD (.int z) 1 60 = true := by
    rw [bet_int, decide_eq_true z1, decide_eq_true z60]
    rfl
  refine ⟨x0, dx, _, _, .int z, rfl, upd_same, .int _, fun h => (by rw [hb] at h; cases h), fun _ => .inr ⟨s, bs, z, rfl, hS.ext e0, rfl, fun H' hr hk => q H' (fun x o h => hk x o (ne_of_none h hx0) (e0 _ _ h)) hr⟩⟩
end
end K08

set_option Elab.async false
set_option maxRecDepth 100000
set_option maxHeartbeats 4000000
namespace K02
open PySem PySem.Spec PyProof.Rows L2
open K18 (StB ExtB spDrawB)
def Ris (ns : List Int) (most top : Int) : Prop := 1 ≤ ns.length ∧ (ns.length : Int) ≤ most ∧ (∀ n ∈ ns, 1 ≤ n ∧ n ≤ top + 5 * (most - 1)) ∧ ns.Pairwise (· < ·)
def GoodWy (d : Wy) : Prop := K15.bOk d.1 ∧ K15.Good d.2.1 d.2.2.1 d.2.2.2
def wayDat (d : Wy) : PyData := .tuple [K15.bD d.1, .int d.2.1, .int d.2.2.1, .list (d.2.2.2.map K15.bxD)]
section
variable {P : Program} {w : World} {K : PySem.W.Frag} {mg : Str → Option Value} {base : Heap} {A : Ad}
def spRising (K : PySem.W.Frag) : Sp := fun vs H Q _ => ∃ (a b : Addr) (ns : List Int) (most top : Int), vs = [.ref a, .ref b, .int most, .int top] ∧ Drw K a b ns H ∧ 1 ≤ most ∧ most ≤ 10 ∧ 1 ≤ top ∧ top ≤ 1000 ∧
  ∀ l us H', Drw K a b ns H' → ExtB b H H' → l ≠ b → H l = none → H' l = some (.lst (us.map V.int)) → Ris us most top → Q (.ref l) H'
theorem ok_rising {f : Addr} {fd : FuncData} (F : Fun K "_law_rising" "_law_rising" s__law_rising f fd) (T : Txt K mg A) (O__law_draw : Own P w K mg base CX0 "_law_draw" 1 pm__law_draw (spDrawB K)) : FnOk P w K mg base CX0 2 f fd pm__law_rising (spRising K) := by
  refine F.ok sc__law_rising (fun vs H Q E h => ?_) (fun cdv A' outer sh H vs Q E hr h => ?_)
  · obtain ⟨_, _, _, _, _, rfl, _⟩ := h
    rfl
  · obtain ⟨a, b, ns, most, top, rfl, hD, m1, m10, t1, t1000, k⟩ := h
    refine ⟨_, pss_cons (ps_set (i := 4) sc__law_rising.nd rfl (Or.inl rfl) (pe_lst (pa_cons (pe_op op_add (pe_int) (pe_own O__law_draw (hr.mono (by decide)) pass0 (pa_cons (pv 0) (pa_cons (pv 1) (pa_cons (pv 3) pa_nil))))) pa_nil)))
      (pss_cons (ps_for PassesOwn.never rfl (pi_range1 rfl T.n_range (pa_cons (pe_own O__law_draw (hr.mono (by decide)) pass0 (pa_cons (pv 0) (pa_cons (pv 1) (pa_cons (pv 2) pa_nil)))) pa_nil)) (pg_name (i := 5) sc__law_rising.nd rfl (Or.inl rfl)) (pss_one (ps_expr (pe_bm PySem.F.plainAttrs_list PySem.F.slot_list_append PySem.F.type_list_append mt_append (pv 4) (pa_cons (pe_op op_add (pe_op op_add (pe_ix ix_list (pv 4) (pe_un un_neg (pe_int)) (fun _ _ => rfl)) (pe_int)) (pe_own O__law_draw (hr.mono (by decide)) pass0 (pa_cons (pv 0) (pa_cons (pv 1) (pa_cons (pe_int) pa_nil))))) pa_nil)))))
      (pss_one (ps_ret (pv 4)))), ?_⟩
    refine ⟨_, rfl, _, rfl, _, rfl, a, b, ns, top, rfl, hD.1, hD.2.1, hD.2.2, t1, by omega, fun n H1 n0 n2 s1 x1 => ⟨_, _, rfl, rfl, by show 1 ≤ sizeLine; decide, fun D hDn => ?_⟩⟩
    have d1 := hD.x s1 x1
    have nDb := d1.new hDn
    have e0 := Ext.upd (o := .lst [V.int (1 + n)]) hDn
    have hD0 : upd H1 D (.lst [V.int (1 + n)]) D = some (.lst [V.int (1 + n)]) := upd_same
    generalize upd H1 D (.lst [V.int (1 + n)]) = H2 at e0 hD0 ⊢
    have d2 := d1.ext e0
    have hDH : H D = none := x1.none nDb hDn
    refine ⟨_, rfl, _, rfl, _, rfl, a, b, ns, most, rfl, d2.1, d2.2.1, d2.2.2, m1, by omega, fun c H3 c0 cm s3 x3 => ⟨c, rfl, by omega, by omega, ?_⟩⟩
    have d3 := d2.x s3 x3
    refine for_range (fun i σ' J => ∃ (o5 : Option V) (us : List Int) (z : Int), σ' = [some (.ref a), some (.ref b), some (.int most), some (.int top), some (.ref D), o5] ∧ Drw K a b ns J ∧ ExtB b H J ∧ J D = some (.lst ((us ++ [z]).map V.int)) ∧ us.length = i ∧ (us ++ [z]).Pairwise (· < ·) ∧ (∀ n ∈ us ++ [z], 1 ≤ n) ∧ z ≤ top + 5 * (i : Int))
      ⟨_, [], 1 + n, rfl, d3, (x1.trans (K18.Ext.b e0)).trans x3, x3 _ _ nDb hD0, rfl, List.pairwise_singleton .., fun y hy => (by rw [List.mem_singleton.mp hy]; omega), by omega⟩ (fun i σ' J hi pv => ?_) (fun σ' J pv => ?_)
    · obtain ⟨o5, us, z, rfl, dj, xj, hl, hlen, hpw, hge, hz⟩ := pv
      have hat : atI ((us ++ [z]).map V.int) (-1) = some (.int z) := by
        rw [List.map_append]
        exact atI_last _ _
      refine ⟨_, rfl, .inl ⟨rfl, _, SqL.of hl⟩, _, rfl, 1, rfl, D, _, -1, _, rfl, rfl, SqL.of hl, hat, _, _, rfl, rfl, _, rfl, _, rfl, a, b, ns, 5, rfl, dj.1, dj.2.1, dj.2.2, by omega, by omega, fun y J1 y0 y5 s2 x2 => ⟨_, _, rfl, rfl, ?_⟩⟩
      refine ⟨D, _, _, rfl, rfl, x2 _ _ nDb hl, small_sz (by rw [List.length_map, List.length_append]; show us.length + 1 ≤ 2000; omega), _, us ++ [z], z + 1 + y, rfl, (dj.x s2 x2).own d1 hDn, (xj.trans x2).mut hDH, ?_, by rw [List.length_append, hlen]; rfl, List.pairwise_append.mpr ⟨hpw, List.pairwise_singleton .., fun u hu v hv => ?_⟩, fun u hu => ?_, by rw [Int.natCast_succ]; omega⟩
      · rw [List.map_append (l₁ := us ++ [z])]
        exact upd_same
      · rw [List.mem_singleton.mp hv]
        have : u ≤ z := by
          rcases List.mem_append.mp hu with h | h
          · exact Int.le_of_lt ((List.pairwise_append.mp hpw).2.2 u h z (List.mem_singleton.mpr rfl))
          · rw [List.mem_singleton.mp h]; exact Int.le_refl _
        omega
      · rcases List.mem_append.mp hu with h | h
        · exact hge u h
        · have := hge z (List.mem_append_right _ (List.mem_singleton.mpr rfl))
          rw [List.mem_singleton.mp h]
          omega
    · obtain ⟨o5, us, z, rfl, dj, xj, hl, hlen, hpw, hge, hz⟩ := pv
      refine ⟨_, rfl, k D (us ++ [z]) J dj xj nDb hDH hl ⟨by rw [List.length_append]; exact Nat.le_add_left .., by rw [List.length_append]; show ((us.length + 1 : Nat) : Int) ≤ most; omega, fun y hy => ⟨hge y hy, ?_⟩, hpw⟩⟩
      have : y ≤ z := by
        rcases List.mem_append.mp hy with h | h
        · exact Int.le_of_lt ((List.pairwise_append.mp hpw).2.2 y h z (List.mem_singleton.mpr rfl))
        · rw [List.mem_singleton.mp h]; exact Int.le_refl _
      omega
def spBoxL (K : PySem.W.Frag) : Sp := fun vs H Q _ => ∃ (a b : Addr) (ns : List Int) (lo hi : Int), vs = [.ref a, .ref b, .int lo, .int hi] ∧ Drw K a b ns H ∧ 0 ≤ lo ∧ lo ≤ hi ∧ hi ≤ 1000 ∧
  ∀ q (x : K15.Bx) H', Drw K a b ns H' → ExtB b H H' → q ≠ b → H' q = some (.tup [.int x.1, .int x.2.1, .int x.2.2.1, .int x.2.2.2]) → K15.bxOk x lo hi → Q (.ref q) H'
theorem ok_boxL {f : Addr} {fd : FuncData} (F : Fun K "_law_box" "_law_box" s__law_box f fd) (T : Txt K mg A) (O__law_draw : Own P w K mg base CX0 "_law_draw" 1 pm__law_draw (spDrawB K)) : FnOk P w K mg base CX0 2 f fd pm__law_box (spBoxL K) := by
  refine F.ok sc__law_box (fun vs H Q E h => ?_) (fun cdv A' outer sh H vs Q E hr h => ?_)
  · obtain ⟨_, _, _, _, _, rfl, _⟩ := h
    rfl
  · obtain ⟨a, b, ns, lo, hi, rfl, hD, l0, lh, h1000, k⟩ := h
    refine ⟨_, pss_cons (ps_set (i := 4) sc__law_box.nd rfl (Or.inl rfl) (pe_own O__law_draw (hr.mono (by decide)) pass0 (pa_cons (pv 0) (pa_cons (pv 1) (pa_cons (pe_op op_add (pv 2) (pe_int)) pa_nil)))))
      (pss_cons (ps_set (i := 5) sc__law_box.nd rfl (Or.inl rfl) (pe_op op_add (pv 4) (pe_own O__law_draw (hr.mono (by decide)) pass0 (pa_cons (pv 0) (pa_cons (pv 1) (pa_cons (pe_op op_add (pe_op op_sub (pv 3) (pv 4)) (pe_int)) pa_nil))))))
      (pss_cons (ps_set (i := 6) sc__law_box.nd rfl (Or.inl rfl) (pe_op op_add (pe_int) (pe_own O__law_draw (hr.mono (by decide)) pass0 (pa_cons (pv 0) (pa_cons (pv 1) (pa_cons (pe_ix ix_list (pe_lst (pa_cons (pe_int) (pa_cons (pe_int) pa_nil))) (pe_own O__law_draw (hr.mono (by decide)) pass0 (pa_cons (pv 0) (pa_cons (pv 1) (pa_cons (pe_int) pa_nil)))) (fun _ _ => rfl)) pa_nil))))))
      (pss_one (ps_ret (pe_tup (pa_cons (pv 4) (pa_cons (pv 5) (pa_cons (pv 6) (pa_cons (pe_op op_add (pv 6) (pe_own O__law_draw (hr.mono (by decide)) pass0 (pa_cons (pv 0) (pa_cons (pv 1) (pa_cons (pe_int) pa_nil))))) pa_nil))))))))), ?_⟩
    refine ⟨_, rfl, _, rfl, _, rfl, _, _, rfl, rfl, a, b, ns, lo + 1, rfl, hD.1, hD.2.1, hD.2.2, by omega, by omega, fun n H1 n0 n2 s1 x1 => ?_⟩
    have d1 := hD.x s1 x1
    refine ⟨_, rfl, _, rfl, _, rfl, _, rfl, _, rfl, _, _, rfl, rfl, _, _, rfl, rfl, a, b, ns, hi - n + 1, rfl, d1.1, d1.2.1, d1.2.2, by omega, by omega, fun g H2 g0 g2 s2 x2 => ⟨_, _, rfl, rfl, ?_⟩⟩
    have d2 := d1.x s2 x2
    refine ⟨_, rfl, _, rfl, by show 2 ≤ sizeLine; decide, fun l hl => ?_⟩
    have e2 := Ext.upd (o := .lst [V.int 30, .int 120]) hl
    have hl2 : upd H2 l (.lst [V.int 30, .int 120]) l = some (.lst [V.int 30, .int 120]) := upd_same
    generalize upd H2 l (.lst [V.int 30, .int 120]) = H3 at e2 hl2 ⊢
    have nlb := d2.new hl
    have d3 := d2.ext e2
    refine ⟨_, rfl, _, rfl, a, b, ns, 2, rfl, d3.1, d3.2.1, d3.2.2, by omega, by omega, fun y H4 y0 y2 s4 x4 => ?_⟩
    have d4 := d3.x s4 x4
    obtain ⟨m, hat, m1, m2⟩ : ∃ m : Int, atI [V.int 30, .int 120] y = some (.int m) ∧ 1 ≤ m ∧ m ≤ 120 := by
      have : y = 0 ∨ y = 1 := by omega
      rcases this with rfl | rfl
      · exact ⟨30, atI_nat (j := 0) rfl, by omega, by omega⟩
      · exact ⟨120, atI_nat (j := 1) rfl, by omega, by omega⟩
    refine ⟨l, _, y, _, rfl, rfl, SqL.of (x4 _ _ nlb hl2), hat, a, b, ns, m, rfl, d4.1, d4.2.1, d4.2.2, m1, by omega, fun c H5 c0 c2 s5 x5 => ⟨_, _, rfl, rfl, ?_⟩⟩
    have d5 := d4.x s5 x5
    refine ⟨_, rfl, _, rfl, _, rfl, _, rfl, _, rfl, _, rfl, a, b, ns, 20, rfl, d5.1, d5.2.1, d5.2.2, by omega, by omega, fun v H6 v0 v2 s6 x6 => ⟨_, _, rfl, rfl, by show 4 ≤ sizeLine; decide, fun q hq => ?_⟩⟩
    have d6 := d5.x s6 x6
    exact k q (n, n + g, 1 + c, 1 + c + v) _ (d6.ext (Ext.upd hq)) (((((x1.trans x2).trans (K18.Ext.b e2)).trans x4).trans x5).trans (x6.trans (K18.Ext.b (Ext.upd hq)))) (d6.new hq) upd_same ⟨n0, by show n ≤ n + g; omega, by show n + g ≤ hi; omega, by show n ≤ lo; omega, by show 1 ≤ 1 + c; omega, by show 1 + c ≤ 1 + c + v; omega, by show 1 + c + v ≤ 10000; omega⟩
def spWayL (K : PySem.W.Frag) : Sp := fun vs H Q _ => ∃ (a b : Addr) (ns : List Int), vs = [.ref a, .ref b] ∧ Drw K a b ns H ∧ ∀ q (d : Wy) D ys H', Drw K a b ns H' → ExtB b H H' → H D = none → D ≠ b → H' q = some (.tup [K15.bV d.1, .int d.2.1, .int d.2.2.1, .ref D]) → H' D = some (.lst ys) → DpAll K H' ys (d.2.2.2.map K15.bxD) → GoodWy d → d.2.2.1 ≤ 10 → Q (.ref q) H'
theorem ok_wayL {f : Addr} {fd : FuncData} (F : Fun K "_law_way" "_law_way" s__law_way f fd) (T : Txt K mg A) (O__law_draw : Own P w K mg base CX0 "_law_draw" 1 pm__law_draw (spDrawB K)) (O__law_box : Own P w K mg base CX0 "_law_box" 2 pm__law_box (spBoxL K)) : FnOk P w K mg base CX0 3 f fd pm__law_way (spWayL K) := by
  refine F.ok sc__law_way (fun vs H Q E h => ?_) (fun cdv A' outer sh H vs Q E hr h => ?_)
  · obtain ⟨_, _, _, rfl, _⟩ := h
    rfl
  · obtain ⟨a, b, ns, rfl, hD, k⟩ := h
    refine ⟨_, pss_cons (ps_set (i := 2) sc__law_way.nd rfl (Or.inl rfl) (pe_op op_add (pe_int) (pe_own O__law_draw (hr.mono (by decide)) pass0 (pa_cons (pv 0) (pa_cons (pv 1) (pa_cons (pe_int) pa_nil))))))
      (pss_cons (ps_set (i := 3) sc__law_way.nd rfl (Or.inl rfl) (pe_op op_add (pv 2) (pe_own O__law_draw (hr.mono (by decide)) pass0 (pa_cons (pv 0) (pa_cons (pv 1) (pa_cons (pe_int) pa_nil))))))
      (pss_cons (ps_set (i := 4) sc__law_way.nd rfl (Or.inl rfl) (pe_own O__law_draw (hr.mono (by decide)) pass0 (pa_cons (pv 0) (pa_cons (pv 1) (pa_cons (pe_int) pa_nil)))))
      (Evl.pss_cut (ps_if (pt_cmpR op_eq (pe_own O__law_draw (hr.mono (by decide)) pass0 (pa_cons (pv 0) (pa_cons (pv 1) (pa_cons (pe_int) pa_nil)))) (pe_int) (nomark _)) (pss_one (ps_set (i := 4) sc__law_way.nd rfl (Or.inl rfl) (pe_non))) (pss_nil))
      (pss_cons (ps_set (i := 5) sc__law_way.nd rfl (Or.inl rfl) (pe_lst (pa_nil)))
      (Evl.pss_cut (ps_if (pt_cmpR op_eq (pe_own O__law_draw (hr.mono (by decide)) pass0 (pa_cons (pv 0) (pa_cons (pv 1) (pa_cons (pe_int) pa_nil)))) (pe_int) (nomark _)) (pss_one (ps_expr (pe_bm PySem.F.plainAttrs_list PySem.F.slot_list_append PySem.F.type_list_append mt_append (pv 5) (pa_cons (pe_own O__law_box (hr.mono (by decide)) pass0 (pa_cons (pv 0) (pa_cons (pv 1) (pa_cons (pv 2) (pa_cons (pv 3) pa_nil))))) pa_nil)))) (pss_nil))
      (pss_one (ps_ret (pe_tup (pa_cons (pv 4) (pa_cons (pv 2) (pa_cons (pv 3) (pa_cons (pv 5) pa_nil)))))))))))), ?_⟩
    refine ⟨_, rfl, _, rfl, a, b, ns, 2, rfl, hD.1, hD.2.1, hD.2.2, by omega, by omega, fun n H1 n0 n2 s1 x1 => ⟨_, _, rfl, rfl, ?_⟩⟩
    have d1 := hD.x s1 x1
    refine ⟨_, rfl, _, rfl, _, rfl, a, b, ns, 3, rfl, d1.1, d1.2.1, d1.2.2, by omega, by omega, fun g H2 g0 g2 s2 x2 => ⟨_, _, rfl, rfl, ?_⟩⟩
    have d2 := d1.x s2 x2
    refine ⟨_, rfl, _, rfl, a, b, ns, 8, rfl, d2.1, d2.2.1, d2.2.2, by omega, by omega, fun y H3 y0 y8 s3 x3 => ?_⟩
    have d3 := d2.x s3 x3
    have x03 := (x1.trans x2).trans x3
    refine ⟨fun σ J => ∃ bo : Option Int, σ = [some (.ref a), some (.ref b), some (.int (1 + n)), some (.int (1 + n + g)), some (K15.bV bo), none] ∧ K15.bOk bo ∧ Drw K a b ns J ∧ ExtB b H J, ?_, ?_⟩
    · refine ⟨_, rfl, _, rfl, a, b, ns, 8, rfl, d3.1, d3.2.1, d3.2.2, by omega, by omega, fun c H4 c0 c8 s4 x4 => ⟨rfl, _, rfl, ?_⟩⟩
      have d4 := d3.x s4 x4
      cases decide (V.int c = V.int 0)
      · exact iteF ⟨some y, rfl, fun n h => by cases h; omega, d4, x03.trans x4⟩
      · exact iteT ⟨none, rfl, (fun n h => by cases h), d4, x03.trans x4⟩
    · rintro σ J ⟨bo, rfl, hbo, dj, xj⟩
      refine ⟨by show 0 ≤ sizeLine; decide, fun D hDn => ?_⟩
      have nDb := dj.new hDn
      have e0 := Ext.upd (o := .lst []) hDn
      have hD0 : upd J D (.lst []) D = some (.lst []) := upd_same
      generalize upd J D (.lst []) = J0 at e0 hD0 ⊢
      have dj0 := dj.ext e0
      refine ⟨fun σ M => ∃ (ys : List V) (bs : List K15.Bx), σ = [some (.ref a), some (.ref b), some (.int (1 + n)), some (.int (1 + n + g)), some (K15.bV bo), some (.ref D)] ∧ Drw K a b ns M ∧ ExtB b J M ∧ M D = some (.lst ys) ∧ DpAll K (hb b M) ys (bs.map K15.bxD) ∧ bs.length ≤ 1 ∧ ∀ q ∈ bs, K15.bxOk q (1 + n) (1 + n + g), ?_, ?_⟩
      · refine ⟨_, rfl, _, rfl, a, b, ns, 3, rfl, dj0.1, dj0.2.1, dj0.2.2, by omega, by omega, fun c J1 c0 c8 s4 x4 => ⟨rfl, _, rfl, ?_⟩⟩
        have dj1 := dj0.x s4 x4
        have hD1 := x4 _ _ nDb hD0
        have x1' := (K18.Ext.b e0).trans x4
        cases decide (V.int c = V.int 0)
        · exact iteF ⟨[], [], rfl, dj1, x1', hD1, .nil, Nat.zero_le _, fun q hq => by cases hq⟩
        · refine iteT ⟨_, rfl, .inl ⟨rfl, _, SqL.of hD1⟩, _, rfl, _, rfl, _, rfl, _, rfl, a, b, ns, 1 + n, 1 + n + g, rfl, dj1, by omega, by omega, by omega, fun q x J2 dj2 x5 nqb hq hx => ?_⟩
          have hD2 := x5 _ _ nDb hD1
          have nqD : q ≠ D := fun z => by rw [z, hD2] at hq; cases hq
          refine ⟨D, [], _, rfl, rfl, hD2, by decide, _, [x], rfl, dj2.own dj hDn, (x1'.trans x5).mut hDn, upd_same, .cons ?_ .nil, Nat.le_refl _, fun q hq => ?_⟩
          · exact .tup (SqT.of (hb_at nqb (by rw [upd_ne nqD]; exact hq))) (.cons (.int _) (.cons (.int _) (.cons (.int _) (.cons (.int _) .nil))))
          · rw [List.mem_singleton.mp hq]
            exact hx
      · rintro σ M ⟨ys, bs, rfl, dm, xm, hDy, hya, hb1, hbs⟩
        refine ⟨_, rfl, _, rfl, _, rfl, _, rfl, by show 4 ≤ sizeLine; decide, fun q hq => ?_⟩
        have eq := Ext.upd (o := .tup [K15.bV bo, .int (1 + n), .int (1 + n + g), .ref D]) hq
        exact k q (bo, 1 + n, 1 + n + g, bs) D ys _ (dm.ext eq) ((xj.trans xm).trans (K18.Ext.b eq)) (xj.none nDb hDn) nDb upd_same (eq _ _ hDy) (dps_ext (hb_ext.trans eq) _ _ hya) ⟨hbo, ⟨by show 1 ≤ 1 + n; omega, by show 1 + n ≤ 1 + n + g; omega, by show 1 + n + g ≤ 50; omega⟩, by show bs.length ≤ 3; omega, hbs⟩ (by show 1 + n + g ≤ 10; omega)
end
end K02

set_option Elab.async false
set_option maxRecDepth 100000
set_option maxHeartbeats 4000000
namespace K02
open PySem PySem.Spec PyProof.Rows L2
open K18 (StB ExtB spDrawB)
/-! ### a dict that is being filled -/
theorem sqL_mutK {K : PySem.W.Frag} {H H' : Hp} {p a : Addr} {kvs : List (Key × V)} {xs : List V} (hp : H p = some (.dK kvs)) (e : ∀ x o, x ≠ p → H x = some o → H' x = some o) (h : SqL K H a xs) : SqL K H' a xs := by
  rcases h with (h | ⟨o, h⟩) | h
  · exact .inl (.inl (e a _ (fun z => by rw [z, hp] at h; cases h) h))
  · exact .inl (.inr ⟨o, e a _ (fun z => by rw [z, hp] at h; cases h) h⟩)
  · exact .inr h
theorem sqT_mutK {K : PySem.W.Frag} {H H' : Hp} {p a : Addr} {kvs : List (Key × V)} {xs : List V} (hp : H p = some (.dK kvs)) (e : ∀ x o, x ≠ p → H x = some o → H' x = some o) (h : SqT K H a xs) : SqT K H' a xs := by
  rcases h with (h | ⟨o, h⟩) | h
  · exact .inl (.inl (e a _ (fun z => by rw [z, hp] at h; cases h) h))
  · exact .inl (.inr ⟨o, e a _ (fun z => by rw [z, hp] at h; cases h) h⟩)
  · exact .inr h
mutual
theorem dp_mutK {K : PySem.W.Frag} {H H' : Hp} {p : Addr} {kvs : List (Key × V)} (hp : H p = some (.dK kvs)) (e : ∀ x o, x ≠ p → H x = some o → H' x = some o) : ∀ {v : V} {d : PyData}, Dp K H v d → Dp K H' v d
  | _, _, .non => .non
  | _, _, .bl b => .bl b
  | _, _, .int i => .int i
  | _, _, .str x => .str x
  | _, _, .lst h1 h2 => .lst (sqL_mutK hp e h1) (dps_mutK hp e h2)
  | _, _, .tup h1 h2 => .tup (sqT_mutK hp e h1) (dps_mutK hp e h2)
theorem dps_mutK {K : PySem.W.Frag} {H H' : Hp} {p : Addr} {kvs : List (Key × V)} (hp : H p = some (.dK kvs)) (e : ∀ x o, x ≠ p → H x = some o → H' x = some o) : ∀ {vs : List V} {ds : List PyData}, DpAll K H vs ds → DpAll K H' vs ds
  | _, _, .nil => .nil
  | _, _, .cons h t => .cons (dp_mutK hp e h) (dps_mutK hp e t)
end
/-- a dict of the law's, and what its values are -/
structure Dk (K : PySem.W.Frag) (b p : Addr) (H : Hp) (kvs : List (Key × V)) (vs : List (V × PyData)) : Prop where
  nb : p ≠ b
  at_ : H p = some (.dK kvs)
  dp : ∀ x ∈ vs, Dp K (hb b H) x.1 x.2
section
variable {P : Program} {w : World} {K : PySem.W.Frag} {mg : Str → Option Value} {base : Heap} {A : Ad}
variable {b p : Addr} {H H' : Hp} {kvs kvs' : List (Key × V)} {vs : List (V × PyData)}
theorem Dk.x (h : Dk K b p H kvs vs) (x : ExtB b H H') : Dk K b p H' kvs vs := ⟨h.nb, x _ _ h.nb h.at_, fun y hy => dp_ext (hb_b x) _ _ (h.dp y hy)⟩
theorem Dk.put (h : Dk K b p H kvs vs) : Dk K b p (upd H p (.dK kvs')) kvs' vs := ⟨h.nb, upd_same, fun y hy => dp_mutK (hb_at h.nb h.at_) (fun x o hx ho => by
  unfold hb at ho ⊢
  split at ho
  · cases ho
  · rename_i hn
    rw [if_neg hn, upd_ne hx]
    exact ho) (h.dp y hy)⟩
theorem Dk.add {v : V} {d : PyData} (h : Dk K b p H kvs vs) (hd : Dp K (hb b H) v d) : Dk K b p H kvs (vs ++ [(v, d)]) := ⟨h.nb, h.at_, fun y hy => by
  rcases List.mem_append.mp hy with hy | hy
  · exact h.dp y hy
  · rw [List.mem_singleton.mp hy]; exact hd⟩
theorem hb_put {o2 : HO} {x : Addr} {o : HO} (hx : x ≠ p) (ho : hb b H x = some o) : hb b (upd H p o2) x = some o := by
  unfold hb at ho ⊢
  split at ho
  · cases ho
  · rename_i hn
    rw [if_neg hn, upd_ne hx]
    exact ho
theorem dput {a : Addr} {k : Key} {v : V} (e : H a = some (.dK kvs)) (hl : kvs.length ≤ 20) (he : putK kvs k v = kvs') : DPut H a (kV k) v (upd H a (.dK kvs')) := he ▸ DPut.k e (Nat.lt_of_le_of_lt hl (by decide))
def rawK (vr vw vd vb : V) (x : LnD) : List (Key × V) := [(Sum.inr "rows", vr), (Sum.inr "ways", vw), (Sum.inr "widths", vd), (Sum.inr "turn", .int x.turn), (Sum.inr "numbers", .int x.numbers), (Sum.inr "size", .int x.size), (Sum.inr "bounds", vb), (Sum.inr "head", .int x.head), (Sum.inr "places", .int x.places), (Sum.inr "cost", .int x.cost), (Sum.inr "period", .int x.period), (Sum.inr "quiet", .int x.quiet), (Sum.inr "silent", .int x.silent), (Sum.inr "losses", .int x.losses)]
def rawV (vr vw vd vb : V) (x : LnD) : List (V × PyData) := [(vr, .list (x.rows.map .list)), (vw, .list (x.ways.map wayDat)), (vd, .list (x.widths.map .int)), (vb, .list (x.bounds.map .int))]
def RawAt (K : PySem.W.Frag) (b : Addr) (H : Hp) (p : Addr) (x : LnD) : Prop := ∃ vr vw vd vb, Dk K b p H (rawK vr vw vd vb x) (rawV vr vw vd vb x)
theorem RawAt.x {x : LnD} (h : RawAt K b H p x) (e : ExtB b H H') : RawAt K b H' p x := by
  obtain ⟨vr, vw, vd, vb, h⟩ := h
  exact ⟨vr, vw, vd, vb, h.x e⟩
structure GoodR (x : LnD) : Prop where
  rows : GoodM x.rows
  wy : ∀ d ∈ x.ways, GoodWy d
  gl : GoodL x
  size : 1 ≤ x.size ∧ x.size ≤ 60
  bounds : K08.OkB x.bounds
theorem dps_int {G : Hp} {ns : List Int} : DpAll K G (ns.map V.int) (ns.map PyData.int) := K08.dps_ints
/-! the ways of a line, as tuples -/
structure WaysR (K : PySem.W.Frag) (b D : Addr) (H : Hp) (xs : List V) (ds : List Wy) : Prop where
  len : xs.length = ds.length
  at_ : ∀ (i : Nat) (d : Wy), ds[i]? = some d → ∃ q Dl ys, xs[i]? = some (.ref q) ∧ SqT K H q [K15.bV d.1, .int d.2.1, .int d.2.2.1, .ref Dl] ∧ Dl ≠ b ∧ Dl ≠ D ∧ H Dl = some (.lst ys) ∧ DpAll K H ys (d.2.2.2.map K15.bxD)
theorem box_keep (tk : ∀ a xs, SqT K H a xs → SqT K H' a xs) {ys : List V} {bs : List K15.Bx} (h : DpAll K H ys (bs.map K15.bxD)) : DpAll K H' ys (bs.map K15.bxD) := dps_of (by rw [dps_len h]) fun i d hd => by
  rw [List.getElem?_map] at hd
  obtain ⟨q, hq, rfl⟩ := Option.map_eq_some_iff.mp hd
  have hi := (List.getElem?_eq_some_iff.mp hq).1
  have hl : ys.length = bs.length := by rw [dps_len h, List.length_map]
  obtain ⟨d', hd', hdv⟩ := dps_get h (List.getElem?_eq_getElem (show i < ys.length by omega))
  rw [List.getElem?_map, hq] at hd'
  cases hd'
  refine ⟨_, List.getElem?_eq_getElem (show i < ys.length by omega), ?_⟩
  generalize ys[i] = v at hdv
  cases hdv with
  | tup h1 h2 =>
    refine .tup (tk _ _ h1) ?_
    cases h2 with
    | cons g t =>
      cases g
      cases t with
      | cons g t =>
        cases g
        cases t with
        | cons g t =>
          cases g
          cases t with
          | cons g t =>
            cases g
            cases t
            exact .cons (.int _) (.cons (.int _) (.cons (.int _) (.cons (.int _) .nil)))
theorem WaysR.step {D : Addr} {xs : List V} {ds : List Wy} (h : WaysR K b D H xs ds) (kp : ∀ x o, x ≠ D → x ≠ b → H x = some o → H' x = some o) (tk : ∀ a us, SqT K H a us → SqT K H' a us) : WaysR K b D H' xs ds :=
  ⟨h.len, fun i d hd => by
    obtain ⟨q, Dl, ys, h1, h2, h3, h4, h5, h6⟩ := h.at_ i d hd
    exact ⟨q, Dl, ys, h1, tk _ _ h2, h3, h4, kp _ _ h4 h3 h5, box_keep tk h6⟩⟩
theorem WaysR.dp {D : Addr} {xs : List V} {ds : List Wy} (h : WaysR K b D H xs ds) (hst : StB H b) : DpAll K (hb b H) xs (ds.map wayDat) := dps_of (by rw [List.length_map, h.len]) fun i z hz => by
  rw [List.getElem?_map] at hz
  obtain ⟨d, hd, rfl⟩ := Option.map_eq_some_iff.mp hz
  obtain ⟨q, Dl, ys, h1, h2, h3, h4, h5, h6⟩ := h.at_ i d hd
  obtain ⟨_, _, _, _, hs⟩ := hst
  have tk : ∀ a us, SqT K H a us → SqT K (hb b H) a us := fun a us z => sqT_mutL hs (fun x o hx ho => hb_at hx ho) z
  exact ⟨.ref q, h1, .tup (tk _ _ h2) (.cons (K15.bV_dp _) (.cons (.int _) (.cons (.int _) (.cons (.lst (SqL.of (hb_at h3 h5)) (box_keep tk h6)) .nil))))⟩
theorem WaysR.snoc {D : Addr} {xs : List V} {ds : List Wy} {q Dl : Addr} {d : Wy} {ys : List V} (h : WaysR K b D H xs ds) (hq : SqT K H q [K15.bV d.1, .int d.2.1, .int d.2.2.1, .ref Dl]) (n1 : Dl ≠ b) (n2 : Dl ≠ D) (hy : H Dl = some (.lst ys)) (hb : DpAll K H ys (d.2.2.2.map K15.bxD)) : WaysR K b D H (xs ++ [.ref q]) (ds ++ [d]) :=
  ⟨by rw [List.length_append, List.length_append, h.len]; rfl, fun i z hz => by
    by_cases hi : i < ds.length
    · rw [List.getElem?_append_left hi] at hz
      rw [List.getElem?_append_left (by rw [h.len]; exact hi)]
      exact h.at_ i z hz
    · rw [List.getElem?_append_right (by omega)] at hz
      rw [List.getElem?_append_right (by rw [h.len]; omega), h.len]
      cases hj : i - ds.length with
      | succ j => rw [hj] at hz; cases hz
      | zero =>
        rw [hj] at hz
        cases hz
        exact ⟨q, Dl, ys, rfl, hq, n1, n2, hy, hb⟩⟩
theorem way_open {G : Hp} {v : V} {d : Wy} (h : Dp K G v (wayDat d)) : ∃ q vb, v = .ref q ∧ SqT K G q [K15.bV d.1, .int d.2.1, .int d.2.2.1, vb] ∧ Dp K G vb (.list (d.2.2.2.map K15.bxD)) := by
  cases h with
  | tup h1 h2 =>
    cases h2 with
    | cons g1 t =>
      obtain rfl := K15.bV_of g1
      cases t with
      | cons g2 t =>
        cases g2
        cases t with
        | cons g3 t =>
          cases g3
          cases t with
          | cons g4 t =>
            cases t
            exact ⟨_, _, rfl, h1, g4⟩
theorem un1 {n c : Nat} (h : n + 64 < c) : n + 1 < c := by omega
def spRawL (K : PySem.W.Frag) : Sp := fun vs H Q _ => ∃ (a b : Addr) (ns : List Int), vs = [.ref a, .ref b] ∧ Drw K a b ns H ∧ ∀ p x H', Drw K a b ns H' → ExtB b H H' → RawAt K b H' p x → GoodR x → x.ways.length ≤ 4 → Q (.ref p) H'
theorem ok_rawL {f : Addr} {fd : FuncData} (F : Fun K "_law_raw" "_law_raw" s__law_raw f fd) (T : Txt K mg A) (O__law_draw : Own P w K mg base CX0 "_law_draw" 1 pm__law_draw (spDrawB K)) (O__law_mail : Own P w K mg base CX0 "_law_mail" 2 pm__law_mail (spMailL K)) (O__law_way : Own P w K mg base CX0 "_law_way" 3 pm__law_way (spWayL K)) (O__law_rising : Own P w K mg base CX0 "_law_rising" 2 pm__law_rising (spRising K)) : FnOk P w K mg base CX0 5 f fd pm__law_raw (spRawL K) := by
  refine F.ok sc__law_raw (fun vs H Q E h => ?_) (fun cdv A' outer sh H vs Q E hr h => ?_)
  · obtain ⟨_, _, _, rfl, _⟩ := h
    rfl
  · obtain ⟨a, b, ns, rfl, hD, k⟩ := h
    refine ⟨_, pss_cons (ps_set (i := 2) sc__law_raw.nd rfl (Or.inl rfl) (pe_disp (pps_cons (pe_str) (pe_own O__law_mail (hr.mono (by decide)) pass0 (pa_cons (pv 0) (pa_cons (pv 1) pa_nil))) pps_nil) rfl rfl (by decide) (by decide)))
      (pss_cons (ps_dput (un1 hr.units) (pv 2) (pe_str) (pe_lc (own := [("_law_k", 7)]) (g := gName 7) (by rfl) sc__law_raw.nd (pi_range1 rfl T.n_range (pa_cons (pe_op op_add (pe_int) (pe_own O__law_draw (hr.mono (by decide)) pass0 (pa_cons (pv 0) (pa_cons (pv 1) (pa_cons (pe_int) pa_nil))))) pa_nil)) (blkOk_by (own := [("_law_k", 7)]) (N := nm__law_raw) (sc := defScope s__law_raw) (by decide +kernel)) (fun _ _ _ _ _ => pg_name (i := 7) sc__law_raw.nd rfl (Or.inl rfl)) (fun s1 H1 C1 cl fp => pts_nil) (fun s1 H1 C1 cl fp => pe_own O__law_way (hr.mono (by decide)) pass0 (pa_cons (pv 0) (pa_cons (pv 1) pa_nil)))) rfl)
      (pss_cons (ps_dput (un1 hr.units) (pv 2) (pe_str) (pe_own O__law_rising (hr.mono (by decide)) pass0 (pa_cons (pv 0) (pa_cons (pv 1) (pa_cons (pe_int) (pa_cons (pe_int) pa_nil))))) rfl)
      (pss_cons (ps_dput (un1 hr.units) (pv 2) (pe_str) (pe_op op_add (pe_int) (pe_own O__law_draw (hr.mono (by decide)) pass0 (pa_cons (pv 0) (pa_cons (pv 1) (pa_cons (pe_int) pa_nil))))) rfl)
      (pss_cons (ps_for PassesOwn.never rfl (pi_list (pe_dget (un1 hr.units) (pv 2) (pe_str) (fun _ _ => rfl))) (pg_tup rfl (pgs_cons (pg_name (i := 3) sc__law_raw.nd rfl (Or.inl rfl)) (pgs_cons (pg_name (i := 4) sc__law_raw.nd rfl (Or.inl rfl)) (pgs_cons (pg_name (i := 5) sc__law_raw.nd rfl (Or.inl rfl)) (pgs_cons (pg_name (i := 6) sc__law_raw.nd rfl (Or.inl rfl)) (pgs_nil)))))) (pss_one (ps_if (PW.pt (pw_and (pt_cmpR (op_neD hr.units) (pv 6) (pe_lst (pa_nil)) (nomark _)) (pw_and1 (pt_cmpR op_notN (pv 3) (pe_non) (nomark _))))) (pss_one (ps_dput (un1 hr.units) (pv 2) (pe_str) (pe_callB (call_max2 rfl) (by rfl) T.n_max (by decide +kernel) (pa_cons (pe_callTy call_int1 (by rfl) T.n_int (by decide +kernel) (pa_cons (pe_dget (un1 hr.units) (pv 2) (pe_str) (fun _ _ => rfl)) pa_nil)) (pa_cons (pe_op op_mul (pe_int) (pe_callTy call_int1 (by rfl) T.n_int (by decide +kernel) (pa_cons (pv 5) pa_nil))) pa_nil))) rfl)) (pss_nil))))
      (pss_cons (ps_dput (un1 hr.units) (pv 2) (pe_str) (pe_op op_add (pe_int) (pe_own O__law_draw (hr.mono (by decide)) pass0 (pa_cons (pv 0) (pa_cons (pv 1) (pa_cons (pe_int) pa_nil))))) rfl)
      (pss_cons (ps_dput (un1 hr.units) (pv 2) (pe_str) (pe_op op_add (pe_int) (pe_own O__law_draw (hr.mono (by decide)) pass0 (pa_cons (pv 0) (pa_cons (pv 1) (pa_cons (pe_int) pa_nil))))) rfl)
      (pss_cons (ps_dput (un1 hr.units) (pv 2) (pe_str) (pe_own O__law_rising (hr.mono (by decide)) pass0 (pa_cons (pv 0) (pa_cons (pv 1) (pa_cons (pe_int) (pa_cons (pe_int) pa_nil))))) rfl)
      (pss_cons (ps_dput (un1 hr.units) (pv 2) (pe_str) (pe_op op_add (pe_int) (pe_own O__law_draw (hr.mono (by decide)) pass0 (pa_cons (pv 0) (pa_cons (pv 1) (pa_cons (pe_int) pa_nil))))) rfl)
      (pss_cons (ps_dput (un1 hr.units) (pv 2) (pe_str) (pe_own O__law_draw (hr.mono (by decide)) pass0 (pa_cons (pv 0) (pa_cons (pv 1) (pa_cons (pe_int) pa_nil)))) rfl)
      (pss_cons (ps_dput (un1 hr.units) (pv 2) (pe_str) (pe_op op_add (pe_int) (pe_own O__law_draw (hr.mono (by decide)) pass0 (pa_cons (pv 0) (pa_cons (pv 1) (pa_cons (pe_int) pa_nil))))) rfl)
      (pss_cons (ps_dput (un1 hr.units) (pv 2) (pe_str) (pe_op op_add (pe_int) (pe_own O__law_draw (hr.mono (by decide)) pass0 (pa_cons (pv 0) (pa_cons (pv 1) (pa_cons (pe_int) pa_nil))))) rfl)
      (pss_cons (ps_dput (un1 hr.units) (pv 2) (pe_str) (pe_op op_add (pe_int) (pe_own O__law_draw (hr.mono (by decide)) pass0 (pa_cons (pv 0) (pa_cons (pv 1) (pa_cons (pe_int) pa_nil))))) rfl)
      (pss_cons (ps_dput (un1 hr.units) (pv 2) (pe_str) (pe_callTy call_int1 (by rfl) T.n_int (by decide +kernel) (pa_cons (pe_cmpR op_eq (pe_own O__law_draw (hr.mono (by decide)) pass0 (pa_cons (pv 0) (pa_cons (pv 1) (pa_cons (pe_int) pa_nil)))) (pe_int) (nomark _)) pa_nil)) rfl)
      (pss_cons (ps_dput (un1 hr.units) (pv 2) (pe_str) (pe_op op_add (pe_int) (pe_own O__law_draw (hr.mono (by decide)) pass0 (pa_cons (pv 0) (pa_cons (pv 1) (pa_cons (pe_int) pa_nil))))) rfl)
      (pss_one (ps_ret (pv 2))))))))))))))))), ?_⟩
    refine fun p hpn => ?_
    have npb := hD.new hpn
    have e0 := Ext.upd (o := .dK []) hpn
    have hp0 : upd H p (.dK []) p = some (.dK []) := upd_same
    generalize upd H p (.dK []) = H0 at e0 hp0 ⊢
    have d0 := hD.ext e0
    refine ⟨_, rfl, _, rfl, a, b, ns, rfl, d0, fun l L H1 d1 x1 nlb hdl hgm => ⟨x1 _ _ npb hp0, [(Sum.inr "rows", V.ref l)], rfl, by simp, ?_⟩⟩
    have k00 : Dk K b p H1 [] [(V.ref l, .list (L.map .list))] := ⟨npb, x1 _ _ npb hp0, fun y hy => by rw [List.mem_singleton.mp hy]; exact hdl⟩
    have k1 : Dk K b p (upd H1 p (.dK (mergeK [] [(Sum.inr "rows", V.ref l)]))) [(Sum.inr "rows", V.ref l)] _ := k00.put (kvs' := [(Sum.inr "rows", V.ref l)])
    have dd1 : Drw K a b ns (upd H1 p (.dK (mergeK [] [(Sum.inr "rows", V.ref l)]))) := d1.own hD hpn
    have xx1 : ExtB b H (upd H1 p (.dK (mergeK [] [(Sum.inr "rows", V.ref l)]))) := ((K18.Ext.b e0).trans x1).mut hpn
    generalize upd H1 p (.dK (mergeK [] [(Sum.inr "rows", V.ref l)])) = J1 at k1 dd1 xx1 ⊢
    refine ⟨_, rfl, _, rfl, a, b, ns, 2, rfl, dd1.1, dd1.2.1, dd1.2.2, by omega, by omega, fun n H2 n0 n2 s2 x2 => ⟨_, _, rfl, rfl, ?_⟩⟩
    have d2 := dd1.x s2 x2
    refine ⟨_, rfl, by omega, by omega, fun D hDn => ?_⟩
    have nDb := d2.new hDn
    have npD : D ≠ p := fun z => by rw [z, (k1.x x2).at_] at hDn; cases hDn
    refine lc_range (lo := 0) (n := ((1 + n : Int)).toNat) (fun i J => ∃ xs ds, Drw K a b ns J ∧ ExtB b H2 J ∧ J D = some (.lst xs) ∧ ds.length = i ∧ WaysR K b D J xs ds ∧ ∀ d ∈ ds, GoodWy d ∧ d.2.2.1 ≤ 10)
      ⟨[], [], d2.ext (Ext.upd hDn), K18.Ext.b (Ext.upd hDn), upd_same, rfl, ⟨rfl, fun i d h => (by cases h)⟩, fun d hd => (by cases hd)⟩ (fun i J hi pv => ?_) (fun J pv => ?_)
    · obtain ⟨xs, ds, dj, xj, hDx, hdi, hR, hg⟩ := pv
      refine ⟨rfl, _, rfl, _, rfl, a, b, ns, rfl, dj, fun q d Dl ys J2 dj2 y2 hDl nDl hq hDly hyy g g10 => ?_⟩
      have nDlD : Dl ≠ D := fun z => by rw [z, hDx] at hDl; cases hDl
      have hDx2 := y2 _ _ nDb hDx
      have nqb : q ≠ b := fun z => by
        obtain ⟨_, _, _, _, e⟩ := dj2.2.2
        rw [z, e] at hq
        cases hq
      have nqD : q ≠ D := fun z => by rw [z, hDx2] at hq; cases hq
      have hR2 : WaysR K b D (upd J2 D (.lst (xs ++ [.ref q]))) xs ds := (hR.step (fun x o _ hx ho => y2 x o hx ho) (fun _ _ => tk_b dj.2.2 y2)).step (fun x o hx _ ho => by rw [upd_ne hx]; exact ho) (fun _ _ => tk_l hDx2)
      refine ⟨xs, hDx2, small_sz (by rw [hR.len]; omega), xs ++ [.ref q], ds ++ [d], dj2.own d2 hDn, (xj.trans y2).mut hDn, upd_same, by rw [List.length_append, hdi]; rfl, hR2.snoc (SqT.of (by rw [upd_ne nqD]; exact hq)) nDl nDlD (by rw [upd_ne nDlD]; exact hDly) (box_keep (fun _ _ => tk_l hDx2) hyy), fun d' hd' => ?_⟩
      rcases List.mem_append.mp hd' with h | h
      · exact hg d' h
      · rw [List.mem_singleton.mp h]; exact ⟨g, g10⟩
    obtain ⟨xs, ds, dj, xj, hDx, hdi, hR, hg⟩ := pv
    have hds : 1 ≤ ds.length ∧ ds.length ≤ 2 := by omega
    have k2 := ((k1.x x2).x xj).add (v := .ref D) (d := .list (ds.map wayDat)) (.lst (SqL.of (hb_at nDb hDx)) (hR.dp dj.2.2))
    have xa := (xx1.trans x2).trans xj
    refine ⟨_, rfl, p, _, rfl, dput (k := .inr "ways") (kvs' := [(Sum.inr "rows", V.ref l), (Sum.inr "ways", V.ref D)]) k2.at_ (by simp) rfl, ?_⟩
    have k2' := k2.put (kvs' := [(Sum.inr "rows", V.ref l), (Sum.inr "ways", V.ref D)])
    have d3 : Drw K a b ns (upd J p (.dK [(Sum.inr "rows", V.ref l), (Sum.inr "ways", V.ref D)])) := dj.own hD hpn
    have xb : ExtB b H (upd J p (.dK [(Sum.inr "rows", V.ref l), (Sum.inr "ways", V.ref D)])) := xa.mut hpn
    have hDx3 : upd J p (.dK [(Sum.inr "rows", V.ref l), (Sum.inr "ways", V.ref D)]) D = some (.lst xs) := (upd_ne npD).trans hDx
    have hy3 : DpAll K (hb b (upd J p (.dK [(Sum.inr "rows", V.ref l), (Sum.inr "ways", V.ref D)]))) xs (ds.map wayDat) := dps_mutK (hb_at npb k2.at_) (fun x o hx ho => hb_put hx ho) (hR.dp dj.2.2)
    generalize upd J p (.dK [(Sum.inr "rows", V.ref l), (Sum.inr "ways", V.ref D)]) = J3 at k2' d3 xb hDx3 hy3 ⊢
    refine ⟨_, rfl, _, rfl, a, b, ns, 3, 6, rfl, d3, by omega, by omega, by omega, by omega, fun lw us J4 d4 x4 nlw hlwn hlw ris => ?_⟩
    have k3 := (k2'.x x4).add (v := .ref lw) (d := .list (us.map .int)) (.lst (SqL.of (hb_at nlw hlw)) dps_int)
    have hDx4 := x4 _ _ nDb hDx3
    have xc := xb.trans x4
    refine ⟨_, rfl, p, _, rfl, dput (k := .inr "widths") (kvs' := [(Sum.inr "rows", V.ref l), (Sum.inr "ways", V.ref D), (Sum.inr "widths", V.ref lw)]) k3.at_ (by simp) rfl, ?_⟩
    have k3' := k3.put (kvs' := [(Sum.inr "rows", V.ref l), (Sum.inr "ways", V.ref D), (Sum.inr "widths", V.ref lw)])
    have d5 : Drw K a b ns (upd J4 p (.dK [(Sum.inr "rows", V.ref l), (Sum.inr "ways", V.ref D), (Sum.inr "widths", V.ref lw)])) := d4.own hD hpn
    have xd : ExtB b H (upd J4 p (.dK [(Sum.inr "rows", V.ref l), (Sum.inr "ways", V.ref D), (Sum.inr "widths", V.ref lw)])) := xc.mut hpn
    have hDx5 : upd J4 p (.dK [(Sum.inr "rows", V.ref l), (Sum.inr "ways", V.ref D), (Sum.inr "widths", V.ref lw)]) D = some (.lst xs) := (upd_ne npD).trans hDx4
    have hy5 : DpAll K (hb b (upd J4 p (.dK [(Sum.inr "rows", V.ref l), (Sum.inr "ways", V.ref D), (Sum.inr "widths", V.ref lw)]))) xs (ds.map wayDat) := dps_mutK (hb_at npb k3.at_) (fun x o hx ho => hb_put hx ho) (dps_ext (hb_b x4) _ _ hy3)
    generalize upd J4 p (.dK [(Sum.inr "rows", V.ref l), (Sum.inr "ways", V.ref D), (Sum.inr "widths", V.ref lw)]) = J5 at k3' d5 xd hDx5 hy5 ⊢
    refine ⟨_, rfl, _, rfl, a, b, ns, 14, rfl, d5.1, d5.2.1, d5.2.2, by omega, by omega, fun n6 J6 n60 n66 s6 x6 => ⟨_, _, rfl, rfl, ?_⟩⟩
    have d6 := d5.x s6 x6
    have k4 := k3'.x x6
    have hDx6 := x6 _ _ nDb hDx5
    have xe := xd.trans x6
    refine ⟨_, rfl, p, _, rfl, dput (k := .inr "turn") (kvs' := [(Sum.inr "rows", V.ref l), (Sum.inr "ways", V.ref D), (Sum.inr "widths", V.ref lw), (Sum.inr "turn", V.int (1 + n6))]) k4.at_ (by simp) rfl, ?_⟩
    have k4' := k4.put (kvs' := [(Sum.inr "rows", V.ref l), (Sum.inr "ways", V.ref D), (Sum.inr "widths", V.ref lw), (Sum.inr "turn", V.int (1 + n6))])
    have d7 : Drw K a b ns (upd J6 p (.dK [(Sum.inr "rows", V.ref l), (Sum.inr "ways", V.ref D), (Sum.inr "widths", V.ref lw), (Sum.inr "turn", V.int (1 + n6))])) := d6.own hD hpn
    have xf : ExtB b H (upd J6 p (.dK [(Sum.inr "rows", V.ref l), (Sum.inr "ways", V.ref D), (Sum.inr "widths", V.ref lw), (Sum.inr "turn", V.int (1 + n6))])) := xe.mut hpn
    have hDx7 : upd J6 p (.dK [(Sum.inr "rows", V.ref l), (Sum.inr "ways", V.ref D), (Sum.inr "widths", V.ref lw), (Sum.inr "turn", V.int (1 + n6))]) D = some (.lst xs) := (upd_ne npD).trans hDx6
    have hya7 : DpAll K (hb b (upd J6 p (.dK [(Sum.inr "rows", V.ref l), (Sum.inr "ways", V.ref D), (Sum.inr "widths", V.ref lw), (Sum.inr "turn", V.int (1 + n6))]))) xs (ds.map wayDat) := dps_mutK (hb_at npb k4.at_) (fun x o hx ho => hb_put hx ho) (dps_ext (hb_b x6) _ _ hy5)
    generalize upd J6 p (.dK [(Sum.inr "rows", V.ref l), (Sum.inr "ways", V.ref D), (Sum.inr "widths", V.ref lw), (Sum.inr "turn", V.int (1 + n6))]) = J7 at k4' d7 xf hDx7 hya7 ⊢
    refine ⟨_, rfl, p, .ref D, rfl, DGet.k (k := .inr "ways") k4'.at_, D, rfl, ⟨xs, SqL.of hDx7⟩, ?_⟩
    refine for_list (xs := xs) (fun i σ' J => ∃ o3 o4 o5 o6 o7 t, σ' = [some (.ref a), some (.ref b), some (.ref p), o3, o4, o5, o6, o7] ∧ Drw K a b ns J ∧ ExtB b H J ∧ J D = some (.lst xs) ∧ DpAll K (hb b J) xs (ds.map wayDat) ∧ Dk K b p J [(Sum.inr "rows", V.ref l), (Sum.inr "ways", V.ref D), (Sum.inr "widths", V.ref lw), (Sum.inr "turn", V.int t)] ([(V.ref l, PyData.list (L.map PyData.list))] ++ [(V.ref D, PyData.list (ds.map wayDat))] ++ [(V.ref lw, PyData.list (us.map PyData.int))]) ∧ 1 ≤ t ∧ t ≤ 20 ∧ Fits (ds.take i) t)
      ⟨_, _, _, _, _, _, rfl, d7, xf, hDx7, hya7, k4', by omega, by omega, fun d hd => (by cases hd)⟩ (fun i σ' J _ pv => by obtain ⟨_, _, _, _, _, _, _, _, _, h, _⟩ := pv; exact SqL.of h) (fun i v σ' J hi pv => ?_) (fun σ' J pv => ?_)
    · obtain ⟨o3, o4, o5, o6, o7, t, rfl, dj, xj, hDx, hya, kk, t1, t20, hf⟩ := pv
      obtain ⟨dd, hdd, hdv⟩ := dps_get hya hi
      rw [List.getElem?_map] at hdd
      obtain ⟨d, hdi2, rfl⟩ := Option.map_eq_some_iff.mp hdd
      obtain ⟨q, vb, rfl, hq, hbx⟩ := way_open hdv
      have hgd := hg d (List.mem_of_getElem? hdi2)
      refine ⟨q, _, rfl, hq.ext hb_ext, rfl, _, _, rfl, _, _, rfl, _, _, rfl, _, _, rfl, rfl, ?_⟩
      have hfs : ds.take (i + 1) = ds.take i ++ [d] := by
        rw [List.take_succ, hdi2]
        rfl
      refine ⟨_, rfl, by show 0 ≤ sizeLine; decide, fun z hz => ?_⟩
      have ez := Ext.upd (o := .lst []) hz
      have hz1 : upd J z (.lst []) z = some (.lst []) := upd_same
      generalize upd J z (.lst []) = M at ez hz1 ⊢
      have dm := dj.ext ez
      have xm := xj.trans (K18.Ext.b ez)
      have hDm := ez _ _ hDx
      have hym := dps_ext (hb_b (b := b) (K18.Ext.b ez)) _ _ hya
      have km := kk.x (K18.Ext.b ez)
      refine ⟨_, _, dp_ext (hb_ext.trans ez) _ _ hbx, .lst (SqL.of hz1) .nil, K15.shp_bxl _, rfl, _, rfl, ?_⟩
      rw [K15.eqv_nilB]
      by_cases hbn : d.2.2.2 = []
      · rw [decide_eq_true hbn]
        refine iteF ⟨_, _, _, _, _, t, rfl, dm, xm, hDm, hym, km, t1, t20, fun e he h1 h2 => ?_⟩
        rw [hfs] at he
        rcases List.mem_append.mp he with h | h
        · exact hf e h h1 h2
        · rw [List.mem_singleton.mp h] at h2
          exact absurd hbn h2
      rw [decide_eq_false hbn]
      refine iteT ⟨_, rfl, rfl, _, rfl, ?_⟩
      cases hbo : d.1 with
      | none =>
        refine iteF ⟨_, _, _, _, _, t, rfl, dm, xm, hDm, hym, km, t1, t20, fun e he h1 h2 => ?_⟩
        rw [hfs] at he
        rcases List.mem_append.mp he with h | h
        · exact hf e h h1 h2
        · rw [List.mem_singleton.mp h] at h1
          exact absurd hbo h1
      | some bg =>
        refine iteT ⟨_, rfl, p, .int t, rfl, DGet.k (k := .inr "turn") km.at_, .inl ⟨t, rfl, _, rfl, .inl ⟨_, rfl, _, _, rfl, rfl, .inl ⟨by decide, by decide⟩, _, _, rfl, ?_⟩⟩⟩
        have hg10 : d.2.2.1 ≤ 10 := hgd.2
        have ht2 : ∃ t2, (if 2 * d.2.2.1 > t then 2 * d.2.2.1 else t) = t2 ∧ t ≤ t2 ∧ 2 * d.2.2.1 ≤ t2 ∧ t2 ≤ 20 := by
          refine ⟨_, rfl, ?_⟩
          split <;> omega
        obtain ⟨t2, et2, l1, l2, l3⟩ := ht2
        rw [et2]
        refine ⟨_, rfl, p, _, rfl, dput (k := .inr "turn") (kvs' := [(Sum.inr "rows", V.ref l), (Sum.inr "ways", V.ref D), (Sum.inr "widths", V.ref lw), (Sum.inr "turn", V.int t2)]) km.at_ (by simp) rfl, ?_⟩
        refine ⟨_, _, _, _, _, t2, rfl, dm.own hD hpn, xm.mut hpn, (upd_ne npD).trans hDm, dps_mutK (hb_at npb km.at_) (fun x o hx ho => hb_put hx ho) hym, km.put, by omega, l3, fun e he h1 h2 => ?_⟩
        rw [hfs] at he
        rcases List.mem_append.mp he with h | h
        · exact Int.le_trans (hf e h h1 h2) l1
        · rw [List.mem_singleton.mp h]
          exact l2
    obtain ⟨o3, o4, o5, o6, o7, t, rfl, d8, xg, _, _, k5, t1, t20, hf⟩ := pv
    rw [List.take_of_length_le (by rw [hR.len]; exact Nat.le_refl _)] at hf
    refine ⟨_, rfl, _, rfl, a, b, ns, 3, rfl, d8.1, d8.2.1, d8.2.2, by omega, by omega, fun nnumbers B10 nnumbers0 nnumbers1 s10 y10 => ⟨_, _, rfl, rfl, ?_⟩⟩
    have e10 := d8.x s10 y10
    have f10 := k5.x y10
    have z10 := xg.trans y10
    refine ⟨_, rfl, p, _, rfl, dput (k := .inr "numbers") (kvs' := [(Sum.inr "rows", V.ref l), (Sum.inr "ways", V.ref D), (Sum.inr "widths", V.ref lw), (Sum.inr "turn", V.int t), (Sum.inr "numbers", V.int (2 + nnumbers))]) f10.at_ (by simp) rfl, ?_⟩
    have f10' := f10.put (kvs' := [(Sum.inr "rows", V.ref l), (Sum.inr "ways", V.ref D), (Sum.inr "widths", V.ref lw), (Sum.inr "turn", V.int t), (Sum.inr "numbers", V.int (2 + nnumbers))])
    have g10 : Drw K a b ns (upd B10 p (.dK [(Sum.inr "rows", V.ref l), (Sum.inr "ways", V.ref D), (Sum.inr "widths", V.ref lw), (Sum.inr "turn", V.int t), (Sum.inr "numbers", V.int (2 + nnumbers))])) := e10.own hD hpn
    have w10 : ExtB b H (upd B10 p (.dK [(Sum.inr "rows", V.ref l), (Sum.inr "ways", V.ref D), (Sum.inr "widths", V.ref lw), (Sum.inr "turn", V.int t), (Sum.inr "numbers", V.int (2 + nnumbers))])) := z10.mut hpn
    generalize upd B10 p (.dK [(Sum.inr "rows", V.ref l), (Sum.inr "ways", V.ref D), (Sum.inr "widths", V.ref lw), (Sum.inr "turn", V.int t), (Sum.inr "numbers", V.int (2 + nnumbers))]) = C10 at f10' g10 w10  ⊢
    refine ⟨_, rfl, _, rfl, a, b, ns, 12, rfl, g10.1, g10.2.1, g10.2.2, by omega, by omega, fun nsize B11 nsize0 nsize1 s11 y11 => ⟨_, _, rfl, rfl, ?_⟩⟩
    have e11 := g10.x s11 y11
    have f11 := f10'.x y11
    have z11 := w10.trans y11
    refine ⟨_, rfl, p, _, rfl, dput (k := .inr "size") (kvs' := [(Sum.inr "rows", V.ref l), (Sum.inr "ways", V.ref D), (Sum.inr "widths", V.ref lw), (Sum.inr "turn", V.int t), (Sum.inr "numbers", V.int (2 + nnumbers)), (Sum.inr "size", V.int (1 + nsize))]) f11.at_ (by simp) rfl, ?_⟩
    have f11' := f11.put (kvs' := [(Sum.inr "rows", V.ref l), (Sum.inr "ways", V.ref D), (Sum.inr "widths", V.ref lw), (Sum.inr "turn", V.int t), (Sum.inr "numbers", V.int (2 + nnumbers)), (Sum.inr "size", V.int (1 + nsize))])
    have g11 : Drw K a b ns (upd B11 p (.dK [(Sum.inr "rows", V.ref l), (Sum.inr "ways", V.ref D), (Sum.inr "widths", V.ref lw), (Sum.inr "turn", V.int t), (Sum.inr "numbers", V.int (2 + nnumbers)), (Sum.inr "size", V.int (1 + nsize))])) := e11.own hD hpn
    have w11 : ExtB b H (upd B11 p (.dK [(Sum.inr "rows", V.ref l), (Sum.inr "ways", V.ref D), (Sum.inr "widths", V.ref lw), (Sum.inr "turn", V.int t), (Sum.inr "numbers", V.int (2 + nnumbers)), (Sum.inr "size", V.int (1 + nsize))])) := z11.mut hpn
    generalize upd B11 p (.dK [(Sum.inr "rows", V.ref l), (Sum.inr "ways", V.ref D), (Sum.inr "widths", V.ref lw), (Sum.inr "turn", V.int t), (Sum.inr "numbers", V.int (2 + nnumbers)), (Sum.inr "size", V.int (1 + nsize))]) = C11 at f11' g11 w11  ⊢
    refine ⟨_, rfl, _, rfl, a, b, ns, 2, 4, rfl, g11, by omega, by omega, by omega, by omega, fun lb bs B12 e12 y12 nlb2 hlbn hlb risb => ?_⟩
    have f12 := (f11'.x y12).add (v := .ref lb) (d := .list (bs.map .int)) (.lst (SqL.of (hb_at nlb2 hlb)) dps_int)
    have z12 := w11.trans y12
    refine ⟨_, rfl, p, _, rfl, dput (k := .inr "bounds") (kvs' := [(Sum.inr "rows", V.ref l), (Sum.inr "ways", V.ref D), (Sum.inr "widths", V.ref lw), (Sum.inr "turn", V.int t), (Sum.inr "numbers", V.int (2 + nnumbers)), (Sum.inr "size", V.int (1 + nsize)), (Sum.inr "bounds", V.ref lb)]) f12.at_ (by simp) rfl, ?_⟩
    have f12' := f12.put (kvs' := [(Sum.inr "rows", V.ref l), (Sum.inr "ways", V.ref D), (Sum.inr "widths", V.ref lw), (Sum.inr "turn", V.int t), (Sum.inr "numbers", V.int (2 + nnumbers)), (Sum.inr "size", V.int (1 + nsize)), (Sum.inr "bounds", V.ref lb)])
    have g12 : Drw K a b ns (upd B12 p (.dK [(Sum.inr "rows", V.ref l), (Sum.inr "ways", V.ref D), (Sum.inr "widths", V.ref lw), (Sum.inr "turn", V.int t), (Sum.inr "numbers", V.int (2 + nnumbers)), (Sum.inr "size", V.int (1 + nsize)), (Sum.inr "bounds", V.ref lb)])) := e12.own hD hpn
    have w12 : ExtB b H (upd B12 p (.dK [(Sum.inr "rows", V.ref l), (Sum.inr "ways", V.ref D), (Sum.inr "widths", V.ref lw), (Sum.inr "turn", V.int t), (Sum.inr "numbers", V.int (2 + nnumbers)), (Sum.inr "size", V.int (1 + nsize)), (Sum.inr "bounds", V.ref lb)])) := z12.mut hpn
    generalize upd B12 p (.dK [(Sum.inr "rows", V.ref l), (Sum.inr "ways", V.ref D), (Sum.inr "widths", V.ref lw), (Sum.inr "turn", V.int t), (Sum.inr "numbers", V.int (2 + nnumbers)), (Sum.inr "size", V.int (1 + nsize)), (Sum.inr "bounds", V.ref lb)]) = C12 at f12' g12 w12  ⊢
    refine ⟨_, rfl, _, rfl, a, b, ns, 2, rfl, g12.1, g12.2.1, g12.2.2, by omega, by omega, fun nhead B13 nhead0 nhead1 s13 y13 => ⟨_, _, rfl, rfl, ?_⟩⟩
    have e13 := g12.x s13 y13
    have f13 := f12'.x y13
    have z13 := w12.trans y13
    refine ⟨_, rfl, p, _, rfl, dput (k := .inr "head") (kvs' := [(Sum.inr "rows", V.ref l), (Sum.inr "ways", V.ref D), (Sum.inr "widths", V.ref lw), (Sum.inr "turn", V.int t), (Sum.inr "numbers", V.int (2 + nnumbers)), (Sum.inr "size", V.int (1 + nsize)), (Sum.inr "bounds", V.ref lb), (Sum.inr "head", V.int (1 + nhead))]) f13.at_ (by simp) rfl, ?_⟩
    have f13' := f13.put (kvs' := [(Sum.inr "rows", V.ref l), (Sum.inr "ways", V.ref D), (Sum.inr "widths", V.ref lw), (Sum.inr "turn", V.int t), (Sum.inr "numbers", V.int (2 + nnumbers)), (Sum.inr "size", V.int (1 + nsize)), (Sum.inr "bounds", V.ref lb), (Sum.inr "head", V.int (1 + nhead))])
    have g13 : Drw K a b ns (upd B13 p (.dK [(Sum.inr "rows", V.ref l), (Sum.inr "ways", V.ref D), (Sum.inr "widths", V.ref lw), (Sum.inr "turn", V.int t), (Sum.inr "numbers", V.int (2 + nnumbers)), (Sum.inr "size", V.int (1 + nsize)), (Sum.inr "bounds", V.ref lb), (Sum.inr "head", V.int (1 + nhead))])) := e13.own hD hpn
    have w13 : ExtB b H (upd B13 p (.dK [(Sum.inr "rows", V.ref l), (Sum.inr "ways", V.ref D), (Sum.inr "widths", V.ref lw), (Sum.inr "turn", V.int t), (Sum.inr "numbers", V.int (2 + nnumbers)), (Sum.inr "size", V.int (1 + nsize)), (Sum.inr "bounds", V.ref lb), (Sum.inr "head", V.int (1 + nhead))])) := z13.mut hpn
    generalize upd B13 p (.dK [(Sum.inr "rows", V.ref l), (Sum.inr "ways", V.ref D), (Sum.inr "widths", V.ref lw), (Sum.inr "turn", V.int t), (Sum.inr "numbers", V.int (2 + nnumbers)), (Sum.inr "size", V.int (1 + nsize)), (Sum.inr "bounds", V.ref lb), (Sum.inr "head", V.int (1 + nhead))]) = C13 at f13' g13 w13  ⊢
    refine ⟨_, rfl, _, rfl, a, b, ns, 3, rfl, g13.1, g13.2.1, g13.2.2, by omega, by omega, fun nplaces B14 nplaces0 nplaces1 s14 y14 => ?_⟩
    have e14 := g13.x s14 y14
    have f14 := f13'.x y14
    have z14 := w13.trans y14
    refine ⟨_, rfl, p, _, rfl, dput (k := .inr "places") (kvs' := [(Sum.inr "rows", V.ref l), (Sum.inr "ways", V.ref D), (Sum.inr "widths", V.ref lw), (Sum.inr "turn", V.int t), (Sum.inr "numbers", V.int (2 + nnumbers)), (Sum.inr "size", V.int (1 + nsize)), (Sum.inr "bounds", V.ref lb), (Sum.inr "head", V.int (1 + nhead)), (Sum.inr "places", V.int nplaces)]) f14.at_ (by simp) rfl, ?_⟩
    have f14' := f14.put (kvs' := [(Sum.inr "rows", V.ref l), (Sum.inr "ways", V.ref D), (Sum.inr "widths", V.ref lw), (Sum.inr "turn", V.int t), (Sum.inr "numbers", V.int (2 + nnumbers)), (Sum.inr "size", V.int (1 + nsize)), (Sum.inr "bounds", V.ref lb), (Sum.inr "head", V.int (1 + nhead)), (Sum.inr "places", V.int nplaces)])
    have g14 : Drw K a b ns (upd B14 p (.dK [(Sum.inr "rows", V.ref l), (Sum.inr "ways", V.ref D), (Sum.inr "widths", V.ref lw), (Sum.inr "turn", V.int t), (Sum.inr "numbers", V.int (2 + nnumbers)), (Sum.inr "size", V.int (1 + nsize)), (Sum.inr "bounds", V.ref lb), (Sum.inr "head", V.int (1 + nhead)), (Sum.inr "places", V.int nplaces)])) := e14.own hD hpn
    have w14 : ExtB b H (upd B14 p (.dK [(Sum.inr "rows", V.ref l), (Sum.inr "ways", V.ref D), (Sum.inr "widths", V.ref lw), (Sum.inr "turn", V.int t), (Sum.inr "numbers", V.int (2 + nnumbers)), (Sum.inr "size", V.int (1 + nsize)), (Sum.inr "bounds", V.ref lb), (Sum.inr "head", V.int (1 + nhead)), (Sum.inr "places", V.int nplaces)])) := z14.mut hpn
    generalize upd B14 p (.dK [(Sum.inr "rows", V.ref l), (Sum.inr "ways", V.ref D), (Sum.inr "widths", V.ref lw), (Sum.inr "turn", V.int t), (Sum.inr "numbers", V.int (2 + nnumbers)), (Sum.inr "size", V.int (1 + nsize)), (Sum.inr "bounds", V.ref lb), (Sum.inr "head", V.int (1 + nhead)), (Sum.inr "places", V.int nplaces)]) = C14 at f14' g14 w14  ⊢
    refine ⟨_, rfl, _, rfl, a, b, ns, 3, rfl, g14.1, g14.2.1, g14.2.2, by omega, by omega, fun ncost B15 ncost0 ncost1 s15 y15 => ⟨_, _, rfl, rfl, ?_⟩⟩
    have e15 := g14.x s15 y15
    have f15 := f14'.x y15
    have z15 := w14.trans y15
    refine ⟨_, rfl, p, _, rfl, dput (k := .inr "cost") (kvs' := [(Sum.inr "rows", V.ref l), (Sum.inr "ways", V.ref D), (Sum.inr "widths", V.ref lw), (Sum.inr "turn", V.int t), (Sum.inr "numbers", V.int (2 + nnumbers)), (Sum.inr "size", V.int (1 + nsize)), (Sum.inr "bounds", V.ref lb), (Sum.inr "head", V.int (1 + nhead)), (Sum.inr "places", V.int nplaces), (Sum.inr "cost", V.int (2 + ncost))]) f15.at_ (by simp) rfl, ?_⟩
    have f15' := f15.put (kvs' := [(Sum.inr "rows", V.ref l), (Sum.inr "ways", V.ref D), (Sum.inr "widths", V.ref lw), (Sum.inr "turn", V.int t), (Sum.inr "numbers", V.int (2 + nnumbers)), (Sum.inr "size", V.int (1 + nsize)), (Sum.inr "bounds", V.ref lb), (Sum.inr "head", V.int (1 + nhead)), (Sum.inr "places", V.int nplaces), (Sum.inr "cost", V.int (2 + ncost))])
    have g15 : Drw K a b ns (upd B15 p (.dK [(Sum.inr "rows", V.ref l), (Sum.inr "ways", V.ref D), (Sum.inr "widths", V.ref lw), (Sum.inr "turn", V.int t), (Sum.inr "numbers", V.int (2 + nnumbers)), (Sum.inr "size", V.int (1 + nsize)), (Sum.inr "bounds", V.ref lb), (Sum.inr "head", V.int (1 + nhead)), (Sum.inr "places", V.int nplaces), (Sum.inr "cost", V.int (2 + ncost))])) := e15.own hD hpn
    have w15 : ExtB b H (upd B15 p (.dK [(Sum.inr "rows", V.ref l), (Sum.inr "ways", V.ref D), (Sum.inr "widths", V.ref lw), (Sum.inr "turn", V.int t), (Sum.inr "numbers", V.int (2 + nnumbers)), (Sum.inr "size", V.int (1 + nsize)), (Sum.inr "bounds", V.ref lb), (Sum.inr "head", V.int (1 + nhead)), (Sum.inr "places", V.int nplaces), (Sum.inr "cost", V.int (2 + ncost))])) := z15.mut hpn
    generalize upd B15 p (.dK [(Sum.inr "rows", V.ref l), (Sum.inr "ways", V.ref D), (Sum.inr "widths", V.ref lw), (Sum.inr "turn", V.int t), (Sum.inr "numbers", V.int (2 + nnumbers)), (Sum.inr "size", V.int (1 + nsize)), (Sum.inr "bounds", V.ref lb), (Sum.inr "head", V.int (1 + nhead)), (Sum.inr "places", V.int nplaces), (Sum.inr "cost", V.int (2 + ncost))]) = C15 at f15' g15 w15  ⊢
    refine ⟨_, rfl, _, rfl, a, b, ns, 30, rfl, g15.1, g15.2.1, g15.2.2, by omega, by omega, fun nperiod B16 nperiod0 nperiod1 s16 y16 => ⟨_, _, rfl, rfl, ?_⟩⟩
    have e16 := g15.x s16 y16
    have f16 := f15'.x y16
    have z16 := w15.trans y16
    refine ⟨_, rfl, p, _, rfl, dput (k := .inr "period") (kvs' := [(Sum.inr "rows", V.ref l), (Sum.inr "ways", V.ref D), (Sum.inr "widths", V.ref lw), (Sum.inr "turn", V.int t), (Sum.inr "numbers", V.int (2 + nnumbers)), (Sum.inr "size", V.int (1 + nsize)), (Sum.inr "bounds", V.ref lb), (Sum.inr "head", V.int (1 + nhead)), (Sum.inr "places", V.int nplaces), (Sum.inr "cost", V.int (2 + ncost)), (Sum.inr "period", V.int (1 + nperiod))]) f16.at_ (by simp) rfl, ?_⟩
    have f16' := f16.put (kvs' := [(Sum.inr "rows", V.ref l), (Sum.inr "ways", V.ref D), (Sum.inr "widths", V.ref lw), (Sum.inr "turn", V.int t), (Sum.inr "numbers", V.int (2 + nnumbers)), (Sum.inr "size", V.int (1 + nsize)), (Sum.inr "bounds", V.ref lb), (Sum.inr "head", V.int (1 + nhead)), (Sum.inr "places", V.int nplaces), (Sum.inr "cost", V.int (2 + ncost)), (Sum.inr "period", V.int (1 + nperiod))])
    have g16 : Drw K a b ns (upd B16 p (.dK [(Sum.inr "rows", V.ref l), (Sum.inr "ways", V.ref D), (Sum.inr "widths", V.ref lw), (Sum.inr "turn", V.int t), (Sum.inr "numbers", V.int (2 + nnumbers)), (Sum.inr "size", V.int (1 + nsize)), (Sum.inr "bounds", V.ref lb), (Sum.inr "head", V.int (1 + nhead)), (Sum.inr "places", V.int nplaces), (Sum.inr "cost", V.int (2 + ncost)), (Sum.inr "period", V.int (1 + nperiod))])) := e16.own hD hpn
    have w16 : ExtB b H (upd B16 p (.dK [(Sum.inr "rows", V.ref l), (Sum.inr "ways", V.ref D), (Sum.inr "widths", V.ref lw), (Sum.inr "turn", V.int t), (Sum.inr "numbers", V.int (2 + nnumbers)), (Sum.inr "size", V.int (1 + nsize)), (Sum.inr "bounds", V.ref lb), (Sum.inr "head", V.int (1 + nhead)), (Sum.inr "places", V.int nplaces), (Sum.inr "cost", V.int (2 + ncost)), (Sum.inr "period", V.int (1 + nperiod))])) := z16.mut hpn
    generalize upd B16 p (.dK [(Sum.inr "rows", V.ref l), (Sum.inr "ways", V.ref D), (Sum.inr "widths", V.ref lw), (Sum.inr "turn", V.int t), (Sum.inr "numbers", V.int (2 + nnumbers)), (Sum.inr "size", V.int (1 + nsize)), (Sum.inr "bounds", V.ref lb), (Sum.inr "head", V.int (1 + nhead)), (Sum.inr "places", V.int nplaces), (Sum.inr "cost", V.int (2 + ncost)), (Sum.inr "period", V.int (1 + nperiod))]) = C16 at f16' g16 w16  ⊢
    refine ⟨_, rfl, _, rfl, a, b, ns, 40, rfl, g16.1, g16.2.1, g16.2.2, by omega, by omega, fun nquiet B17 nquiet0 nquiet1 s17 y17 => ⟨_, _, rfl, rfl, ?_⟩⟩
    have e17 := g16.x s17 y17
    have f17 := f16'.x y17
    have z17 := w16.trans y17
    refine ⟨_, rfl, p, _, rfl, dput (k := .inr "quiet") (kvs' := [(Sum.inr "rows", V.ref l), (Sum.inr "ways", V.ref D), (Sum.inr "widths", V.ref lw), (Sum.inr "turn", V.int t), (Sum.inr "numbers", V.int (2 + nnumbers)), (Sum.inr "size", V.int (1 + nsize)), (Sum.inr "bounds", V.ref lb), (Sum.inr "head", V.int (1 + nhead)), (Sum.inr "places", V.int nplaces), (Sum.inr "cost", V.int (2 + ncost)), (Sum.inr "period", V.int (1 + nperiod)), (Sum.inr "quiet", V.int (1 + nquiet))]) f17.at_ (by simp) rfl, ?_⟩
    have f17' := f17.put (kvs' := [(Sum.inr "rows", V.ref l), (Sum.inr "ways", V.ref D), (Sum.inr "widths", V.ref lw), (Sum.inr "turn", V.int t), (Sum.inr "numbers", V.int (2 + nnumbers)), (Sum.inr "size", V.int (1 + nsize)), (Sum.inr "bounds", V.ref lb), (Sum.inr "head", V.int (1 + nhead)), (Sum.inr "places", V.int nplaces), (Sum.inr "cost", V.int (2 + ncost)), (Sum.inr "period", V.int (1 + nperiod)), (Sum.inr "quiet", V.int (1 + nquiet))])
    have g17 : Drw K a b ns (upd B17 p (.dK [(Sum.inr "rows", V.ref l), (Sum.inr "ways", V.ref D), (Sum.inr "widths", V.ref lw), (Sum.inr "turn", V.int t), (Sum.inr "numbers", V.int (2 + nnumbers)), (Sum.inr "size", V.int (1 + nsize)), (Sum.inr "bounds", V.ref lb), (Sum.inr "head", V.int (1 + nhead)), (Sum.inr "places", V.int nplaces), (Sum.inr "cost", V.int (2 + ncost)), (Sum.inr "period", V.int (1 + nperiod)), (Sum.inr "quiet", V.int (1 + nquiet))])) := e17.own hD hpn
    have w17 : ExtB b H (upd B17 p (.dK [(Sum.inr "rows", V.ref l), (Sum.inr "ways", V.ref D), (Sum.inr "widths", V.ref lw), (Sum.inr "turn", V.int t), (Sum.inr "numbers", V.int (2 + nnumbers)), (Sum.inr "size", V.int (1 + nsize)), (Sum.inr "bounds", V.ref lb), (Sum.inr "head", V.int (1 + nhead)), (Sum.inr "places", V.int nplaces), (Sum.inr "cost", V.int (2 + ncost)), (Sum.inr "period", V.int (1 + nperiod)), (Sum.inr "quiet", V.int (1 + nquiet))])) := z17.mut hpn
    generalize upd B17 p (.dK [(Sum.inr "rows", V.ref l), (Sum.inr "ways", V.ref D), (Sum.inr "widths", V.ref lw), (Sum.inr "turn", V.int t), (Sum.inr "numbers", V.int (2 + nnumbers)), (Sum.inr "size", V.int (1 + nsize)), (Sum.inr "bounds", V.ref lb), (Sum.inr "head", V.int (1 + nhead)), (Sum.inr "places", V.int nplaces), (Sum.inr "cost", V.int (2 + ncost)), (Sum.inr "period", V.int (1 + nperiod)), (Sum.inr "quiet", V.int (1 + nquiet))]) = C17 at f17' g17 w17  ⊢
    refine ⟨_, rfl, _, rfl, a, b, ns, 3, rfl, g17.1, g17.2.1, g17.2.2, by omega, by omega, fun nsilent B18 nsilent0 nsilent1 s18 y18 => ⟨rfl, .inr ⟨_, rfl, ?_⟩⟩⟩
    have e18 := g17.x s18 y18
    have f18 := f17'.x y18
    have z18 := w17.trans y18
    refine ⟨_, rfl, p, _, rfl, dput (k := .inr "silent") (kvs' := [(Sum.inr "rows", V.ref l), (Sum.inr "ways", V.ref D), (Sum.inr "widths", V.ref lw), (Sum.inr "turn", V.int t), (Sum.inr "numbers", V.int (2 + nnumbers)), (Sum.inr "size", V.int (1 + nsize)), (Sum.inr "bounds", V.ref lb), (Sum.inr "head", V.int (1 + nhead)), (Sum.inr "places", V.int nplaces), (Sum.inr "cost", V.int (2 + ncost)), (Sum.inr "period", V.int (1 + nperiod)), (Sum.inr "quiet", V.int (1 + nquiet)), (Sum.inr "silent", V.int (if decide (V.int nsilent = V.int 0) = true then 1 else 0))]) f18.at_ (by simp) rfl, ?_⟩
    have f18' := f18.put (kvs' := [(Sum.inr "rows", V.ref l), (Sum.inr "ways", V.ref D), (Sum.inr "widths", V.ref lw), (Sum.inr "turn", V.int t), (Sum.inr "numbers", V.int (2 + nnumbers)), (Sum.inr "size", V.int (1 + nsize)), (Sum.inr "bounds", V.ref lb), (Sum.inr "head", V.int (1 + nhead)), (Sum.inr "places", V.int nplaces), (Sum.inr "cost", V.int (2 + ncost)), (Sum.inr "period", V.int (1 + nperiod)), (Sum.inr "quiet", V.int (1 + nquiet)), (Sum.inr "silent", V.int (if decide (V.int nsilent = V.int 0) = true then 1 else 0))])
    have g18 : Drw K a b ns (upd B18 p (.dK [(Sum.inr "rows", V.ref l), (Sum.inr "ways", V.ref D), (Sum.inr "widths", V.ref lw), (Sum.inr "turn", V.int t), (Sum.inr "numbers", V.int (2 + nnumbers)), (Sum.inr "size", V.int (1 + nsize)), (Sum.inr "bounds", V.ref lb), (Sum.inr "head", V.int (1 + nhead)), (Sum.inr "places", V.int nplaces), (Sum.inr "cost", V.int (2 + ncost)), (Sum.inr "period", V.int (1 + nperiod)), (Sum.inr "quiet", V.int (1 + nquiet)), (Sum.inr "silent", V.int (if decide (V.int nsilent = V.int 0) = true then 1 else 0))])) := e18.own hD hpn
    have w18 : ExtB b H (upd B18 p (.dK [(Sum.inr "rows", V.ref l), (Sum.inr "ways", V.ref D), (Sum.inr "widths", V.ref lw), (Sum.inr "turn", V.int t), (Sum.inr "numbers", V.int (2 + nnumbers)), (Sum.inr "size", V.int (1 + nsize)), (Sum.inr "bounds", V.ref lb), (Sum.inr "head", V.int (1 + nhead)), (Sum.inr "places", V.int nplaces), (Sum.inr "cost", V.int (2 + ncost)), (Sum.inr "period", V.int (1 + nperiod)), (Sum.inr "quiet", V.int (1 + nquiet)), (Sum.inr "silent", V.int (if decide (V.int nsilent = V.int 0) = true then 1 else 0))])) := z18.mut hpn
    generalize upd B18 p (.dK [(Sum.inr "rows", V.ref l), (Sum.inr "ways", V.ref D), (Sum.inr "widths", V.ref lw), (Sum.inr "turn", V.int t), (Sum.inr "numbers", V.int (2 + nnumbers)), (Sum.inr "size", V.int (1 + nsize)), (Sum.inr "bounds", V.ref lb), (Sum.inr "head", V.int (1 + nhead)), (Sum.inr "places", V.int nplaces), (Sum.inr "cost", V.int (2 + ncost)), (Sum.inr "period", V.int (1 + nperiod)), (Sum.inr "quiet", V.int (1 + nquiet)), (Sum.inr "silent", V.int (if decide (V.int nsilent = V.int 0) = true then 1 else 0))]) = C18 at f18' g18 w18  ⊢
    refine ⟨_, rfl, _, rfl, a, b, ns, 2, rfl, g18.1, g18.2.1, g18.2.2, by omega, by omega, fun nlosses B19 nlosses0 nlosses1 s19 y19 => ⟨_, _, rfl, rfl, ?_⟩⟩
    have e19 := g18.x s19 y19
    have f19 := f18'.x y19
    have z19 := w18.trans y19
    refine ⟨_, rfl, p, _, rfl, dput (k := .inr "losses") (kvs' := [(Sum.inr "rows", V.ref l), (Sum.inr "ways", V.ref D), (Sum.inr "widths", V.ref lw), (Sum.inr "turn", V.int t), (Sum.inr "numbers", V.int (2 + nnumbers)), (Sum.inr "size", V.int (1 + nsize)), (Sum.inr "bounds", V.ref lb), (Sum.inr "head", V.int (1 + nhead)), (Sum.inr "places", V.int nplaces), (Sum.inr "cost", V.int (2 + ncost)), (Sum.inr "period", V.int (1 + nperiod)), (Sum.inr "quiet", V.int (1 + nquiet)), (Sum.inr "silent", V.int (if decide (V.int nsilent = V.int 0) = true then 1 else 0)), (Sum.inr "losses", V.int (1 + nlosses))]) f19.at_ (by simp) rfl, ?_⟩
    have f19' := f19.put (kvs' := [(Sum.inr "rows", V.ref l), (Sum.inr "ways", V.ref D), (Sum.inr "widths", V.ref lw), (Sum.inr "turn", V.int t), (Sum.inr "numbers", V.int (2 + nnumbers)), (Sum.inr "size", V.int (1 + nsize)), (Sum.inr "bounds", V.ref lb), (Sum.inr "head", V.int (1 + nhead)), (Sum.inr "places", V.int nplaces), (Sum.inr "cost", V.int (2 + ncost)), (Sum.inr "period", V.int (1 + nperiod)), (Sum.inr "quiet", V.int (1 + nquiet)), (Sum.inr "silent", V.int (if decide (V.int nsilent = V.int 0) = true then 1 else 0)), (Sum.inr "losses", V.int (1 + nlosses))])
    have g19 : Drw K a b ns (upd B19 p (.dK [(Sum.inr "rows", V.ref l), (Sum.inr "ways", V.ref D), (Sum.inr "widths", V.ref lw), (Sum.inr "turn", V.int t), (Sum.inr "numbers", V.int (2 + nnumbers)), (Sum.inr "size", V.int (1 + nsize)), (Sum.inr "bounds", V.ref lb), (Sum.inr "head", V.int (1 + nhead)), (Sum.inr "places", V.int nplaces), (Sum.inr "cost", V.int (2 + ncost)), (Sum.inr "period", V.int (1 + nperiod)), (Sum.inr "quiet", V.int (1 + nquiet)), (Sum.inr "silent", V.int (if decide (V.int nsilent = V.int 0) = true then 1 else 0)), (Sum.inr "losses", V.int (1 + nlosses))])) := e19.own hD hpn
    have w19 : ExtB b H (upd B19 p (.dK [(Sum.inr "rows", V.ref l), (Sum.inr "ways", V.ref D), (Sum.inr "widths", V.ref lw), (Sum.inr "turn", V.int t), (Sum.inr "numbers", V.int (2 + nnumbers)), (Sum.inr "size", V.int (1 + nsize)), (Sum.inr "bounds", V.ref lb), (Sum.inr "head", V.int (1 + nhead)), (Sum.inr "places", V.int nplaces), (Sum.inr "cost", V.int (2 + ncost)), (Sum.inr "period", V.int (1 + nperiod)), (Sum.inr "quiet", V.int (1 + nquiet)), (Sum.inr "silent", V.int (if decide (V.int nsilent = V.int 0) = true then 1 else 0)), (Sum.inr "losses", V.int (1 + nlosses))])) := z19.mut hpn
    generalize upd B19 p (.dK [(Sum.inr "rows", V.ref l), (Sum.inr "ways", V.ref D), (Sum.inr "widths", V.ref lw), (Sum.inr "turn", V.int t), (Sum.inr "numbers", V.int (2 + nnumbers)), (Sum.inr "size", V.int (1 + nsize)), (Sum.inr "bounds", V.ref lb), (Sum.inr "head", V.int (1 + nhead)), (Sum.inr "places", V.int nplaces), (Sum.inr "cost", V.int (2 + ncost)), (Sum.inr "period", V.int (1 + nperiod)), (Sum.inr "quiet", V.int (1 + nquiet)), (Sum.inr "silent", V.int (if decide (V.int nsilent = V.int 0) = true then 1 else 0)), (Sum.inr "losses", V.int (1 + nlosses))]) = C19 at f19' g19 w19  ⊢
    have hs01 : ∃ u : Int, (if decide (V.int nsilent = V.int 0) = true then 1 else 0) = u ∧ 0 ≤ u ∧ u ≤ 3 := by
      cases decide (V.int nsilent = V.int 0)
      · exact ⟨0, rfl, by decide, by decide⟩
      · exact ⟨1, rfl, by decide, by decide⟩
    obtain ⟨u, hu, u0, u3⟩ := hs01
    rw [hu] at f19'
    obtain ⟨r1, r2, r3, r4⟩ := ris
    obtain ⟨q1, q2, q3, q4⟩ := risb
    refine ⟨_, rfl, k p ⟨L, ds, us, t, 2 + nnumbers, 1 + nhead, nplaces, 2 + ncost, 1 + nperiod, 1 + nquiet, u, 1 + nlosses, 1 + nsize, bs⟩ _ g19 w19 ⟨.ref l, .ref D, .ref lw, .ref lb, f19'.nb, f19'.at_, f19'.dp⟩ ?_ (by show ds.length ≤ 4; omega)⟩
    refine ⟨hgm, fun d hd => (hg d hd).1, ?_, ⟨by show 1 ≤ 1 + nsize; omega, by show 1 + nsize ≤ 60; omega⟩, ⟨q1, by show bs.length ≤ 4; omega, fun b hb => ?_, q4⟩⟩
    · constructor
      · exact ⟨by show 1 ≤ ds.length; omega, by show ds.length ≤ 4; omega⟩
      · exact ⟨r1, by show us.length ≤ 8; omega, fun n hn => by have := r3 n hn; omega, r4⟩
      all_goals first | exact hf | (dsimp only; constructor <;> omega)
    · have := q3 b hb
      omega
end
end K02

set_option Elab.async false
set_option maxRecDepth 100000
set_option maxHeartbeats 4000000
namespace K02
open PySem PySem.Spec PyProof.Rows L2
open K18 (StB ExtB spDrawB)
/-- the same with its rows and ways named -/
def RawW (K : PySem.W.Frag) (b : Addr) (H : Hp) (p : Addr) (vr vw : V) (x : LnD) : Prop := ∃ vd vb, Dk K b p H (rawK vr vw vd vb x) (rawV vr vw vd vb x)
theorem RawW.at_ {K : PySem.W.Frag} {b p : Addr} {H : Hp} {vr vw : V} {x : LnD} (h : RawW K b H p vr vw x) : RawAt K b H p x := by
  obtain ⟨vd, vb, h⟩ := h
  exact ⟨vr, vw, vd, vb, h⟩
theorem RawW.x {K : PySem.W.Frag} {b p : Addr} {H H' : Hp} {vr vw : V} {x : LnD} (h : RawW K b H p vr vw x) (e : ExtB b H H') : RawW K b H' p vr vw x := by
  obtain ⟨vd, vb, h⟩ := h
  exact ⟨vd, vb, h.x e⟩
theorem val_nodup : ∀ {kvs : List (Key × V)} {i : Nat} {k : Key} {v : V}, (kvs.map Prod.fst).Nodup → kvs[i]? = some (k, v) → valV kvs k = some v ∧ valV (kvs.take i) k = none
  | [], i, _, _, _, h => by cases h
  | q :: r, 0, k, v, _, h => by
    cases h
    exact ⟨valV_pos rfl, rfl⟩
  | q :: r, i + 1, k, v, hn, h => by
    have hn' := List.nodup_cons.mp hn
    obtain ⟨h1, h2⟩ := val_nodup (i := i) hn'.2 h
    have hne : ¬ q.1 = k := fun z => hn'.1 (List.mem_map.mpr ⟨(k, v), List.mem_of_getElem? h, z.symm⟩)
    exact ⟨(valV_neg hne).trans h1, (valV_neg (r := r.take i) hne).trans h2⟩
section
variable {P : Program} {w : World} {K : PySem.W.Frag} {mg : Str → Option Value} {base : Heap} {A : Ad}
def spCopyD : Sp := fun vs H Q _ => ∃ (r : Addr) (kvs : List (Key × V)), vs = [.ref r] ∧ H r = some (.dK kvs) ∧ (kvs.map Prod.fst).Nodup ∧ kvs.length ≤ 20 ∧ ∀ D H', Ext H H' → H D = none → H' D = some (.dK kvs) → Q (.ref D) H'
theorem ok_copyD {f : Addr} {fd : FuncData} (F : Fun K "_law_copy" "_law_copy" s__law_copy f fd) : FnOk P w K mg base CX0 1 f fd pm__law_copy spCopyD := by
  refine F.ok sc__law_copy (fun vs H Q E h => ?_) (fun cdv A' outer sh H vs Q E hr h => ?_)
  · obtain ⟨_, _, rfl, _⟩ := h
    rfl
  · obtain ⟨r, kvs, rfl, hr1, hn, hl, k⟩ := h
    refine ⟨_, pss_cons (ps_set (i := 1) sc__law_copy.nd rfl (Or.inl rfl) (pe_dnewK))
      (pss_cons (ps_lock (ps_for PassesOwn.never rfl (pi_keys (pv 0)) (pg_name (i := 2) sc__law_copy.nd rfl (Or.inl rfl)) (pss_one (ps_dput (un1 hr.units) (pv 1) (pv 2) (pe_dget (un1 hr.units) (pv 0) (pv 2) (fun _ _ => rfl)) rfl))))
      (pss_one (ps_ret (pv 1)))), ?_⟩
    refine fun D hD => ?_
    have nrD : r ≠ D := ne_of_none hr1 hD
    refine ⟨r, .dK kvs, (upd_ne nrD).trans hr1, True.intro, fun od => ?_⟩
    refine ⟨_, rfl, r, od, rfl, .inl ⟨kvs, upd_same, ?_⟩⟩
    refine for_it walk_keys (fun i σ' J => ∃ o2, σ' = [some (.ref r), some (.ref D), o2] ∧ J r = some (.frz od (.dK kvs)) ∧ J D = some (.dK (kvs.take i)) ∧ ∀ y o, y ≠ D → y ≠ r → H y = some o → J y = some o)
      ⟨_, rfl, upd_same, (upd_ne nrD.symm).trans upd_same, fun y o h1 h2 h => (upd_ne h2).trans ((upd_ne h1).trans h)⟩ (fun i σ' J _ pv => pv.choose_spec.2.1) (fun i v σ' J J' hi pv hy => ?_) (fun σ' J pv => ?_)
    · obtain ⟨o2, rfl, h1, h2, h3⟩ := pv
      obtain ⟨rfl, hv⟩ := hy
      obtain ⟨kk, vv, hkv, rfl⟩ := hv
      obtain ⟨g1, g2⟩ := val_nodup hn hkv
      refine ⟨_, rfl, _, rfl, r, vv, rfl, .inl ⟨kvs, kk, .inr ⟨od, h1⟩, rfl, g1.symm⟩, _, rfl, _, rfl, D, _, rfl, dput (k := kk) (kvs' := kvs.take (i + 1)) h2 (by rw [List.length_take]; omega) ?_, _, rfl, (upd_ne nrD).trans h1, upd_same, fun y o y1 y2 h => (upd_ne y1).trans (h3 y o y1 y2 h)⟩
      rw [putK_new _ g2, List.take_add_one, hkv]
      rfl
    · obtain ⟨o2, rfl, h1, h2, h3⟩ := pv
      refine ⟨h1, _, rfl, k D _ (fun y o h => ?_) hD ?_⟩
      · by_cases e : y = r
        · rw [e] at h ⊢
          rw [hr1] at h
          rw [← h]
          exact upd_same
        · exact (upd_ne e).trans (h3 y o (ne_of_none h hD) e h)
      · rw [List.take_of_length_le (Nat.le_refl _)] at h2
        exact (upd_ne nrD.symm).trans h2
theorem kinds {kd : Int} (h0 : 0 ≤ kd) (h6 : kd < 6) : ∃ (s : Str) (base : Int) (f : LnD → Int → LnD), atI [V.str "numbers", .str "size", .str "places", .str "head", .str "cost", .str "losses"] kd = some (.str s) ∧ atI [V.int 2, .int 1, .int 0, .int 1, .int 2, .int 1] kd = some (.int base) ∧
    (∀ vr vw vd vb x z, putK (rawK vr vw vd vb x) (.inr s) (.int z) = rawK vr vw vd vb (f x z)) ∧ (∀ x n, GoodR x → 0 ≤ n → n < 3 → GoodR (f x (base + n))) ∧ (∀ x z, (f x z).rows = x.rows) ∧ (∀ x z, (f x z).ways = x.ways) ∧ (∀ x z, (f x z).widths = x.widths) ∧ (∀ x z, (f x z).bounds = x.bounds) := by
  have : kd = 0 ∨ kd = 1 ∨ kd = 2 ∨ kd = 3 ∨ kd = 4 ∨ kd = 5 := by omega
  rcases this with rfl | rfl | rfl | rfl | rfl | rfl
  · exact ⟨_, 2, fun x z => {x with numbers := z}, atI_nat (j := 0) rfl, atI_nat (j := 0) rfl, fun _ _ _ _ _ _ => rfl, fun x n g h0 h3 => ⟨g.rows, g.wy, ⟨g.gl.ways, g.gl.widths, g.gl.turn, ⟨by dsimp only; omega, by dsimp only; omega⟩, g.gl.head, g.gl.places, g.gl.cost, g.gl.period, g.gl.quiet, g.gl.silent, g.gl.losses, g.gl.fits⟩, g.size, g.bounds⟩, fun _ _ => rfl, fun _ _ => rfl, fun _ _ => rfl, fun _ _ => rfl⟩
  · exact ⟨_, 1, fun x z => {x with size := z}, atI_nat (j := 1) rfl, atI_nat (j := 1) rfl, fun _ _ _ _ _ _ => rfl, fun x n g h0 h3 => ⟨g.rows, g.wy, ⟨g.gl.ways, g.gl.widths, g.gl.turn, g.gl.numbers, g.gl.head, g.gl.places, g.gl.cost, g.gl.period, g.gl.quiet, g.gl.silent, g.gl.losses, g.gl.fits⟩, ⟨by dsimp only; omega, by dsimp only; omega⟩, g.bounds⟩, fun _ _ => rfl, fun _ _ => rfl, fun _ _ => rfl, fun _ _ => rfl⟩
  · exact ⟨_, 0, fun x z => {x with places := z}, atI_nat (j := 2) rfl, atI_nat (j := 2) rfl, fun _ _ _ _ _ _ => rfl, fun x n g h0 h3 => ⟨g.rows, g.wy, ⟨g.gl.ways, g.gl.widths, g.gl.turn, g.gl.numbers, g.gl.head, ⟨by dsimp only; omega, by dsimp only; omega⟩, g.gl.cost, g.gl.period, g.gl.quiet, g.gl.silent, g.gl.losses, g.gl.fits⟩, g.size, g.bounds⟩, fun _ _ => rfl, fun _ _ => rfl, fun _ _ => rfl, fun _ _ => rfl⟩
  · exact ⟨_, 1, fun x z => {x with head := z}, atI_nat (j := 3) rfl, atI_nat (j := 3) rfl, fun _ _ _ _ _ _ => rfl, fun x n g h0 h3 => ⟨g.rows, g.wy, ⟨g.gl.ways, g.gl.widths, g.gl.turn, g.gl.numbers, ⟨by dsimp only; omega, by dsimp only; omega⟩, g.gl.places, g.gl.cost, g.gl.period, g.gl.quiet, g.gl.silent, g.gl.losses, g.gl.fits⟩, g.size, g.bounds⟩, fun _ _ => rfl, fun _ _ => rfl, fun _ _ => rfl, fun _ _ => rfl⟩
  · exact ⟨_, 2, fun x z => {x with cost := z}, atI_nat (j := 4) rfl, atI_nat (j := 4) rfl, fun _ _ _ _ _ _ => rfl, fun x n g h0 h3 => ⟨g.rows, g.wy, ⟨g.gl.ways, g.gl.widths, g.gl.turn, g.gl.numbers, g.gl.head, g.gl.places, ⟨by dsimp only; omega, by dsimp only; omega⟩, g.gl.period, g.gl.quiet, g.gl.silent, g.gl.losses, g.gl.fits⟩, g.size, g.bounds⟩, fun _ _ => rfl, fun _ _ => rfl, fun _ _ => rfl, fun _ _ => rfl⟩
  · exact ⟨_, 1, fun x z => {x with losses := z}, atI_nat (j := 5) rfl, atI_nat (j := 5) rfl, fun _ _ _ _ _ _ => rfl, fun x n g h0 h3 => ⟨g.rows, g.wy, ⟨g.gl.ways, g.gl.widths, g.gl.turn, g.gl.numbers, g.gl.head, g.gl.places, g.gl.cost, g.gl.period, g.gl.quiet, g.gl.silent, ⟨by dsimp only; omega, by dsimp only; omega⟩, g.gl.fits⟩, g.size, g.bounds⟩, fun _ _ => rfl, fun _ _ => rfl, fun _ _ => rfl, fun _ _ => rfl⟩
def OthP (K : PySem.W.Frag) (a b D : Addr) (vr vw : V) (ns : List Int) (H J : Hp) (x : LnD) : Prop := ∃ y, Drw K a b ns J ∧ ExtB b H J ∧ RawW K b J D vr vw y ∧ GoodR y ∧ y.rows = x.rows ∧ y.ways = x.ways
theorem rawK_nodup {vr vw vd vb : V} {x : LnD} : ((rawK vr vw vd vb x).map Prod.fst).Nodup := by
  show ([Sum.inr "rows", Sum.inr "ways", Sum.inr "widths", Sum.inr "turn", Sum.inr "numbers", Sum.inr "size", Sum.inr "bounds", Sum.inr "head", Sum.inr "places", Sum.inr "cost", Sum.inr "period", Sum.inr "quiet", Sum.inr "silent", Sum.inr "losses"] : List Key).Nodup
  decide +kernel
def spOther (K : PySem.W.Frag) : Sp := fun vs H Q _ => ∃ (a b r : Addr) (vr vw : V) (ns : List Int) (x : LnD), vs = [.ref a, .ref b, .ref r] ∧ Drw K a b ns H ∧ RawW K b H r vr vw x ∧ GoodR x ∧ ∀ D J, OthP K a b D vr vw ns H J x → Q (.ref D) J
theorem ok_other {f : Addr} {fd : FuncData} (F : Fun K "_law_other" "_law_other" s__law_other f fd) (T : Txt K mg A) (O__law_draw : Own P w K mg base CX0 "_law_draw" 1 pm__law_draw (spDrawB K)) (O__law_rising : Own P w K mg base CX0 "_law_rising" 2 pm__law_rising (spRising K)) (O__law_copy : Own P w K mg base CX0 "_law_copy" 1 pm__law_copy spCopyD) : FnOk P w K mg base CX0 4 f fd pm__law_other (spOther K) := by
  refine F.ok sc__law_other (fun vs H Q E h => ?_) (fun cdv A' outer sh H vs Q E hr h => ?_)
  · obtain ⟨_, _, _, _, _, _, _, rfl, _⟩ := h
    rfl
  · obtain ⟨a, b, r, vr, vw, ns, x, rfl, hD, ⟨vd, vb, hk⟩, gx, k⟩ := h
    refine ⟨_, pss_cons (ps_set (i := 3) sc__law_other.nd rfl (Or.inl rfl) (pe_own O__law_copy (hr.mono (by decide)) pass0 (pa_cons (pv 2) pa_nil)))
      (pss_cons (ps_for PassesOwn.never rfl (pi_range1 rfl T.n_range (pa_cons (pe_own O__law_draw (hr.mono (by decide)) pass0 (pa_cons (pv 0) (pa_cons (pv 1) (pa_cons (pe_int) pa_nil)))) pa_nil)) (pg_name (i := 4) sc__law_other.nd rfl (Or.inl rfl)) (pss_cons (ps_set (i := 5) sc__law_other.nd rfl (Or.inl rfl) (pe_own O__law_draw (hr.mono (by decide)) pass0 (pa_cons (pv 0) (pa_cons (pv 1) (pa_cons (pe_int) pa_nil)))))
      (pss_cons (ps_set (i := 6) sc__law_other.nd rfl (Or.inl rfl) (pe_ix ix_list (pe_lst (pa_cons (pe_str) (pa_cons (pe_str) (pa_cons (pe_str) (pa_cons (pe_str) (pa_cons (pe_str) (pa_cons (pe_str) pa_nil))))))) (pv 5) (fun _ _ => rfl)))
      (pss_one (ps_dput (un1 hr.units) (pv 3) (pv 6) (pe_op op_add (pe_ix ix_list (pe_lst (pa_cons (pe_int) (pa_cons (pe_int) (pa_cons (pe_int) (pa_cons (pe_int) (pa_cons (pe_int) (pa_cons (pe_int) pa_nil))))))) (pv 5) (fun _ _ => rfl)) (pe_own O__law_draw (hr.mono (by decide)) pass0 (pa_cons (pv 0) (pa_cons (pv 1) (pa_cons (pe_int) pa_nil))))) rfl)))))
      (Evl.pss_cut (ps_if (pt_cmpR op_eq (pe_own O__law_draw (hr.mono (by decide)) pass0 (pa_cons (pv 0) (pa_cons (pv 1) (pa_cons (pe_int) pa_nil)))) (pe_int) (nomark _)) (pss_one (ps_dput (un1 hr.units) (pv 3) (pe_str) (pe_own O__law_rising (hr.mono (by decide)) pass0 (pa_cons (pv 0) (pa_cons (pv 1) (pa_cons (pe_int) (pa_cons (pe_int) pa_nil))))) rfl)) (pss_nil))
      (Evl.pss_cut (ps_if (pt_cmpR op_eq (pe_own O__law_draw (hr.mono (by decide)) pass0 (pa_cons (pv 0) (pa_cons (pv 1) (pa_cons (pe_int) pa_nil)))) (pe_int) (nomark _)) (pss_one (ps_dput (un1 hr.units) (pv 3) (pe_str) (pe_own O__law_rising (hr.mono (by decide)) pass0 (pa_cons (pv 0) (pa_cons (pv 1) (pa_cons (pe_int) (pa_cons (pe_int) pa_nil))))) rfl)) (pss_nil))
      (Evl.pss_cut (ps_if (pt_cmpR op_eq (pe_own O__law_draw (hr.mono (by decide)) pass0 (pa_cons (pv 0) (pa_cons (pv 1) (pa_cons (pe_int) pa_nil)))) (pe_int) (nomark _)) (pss_one (ps_dput (un1 hr.units) (pv 3) (pe_str) (pe_op op_add (pe_int) (pe_own O__law_draw (hr.mono (by decide)) pass0 (pa_cons (pv 0) (pa_cons (pv 1) (pa_cons (pe_int) pa_nil))))) rfl)) (pss_nil))
      (pss_one (ps_ret (pv 3))))))), ?_⟩
    refine ⟨_, rfl, r, _, rfl, hk.at_, rawK_nodup, by show 14 ≤ 20; decide, fun D H1 e1 hDn hD1 => ?_⟩
    have nDb := hD.new hDn
    have d1 := hD.ext e1
    have k1 : Dk K b D H1 (rawK vr vw vd vb x) (rawV vr vw vd vb x) := ⟨nDb, hD1, (hk.x (K18.Ext.b e1)).dp⟩
    refine ⟨_, rfl, _, rfl, a, b, ns, 4, rfl, d1.1, d1.2.1, d1.2.2, by omega, by omega, fun c H2 c0 c4 s2 x2 => ⟨c, rfl, by omega, by omega, ?_⟩⟩
    have d2 := d1.x s2 x2
    refine for_range (fun i σ' J => ∃ o4 o5 o6, σ' = [some (.ref a), some (.ref b), some (.ref r), some (.ref D), o4, o5, o6] ∧ OthP K a b D vr vw ns H J x)
      ⟨_, _, _, rfl, x, d2, (K18.Ext.b e1).trans x2, ⟨vd, vb, k1.x x2⟩, gx, rfl, rfl⟩ (fun i σ' J hi pv => ?_) (fun σ' J pv => ?_)
    · obtain ⟨o4, o5, o6, rfl, y, dj, xj, ⟨wd, wb, kj⟩, gy, ry, wy⟩ := pv
      refine ⟨_, rfl, _, rfl, a, b, ns, 6, rfl, dj.1, dj.2.1, dj.2.2, by omega, by omega, fun kd J1 kd0 kd6 s3 x3 => ?_⟩
      obtain ⟨s, bb, fn, hs, hb, hput, hgd, hr1, hw1, hwd, hbd⟩ := kinds kd0 kd6
      have dj1 := dj.x s3 x3
      refine ⟨by show 6 ≤ sizeLine; decide, fun l hl => ?_⟩
      have el := Ext.upd (o := .lst [V.str "numbers", .str "size", .str "places", .str "head", .str "cost", .str "losses"]) hl
      have hl1 : upd J1 l (.lst [V.str "numbers", .str "size", .str "places", .str "head", .str "cost", .str "losses"]) l = some (.lst [V.str "numbers", .str "size", .str "places", .str "head", .str "cost", .str "losses"]) := upd_same
      generalize upd J1 l (.lst [V.str "numbers", .str "size", .str "places", .str "head", .str "cost", .str "losses"]) = J2 at el hl1 ⊢
      refine ⟨_, rfl, l, _, kd, _, rfl, rfl, SqL.of hl1, hs, ?_⟩
      refine ⟨by show 6 ≤ sizeLine; decide, fun l2 hl2 => ?_⟩
      have el2 := Ext.upd (o := .lst [V.int 2, .int 1, .int 0, .int 1, .int 2, .int 1]) hl2
      have hl3 : upd J2 l2 (.lst [V.int 2, .int 1, .int 0, .int 1, .int 2, .int 1]) l2 = some (.lst [V.int 2, .int 1, .int 0, .int 1, .int 2, .int 1]) := upd_same
      generalize upd J2 l2 (.lst [V.int 2, .int 1, .int 0, .int 1, .int 2, .int 1]) = J3 at el2 hl3 ⊢
      have dj3 := (dj1.ext el).ext el2
      refine ⟨_, rfl, l2, _, kd, _, rfl, rfl, SqL.of hl3, hb, _, rfl, _, rfl, a, b, ns, 3, rfl, dj3.1, dj3.2.1, dj3.2.2, by omega, by omega, fun n J4 n0 n3 s4 x4 => ⟨_, _, rfl, rfl, ?_⟩⟩
      have kj4 := kj.x (((x3.trans (K18.Ext.b el)).trans (K18.Ext.b el2)).trans x4)
      have xj4 := xj.trans (((x3.trans (K18.Ext.b el)).trans (K18.Ext.b el2)).trans x4)
      refine ⟨_, rfl, _, rfl, D, _, rfl, dput (k := .inr s) kj4.at_ (by show 14 ≤ 20; decide) (hput _ _ _ _ _ _), ?_⟩
      refine ⟨_, _, _, rfl, fn y (bb + n), (dj3.x s4 x4).own hD hDn, xj4.mut hDn, ⟨wd, wb, kj4.nb, upd_same, fun v hv => ?_⟩, hgd y n gy n0 n3, (hr1 _ _).trans ry, (hw1 _ _).trans wy⟩
      have z := (kj4.put (kvs' := rawK vr vw wd wb (fn y (bb + n)))).dp v
      unfold rawV at hv z
      rw [hr1, hw1, hwd, hbd] at hv
      exact z hv
    · obtain ⟨o4, o5, o6, rfl, hp⟩ := pv
      refine ⟨fun σ M => σ = [some (.ref a), some (.ref b), some (.ref r), some (.ref D), o4, o5, o6] ∧ OthP K a b D vr vw ns H M x, ?_, ?_⟩
      · obtain ⟨y, dj, xj, ⟨wd, wb, kj⟩, g, ry, wy⟩ := hp
        refine ⟨_, rfl, _, rfl, a, b, ns, 3, rfl, dj.1, dj.2.1, dj.2.2, by omega, by omega, fun c J1 c0 c8 s3 x3 => ⟨rfl, _, rfl, ?_⟩⟩
        have dj1 := dj.x s3 x3
        have kj1 := kj.x x3
        cases decide (V.int c = V.int 0)
        · exact iteF ⟨rfl, y, dj1, xj.trans x3, ⟨wd, wb, kj1⟩, g, ry, wy⟩
        · refine iteT ⟨_, rfl, _, rfl, a, b, ns, 2, 4, rfl, dj1, by omega, by omega, by omega, by omega, fun lb us J2 dj2 x4 nlb hln hl ris => ?_⟩
          obtain ⟨q1, q2, q3, q4⟩ := ris
          have kj2 : Dk K b D J2 (rawK vr vw wd wb y) _ := (kj1.x x4).add (v := .ref lb) (d := .list (us.map .int)) (.lst (SqL.of (hb_at nlb hl)) dps_int)
          have kj3 := kj2.put (kvs' := rawK vr vw wd (.ref lb) {y with bounds := us})
          refine ⟨_, rfl, D, _, rfl, dput (k := .inr "bounds") (kvs' := rawK vr vw wd (.ref lb) {y with bounds := us}) kj2.at_ (by show 14 ≤ 20; decide) rfl, rfl, {y with bounds := us}, dj2.own hD hDn, ((xj.trans x3).trans x4).mut hDn, ⟨wd, .ref lb, kj3.nb, kj3.at_, fun v hv => kj3.dp v ?_⟩, ⟨g.rows, g.wy, ⟨g.gl.ways, g.gl.widths, g.gl.turn, g.gl.numbers, g.gl.head, g.gl.places, g.gl.cost, g.gl.period, g.gl.quiet, g.gl.silent, g.gl.losses, g.gl.fits⟩, g.size, ⟨q1, by show us.length ≤ 4; omega, fun e he => (by have := q3 e he; omega), q4⟩⟩, ry, wy⟩
          unfold rawV at hv ⊢
          simp only [List.mem_cons, List.mem_append, List.not_mem_nil, or_false] at hv ⊢
          rcases hv with h | h | h | h <;> simp [h]
      · rintro σ J ⟨rfl, hp⟩
        refine ⟨fun σ M => σ = [some (.ref a), some (.ref b), some (.ref r), some (.ref D), o4, o5, o6] ∧ OthP K a b D vr vw ns H M x, ?_, ?_⟩
        · obtain ⟨y, dj, xj, ⟨wd, wb, kj⟩, g, ry, wy⟩ := hp
          refine ⟨_, rfl, _, rfl, a, b, ns, 3, rfl, dj.1, dj.2.1, dj.2.2, by omega, by omega, fun c J1 c0 c8 s3 x3 => ⟨rfl, _, rfl, ?_⟩⟩
          have dj1 := dj.x s3 x3
          have kj1 := kj.x x3
          cases decide (V.int c = V.int 0)
          · exact iteF ⟨rfl, y, dj1, xj.trans x3, ⟨wd, wb, kj1⟩, g, ry, wy⟩
          · refine iteT ⟨_, rfl, _, rfl, a, b, ns, 3, 6, rfl, dj1, by omega, by omega, by omega, by omega, fun lb us J2 dj2 x4 nlb hln hl ris => ?_⟩
            obtain ⟨q1, q2, q3, q4⟩ := ris
            have kj2 : Dk K b D J2 (rawK vr vw wd wb y) _ := (kj1.x x4).add (v := .ref lb) (d := .list (us.map .int)) (.lst (SqL.of (hb_at nlb hl)) dps_int)
            have kj3 := kj2.put (kvs' := rawK vr vw (.ref lb) wb {y with widths := us})
            refine ⟨_, rfl, D, _, rfl, dput (k := .inr "widths") (kvs' := rawK vr vw (.ref lb) wb {y with widths := us}) kj2.at_ (by show 14 ≤ 20; decide) rfl, rfl, {y with widths := us}, dj2.own hD hDn, ((xj.trans x3).trans x4).mut hDn, ⟨.ref lb, wb, kj3.nb, kj3.at_, fun v hv => kj3.dp v ?_⟩, ⟨g.rows, g.wy, ⟨g.gl.ways, ⟨q1, by show us.length ≤ 8; omega, fun e he => (by have := q3 e he; omega), q4⟩, g.gl.turn, g.gl.numbers, g.gl.head, g.gl.places, g.gl.cost, g.gl.period, g.gl.quiet, g.gl.silent, g.gl.losses, g.gl.fits⟩, g.size, g.bounds⟩, ry, wy⟩
            unfold rawV at hv ⊢
            simp only [List.mem_cons, List.mem_append, List.not_mem_nil, or_false] at hv ⊢
            rcases hv with h | h | h | h <;> simp [h]
        · rintro σ J ⟨rfl, hp⟩
          refine ⟨fun σ M => σ = [some (.ref a), some (.ref b), some (.ref r), some (.ref D), o4, o5, o6] ∧ OthP K a b D vr vw ns H M x, ?_, ?_⟩
          · obtain ⟨y, dj, xj, ⟨wd, wb, kj⟩, g, ry, wy⟩ := hp
            refine ⟨_, rfl, _, rfl, a, b, ns, 8, rfl, dj.1, dj.2.1, dj.2.2, by omega, by omega, fun c J1 c0 c8 s3 x3 => ⟨rfl, _, rfl, ?_⟩⟩
            have dj1 := dj.x s3 x3
            have kj1 := kj.x x3
            cases decide (V.int c = V.int 0)
            · exact iteF ⟨rfl, y, dj1, xj.trans x3, ⟨wd, wb, kj1⟩, g, ry, wy⟩
            · refine iteT ⟨_, rfl, _, rfl, a, b, ns, 40, rfl, dj1.1, dj1.2.1, dj1.2.2, by omega, by omega, fun n J2 n0 n3 s4 x4 => ⟨_, _, rfl, rfl, _, rfl, D, _, rfl, dput (k := .inr "quiet") (kvs' := rawK vr vw wd wb {y with quiet := 1 + n}) (kj1.x x4).at_ (by show 14 ≤ 20; decide) rfl, rfl, {y with quiet := 1 + n}, (dj1.x s4 x4).own hD hDn, ((xj.trans x3).trans x4).mut hDn, ⟨wd, wb, (kj1.x x4).put⟩, ⟨g.rows, g.wy, ⟨g.gl.ways, g.gl.widths, g.gl.turn, g.gl.numbers, g.gl.head, g.gl.places, g.gl.cost, g.gl.period, ⟨by dsimp only; omega, by dsimp only; omega⟩, g.gl.silent, g.gl.losses, g.gl.fits⟩, g.size, g.bounds⟩, ry, wy⟩⟩
          · rintro σ J ⟨rfl, hp⟩
            exact ⟨_, rfl, k D J hp⟩
end
end K02

set_option Elab.async false
set_option maxRecDepth 100000
set_option maxHeartbeats 4000000
namespace K02
open PySem PySem.Spec PyProof.Rows L2
open K18 (StB ExtB spDrawB)
def Good3 (L : List (List PyData)) : Prop := 0 < L.length ∧ L.length ≤ 3 ∧ ∀ r ∈ L, 0 < r.length ∧ r.length ≤ 6 ∧ ∀ d ∈ r, letterD d = true ∧ SmL d
theorem Good3.ok {L : List (List PyData)} (g : Good3 L) {r : List PyData} (h : r ∈ L) {d : PyData} (hd : itemsD d = some r) : okRow d = true := by
  obtain ⟨a, b, c⟩ := g.2.2 r h
  unfold okRow
  rw [hd]
  show (r.all letterD && (decide (0 < r.length) && decide (r.length ≤ 6))) = true
  rw [decide_eq_true a, decide_eq_true b, List.all_eq_true.mpr fun d hd => (c d hd).1]; rfl
section
variable {P : Program} {w : World} {K : PySem.W.Frag} {mg : Str → Option Value} {base : Heap} {A : Ad}
theorem mk_mail {J : Hp} {v : V} {d : PyData} {ds : List PyData} {L : List (List PyData)} {x dx : Addr} {Q : VK} {E : XK} (hd : Dp K J v d) (hi : itemsD d = some ds) (hr : ds.map itemsD = L.map some) (g : Good3 L) (hx : J x = none) (hdx : J dx = none) (hne : dx ≠ x) (q : ∀ H', Ext J H' → MailAt K A H' x L → Q .non H') : spInitOk K A [.ref x, v] (upd (upd J dx (.own x)) x (.ins A.Mail dx [])) Q E := by
  have e3 : Ext J (upd (upd J dx (.own x)) x (.ins A.Mail dx [])) := (Ext.upd hdx).trans (Ext.upd (by rw [upd_ne hne.symm]; exact hx))
  have hlen : ds.length = L.length := by
    have := congrArg List.length hr
    rwa [List.length_map, List.length_map] at this
  have hrd : ∀ (ds : List PyData) (L : List (List PyData)), ds.map itemsD = L.map some → rowsD ds = L := fun ds => by
    induction ds with
    | nil => intro L h; cases L with
      | nil => rfl
      | cons _ _ => cases h
    | cons d ds ih => intro L h; cases L with
      | nil => cases h
      | cons r L =>
        injection h with h1 h2
        show (itemsD d).getD [] :: rowsD ds = r :: L
        rw [h1, ih L h2]; rfl
  refine ⟨x, dx, v, d, ds, rfl, upd_same, dp_ext e3 _ _ hd, hi, by rw [hlen]; exact g.1, by rw [hlen]; exact g.2.1, fun r hr' => ?_, fun H' hM hk => ?_⟩
  · have hm : itemsD r ∈ L.map some := by rw [← hr]; exact List.mem_map.mpr ⟨r, hr', rfl⟩
    obtain ⟨rs, hrs, e⟩ := List.mem_map.mp hm
    refine ⟨g.ok hrs e.symm, fun rs' h y hy => ?_⟩
    rw [← e] at h
    cases h
    exact ((g.2.2 rs hrs).2.2 y hy).2
  · rw [hrd ds L hr] at hM
    refine q H' (fun y o ho => ?_) hM
    exact hk y o (fun z => by rw [z, hx] at ho; cases ho) (e3 _ _ ho)
theorem wayY_keep {H H' : Hp} {D q : Addr} {d : Wy} {ys : List V} (hD : H D = some (.lst ys)) (e : ∀ x o, x ≠ D → H x = some o → H' x = some o) (h : WayY K A H q d) : WayY K A H' q d := by
  obtain ⟨dx, Tb, xs, h1, h2, h3⟩ := h
  have tk : ∀ a us, SqT K H a us → SqT K H' a us := fun a us z => sqT_mutL hD e z
  exact ⟨dx, Tb, xs, e _ _ (fun z => by rw [z, hD] at h1; cases h1) h1, tk _ _ h2, box_keep tk h3⟩
theorem WaysY.mutL {H H' : Hp} {D : Addr} {ws ys : List V} {ds : List Wy} (hD : H D = some (.lst ys)) (e : ∀ x o, x ≠ D → H x = some o → H' x = some o) (h : WaysY K A H ws ds) : WaysY K A H' ws ds := ⟨h.1, fun i x d h1 h2 => by
  obtain ⟨q, e1, e2⟩ := h.2 i x d h1 h2
  exact ⟨q, e1, wayY_keep hD e e2⟩⟩
theorem WaysY.snoc {H : Hp} {ws : List V} {ds : List Wy} {q : Addr} {d : Wy} (h : WaysY K A H ws ds) (w : WayY K A H q d) : WaysY K A H (ws ++ [.ref q]) (ds ++ [d]) :=
  ⟨by rw [List.length_append, List.length_append, h.1]; rfl, fun i x z hx hz => by
    by_cases hi : i < ds.length
    · rw [List.getElem?_append_left hi] at hz
      rw [List.getElem?_append_left (by rw [h.1]; exact hi)] at hx
      exact h.2 i x z hx hz
    · rw [List.getElem?_append_right (by omega)] at hz
      rw [List.getElem?_append_right (by rw [h.1]; omega), h.1] at hx
      cases hj : i - ds.length with
      | succ j => rw [hj] at hz; cases hz
      | zero =>
        rw [hj] at hz hx
        cases hz
        cases hx
        exact ⟨q, rfl, w⟩⟩
def spMadeWays (K : PySem.W.Frag) (A : Ad) : Sp := fun vs H Q _ => ∃ (b r : Addr) (x : LnD), vs = [.ref r] ∧ RawAt K b H r x ∧ GoodR x ∧ ∀ M ps H', Ext H H' → H' M = some (.lst ps) → WaysY K A H' ps x.ways → Q (.ref M) H'
theorem ok_madeWays {f : Addr} {fd : FuncData} (F : Fun K "_law_made_ways" "_law_made_ways" s__law_made_ways f fd) (T : Txt K mg A) (O_Way : OwnC P w K mg base (L2.CX P w) "Way" A.Way 5 pm_Way_init (K15.spWayInit K A)) : FnOk P w K mg base CX0 8 f fd pm__law_made_ways (spMadeWays K A) := by
  refine F.ok sc__law_made_ways (fun vs H Q E h => ?_) (fun cdv A' outer sh H vs Q E hr h => ?_)
  · obtain ⟨_, _, _, rfl, _⟩ := h
    rfl
  · obtain ⟨b, r, x, rfl, ⟨vr, vw, vd, vb, hk⟩, g, k⟩ := h
    refine ⟨_, pss_one (ps_ret (pe_lc (own := [("_law_begin", 1), ("_law_low", 2), ("_law_high", 3), ("_law_boxes", 4)]) (g := gTup K 4 (gCons (gName 1) (gCons (gName 2) (gCons (gName 3) (gCons (gName 4) (gNil)))))) (by rfl) sc__law_made_ways.nd (pi_list (pe_dget (un1 hr.units) (pv 0) (pe_str) (fun _ _ => rfl))) (blkOk_by (own := [("_law_begin", 1), ("_law_low", 2), ("_law_high", 3), ("_law_boxes", 4)]) (N := nm__law_made_ways) (sc := defScope s__law_made_ways) (by decide +kernel)) (fun _ _ _ _ _ => pg_tup rfl (pgs_cons (pg_name (i := 1) sc__law_made_ways.nd rfl (Or.inl rfl)) (pgs_cons (pg_name (i := 2) sc__law_made_ways.nd rfl (Or.inl rfl)) (pgs_cons (pg_name (i := 3) sc__law_made_ways.nd rfl (Or.inl rfl)) (pgs_cons (pg_name (i := 4) sc__law_made_ways.nd rfl (Or.inl rfl)) (pgs_nil)))))) (fun s1 H1 C1 cl fp => pts_nil) (fun s1 H1 C1 cl fp => pe_new O_Way (hr.mono (by decide)) passL (pa_cons (pv 1) (pa_cons (pv 2) (pa_cons (pv 3) (pa_cons (pv 4) pa_nil))))))), ?_⟩
    have hvw : Dp K H vw (.list (x.ways.map wayDat)) := dp_ext hb_ext _ _ (hk.dp (vw, .list (x.ways.map wayDat)) (by unfold rawV; simp))
    obtain ⟨lw, xs, rfl, hx, hxa⟩ : ∃ lw xs, vw = .ref lw ∧ SqL K H lw xs ∧ DpAll K H xs (x.ways.map wayDat) := by
      cases hvw with
      | lst h1 h2 => exact ⟨_, _, rfl, h1, h2⟩
    have hl : xs.length = x.ways.length := by rw [dps_len hxa, List.length_map]
    have hw4 := g.gl.ways.2
    refine ⟨_, rfl, r, .ref lw, rfl, DGet.k (k := .inr "ways") hk.at_, lw, rfl, ⟨xs, hx⟩, fun M hM => ?_⟩
    refine lc_list (xs := xs) (fun i J => Ext H J ∧ ∃ ps, J M = some (.lst ps) ∧ WaysY K A J ps (x.ways.take i)) ⟨Ext.upd hM, [], upd_same, ⟨rfl, fun i x d h => nomatch h⟩⟩ (fun i J _ pv => hx.ext pv.1) (fun i v J hi pv => ?_) (fun J pv => ?_)
    · obtain ⟨e1, ps, hps, hw⟩ := pv
      obtain ⟨dd, hdd, hdv⟩ := dps_get (dps_ext e1 _ _ hxa) hi
      rw [List.getElem?_map] at hdd
      obtain ⟨d, hdi, rfl⟩ := Option.map_eq_some_iff.mp hdd
      obtain ⟨q, vbx, rfl, hq, hbx⟩ := way_open hdv
      have hgd := g.wy d (List.mem_of_getElem? hdi)
      refine ⟨q, _, rfl, hq, rfl, _, _, rfl, _, _, rfl, _, _, rfl, _, _, rfl, rfl, rfl, ?_⟩
      refine ⟨_, rfl, _, rfl, _, rfl, _, rfl, fun x0 dn hx0 hdx0 hne0 => K15.mk_way hx0 hdx0 hne0 hgd.1 hgd.2 hbx (.inl rfl) fun H2 e2 hw2 => ⟨rfl, ps, e2 _ _ hps, ?_, ?_⟩⟩
      · have z := hw.1
        rw [List.length_take] at z
        exact small_sz (by omega)
      · have hM2 := e2 _ _ hps
        have mt : ∀ y o, y ≠ M → H2 y = some o → upd H2 M (.lst (ps ++ [.ref x0])) y = some o := fun y o hy h => by
          rw [upd_ne hy]
          exact h
        refine ⟨ext_mut (e1.trans e2) hM, ps ++ [.ref x0], upd_same, ?_⟩
        rw [List.take_add_one, hdi]
        exact ((hw.ext e2).mutL hM2 mt).snoc (wayY_keep (d := d) hM2 mt hw2)
    · obtain ⟨e1, ps, hps, hw⟩ := pv
      rw [hl, List.take_length] at hw
      exact k M ps J e1 hps hw
def spLineL (K : PySem.W.Frag) (A : Ad) : Sp := fun vs H Q _ => ∃ (b r : Addr) (x : LnD), vs = [.ref r] ∧ RawAt K b H r x ∧ GoodR x ∧ ∀ p H', Ext H H' → LineAt K A H' p x → Q (.ref p) H'
theorem ok_lineL {f : Addr} {fd : FuncData} (F : Fun K "_law_line" "_law_line" s__law_line f fd) (T : Txt K mg A) (O__law_made_ways : Own P w K mg base CX0 "_law_made_ways" 8 pm__law_made_ways (spMadeWays K A)) (O_Mail : OwnC P w K mg base (L2.CX P w) "Mail" A.Mail 7 pm_Mail_init (spInitOk K A)) (O_Room : OwnC P w K mg base (L2.CX P w) "Room" A.Room 3 pm_Room_init (K08.spRoomInit K A))
    (O_Steps : OwnC P w K mg base (L2.CX P w) "Steps" A.Steps 3 pm_Steps_init (K08.spStepsInit K A)) (O_Line : OwnCK P w K mg base (L2.CX P w) "Line" A.Line 6 pm_Line_init 3 ["turn", "numbers", "room", "head", "places", "cost", "period", "quiet", "silent", "losses"] (spLineInit K A)) : FnOk P w K mg base CX0 10 f fd pm__law_line (spLineL K A) := by
  refine F.ok sc__law_line (fun vs H Q E h => ?_) (fun cdv A' outer sh H vs Q E hr h => ?_)
  · obtain ⟨_, _, _, rfl, _⟩ := h
    rfl
  · obtain ⟨b, r, x, rfl, hR, g, k⟩ := h
    have tkw := hr
    refine ⟨_, pss_cons (ps_set (i := 1) sc__law_line.nd rfl (Or.inl rfl) (pe_new O_Mail (hr.mono (by decide)) passL (pa_cons (pe_dget (un1 hr.units) (pv 0) (pe_str) (fun _ _ => rfl)) pa_nil)))
      (pss_cons (ps_set (i := 2) sc__law_line.nd rfl (Or.inl rfl) (pe_new O_Room (hr.mono (by decide)) passL (pa_cons (pe_dget (un1 hr.units) (pv 0) (pe_str) (fun _ _ => rfl)) (pa_cons (pe_new O_Steps (hr.mono (by decide)) passL (pa_cons (pe_dget (un1 hr.units) (pv 0) (pe_str) (fun _ _ => rfl)) pa_nil)) pa_nil))))
      (pss_one (ps_ret (pe_newKS O_Line (hr.mono (by decide)) takes0 (pa_cons (pv 1) (pa_cons (pe_own O__law_made_ways (hr.mono (by decide)) pass0 (pa_cons (pv 0) pa_nil)) (pa_cons (pe_dget (un1 hr.units) (pv 0) (pe_str) (fun _ _ => rfl)) pa_nil))) (pk_cons (pe_dget (un1 hr.units) (pv 0) (pe_str) (fun _ _ => rfl)) (pk_cons (pe_dget (un1 hr.units) (pv 0) (pe_str) (fun _ _ => rfl)) (pk_cons (pv 2) (pk_cons (pe_dget (un1 hr.units) (pv 0) (pe_str) (fun _ _ => rfl)) (pk_cons (pe_dget (un1 hr.units) (pv 0) (pe_str) (fun _ _ => rfl)) (pk_cons (pe_dget (un1 hr.units) (pv 0) (pe_str) (fun _ _ => rfl)) (pk_cons (pe_dget (un1 hr.units) (pv 0) (pe_str) (fun _ _ => rfl)) (pk_cons (pe_dget (un1 hr.units) (pv 0) (pe_str) (fun _ _ => rfl)) (pk_cons (pe_dget (un1 hr.units) (pv 0) (pe_str) (fun _ _ => rfl)) (pk_cons (pe_dget (un1 hr.units) (pv 0) (pe_str) (fun _ _ => rfl)) (pk_nil))))))))))))))), ?_⟩
    obtain ⟨vr, vw, vd, vb, hk⟩ := id hR
    have hvr : Dp K H vr (.list (x.rows.map .list)) := dp_ext hb_ext _ _ (hk.dp (vr, .list (x.rows.map .list)) (by unfold rawV; simp))
    have hvd : Dp K H vd (.list (x.widths.map .int)) := dp_ext hb_ext _ _ (hk.dp (vd, .list (x.widths.map .int)) (by unfold rawV; simp))
    have hvb : Dp K H vb (.list (x.bounds.map .int)) := dp_ext hb_ext _ _ (hk.dp (vb, .list (x.bounds.map .int)) (by unfold rawV; simp))
    refine ⟨_, rfl, r, vr, rfl, DGet.k (k := .inr "rows") hk.at_, fun m dm hm hdm hnem => mk_mail (L := x.rows) hvr rfl (by rw [List.map_map]; rfl) ⟨g.rows.1, Nat.le_trans g.rows.2.1 (by decide), fun r hr => ⟨(g.rows.2.2 r hr).1, Nat.le_trans (g.rows.2.2 r hr).2.1 (by decide), (g.rows.2.2 r hr).2.2⟩⟩ hm hdm hnem fun H1 e1 hM => ⟨rfl, ?_⟩⟩
    have kk1 := hk.x (K18.Ext.b (b := b) e1)
    refine ⟨_, rfl, r, .int x.size, rfl, DGet.k (k := .inr "size") kk1.at_, _, rfl, r, vb, rfl, DGet.k (k := .inr "bounds") kk1.at_, fun s ds hs hds hnes => K08.mk_steps hs hds hnes (dp_ext e1 _ _ hvb) (.inl rfl) g.bounds fun H2 e2 hS => ⟨rfl, ?_⟩⟩
    refine fun rm dr hrm hdr hner => K08.mk_room hrm hdr hner g.size.1 g.size.2 hS fun H3 e3 hRm => ⟨rfl, ?_⟩
    obtain ⟨g0, xs0, rfl, hg0, hga⟩ : ∃ g0 xs0, vd = .ref g0 ∧ SqL K H g0 xs0 ∧ DpAll K H xs0 (x.widths.map .int) := by
      cases hvd with
      | lst h1 h2 => exact ⟨_, _, rfl, h1, h2⟩
    obtain rfl := K08.dps_int hga
    have e13 := (e1.trans e2).trans e3
    refine ⟨_, rfl, _, rfl, b, r, x, rfl, hR.x (K18.Ext.b e13), g, fun M ps H4 e4 hM4 hW => ?_⟩
    have e14 := e13.trans e4
    have kk4 := hk.x (K18.Ext.b (b := b) e14)
    refine ⟨_, rfl, r, .ref g0, rfl, DGet.k (k := .inr "widths") kk4.at_, _, rfl, r, .int x.turn, rfl, DGet.k (k := .inr "turn") kk4.at_, _, rfl, r, .int x.numbers, rfl, DGet.k (k := .inr "numbers") kk4.at_, _, rfl, _, rfl, r, .int x.head, rfl, DGet.k (k := .inr "head") kk4.at_, _, rfl, r, .int x.places, rfl, DGet.k (k := .inr "places") kk4.at_, _, rfl, r, .int x.cost, rfl, DGet.k (k := .inr "cost") kk4.at_, _, rfl, r, .int x.period, rfl, DGet.k (k := .inr "period") kk4.at_, _, rfl, r, .int x.quiet, rfl, DGet.k (k := .inr "quiet") kk4.at_, _, rfl, r, .int x.silent, rfl, DGet.k (k := .inr "silent") kk4.at_, _, rfl, r, .int x.losses, rfl, DGet.k (k := .inr "losses") kk4.at_, rfl, rfl, fun o dx ho hdx hne => ?_⟩
    have e0 := (Ext.upd (o := .own o) hdx).upd' (o := .ins A.Line dx []) (by rw [upd_ne hne.symm]; exact ho)
    refine ⟨o, dx, m, M, g0, rm, ps, x, rfl, upd_same, hM.ext (((e2.trans e3).trans e4).trans e0), (SqL.of hM4).ext e0, hW.ext e0, (hg0.ext e14).ext e0, K08.RmAt.ext hRm (e4.trans e0), g.gl, fun H' hL hkp => ⟨rfl, k o H' (fun y u h => hkp y u (ne_of_none (e14 _ _ h) ho) (e0 _ _ (e14 _ _ h))) hL⟩⟩
end
end K02

set_option Elab.async false
set_option maxRecDepth 100000
set_option maxHeartbeats 4000000
namespace K02
open PySem PySem.Spec PyProof.Rows L2
open K18 (StB ExtB spDrawB)
theorem mild_iff {x y : LnD} : milder x y = true ↔ (x.turn = y.turn ∧ x.period = y.period ∧ x.quiet = y.quiet) ∧ (hd0 y.widths ≤ hd0 x.widths ∧ hd0 x.bounds = hd0 y.bounds) ∧ (∀ b ∈ y.bounds, b ∈ x.bounds) ∧ (y.numbers ≤ x.numbers ∧ y.size ≤ x.size ∧ y.places ≤ x.places) ∧ x.head ≤ y.head ∧ x.cost ≤ y.cost ∧ x.silent ≤ y.silent ∧ x.losses ≤ y.losses := by
  unfold milder rmMilder
  simp only [Bool.and_eq_true, decide_eq_true_eq, List.all_eq_true]
  constructor
  · rintro ⟨⟨⟨⟨⟨⟨⟨⟨⟨⟨a, b⟩, c⟩, d⟩, e⟩, f⟩, g⟩, h⟩, i⟩, j⟩, ⟨k, l⟩, m⟩
    exact ⟨⟨a, b, c⟩, ⟨e, l⟩, m, ⟨d, k, f⟩, g, h, i, j⟩
  · rintro ⟨⟨a, b, c⟩, ⟨e, l⟩, m, ⟨d, k, f⟩, g, h, i, j⟩
    exact ⟨⟨⟨⟨⟨⟨⟨⟨⟨⟨a, b⟩, c⟩, d⟩, e⟩, f⟩, g⟩, h⟩, i⟩, j⟩, ⟨k, l⟩, m⟩
theorem mild_tr {x y z : LnD} (h1 : milder x y = true) (h2 : milder y z = true) : milder x z = true := by
  obtain ⟨⟨a, b, c⟩, ⟨e, l⟩, m, ⟨d, k, f⟩, g, h, i, j⟩ := mild_iff.mp h1
  obtain ⟨⟨a', b', c'⟩, ⟨e', l'⟩, m', ⟨d', k', f'⟩, g', h', i', j'⟩ := mild_iff.mp h2
  exact mild_iff.mpr ⟨⟨a.trans a', b.trans b', c.trans c'⟩, ⟨by omega, by omega⟩, fun b hb => m b (m' b hb), ⟨by omega, by omega, by omega⟩, by omega, by omega, by omega, by omega⟩
theorem mild_self (x : LnD) : milder x x = true := mild_iff.mpr ⟨⟨rfl, rfl, rfl⟩, ⟨Int.le_refl _, rfl⟩, fun _ h => h, ⟨Int.le_refl _, Int.le_refl _, Int.le_refl _⟩, Int.le_refl _, Int.le_refl _, Int.le_refl _, Int.le_refl _⟩
theorem al_small : ∀ c ∈ (("abcdefghijklmnopqrstuvwxyz" : Str)).cps.toList, c < 128 := by decide +kernel
theorem name_ok {s : Str} (h : nameS s = true) : PyData.strOk s = true := by
  unfold nameS at h
  rw [Bool.and_eq_true, List.all_eq_true] at h
  unfold PyData.strOk
  rw [← Array.all_toList, List.all_eq_true]
  intro c hc
  have z := h.2 c hc
  unfold inAl at z
  rw [decide_eq_true_eq] at z
  have := al_small c z
  rw [decide_eq_true_eq]
  omega
def Lay (n : Nat) (d : PyData) : Prop := d.canLay0 = true ∧ d.depth ≤ n
theorem lay_alls {n : Nat} : ∀ {ds : List PyData}, (∀ d ∈ ds, Lay n d) → PyData.canLayAll0 ds = true ∧ PyData.depthAll ds ≤ n
  | [], _ => ⟨rfl, Nat.zero_le _⟩
  | d :: ds, h => by
    obtain ⟨a1, a2⟩ := h d List.mem_cons_self
    obtain ⟨b1, b2⟩ := lay_alls (ds := ds) fun x hx => h x (List.mem_cons_of_mem _ hx)
    refine ⟨?_, ?_⟩
    · show (d.canLay0 && PyData.canLayAll0 ds) = true
      rw [a1, b1]; rfl
    · show max d.depth (PyData.depthAll ds) ≤ n
      omega
theorem Lay.list {n : Nat} {ds : List PyData} (h : ∀ d ∈ ds, Lay n d) : Lay (n + 1) (.list ds) := by
  obtain ⟨a, b⟩ := lay_alls h
  exact ⟨a, Nat.succ_le_succ b⟩
theorem Lay.tup {n : Nat} {ds : List PyData} (h : ∀ d ∈ ds, Lay n d) : Lay (n + 1) (.tuple ds) := by
  obtain ⟨a, b⟩ := lay_alls h
  exact ⟨a, Nat.succ_le_succ b⟩
theorem Lay.mono {n m : Nat} {d : PyData} (h : Lay n d) (l : n ≤ m) : Lay m d := ⟨h.1, Nat.le_trans h.2 l⟩
theorem Lay.shp {n : Nat} {d : PyData} (h : Lay n d) (hn : n ≤ 64 := by decide) : SeqAt.shaped d = true := by
  show (d.canLay0 && decide (d.depth ≤ 64)) = true
  rw [h.1, decide_eq_true (Nat.le_trans h.2 hn)]; rfl
theorem Lay.refl {n : Nat} {d : PyData} (h : Lay n d) : PyData.eqv d d = true := PySem.SeqAt.eqv_refl d h.1
theorem lay_int (i : Int) : Lay 0 (.int i) := ⟨rfl, Nat.le_refl _⟩
theorem lay_non : Lay 0 .none := ⟨rfl, Nat.le_refl _⟩
theorem lay_str {s : Str} (h : PyData.strOk s = true) : Lay 0 (.str s) := ⟨h, Nat.le_refl _⟩
theorem lay_name {d : PyData} (h : nameD d = true) : Lay 0 d := by
  cases d <;> first | (cases h; done) | exact lay_str (name_ok h)
theorem lay_let {d : PyData} (h : letterD d = true) : Lay 2 d := by
  unfold letterD at h
  split at h
  · rename_i hs b
    rw [Bool.and_eq_true, Bool.and_eq_true] at h
    obtain ⟨i, rfl, _, _⟩ := bet_yes h.2.2
    refine Lay.tup (n := 1) fun d hd => ?_
    rcases List.mem_cons.mp hd with rfl | hd
    · exact Lay.tup (n := 0) fun x hx => lay_name (List.all_eq_true.mp h.2.1 x hx)
    · rw [List.mem_singleton.mp hd]
      exact (lay_int _).mono (by decide)
  · cases h
theorem ne_sameD {K : PySem.W.Frag} {H : Hp} {x y : V} {d : PyData} {n : Nat} {Q : VK} (hx : Dp K H x d) (hy : Dp K H y d) (l : Lay n d) (q : Q (.bl false) H) (hn : n ≤ 64 := by decide) : rNeD K x y H Q := by
  refine ⟨d, d, hx, hy, l.shp hn, l.shp hn, ?_⟩
  rw [l.refl]
  exact q
theorem lay_box (bs : List K15.Bx) : Lay 2 (.list (bs.map K15.bxD)) := by
  obtain ⟨h1, h2⟩ := K15.lay_bxs bs
  exact ⟨h1, by show PyData.depthAll (bs.map K15.bxD) + 1 ≤ 2; omega⟩
theorem lay_way (d : Wy) : Lay 3 (wayDat d) := Lay.tup (n := 2) fun e he => by
  simp only [List.mem_cons, List.not_mem_nil, or_false] at he
  rcases he with rfl | rfl | rfl | rfl
  · cases d.1
    · exact (lay_non).mono (by decide)
    · exact (lay_int _).mono (by decide)
  · exact (lay_int _).mono (by decide)
  · exact (lay_int _).mono (by decide)
  · exact lay_box _
theorem lay_ways (ds : List Wy) : Lay 4 (.list (ds.map wayDat)) := Lay.list (n := 3) fun e he => by
  obtain ⟨d, _, rfl⟩ := List.mem_map.mp he
  exact lay_way d
theorem lay_rows {L : List (List PyData)} (g : GoodM L) : Lay 4 (.list (L.map PyData.list)) := Lay.list (n := 3) fun e he => by
  obtain ⟨r, hr, rfl⟩ := List.mem_map.mp he
  exact Lay.list (n := 2) fun d hd => lay_let ((g.2.2 r hr).2.2 d hd).1
section
variable {P : Program} {w : World} {K : PySem.W.Frag} {mg : Str → Option Value} {base : Heap} {A : Ad}
theorem ne_int {H : Hp} {a c : Int} {Q : VK} (q : Q (.bl (!decide (a = c))) H) : rNeD K (.int a) (.int c) H Q := ⟨.int a, .int c, .int _, .int _, rfl, rfl, by
  show Q (.bl (!PyData.eqv (.int a) (.int c))) H
  rw [K15.eqv_i, show (a == c) = decide (a = c) from rfl]
  exact q⟩
/-- what a raw line holds, put plainly -/
structure RawP (K : PySem.W.Frag) (H : Hp) (p : Addr) (x : LnD) where
  vr : V
  vw : V
  gd : Addr
  gb : Addr
  at_ : H p = some (.dK (rawK vr vw (.ref gd) (.ref gb) x))
  rows : Dp K H vr (.list (x.rows.map .list))
  ways : Dp K H vw (.list (x.ways.map wayDat))
  wd : SqL K H gd (x.widths.map V.int)
  bd : SqL K H gb (x.bounds.map V.int)
theorem RawAt.p {b p : Addr} {H : Hp} {x : LnD} (h : RawAt K b H p x) : Nonempty (RawP K H p x) := by
  obtain ⟨vr, vw, vd, vb, hk⟩ := h
  have h1 : Dp K H vr (.list (x.rows.map .list)) := dp_ext hb_ext _ _ (hk.dp (vr, .list (x.rows.map .list)) (by unfold rawV; simp))
  have h2 : Dp K H vw (.list (x.ways.map wayDat)) := dp_ext hb_ext _ _ (hk.dp (vw, .list (x.ways.map wayDat)) (by unfold rawV; simp))
  have h3 : Dp K H vd (.list (x.widths.map .int)) := dp_ext hb_ext _ _ (hk.dp (vd, .list (x.widths.map .int)) (by unfold rawV; simp))
  have h4 : Dp K H vb (.list (x.bounds.map .int)) := dp_ext hb_ext _ _ (hk.dp (vb, .list (x.bounds.map .int)) (by unfold rawV; simp))
  cases h3 with
  | lst g1 g2 =>
    cases h4 with
    | lst g3 g4 =>
      obtain rfl := K08.dps_int g2
      obtain rfl := K08.dps_int g4
      exact ⟨⟨vr, vw, _, _, hk.at_, h1, h2, g1, g3⟩⟩
def spDueL (K : PySem.W.Frag) : Sp := fun vs H Q _ => ∃ (b r q : Addr) (x y : LnD), vs = [.ref r, .ref q] ∧ RawAt K b H r x ∧ RawAt K b H q y ∧ GoodR x ∧ GoodR y ∧ x.rows = y.rows ∧ x.ways = y.ways ∧ ∀ H', Ext H H' → Q (.bl (milder x y)) H'
theorem ok_dueL {f : Addr} {fd : FuncData} (F : Fun K "_law_due" "_law_due" s__law_due f fd) (T : Txt K mg A) : FnOk P w K mg base CX0 1 f fd pm__law_due (spDueL K) := by
  refine F.ok sc__law_due (fun vs H Q E h => ?_) (fun cdv A' outer sh H vs Q E hr h => ?_)
  · obtain ⟨_, _, _, _, _, rfl, _⟩ := h
    rfl
  · obtain ⟨b, r, q, x, y, rfl, hx, hy, gx, gy, er, ew, k⟩ := h
    obtain ⟨px⟩ := hx.p
    obtain ⟨py⟩ := hy.p
    refine ⟨_, pss_cons (ps_for PassesOwn.never rfl (pi_list (pe_lst (pa_cons (pe_str) (pa_cons (pe_str) (pa_cons (pe_str) (pa_cons (pe_str) (pa_cons (pe_str) pa_nil))))))) (pg_name (i := 2) sc__law_due.nd rfl (Or.inl rfl)) (pss_one (ps_if (pt_cmpR (op_neD hr.units) (pe_dget (un1 hr.units) (pv 0) (pv 2) (fun _ _ => rfl)) (pe_dget (un1 hr.units) (pv 1) (pv 2) (fun _ _ => rfl)) (nomark _)) (pss_one (ps_ret (pe_bl))) (pss_nil))))
      (pss_cons (ps_if (PW.pt (pw_or (pt_cmpR op_lt (pe_ix ix_list (pe_dget (un1 hr.units) (pv 0) (pe_str) (fun _ _ => rfl)) (pe_int) (fun _ _ => rfl)) (pe_ix ix_list (pe_dget (un1 hr.units) (pv 1) (pe_str) (fun _ _ => rfl)) (pe_int) (fun _ _ => rfl)) (nomark _)) (pw_or1 (pt_cmpR op_ne (pe_ix ix_list (pe_dget (un1 hr.units) (pv 0) (pe_str) (fun _ _ => rfl)) (pe_int) (fun _ _ => rfl)) (pe_ix ix_list (pe_dget (un1 hr.units) (pv 1) (pe_str) (fun _ _ => rfl)) (pe_int) (fun _ _ => rfl)) (nomark _))))) (pss_one (ps_ret (pe_bl))) (pss_nil))
      (pss_cons (ps_if (pt_not (pt_val (pe_callB (cr_all rfl) (by rfl) T.n_all (by decide +kernel) (pa_cons (pe_lc (own := [("_law_bound", 3)]) (g := gName 3) (by rfl) sc__law_due.nd (pi_list (pe_dget (un1 hr.units) (pv 1) (pe_str) (fun _ _ => rfl))) (blkOk_by (own := [("_law_bound", 3)]) (N := nm__law_due) (sc := defScope s__law_due) (by decide +kernel)) (fun _ _ _ _ _ => pg_name (i := 3) sc__law_due.nd rfl (Or.inl rfl)) (fun s1 H1 C1 cl fp => pts_nil) (fun s1 H1 C1 cl fp => pe_cmpR (op_in_seqK (K := K) rfl) (pv 3) (pe_dget (un1 hr.units) (pv 0) (pe_str) (fun _ _ => rfl)) (by with_unfolding_all rfl))) pa_nil)))) (pss_one (ps_ret (pe_bl))) (pss_nil))
      (pss_cons (ps_if (pt_not (pt_val (pe_callB (cr_all rfl) (by rfl) T.n_all (by decide +kernel) (pa_cons (pe_lc (own := [("_law_word", 2)]) (g := gName 2) (by rfl) sc__law_due.nd (pi_list (pe_lst (pa_cons (pe_str) (pa_cons (pe_str) (pa_cons (pe_str) pa_nil))))) (blkOk_by (own := [("_law_word", 2)]) (N := nm__law_due) (sc := defScope s__law_due) (by decide +kernel)) (fun _ _ _ _ _ => pg_name (i := 2) sc__law_due.nd rfl (Or.inl rfl)) (fun s1 H1 C1 cl fp => pts_nil) (fun s1 H1 C1 cl fp => pe_cmpR op_ge (pe_dget (un1 hr.units) (pv 0) (pv 2) (fun _ _ => rfl)) (pe_dget (un1 hr.units) (pv 1) (pv 2) (fun _ _ => rfl)) (nomark _))) pa_nil)))) (pss_one (ps_ret (pe_bl))) (pss_nil))
      (pss_one (ps_ret (pe_callB (cr_all rfl) (by rfl) T.n_all (by decide +kernel) (pa_cons (pe_lc (own := [("_law_word", 2)]) (g := gName 2) (by rfl) sc__law_due.nd (pi_list (pe_lst (pa_cons (pe_str) (pa_cons (pe_str) (pa_cons (pe_str) (pa_cons (pe_str) pa_nil)))))) (blkOk_by (own := [("_law_word", 2)]) (N := nm__law_due) (sc := defScope s__law_due) (by decide +kernel)) (fun _ _ _ _ _ => pg_name (i := 2) sc__law_due.nd rfl (Or.inl rfl)) (fun s1 H1 C1 cl fp => pts_nil) (fun s1 H1 C1 cl fp => pe_cmpR op_le (pe_dget (un1 hr.units) (pv 0) (pv 2) (fun _ _ => rfl)) (pe_dget (un1 hr.units) (pv 1) (pv 2) (fun _ _ => rfl)) (nomark _))) pa_nil))))))), ?_⟩
    refine ⟨by show 5 ≤ sizeLine; decide, fun l hl => ?_⟩
    have el := Ext.upd (o := .lst [V.str "rows", .str "ways", .str "turn", .str "period", .str "quiet"]) hl
    have hl1 : upd H l (.lst [V.str "rows", .str "ways", .str "turn", .str "period", .str "quiet"]) l = some (.lst [V.str "rows", .str "ways", .str "turn", .str "period", .str "quiet"]) := upd_same
    generalize upd H l (.lst [V.str "rows", .str "ways", .str "turn", .str "period", .str "quiet"]) = H1 at el hl1 ⊢
    refine ⟨l, rfl, ⟨_, SqL.of hl1⟩, ?_⟩
    refine for_list (xs := [V.str "rows", .str "ways", .str "turn", .str "period", .str "quiet"]) (fun i σ' J => (∃ o2 o3, σ' = [some (.ref r), some (.ref q), o2, o3]) ∧ J = H1 ∧ (3 ≤ i → x.turn = y.turn) ∧ (4 ≤ i → x.period = y.period) ∧ (5 ≤ i → x.quiet = y.quiet))
      ⟨⟨_, _, rfl⟩, rfl, fun h => absurd h (by decide), fun h => absurd h (by decide), fun h => absurd h (by decide)⟩ (fun i σ' J _ pv => pv.2.1 ▸ SqL.of hl1) (fun i v σ' J hi pv => ?_) (fun σ' J pv => ?_)
    · obtain ⟨⟨o2, o3, rfl⟩, rfl, t1, t2, t3⟩ := pv
      rcases i with _ | _ | _ | _ | _ | i
      · cases hi
        refine ⟨_, rfl, _, rfl, r, px.vr, rfl, DGet.k (k := .inr "rows") (el _ _ px.at_), _, rfl, _, rfl, q, py.vr, rfl, DGet.k (k := .inr "rows") (el _ _ py.at_), ne_sameD (dp_ext el _ _ px.rows) (er ▸ dp_ext el _ _ py.rows) (lay_rows gx.rows) ⟨_, rfl, ?_⟩⟩
        exact iteF ⟨⟨_, _, rfl⟩, rfl, fun h => absurd h (by decide), fun h => absurd h (by decide), fun h => absurd h (by decide)⟩
      · cases hi
        refine ⟨_, rfl, _, rfl, r, px.vw, rfl, DGet.k (k := .inr "ways") (el _ _ px.at_), _, rfl, _, rfl, q, py.vw, rfl, DGet.k (k := .inr "ways") (el _ _ py.at_), ne_sameD (dp_ext el _ _ px.ways) (ew ▸ dp_ext el _ _ py.ways) (lay_ways _) ⟨_, rfl, ?_⟩⟩
        exact iteF ⟨⟨_, _, rfl⟩, rfl, fun h => absurd h (by decide), fun h => absurd h (by decide), fun h => absurd h (by decide)⟩
      · cases hi
        refine ⟨_, rfl, _, rfl, r, .int x.turn, rfl, DGet.k (k := .inr "turn") (el _ _ px.at_), _, rfl, _, rfl, q, .int y.turn, rfl, DGet.k (k := .inr "turn") (el _ _ py.at_), ne_int ⟨_, rfl, ?_⟩⟩
        by_cases h : x.turn = y.turn
        · rw [decide_eq_true h]
          exact iteF ⟨⟨_, _, rfl⟩, rfl, fun _ => h, fun h => absurd h (by decide), fun h => absurd h (by decide)⟩
        · rw [decide_eq_false h]
          have kk := k J el
          rw [Bool.eq_false_iff.mpr fun z => h (mild_iff.mp z).1.1] at kk
          exact iteT kk
      · cases hi
        refine ⟨_, rfl, _, rfl, r, .int x.period, rfl, DGet.k (k := .inr "period") (el _ _ px.at_), _, rfl, _, rfl, q, .int y.period, rfl, DGet.k (k := .inr "period") (el _ _ py.at_), ne_int ⟨_, rfl, ?_⟩⟩
        by_cases h : x.period = y.period
        · rw [decide_eq_true h]
          exact iteF ⟨⟨_, _, rfl⟩, rfl, fun _ => t1 (by decide), fun _ => h, fun h => absurd h (by decide)⟩
        · rw [decide_eq_false h]
          have kk := k J el
          rw [Bool.eq_false_iff.mpr fun z => h (mild_iff.mp z).1.2.1] at kk
          exact iteT kk
      · cases hi
        refine ⟨_, rfl, _, rfl, r, .int x.quiet, rfl, DGet.k (k := .inr "quiet") (el _ _ px.at_), _, rfl, _, rfl, q, .int y.quiet, rfl, DGet.k (k := .inr "quiet") (el _ _ py.at_), ne_int ⟨_, rfl, ?_⟩⟩
        by_cases h : x.quiet = y.quiet
        · rw [decide_eq_true h]
          exact iteF ⟨⟨_, _, rfl⟩, rfl, fun _ => t1 (by decide), fun _ => t2 (by decide), fun _ => h⟩
        · rw [decide_eq_false h]
          have kk := k J el
          rw [Bool.eq_false_iff.mpr fun z => h (mild_iff.mp z).1.2.2] at kk
          exact iteT kk
      · cases hi
    · obtain ⟨⟨o2, o3, rfl⟩, rfl, t1, t2, t3⟩ := pv
      replace t1 := t1 (by decide)
      replace t2 := t2 (by decide)
      replace t3 := t3 (by decide)
      have w1 := gx.gl.widths.1
      have w2 := gy.gl.widths.1
      have b1 := gx.bounds.1
      have b2 := gy.bounds.1
      refine ⟨_, rfl, r, .ref px.gd, rfl, DGet.k (k := .inr "widths") (el _ _ px.at_), px.gd, _, 0, _, rfl, rfl, px.wd.ext el, atI_hd w1, _, rfl, q, .ref py.gd, rfl, DGet.k (k := .inr "widths") (el _ _ py.at_), py.gd, _, 0, _, rfl, rfl, py.wd.ext el, atI_hd w2, _, _, rfl, rfl, _, rfl, ?_⟩
      by_cases h4 : hd0 x.widths < hd0 y.widths
      · rw [decide_eq_true h4]
        have kk := k J el
        rw [show milder x y = false from Bool.eq_false_iff.mpr fun z => (by have := (mild_iff.mp z).2.1.1; omega)] at kk
        exact iteT (iteT kk)
      rw [decide_eq_false h4]
      refine iteF ⟨_, rfl, r, .ref px.gb, rfl, DGet.k (k := .inr "bounds") (el _ _ px.at_), px.gb, _, 0, _, rfl, rfl, px.bd.ext el, atI_hd b1, _, rfl, q, .ref py.gb, rfl, DGet.k (k := .inr "bounds") (el _ _ py.at_), py.gb, _, 0, _, rfl, rfl, py.bd.ext el, atI_hd b2, rfl, _, rfl, ?_⟩
      rw [dvi]
      by_cases h5 : hd0 x.bounds = hd0 y.bounds
      rotate_left
      · rw [decide_eq_false h5]
        have kk := k J el
        rw [Bool.eq_false_iff.mpr fun z => h5 (mild_iff.mp z).2.1.2] at kk
        exact iteT kk
      rw [decide_eq_true h5]
      refine iteF ⟨_, rfl, q, .ref py.gb, rfl, DGet.k (k := .inr "bounds") (el _ _ py.at_), py.gb, rfl, ⟨_, py.bd.ext el⟩, fun D1 hD1 => ?_⟩
      have e1 := Ext.upd (o := .lst []) hD1
      refine lc_list (xs := y.bounds.map V.int) (fun i J' => Ext J J' ∧ J' D1 = some (.lst ((y.bounds.take i).map fun b => V.bl (decide (b ∈ x.bounds))))) ⟨e1, upd_same⟩ (fun i J' _ pv => py.bd.ext (el.trans pv.1)) (fun i v J' hi pv => ?_) (fun J' pv => ?_)
      · obtain ⟨ej, hlj⟩ := pv
        rw [List.getElem?_map] at hi
        obtain ⟨n, hn, rfl⟩ := Option.map_eq_some_iff.mp hi
        have hil := (List.getElem?_eq_some_iff.mp hn).1
        have b4 := gy.bounds.2.1
        refine ⟨rfl, _, rfl, _, rfl, r, .ref px.gb, rfl, DGet.k (k := .inr "bounds") ((el.trans ej) _ _ px.at_), px.gb, _, rfl, .inl (px.bd.ext (el.trans ej)), rfl, flat_ints, _, hlj, small_sz (by rw [List.length_map, List.length_take]; omega), ext_mut ej hD1, ?_⟩
        rw [upd_same, List.take_add_one, hn, List.map_append]
        show some (HO.lst (_ ++ [V.bl (inV (.int n) (x.bounds.map V.int))])) = _
        rw [inV_ints]
        rfl
      obtain ⟨ej, hlj⟩ := pv
      rw [List.length_map, List.take_length] at hlj
      refine ⟨D1, y.bounds.map fun b => decide (b ∈ x.bounds), rfl, SqL.of (by rw [hlj, List.map_map]; rfl), _, rfl, ?_⟩
      cases h6 : (y.bounds.map fun b => decide (b ∈ x.bounds)).all id with
      | false =>
        have kk := k J' (el.trans ej)
        rw [show milder x y = false from Bool.eq_false_iff.mpr fun z => (by
          rw [List.all_map] at h6
          have : y.bounds.all (id ∘ fun b => decide (b ∈ x.bounds)) = true := List.all_eq_true.mpr fun b hb => decide_eq_true ((mild_iff.mp z).2.2.1 b hb)
          rw [this] at h6
          cases h6)] at kk
        exact iteT kk
      | true =>
        have hall : ∀ b ∈ y.bounds, b ∈ x.bounds := fun b hb => by
          rw [List.all_map] at h6
          exact of_decide_eq_true (List.all_eq_true.mp h6 b hb)
        refine iteF ?_
        have eA := el.trans ej
        refine ⟨by show 3 ≤ sizeLine; decide, fun l2 hl2 => ?_⟩
        have x2 := Ext.upd (o := .lst [V.str "numbers", .str "size", .str "places"]) hl2
        have m2 : upd J' l2 (.lst [V.str "numbers", .str "size", .str "places"]) l2 = some (.lst [V.str "numbers", .str "size", .str "places"]) := upd_same
        generalize upd J' l2 (.lst [V.str "numbers", .str "size", .str "places"]) = M2 at x2 m2 ⊢
        have E2 := eA.trans x2
        refine ⟨l2, rfl, ⟨_, SqL.of m2⟩, fun D2 hD2 => ?_⟩
        refine lc_list (xs := [V.str "numbers", .str "size", .str "places"]) (fun i J' => Ext M2 J' ∧ J' D2 = some (.lst (([decide (y.numbers ≤ x.numbers), decide (y.size ≤ x.size), decide (y.places ≤ x.places)].take i).map V.bl))) ⟨Ext.upd hD2, upd_same⟩ (fun i J' _ pv => SqL.of (pv.1 _ _ m2)) (fun i v J' hi pv => ?_) (fun J' pv => ?_)
        · obtain ⟨ej, hlj⟩ := pv
          rcases i with _ | _ | _ | i
          · cases hi
            exact ⟨rfl, _, rfl, _, rfl, r, .int x.numbers, rfl, DGet.k (k := .inr "numbers") ((E2.trans ej) _ _ px.at_), _, rfl, _, rfl, q, .int y.numbers, rfl, DGet.k (k := .inr "numbers") ((E2.trans ej) _ _ py.at_), _, _, rfl, rfl, _, hlj, small_sz (by simp), ext_mut ej hD2, upd_same⟩
          · cases hi
            exact ⟨rfl, _, rfl, _, rfl, r, .int x.size, rfl, DGet.k (k := .inr "size") ((E2.trans ej) _ _ px.at_), _, rfl, _, rfl, q, .int y.size, rfl, DGet.k (k := .inr "size") ((E2.trans ej) _ _ py.at_), _, _, rfl, rfl, _, hlj, small_sz (by simp), ext_mut ej hD2, upd_same⟩
          · cases hi
            exact ⟨rfl, _, rfl, _, rfl, r, .int x.places, rfl, DGet.k (k := .inr "places") ((E2.trans ej) _ _ px.at_), _, rfl, _, rfl, q, .int y.places, rfl, DGet.k (k := .inr "places") ((E2.trans ej) _ _ py.at_), _, _, rfl, rfl, _, hlj, small_sz (by simp), ext_mut ej hD2, upd_same⟩
          · cases hi
        obtain ⟨ej2, hlj⟩ := pv
        refine ⟨D2, [decide (y.numbers ≤ x.numbers), decide (y.size ≤ x.size), decide (y.places ≤ x.places)], rfl, SqL.of hlj, ?_⟩
        refine ⟨_, rfl, ?_⟩
        cases h7 : [decide (y.numbers ≤ x.numbers), decide (y.size ≤ x.size), decide (y.places ≤ x.places)].all id with
        | false =>
          have kk := k _ (E2.trans ej2)
          rw [show milder x y = false from Bool.eq_false_iff.mpr fun z => (by
            obtain ⟨h1, h2, h3⟩ := (mild_iff.mp z).2.2.2.1
            rw [decide_eq_true h1, decide_eq_true h2, decide_eq_true h3] at h7
            cases h7)] at kk
          exact iteT kk
        | true =>
        simp only [List.all_cons, List.all_nil, id, Bool.and_true, Bool.and_eq_true, decide_eq_true_eq] at h7
        refine iteF ?_
        have eB := E2.trans ej2
        refine ⟨by show 4 ≤ sizeLine; decide, fun l3 hl3 => ?_⟩
        have x3 := Ext.upd (o := .lst [V.str "head", .str "cost", .str "silent", .str "losses"]) hl3
        have m3 : upd J' l3 (.lst [V.str "head", .str "cost", .str "silent", .str "losses"]) l3 = some (.lst [V.str "head", .str "cost", .str "silent", .str "losses"]) := upd_same
        generalize upd J' l3 (.lst [V.str "head", .str "cost", .str "silent", .str "losses"]) = M3 at x3 m3 ⊢
        have E3 := eB.trans x3
        refine ⟨l3, rfl, ⟨_, SqL.of m3⟩, fun D3 hD3 => ?_⟩
        refine lc_list (xs := [V.str "head", .str "cost", .str "silent", .str "losses"]) (fun i J' => Ext M3 J' ∧ J' D3 = some (.lst (([decide (x.head ≤ y.head), decide (x.cost ≤ y.cost), decide (x.silent ≤ y.silent), decide (x.losses ≤ y.losses)].take i).map V.bl))) ⟨Ext.upd hD3, upd_same⟩ (fun i J' _ pv => SqL.of (pv.1 _ _ m3)) (fun i v J' hi pv => ?_) (fun J' pv => ?_)
        · obtain ⟨ej, hlj⟩ := pv
          rcases i with _ | _ | _ | _ | i
          · cases hi
            exact ⟨rfl, _, rfl, _, rfl, r, .int x.head, rfl, DGet.k (k := .inr "head") ((E3.trans ej) _ _ px.at_), _, rfl, _, rfl, q, .int y.head, rfl, DGet.k (k := .inr "head") ((E3.trans ej) _ _ py.at_), _, _, rfl, rfl, _, hlj, small_sz (by simp), ext_mut ej hD3, upd_same⟩
          · cases hi
            exact ⟨rfl, _, rfl, _, rfl, r, .int x.cost, rfl, DGet.k (k := .inr "cost") ((E3.trans ej) _ _ px.at_), _, rfl, _, rfl, q, .int y.cost, rfl, DGet.k (k := .inr "cost") ((E3.trans ej) _ _ py.at_), _, _, rfl, rfl, _, hlj, small_sz (by simp), ext_mut ej hD3, upd_same⟩
          · cases hi
            exact ⟨rfl, _, rfl, _, rfl, r, .int x.silent, rfl, DGet.k (k := .inr "silent") ((E3.trans ej) _ _ px.at_), _, rfl, _, rfl, q, .int y.silent, rfl, DGet.k (k := .inr "silent") ((E3.trans ej) _ _ py.at_), _, _, rfl, rfl, _, hlj, small_sz (by simp), ext_mut ej hD3, upd_same⟩
          · cases hi
            exact ⟨rfl, _, rfl, _, rfl, r, .int x.losses, rfl, DGet.k (k := .inr "losses") ((E3.trans ej) _ _ px.at_), _, rfl, _, rfl, q, .int y.losses, rfl, DGet.k (k := .inr "losses") ((E3.trans ej) _ _ py.at_), _, _, rfl, rfl, _, hlj, small_sz (by simp), ext_mut ej hD3, upd_same⟩
          · cases hi
        obtain ⟨ej3, hlj⟩ := pv
        refine ⟨D3, [decide (x.head ≤ y.head), decide (x.cost ≤ y.cost), decide (x.silent ≤ y.silent), decide (x.losses ≤ y.losses)], rfl, SqL.of hlj, ?_⟩
        have kk := k _ (E3.trans ej3)
        rw [show milder x y = [decide (x.head ≤ y.head), decide (x.cost ≤ y.cost), decide (x.silent ≤ y.silent), decide (x.losses ≤ y.losses)].all id from by
          rw [Bool.eq_iff_iff, mild_iff]
          simp only [List.all_cons, List.all_nil, id, Bool.and_true, Bool.and_eq_true, decide_eq_true_eq]
          constructor
          · rintro ⟨_, _, _, _, h⟩
            exact h
          · exact fun h => ⟨⟨t1, t2, t3⟩, ⟨by omega, h5⟩, hall, h7, h⟩] at kk
        exact kk
end
end K02

set_option Elab.async false
set_option maxRecDepth 100000
set_option maxHeartbeats 4000000
namespace K02
open PySem PySem.Spec PyProof.Rows L2
open K18 (StB ExtB spDrawB)
section
variable {P : Program} {w : World} {K : PySem.W.Frag} {mg : Str → Option Value} {base : Heap} {A : Ad}
theorem shp_rows {L : List (List PyData)} (g : GoodM L) : SeqAt.shaped (.tuple (L.map PyData.tuple)) = true := Lay.shp (n := 4) (Lay.tup (n := 3) fun e he => by
  obtain ⟨r, hr, rfl⟩ := List.mem_map.mp he
  exact Lay.tup (n := 2) fun d hd => lay_let ((g.2.2 r hr).2.2 d hd).1)
theorem int_wr {G G' : Hp} {L : Addr} {q : Addr} {ys : List V} {ns : List Int} {v : V} (hL : G L = some (.lst (.ref q :: ys))) (e : ∀ x o, x ≠ L → G x = some o → G' x = some o) (h : Dp K G v (.list (ns.map .int))) : Dp K G' v (.list (ns.map .int)) := by
  cases h with
  | lst h1 h2 =>
    obtain rfl := K08.dps_int h2
    refine .lst ?_ dps_int
    rcases h1 with (h | ⟨o, h⟩) | h
    · refine .inl (.inl (e _ _ (fun z => ?_) h))
      rw [z, hL] at h
      cases ns with
      | nil => cases h
      | cons n ns => cases h
    · refine .inl (.inr ⟨o, e _ _ (fun z => ?_) h⟩)
      rw [z, hL] at h
      cases h
    · exact .inr h
/-- the list of raw lines is written -/
theorem RawW.wr {b p L q : Addr} {H : Hp} {vr vw : V} {x y : LnD} {zs ys : List V} (h : RawW K b H p vr vw x) (hLb : L ≠ b) (hL : H L = some (.lst (.ref q :: ys))) {p0 : Addr} (h0 : RawW K b (upd H L (.lst zs)) p0 vr vw y) (er : x.rows = y.rows) (ew : x.ways = y.ways) : RawW K b (upd H L (.lst zs)) p vr vw x := by
  obtain ⟨vd, vb, hk⟩ := h
  obtain ⟨wd, wb, hk0⟩ := h0
  have hp : p ≠ L := fun z => by
    have := hk.at_
    rw [z, hL] at this
    cases this
  refine ⟨vd, vb, hk.nb, (upd_ne hp).trans hk.at_, fun v hv => ?_⟩
  have e : ∀ x o, x ≠ L → hb b H x = some o → hb b (upd H L (.lst zs)) x = some o := fun x o => hb_put
  have hL' : hb b H L = some (.lst (.ref q :: ys)) := hb_at hLb hL
  unfold rawV at hv
  simp only [List.mem_cons, List.not_mem_nil, or_false] at hv
  rcases hv with rfl | rfl | rfl | rfl
  · rw [er]
    exact hk0.dp (vr, .list (y.rows.map .list)) (by unfold rawV; simp)
  · rw [ew]
    exact hk0.dp (vw, .list (y.ways.map wayDat)) (by unfold rawV; simp)
  · exact int_wr hL' e (hk.dp (vd, .list (x.widths.map .int)) (by unfold rawV; simp))
  · exact int_wr hL' e (hk.dp (vb, .list (x.bounds.map .int)) (by unfold rawV; simp))
theorem LineAt.mutL {H : Hp} {p M : Addr} {x : LnD} {ys zs : List V} (h : LineAt K A H p x) (hM : H M = some (.lst ys)) : LineAt K A (upd H M (.lst zs)) p x := by
  obtain ⟨dx, m, tw, tg, r, ws, h1, h2, h3, h4, h5, dr, s, h6, ds, pb, h7, h8⟩ := h
  have e : ∀ x o, x ≠ M → H x = some o → upd H M (.lst zs) x = some o := fun x o hx ho => (upd_ne hx).trans ho
  have ni : ∀ {q : Addr} {C d : Addr} {fs : List (Str × V)}, H q = some (.ins C d fs) → q ≠ M := fun hq z => by
    rw [z, hM] at hq
    cases hq
  exact ⟨dx, m, tw, tg, r, ws, e _ _ (ni h1) h1, h2.mutL hM, tk_l hM h3, h4.mutL hM e, tk_l hM h5, dr, s, e _ _ (ni h6) h6, ds, pb, e _ _ (ni h7) h7, tk_l hM h8⟩
/-- what is known of three raw lines -/
def All3 (K : PySem.W.Frag) (b : Addr) (H : Hp) (ps : List V) (xs : List LnD) (x0 : LnD) : Prop := ∀ i, i < 3 → ∃ p x, ps[i]? = some (.ref p) ∧ xs[i]? = some x ∧ RawAt K b H p x ∧ GoodR x ∧ x.rows = x0.rows ∧ x.ways = x0.ways
theorem All3.ext {b : Addr} {H H' : Hp} {ps : List V} {xs : List LnD} {x0 : LnD} (h : All3 K b H ps xs x0) (e : Ext H H') : All3 K b H' ps xs x0 := fun i hi => by
  obtain ⟨p, x, h1, h2, h3, h4⟩ := h i hi
  exact ⟨p, x, h1, h2, h3.x (K18.Ext.b e), h4⟩
theorem call_mild {J : Hp} {m n : Addr} {x y : LnD} {Q : VK} {E : XK} (h1 : LineAt K A J m x) (h2 : LineAt K A J n y) (g1 : GoodR x) (g2 : GoodR y) (er : x.rows = y.rows) (ew : x.ways = y.ways) (q : ∀ H', Ext J H' → Q (.bl (milder x y)) H') : spMilder K A [.ref m, .ref n] J Q E :=
  ⟨m, n, x, y, rfl, h1, h2, er, ew, g1.gl.ways.2, shp_rows g1.rows, g1.gl.widths.1, g2.gl.widths.1, g1.bounds.1, g2.bounds.1, g1.bounds.2.1, g2.bounds.2.1, q⟩
def spLaw (K : PySem.W.Frag) : Sp := fun vs H Q _ => ∃ (a : Addr) (ns : List Int), vs = [.ref a] ∧ SqL K H a (ns.map V.int) ∧ ns.length ≤ 63 ∧ ∀ H', Q (.bl true) H'
theorem ok_law {f : Addr} {fd : FuncData} (F : Fun K "law" "law" s_law f fd) (T : Txt K mg A) (O__law_start : Own P w K mg base CX0 "_law_start" 1 pm__law_start (K18.spStart K)) (O__law_draw : Own P w K mg base CX0 "_law_draw" 1 pm__law_draw (spDrawB K)) (O__law_raw : Own P w K mg base CX0 "_law_raw" 5 pm__law_raw (spRawL K)) (O__law_other : Own P w K mg base CX0 "_law_other" 4 pm__law_other (spOther K))
    (O__law_line : Own P w K mg base CX0 "_law_line" 10 pm__law_line (spLineL K A)) (O__law_due : Own P w K mg base CX0 "_law_due" 1 pm__law_due (spDueL K)) (O_is_milder : Own P w K mg base CX0 "is_milder" 4 pm_is_milder (spMilder K A)) : FnOk P w K mg base CX0 12 f fd pm_law (spLaw K) := by
  refine F.ok sc_law (fun vs H Q E h => ?_) (fun cdv A' outer sh H vs Q E hr h => ?_)
  · obtain ⟨_, _, rfl, _⟩ := h
    rfl
  · obtain ⟨a, ns, rfl, hsc, hl, k⟩ := h
    refine ⟨_, pss_cons (ps_set (i := 1) sc_law.nd rfl (Or.inl rfl) (pe_own O__law_start (hr.mono (by decide)) pass0 (pa_cons (pv 0) pa_nil)))
      (pss_cons (ps_set (i := 2) sc_law.nd rfl (Or.inl rfl) (pe_lst (pa_cons (pe_own O__law_raw (hr.mono (by decide)) pass0 (pa_cons (pv 0) (pa_cons (pv 1) pa_nil))) pa_nil)))
      (pss_cons (ps_expr (pe_bm PySem.F.plainAttrs_list PySem.F.slot_list_append PySem.F.type_list_append mt_append (pv 2) (pa_cons (pe_own O__law_other (hr.mono (by decide)) pass0 (pa_cons (pv 0) (pa_cons (pv 1) (pa_cons (pe_ix ix_list (pv 2) (pe_int) (fun _ _ => rfl)) pa_nil)))) pa_nil)))
      (pss_cons (ps_expr (pe_bm PySem.F.plainAttrs_list PySem.F.slot_list_append PySem.F.type_list_append mt_append (pv 2) (pa_cons (pe_own O__law_other (hr.mono (by decide)) pass0 (pa_cons (pv 0) (pa_cons (pv 1) (pa_cons (pe_ix ix_list (pv 2) (pe_own O__law_draw (hr.mono (by decide)) pass0 (pa_cons (pv 0) (pa_cons (pv 1) (pa_cons (pe_int) pa_nil)))) (fun _ _ => rfl)) pa_nil)))) pa_nil)))
      (pss_cons (ps_setLc (i := 3) (own := [("_law_raw_here", 6)]) (g := gName 6) (by rfl) sc_law.nd rfl rfl (sw_true rfl rfl rfl (by decide +kernel)) (pi_list (pv 2)) (blkOk_by (own := [("_law_raw_here", 6)]) (N := nm_law) (sc := defScope s_law) (by decide +kernel)) (fun _ _ _ _ _ => pg_name (i := 6) sc_law.nd rfl (Or.inl rfl)) (fun s1 H1 C1 cl fp => pts_nil) (fun s1 H1 C1 cl fp => pe_own O__law_line (hr.mono (by decide)) pass0 (pa_cons (pv 6) pa_nil)))
      (pss_cons (ps_for PassesOwn.never rfl (pi_range1 rfl T.n_range (pa_cons (pe_int) pa_nil)) (pg_name (i := 4) sc_law.nd rfl (Or.inl rfl)) (pss_one (ps_for PassesOwn.never rfl (pi_range1 rfl T.n_range (pa_cons (pe_int) pa_nil)) (pg_name (i := 5) sc_law.nd rfl (Or.inl rfl)) (pss_one (ps_if (pt_cmpR op_ne (pe_own O_is_milder (hr.mono (by decide)) pass0 (pa_cons (pe_ix ix_list (pv 3) (pv 4) (fun _ _ => rfl)) (pa_cons (pe_ix ix_list (pv 3) (pv 5) (fun _ _ => rfl)) pa_nil))) (pe_own O__law_due (hr.mono (by decide)) pass0 (pa_cons (pe_ix ix_list (pv 2) (pv 4) (fun _ _ => rfl)) (pa_cons (pe_ix ix_list (pv 2) (pv 5) (fun _ _ => rfl)) pa_nil))) (nomark _)) (pss_one (ps_ret (pe_bl))) (pss_nil))))))
      (pss_cons (ps_if (PW.pt (pw_and (pt_val (pe_own O_is_milder (hr.mono (by decide)) pass0 (pa_cons (pe_ix ix_list (pv 3) (pe_int) (fun _ _ => rfl)) (pa_cons (pe_ix ix_list (pv 3) (pe_int) (fun _ _ => rfl)) pa_nil)))) (pw_and (pt_val (pe_own O_is_milder (hr.mono (by decide)) pass0 (pa_cons (pe_ix ix_list (pv 3) (pe_int) (fun _ _ => rfl)) (pa_cons (pe_ix ix_list (pv 3) (pe_int) (fun _ _ => rfl)) pa_nil)))) (pw_and1 (pt_not (pt_val (pe_own O_is_milder (hr.mono (by decide)) pass0 (pa_cons (pe_ix ix_list (pv 3) (pe_int) (fun _ _ => rfl)) (pa_cons (pe_ix ix_list (pv 3) (pe_int) (fun _ _ => rfl)) pa_nil))))))))) (pss_one (ps_ret (pe_bl))) (pss_nil))
      (pss_one (ps_ret (pe_cmpR op_isBl (pe_own O_is_milder (hr.mono (by decide)) pass0 (pa_cons (pe_ix ix_list (pv 3) (pe_int) (fun _ _ => rfl)) (pa_cons (pe_ix ix_list (pv 3) (pe_int) (fun _ _ => rfl)) pa_nil))) (pe_bl) (nomark _)))))))))), ?_⟩
    refine ⟨_, rfl, a, ns, rfl, hsc, hl, fun b H1 hbn hst e1 => ?_⟩
    have d1 : Drw K a b ns H1 := ⟨hsc.ext e1, K18.sqL_new hsc hbn, hst⟩
    refine ⟨_, rfl, _, rfl, a, b, ns, rfl, d1, fun p0 x0 H2 d2 x2 r0' g0 g04 => ⟨by show 1 ≤ sizeLine; decide, fun L hL => ?_⟩⟩
    obtain ⟨vr, vw, vd0, vb0, hk0⟩ := r0'
    have r0 : RawW K b H2 p0 vr vw x0 := ⟨vd0, vb0, hk0⟩
    have nLb := d2.new hL
    have eL := Ext.upd (o := .lst [V.ref p0]) hL
    have hL1 : upd H2 L (.lst [V.ref p0]) L = some (.lst [V.ref p0]) := upd_same
    generalize upd H2 L (.lst [V.ref p0]) = H3 at eL hL1 ⊢
    have d3 := d2.ext eL
    refine ⟨_, rfl, .inl ⟨rfl, _, SqL.of hL1⟩, _, rfl, _, rfl, _, rfl, L, _, 0, _, rfl, rfl, SqL.of hL1, atI_nat (j := 0) rfl, a, b, p0, vr, vw, ns, x0, rfl, d3, r0.x (K18.Ext.b eL), g0, fun p1 H4 oth => ?_⟩
    obtain ⟨x1, d4, x4, r1, g1, er1, ew1⟩ := oth
    have hL4 := x4 _ _ nLb hL1
    refine ⟨L, _, _, rfl, rfl, hL4, small_sz (by simp), ?_⟩
    have keep5 : ExtB b H2 (upd H4 L (.lst ([V.ref p0] ++ [.ref p1]))) := ((K18.Ext.b eL).trans x4).mut hL
    have r15 := r1.wr (zs := [V.ref p0] ++ [.ref p1]) nLb hL4 (r0.x keep5) er1 ew1
    have d5 : Drw K a b ns (upd H4 L (.lst ([V.ref p0] ++ [.ref p1]))) := d4.own d2 hL
    have hL5 : upd H4 L (.lst ([V.ref p0] ++ [.ref p1])) L = some (.lst [V.ref p0, .ref p1]) := upd_same
    generalize upd H4 L (.lst ([V.ref p0] ++ [.ref p1])) = J5 at keep5 r15 d5 hL5 ⊢
    refine ⟨_, rfl, .inl ⟨rfl, _, SqL.of hL5⟩, _, rfl, _, rfl, _, rfl, _, rfl, _, rfl, a, b, ns, 2, rfl, d5.1, d5.2.1, d5.2.2, by omega, by omega, fun y J6 y0 y2 s6 x6 => ?_⟩
    have d6 := d5.x s6 x6
    have hL6 := x6 _ _ nLb hL5
    obtain ⟨pj, xj, hat, rj, gj, erj, ewj⟩ : ∃ pj xj, atI [V.ref p0, .ref p1] y = some (.ref pj) ∧ RawW K b J6 pj vr vw xj ∧ GoodR xj ∧ xj.rows = x0.rows ∧ xj.ways = x0.ways := by
      have : y = 0 ∨ y = 1 := by omega
      rcases this with rfl | rfl
      · exact ⟨p0, x0, atI_nat (j := 0) rfl, r0.x (keep5.trans x6), g0, rfl, rfl⟩
      · exact ⟨p1, x1, atI_nat (j := 1) rfl, r15.x x6, g1, er1, ew1⟩
    refine ⟨L, _, y, _, rfl, rfl, SqL.of hL6, hat, a, b, pj, vr, vw, ns, xj, rfl, d6, rj, gj, fun p2 J7 oth => ?_⟩
    obtain ⟨x2', d7, x7, r2, g2, er2, ew2⟩ := oth
    have hL7 := x7 _ _ nLb hL6
    refine ⟨L, _, _, rfl, rfl, hL7, small_sz (by simp), ?_⟩
    have keep8 : ExtB b H2 (upd J7 L (.lst ([V.ref p0, .ref p1] ++ [.ref p2]))) := ((keep5.trans x6).trans x7).mut hL
    have r08 := r0.x keep8
    have r18 := (r15.x (x6.trans x7)).wr (zs := [V.ref p0, .ref p1] ++ [.ref p2]) nLb hL7 r08 er1 ew1
    have r28 := r2.wr (zs := [V.ref p0, .ref p1] ++ [.ref p2]) nLb hL7 r08 (er2.trans erj) (ew2.trans ewj)
    have hL8 : upd J7 L (.lst ([V.ref p0, .ref p1] ++ [.ref p2])) L = some (.lst [V.ref p0, .ref p1, .ref p2]) := upd_same
    generalize upd J7 L (.lst ([V.ref p0, .ref p1] ++ [.ref p2])) = J8 at r08 r18 r28 hL8 ⊢
    have all : All3 K b J8 [V.ref p0, .ref p1, .ref p2] [x0, x1, x2'] x0 := fun i hi => by
      rcases i with _ | _ | _ | i
      · exact ⟨p0, x0, rfl, rfl, r08.at_, g0, rfl, rfl⟩
      · exact ⟨p1, x1, rfl, rfl, r18.at_, g1, er1, ew1⟩
      · exact ⟨p2, x2', rfl, rfl, r28.at_, g2, er2.trans erj, ew2.trans ewj⟩
      · omega
    clear r08 r18 r28 keep8 hL7 d7 x7 r2 rj hat d6 x6 hL6 s6 keep5 r15 d5 hL5 hL4 x4 d4 r1 d3 hL1 eL r0 hk0 d2 x2 d1 hst e1
    generalize hps : [V.ref p0, .ref p1, .ref p2] = ps at hL8 all ⊢
    have hpl : ps.length = 3 := by rw [← hps]; rfl
    generalize hxs : [x0, x1, x2'] = xs at all
    refine ⟨_, rfl, L, rfl, ⟨_, SqL.of hL8⟩, fun M hM => ?_⟩
    refine lc_list (xs := ps) (fun i J => Ext J8 J ∧ ∃ ms, J M = some (.lst ms) ∧ ms.length = i ∧ ∀ j, j < i → ∃ m x, ms[j]? = some (.ref m) ∧ xs[j]? = some x ∧ LineAt K A J m x) ⟨Ext.upd hM, [], upd_same, rfl, fun j h => absurd h (Nat.not_lt_zero _)⟩ (fun i J _ pv => SqL.of (pv.1 _ _ hL8)) (fun i v J hi pv => ?_) (fun J pv => ?_)
    · obtain ⟨ej, ms, hm, hml, hall⟩ := pv
      have hil := (List.getElem?_eq_some_iff.mp hi).1
      obtain ⟨p, x, h1, h2, h3, h4, _, _⟩ := all i (by omega)
      rw [hi] at h1
      cases h1
      refine ⟨rfl, _, rfl, b, p, x, rfl, h3.x (K18.Ext.b ej), h4, fun m J2 e2 hLn => ?_⟩
      have hm2 := e2 _ _ hm
      refine ⟨ms, hm2, small_sz (by omega), ext_mut (ej.trans e2) hM, ms ++ [.ref m], upd_same, by rw [List.length_append, hml]; rfl, fun j hj => ?_⟩
      by_cases hji : j < i
      · obtain ⟨m', x', k1, k2, k3⟩ := hall j hji
        exact ⟨m', x', by rw [List.getElem?_append_left (by omega)]; exact k1, k2, (k3.ext e2).mutL hm2⟩
      · have : j = i := by omega
        subst this
        refine ⟨m, x, ?_, h2, hLn.mutL hm2⟩
        rw [List.getElem?_append_right (by omega), hml, Nat.sub_self]
        rfl
    obtain ⟨ej, ms, hm, hml, hall⟩ := pv
    rw [hpl] at hml hall
    have allJ := all.ext ej
    have hLJ := ej _ _ hL8
    clear all hL8 ej
    have look : ∀ i j, i < 3 → j < 3 → ∃ m n x y, ms[i]? = some (.ref m) ∧ ms[j]? = some (.ref n) ∧ xs[i]? = some x ∧ xs[j]? = some y ∧ LineAt K A J m x ∧ LineAt K A J n y ∧ GoodR x ∧ GoodR y ∧ x.rows = y.rows ∧ x.ways = y.ways ∧ ∃ p q, ps[i]? = some (.ref p) ∧ ps[j]? = some (.ref q) ∧ RawAt K b J p x ∧ RawAt K b J q y := fun i j hi hj => by
      obtain ⟨m, x, a1, a2, a3⟩ := hall i hi
      obtain ⟨n, y, b1, b2, b3⟩ := hall j hj
      obtain ⟨p, x', c1, c2, c3, c4, c5, c6⟩ := allJ i hi
      obtain ⟨q, y', d1, d2, d3, d4, d5, d6⟩ := allJ j hj
      rw [a2] at c2
      cases c2
      rw [b2] at d2
      cases d2
      exact ⟨m, n, x, y, a1, b1, a2, b2, a3, b3, c4, d4, c5.trans d5.symm, c6.trans d6.symm, p, q, c1, d1, c3, d3⟩
    refine ⟨3, rfl, by omega, by omega, ?_⟩
    have at0 : ∀ {vs : List V} {i : Nat} {v : V}, vs[i]? = some v → atI vs (0 + (i : Int)) = some v := fun h => by
      rw [Int.zero_add]
      exact atI_nat h
    refine for_range (fun i σ' J1 => (∃ o4 o5, σ' = [some (.ref a), some (.ref b), some (.ref L), some (.ref M), o4, o5, none]) ∧ Ext J J1) ⟨⟨_, _, rfl⟩, Ext.rfl'⟩ (fun i σ' J1 hi pv => ?_) (fun σ' J1 pv => ?_)
    · obtain ⟨⟨o4, o5, rfl⟩, ej⟩ := pv
      refine ⟨3, rfl, by omega, by omega, ?_⟩
      refine for_range (fun j σ' J2 => (∃ o5, σ' = [some (.ref a), some (.ref b), some (.ref L), some (.ref M), some (.int (0 + (i : Int))), o5, none]) ∧ Ext J J2) ⟨⟨_, rfl⟩, ej⟩ (fun j σ' J2 hj pv => ?_) (fun σ' J2 pv => ?_)
      · obtain ⟨⟨o5, rfl⟩, e2⟩ := pv
        obtain ⟨m, n, x, y, m1, m2, xx, xy, l1, l2, gx, gy, er, ew, p, q, q1, q2, rx, ry⟩ := look i j (by omega) (by omega)
        refine ⟨_, rfl, _, rfl, M, ms, _, .ref m, rfl, rfl, SqL.of (e2 _ _ hm), at0 m1, _, rfl, _, rfl, M, ms, _, .ref n, rfl, rfl, SqL.of (e2 _ _ hm), at0 m2, m, n, x, y, rfl, l1.ext e2, l2.ext e2, er, ew, gx.gl.ways.2, shp_rows gx.rows, gx.gl.widths.1, gy.gl.widths.1, gx.bounds.1, gy.bounds.1, gx.bounds.2.1, gy.bounds.2.1, fun J3 e3 => ?_⟩
        have e23 := e2.trans e3
        refine ⟨_, rfl, _, rfl, L, ps, _, .ref p, rfl, rfl, SqL.of (e23 _ _ hLJ), at0 q1, _, rfl, _, rfl, L, ps, _, .ref q, rfl, rfl, SqL.of (e23 _ _ hLJ), at0 q2, b, p, q, x, y, rfl, rx.x (K18.Ext.b e23), ry.x (K18.Ext.b e23), gx, gy, er, ew, fun J4 e4 => ⟨rfl, _, rfl, ?_⟩⟩
        rw [decide_eq_true rfl]
        exact iteF ⟨⟨_, rfl⟩, e23.trans e4⟩
      · obtain ⟨⟨o5, rfl⟩, e2⟩ := pv
        exact ⟨⟨_, _, rfl⟩, e2⟩
    · obtain ⟨⟨o4, o5, rfl⟩, e1⟩ := pv
      obtain ⟨m0, m1, y0, y1, a0, a1, b0, b1, l0, l1, g0, g1, er01, ew01, _⟩ := look 0 1 (by omega) (by omega)
      obtain ⟨m1', m2, y1', y2, a1', a2, b1', b2, _, l2, _, g2, er12, ew12, _⟩ := look 1 2 (by omega) (by omega)
      rw [a1] at a1'
      cases a1'
      rw [b1] at b1'
      cases b1'
      refine ⟨_, rfl, M, ms, 0, .ref m0, rfl, rfl, SqL.of (e1 _ _ hm), atI_nat (j := 0) a0, _, rfl, M, ms, 1, .ref m1, rfl, rfl, SqL.of (e1 _ _ hm), atI_nat (j := 1) a1, m0, m1, y0, y1, rfl, l0.ext (e1), l1.ext (e1), er01, ew01, g0.gl.ways.2, shp_rows g0.rows, g0.gl.widths.1, g1.gl.widths.1, g0.bounds.1, g1.bounds.1, g0.bounds.2.1, g1.bounds.2.1, fun J3 e3 => ⟨_, rfl, ?_⟩⟩
      have E3 := e1.trans e3
      cases h01 : milder y0 y1 with
      | false =>
        refine iteF (iteF ?_)
        refine ⟨_, rfl, M, ms, 0, .ref m0, rfl, rfl, SqL.of (E3 _ _ hm), atI_nat (j := 0) a0, _, rfl, M, ms, 0, .ref m0, rfl, rfl, SqL.of (E3 _ _ hm), atI_nat (j := 0) a0, m0, m0, y0, y0, rfl, l0.ext (E3), l0.ext (E3), rfl, rfl, g0.gl.ways.2, shp_rows g0.rows, g0.gl.widths.1, g0.gl.widths.1, g0.bounds.1, g0.bounds.1, g0.bounds.2.1, g0.bounds.2.1, fun J9 e9 => ?_⟩
        rw [mild_self]
        exact ⟨_, _, rfl, rfl, k _⟩
      | true =>
        refine iteT ⟨_, rfl, M, ms, 1, .ref m1, rfl, rfl, SqL.of (E3 _ _ hm), atI_nat (j := 1) a1, _, rfl, M, ms, 2, .ref m2, rfl, rfl, SqL.of (E3 _ _ hm), atI_nat (j := 2) a2, m1, m2, y1, y2, rfl, l1.ext (E3), l2.ext (E3), er12, ew12, g1.gl.ways.2, shp_rows g1.rows, g1.gl.widths.1, g2.gl.widths.1, g1.bounds.1, g2.bounds.1, g1.bounds.2.1, g2.bounds.2.1, fun J4 e4 => ⟨_, rfl, ?_⟩⟩
        have E4 := E3.trans e4
        cases h12 : milder y1 y2 with
        | false =>
          refine iteF (iteF ?_)
          refine ⟨_, rfl, M, ms, 0, .ref m0, rfl, rfl, SqL.of (E4 _ _ hm), atI_nat (j := 0) a0, _, rfl, M, ms, 0, .ref m0, rfl, rfl, SqL.of (E4 _ _ hm), atI_nat (j := 0) a0, m0, m0, y0, y0, rfl, l0.ext (E4), l0.ext (E4), rfl, rfl, g0.gl.ways.2, shp_rows g0.rows, g0.gl.widths.1, g0.gl.widths.1, g0.bounds.1, g0.bounds.1, g0.bounds.2.1, g0.bounds.2.1, fun J9 e9 => ?_⟩
          rw [mild_self]
          exact ⟨_, _, rfl, rfl, k _⟩
        | true =>
          refine iteT ⟨_, rfl, M, ms, 0, .ref m0, rfl, rfl, SqL.of (E4 _ _ hm), atI_nat (j := 0) a0, _, rfl, M, ms, 2, .ref m2, rfl, rfl, SqL.of (E4 _ _ hm), atI_nat (j := 2) a2, m0, m2, y0, y2, rfl, l0.ext (E4), l2.ext (E4), (er01.trans er12), (ew01.trans ew12), g0.gl.ways.2, shp_rows g0.rows, g0.gl.widths.1, g2.gl.widths.1, g0.bounds.1, g2.bounds.1, g0.bounds.2.1, g2.bounds.2.1, fun J5 e5 => ⟨_, rfl, ?_⟩⟩
          have E5 := E4.trans e5
          rw [mild_tr h01 h12]
          refine iteF ?_
          refine ⟨_, rfl, M, ms, 0, .ref m0, rfl, rfl, SqL.of (E5 _ _ hm), atI_nat (j := 0) a0, _, rfl, M, ms, 0, .ref m0, rfl, rfl, SqL.of (E5 _ _ hm), atI_nat (j := 0) a0, m0, m0, y0, y0, rfl, l0.ext (E5), l0.ext (E5), rfl, rfl, g0.gl.ways.2, shp_rows g0.rows, g0.gl.widths.1, g0.gl.widths.1, g0.bounds.1, g0.bounds.1, g0.bounds.2.1, g0.bounds.2.1, fun J9 e9 => ?_⟩
          rw [mild_self]
          exact ⟨_, _, rfl, rfl, k _⟩
end
end K02

set_option Elab.async false
set_option maxRecDepth 100000
set_option maxHeartbeats 4000000
namespace K73
open PySem PySem.Spec PyProof.Rows L2 K02
section
variable {P : Program} {w : World} {K : PySem.W.Frag} {mg : Str → Option Value} {base : Heap} {A : Ad}
theorem kit_ref {B C : Addr} {b : Bool} (i : PySem.W.isClsIn K C = true) (t : PySem.W.typeIn K (.ref C) = some (.type "type")) (s : PySem.W.subIn K (.ref B) (.ref C) = some b) (ss : PySem.W.subIn K (.ref B) (.ref B) = some true) : PySem.W.kitOne K (.ref B) (.ref C) = some b := by
  by_cases h : B = C
  · subst h
    rw [ss] at s
    cases s
    exact if_pos (beq_self_eq_true _)
  · have e : ((PySem.W.clsIn K C).isSome && PySem.W.typeIn K (.ref C) == some (.type "type")) = true := by
      have h1 : (PySem.W.clsIn K C).isSome = true := i
      rw [h1, t]
      rfl
    show (if (Value.ref B == Value.ref C) = true then some true else if ((PySem.W.clsIn K C).isSome && PySem.W.typeIn K (.ref C) == some (.type "type")) = true then PySem.W.subIn K (.ref B) (.ref C) else none) = some b
    rw [if_pos e]
    have hne : ¬ ((Value.ref B == Value.ref C) = true) := fun z => by
      have z' := eq_of_beq z
      injection z' with z'
      exact h z'
    rw [if_neg hne]
    exact s
theorem exm_ref {B C : Addr} {b : Bool} (x : PySem.W.subIn K (.ref C) (.type "BaseException") = some true) (i : PySem.W.isClsIn K C = true) (t : PySem.W.typeIn K (.ref C) = some (.type "type")) (s : PySem.W.subIn K (.ref B) (.ref C) = some b) : PySem.W.exmOne K (.ref B) (.ref C) = some b := by
  unfold PySem.W.exmOne PySem.W.kitCls
  have i' : (PySem.W.clsIn K C).isSome = true := i
  rw [x]
  dsimp only
  rw [i', t, s]
  rfl
theorem ve_one {W : Addr} : PySem.HandSPX.refsVE [.ref W, .type "ValueError", .type "Exception", .type "BaseException", .type "object"] = true := by
  show PySem.HandSPX.refsVE [.type "ValueError", .type "Exception", .type "BaseException", .type "object"] = true
  decide +kernel
theorem law_ok (T : Txt K mg A) (D_has_milder_room : DefAt K mg "has_milder_room" s_has_milder_room pm_has_milder_room) (D_is_milder : DefAt K mg "is_milder" s_is_milder pm_is_milder) (D_is_integer : DefAt K mg "is_integer" s_is_integer pm_is_integer) (D_is_between : DefAt K mg "is_between" s_is_between pm_is_between) (D_is_index : DefAt K mg "is_index" s_is_index pm_is_index) (D_is_list : DefAt K mg "is_list" s_is_list pm_is_list) (D_is_list_of : DefAt K mg "is_list_of" s_is_list_of pm_is_list_of) (D_is_name : DefAt K mg "is_name" s_is_name pm_is_name) (D_is_tuple_of : DefAt K mg "is_tuple_of" s_is_tuple_of pm_is_tuple_of) (D_is_letter : DefAt K mg "is_letter" s_is_letter pm_is_letter) (D_check_row : DefAt K mg "check_row" s_check_row pm_check_row) (D_is_begin : DefAt K mg "is_begin" s_is_begin pm_is_begin) (D_are_delays : DefAt K mg "are_delays" s_are_delays pm_are_delays) (D_is_box : DefAt K mg "is_box" s_is_box pm_is_box) (D_check_ways : DefAt K mg "check_ways" s_check_ways pm_check_ways) (D_are_widths : DefAt K mg "are_widths" s_are_widths pm_are_widths) (D_check_part : DefAt K mg "check_part" s_check_part pm_check_part) (D_check_boxes : DefAt K mg "check_boxes" s_check_boxes pm_check_boxes) (D__law_start : DefAt K mg "_law_start" s__law_start pm__law_start) (D__law_draw : DefAt K mg "_law_draw" s__law_draw pm__law_draw) (D__law_mail : DefAt K mg "_law_mail" s__law_mail pm__law_mail) (D__law_rising : DefAt K mg "_law_rising" s__law_rising pm__law_rising) (D__law_box : DefAt K mg "_law_box" s__law_box pm__law_box) (D__law_way : DefAt K mg "_law_way" s__law_way pm__law_way) (D__law_raw : DefAt K mg "_law_raw" s__law_raw pm__law_raw) (D__law_made_ways : DefAt K mg "_law_made_ways" s__law_made_ways pm__law_made_ways) (D__law_line : DefAt K mg "_law_line" s__law_line pm__law_line) (D__law_copy : DefAt K mg "_law_copy" s__law_copy pm__law_copy) (D__law_other : DefAt K mg "_law_other" s__law_other pm__law_other) (D__law_due : DefAt K mg "_law_due" s__law_due pm__law_due)
    (M_Mail_init : MethAt K A.Mail "__init__" "Mail.__init__" s_Mail_init pm_Mail_init) (M_Mail_eq : MethAt K A.Mail "__eq__" "Mail.__eq__" s_Mail_eq pm_Mail_eq) (M_Way_eq : MethAt K A.Way "__eq__" "Way.__eq__" s_Way_eq pm_Way_eq) (M_Steps_init : MethAt K A.Steps "__init__" "Steps.__init__" s_Steps_init pm_Steps_init) (M_Room_init : MethAt K A.Room "__init__" "Room.__init__" s_Room_init pm_Room_init) (m1_Mail : PySem.W.makesIn K A.Mail = true) (m2_Mail : PySem.W.keepIn K (.ref A.Mail) = true) (m1_Steps : PySem.W.makesIn K A.Steps = true) (m2_Steps : PySem.W.keepIn K (.ref A.Steps) = true) (m1_Room : PySem.W.makesIn K A.Room = true) (m2_Room : PySem.W.keepIn K (.ref A.Room) = true)
    {fi : Addr} {fdi : FuncData} (FI : FunD K "__init__" "Way.__init__" (defArgs s_Way_init) (defBody s_Way_init) (defScope s_Way_init) [.ref A.T0] [] fi fdi) (MI : Mk K A.Way fi) (B4 : Binds K fdi pm_Way_init []) {d3 : List Value} (V3 : Vals [.ref A.T0] d3) (B3 : Binds K fdi pm_Way_init d3)
    {fk_Line : Addr} {fdk_Line : FuncData} (FK_Line : Fun K "__init__" "Line.__init__" s_Line_init fk_Line fdk_Line) (MK_Line : Mk K A.Line fk_Line) (KB_Line : KBa K fdk_Line pm_Line_init 4 ["turn", "numbers", "room", "head", "places", "cost", "period", "quiet", "silent", "losses"])
    {f : Addr} {fd : FuncData} (F : Fun K "law" "law" s_law f fd) : FnOk P w K mg base CX0 12 f fd pm_law (spLaw K) := by
  have X_BadPart : XCls P w K mg base "BadPart" "part" A.BadPart := T.BadPart.cls fun _ _ F => ok_xp F T
  have X_BadNumber : XCls P w K mg base "BadNumber" "number" A.BadNumber := T.BadNumber.cls fun _ _ F => ok_x_BadNumber F T
  have X_BadIndex : XCls P w K mg base "BadIndex" "index" A.BadIndex := T.BadIndex.cls fun _ _ F => ok_x_BadIndex F T
  have X_BadRow : XCls P w K mg base "BadRow" "index" A.BadRow := T.BadRow.cls fun _ _ F => ok_x_BadRow F T
  have X_BadLetter : XCls P w K mg base "BadLetter" "spot" A.BadLetter := T.BadLetter.cls fun _ _ F => ok_x_BadLetter F T
  have X_BadSteps : XCls P w K mg base "BadSteps" "index" A.BadSteps := T.BadSteps.cls fun _ _ F => ok_x_BadSteps F T
  have X_BadBox : XCls P w K mg base "BadBox" "index" A.BadBox := T.BadBox.cls fun _ _ F => ok_x_BadBox F T
  have X_TooMany : OCls P w K mg base "TooMany" "limit" A.TooMany := T.TooMany.cls fun _ _ F => ok_x_TooMany F T

  have O_is_integer : Own P w K mg base CX0 "is_integer" 1 pm_is_integer (K02.spInteger K) := D_is_integer.own fun f fd F => K02.ok_integer F T
  have O_is_between : Own P w K mg base CX0 "is_between" 2 pm_is_between (K02.spBetween K) := D_is_between.own fun f fd F => K02.ok_between F O_is_integer
  have O_is_index : Own P w K mg base CX0 "is_index" 3 pm_is_index (K02.spIndex K) := D_is_index.own fun f fd F => K02.ok_index F O_is_between
  have O_is_list : Own P w K mg base CX0 "is_list" 1 pm_is_list (K02.spIsList K) := D_is_list.own fun f fd F => K02.ok_isList F T
  have O_is_tuple_of : Own P w K mg base CX0 "is_tuple_of" 1 pm_is_tuple_of (K02.spTupleOf K) := D_is_tuple_of.own fun f fd F => K02.ok_tupleOf F T
  have O_is_name : Own P w K mg base CX0 "is_name" 1 pm_is_name (K02.spName K) := D_is_name.own fun f fd F => K02.ok_name F T
  have O_is_letter : Own P w K mg base CX0 "is_letter" 3 pm_is_letter (K02.spLetter K) := D_is_letter.own fun f fd F => K02.ok_letter F T O_is_tuple_of O_is_name O_is_between
  have O_check_row : Own P w K mg base (L2.CX P w) "check_row" 5 pm_check_row (K02.spRow K A) := D_check_row.own fun f fd F => K02.ok_row F T O_is_list O_is_letter X_BadRow X_BadLetter X_TooMany
  have O_Mail : OwnC P w K mg base (L2.CX P w) "Mail" A.Mail 7 pm_Mail_init (K02.spInitOk K A) := M_Mail_init.cls (fun f fd F => K02.ok_initOk F T O_is_list O_check_row X_BadPart X_TooMany) m1_Mail m2_Mail T.Mail.gC
  have O_Mail_eq : OwnM P w K mg base CX0 A.Mail "__eq__" 1 pm_Mail_eq (K02.spMEq K A) := M_Mail_eq.own fun f fd F => K02.ok_meq F T
  have O_is_integer_1 : Own P w K mg base CX0 "is_integer" 1 pm_is_integer (K08.spInteger K) := D_is_integer.own fun f fd F => K08.ok_integer F T
  have O_is_between_1 : Own P w K mg base CX0 "is_between" 2 pm_is_between (K08.spBetween K) := D_is_between.own fun f fd F => K08.ok_between F O_is_integer_1
  have O_is_list_1 : Own P w K mg base CX0 "is_list" 1 pm_is_list (K08.spIsList K) := D_is_list.own fun f fd F => K08.ok_isList F T
  have O_is_list_of : Own P w K mg base CX0 "is_list_of" 2 pm_is_list_of (K08.spListOf K) := D_is_list_of.own fun f fd F => K08.ok_listOf F T O_is_list_1
  have O_Steps : OwnC P w K mg base (L2.CX P w) "Steps" A.Steps 3 pm_Steps_init (K08.spStepsInit K A) := M_Steps_init.cls (fun f fd F => K08.ok_stepsInit F T O_is_list_of O_is_between_1 X_BadSteps) m1_Steps m2_Steps T.Steps.gC
  have O_Room : OwnC P w K mg base (L2.CX P w) "Room" A.Room 3 pm_Room_init (K08.spRoomInit K A) := M_Room_init.cls (fun f fd F => K08.ok_roomInit F T O_is_between_1 X_BadPart) m1_Room m2_Room T.Room.gC
  have O_is_integer_2 : Own P w K mg base CX0 "is_integer" 1 pm_is_integer (K15.spInteger K) := D_is_integer.own fun f fd F => K15.ok_integer F T
  have O_is_between_2 : Own P w K mg base CX0 "is_between" 2 pm_is_between (K15.spBetween K) := D_is_between.own fun f fd F => K15.ok_between F O_is_integer_2
  have O_is_list_2 : Own P w K mg base CX0 "is_list" 1 pm_is_list (K15.spIsList K) := D_is_list.own fun f fd F => K15.ok_isList F T
  have O_is_list_of_1 : Own P w K mg base CX0 "is_list_of" 2 pm_is_list_of (K15.spListOf K) := D_is_list_of.own fun f fd F => K15.ok_listOf F T O_is_list_2
  have O_is_tuple_of_1 : Own P w K mg base CX0 "is_tuple_of" 1 pm_is_tuple_of (K15.spTupleOf K) := D_is_tuple_of.own fun f fd F => K15.ok_tupleOf F T
  have O_is_begin : Own P w K mg base CX0 "is_begin" 3 pm_is_begin (K15.spBegin K) := D_is_begin.own fun f fd F => K15.ok_begin F T O_is_between_2
  have O_are_delays : Own P w K mg base CX0 "are_delays" 3 pm_are_delays (K15.spDelays K) := D_are_delays.own fun f fd F => K15.ok_delays F T O_is_between_2
  have O_is_box : Own P w K mg base CX0 "is_box" 3 pm_is_box (K15.spBoxOk K) := D_is_box.own fun f fd F => K15.ok_box F T O_is_between_2 O_is_tuple_of_1
  have GI_Way : FnOk P w K mg base (L2.CX P w) 5 fi fdi pm_Way_init (K15.spWayInit K A) := K15.ok_wayInit FI T O_is_begin O_are_delays O_is_list_of_1 O_is_box X_BadPart X_BadBox
  have O_Way : OwnC P w K mg base (L2.CX P w) "Way" A.Way 5 pm_Way_init (K15.spWayInit K A) := ⟨fi, fdi, GI_Way, MI, T.Way.gC, B4⟩
  have O_Way_eq : OwnM P w K mg base CX0 A.Way "__eq__" 1 pm_Way_eq (K15.spWayEq K A) := M_Way_eq.own fun f fd F => K15.ok_wayEq F T
  have O__law_start : Own P w K mg base CX0 "_law_start" 1 pm__law_start (K18.spStart K) := D__law_start.own fun f fd F => K18.ok_start F T
  have O__law_draw : Own P w K mg base CX0 "_law_draw" 1 pm__law_draw (K18.spDrawB K) := D__law_draw.own fun f fd F => K18.ok_draw F T
  have O_is_list_of_2 : Own P w K mg base CX0 "is_list_of" 2 pm_is_list_of (K02.spListOfT K) := D_is_list_of.own fun f fd F => K02.ok_listOfT F T O_is_list
  have O_check_ways : Own P w K mg base (L2.CX P w) "check_ways" 4 pm_check_ways (K02.spCheckWays K A) := D_check_ways.own fun f fd F => K02.ok_checkWays F T O_is_list_of_2 X_BadPart
  have O_are_widths : Own P w K mg base CX0 "are_widths" 4 pm_are_widths (K02.spWidths K) := D_are_widths.own fun f fd F => K02.ok_widths F T O_is_list_of_2 O_is_between
  have O_check_part : Own P w K mg base (L2.CX P w) "check_part" 4 pm_check_part (K02.spCheckPart K A) := D_check_part.own fun f fd F => K02.ok_checkPart F T O_is_between X_BadPart
  have O_check_boxes : Own P w K mg base (L2.CX P w) "check_boxes" 4 pm_check_boxes (K02.spCheckBoxes K A) := D_check_boxes.own fun f fd F => K02.ok_checkBoxes F T X_BadPart
  have O_Line : OwnCK P w K mg base (L2.CX P w) "Line" A.Line 6 pm_Line_init 3 ["turn", "numbers", "room", "head", "places", "cost", "period", "quiet", "silent", "losses"] (K02.spLineInit K A) := ⟨fk_Line, fdk_Line, K02.ok_lineInit FK_Line T O_check_ways O_are_widths O_check_part O_check_boxes X_BadPart, MK_Line, T.Line.gC, KB_Line⟩
  have O_has_milder_room : Own P w K mg base CX0 "has_milder_room" 2 pm_has_milder_room (K02.spRoomMilder K A) := D_has_milder_room.own fun f fd F => K02.ok_roomMilder F T
  have O_is_milder : Own P w K mg base CX0 "is_milder" 4 pm_is_milder (K02.spMilder K A) := D_is_milder.own fun f fd F => K02.ok_milder F T O_Mail_eq O_Way_eq O_has_milder_room
  have O__law_mail : Own P w K mg base CX0 "_law_mail" 2 pm__law_mail (K02.spMailL K) := D__law_mail.own fun f fd F => K02.ok_mailL F T O__law_draw
  have O__law_rising : Own P w K mg base CX0 "_law_rising" 2 pm__law_rising (K02.spRising K) := D__law_rising.own fun f fd F => K02.ok_rising F T O__law_draw
  have O__law_box : Own P w K mg base CX0 "_law_box" 2 pm__law_box (K02.spBoxL K) := D__law_box.own fun f fd F => K02.ok_boxL F T O__law_draw
  have O__law_way : Own P w K mg base CX0 "_law_way" 3 pm__law_way (K02.spWayL K) := D__law_way.own fun f fd F => K02.ok_wayL F T O__law_draw O__law_box
  have O__law_raw : Own P w K mg base CX0 "_law_raw" 5 pm__law_raw (K02.spRawL K) := D__law_raw.own fun f fd F => K02.ok_rawL F T O__law_draw O__law_mail O__law_way O__law_rising
  have O__law_copy : Own P w K mg base CX0 "_law_copy" 1 pm__law_copy K02.spCopyD := D__law_copy.own fun f fd F => K02.ok_copyD F
  have O__law_other : Own P w K mg base CX0 "_law_other" 4 pm__law_other (K02.spOther K) := D__law_other.own fun f fd F => K02.ok_other F T O__law_draw O__law_rising O__law_copy
  have O__law_made_ways : Own P w K mg base CX0 "_law_made_ways" 8 pm__law_made_ways (K02.spMadeWays K A) := D__law_made_ways.own fun f fd F => K02.ok_madeWays F T O_Way
  have O__law_line : Own P w K mg base CX0 "_law_line" 10 pm__law_line (K02.spLineL K A) := D__law_line.own fun f fd F => K02.ok_lineL F T O__law_made_ways O_Mail O_Room O_Steps O_Line
  have O__law_due : Own P w K mg base CX0 "_law_due" 1 pm__law_due (K02.spDueL K) := D__law_due.own fun f fd F => K02.ok_dueL F T
  exact K02.ok_law F T O__law_start O__law_draw O__law_raw O__law_other O__law_line O__law_due O_is_milder
end
theorem all_mk {P : Program} {w : World} {K : PySem.W.Frag} {h : Heap} {mg : Str → Option Value} {fa  Td AT0 ABadPart ABadNumber ABadIndex ABadRow ABadLetter ABadSteps ABadBox ATooMany AWholeError AMail AWay ASteps ARoom ALine f_has_milder_room f_is_milder f_is_integer f_is_between f_is_index f_is_list f_is_list_of f_is_name f_is_tuple_of f_is_letter f_check_row f_is_begin f_are_delays f_is_box f_check_ways f_are_widths f_check_part f_check_boxes f__law_start f__law_draw f__law_mail f__law_rising f__law_box f__law_way f__law_raw f__law_made_ways f__law_line f__law_copy f__law_other f__law_due f_law f_BadPart_init f_BadNumber_init f_BadIndex_init f_BadRow_init f_BadLetter_init f_BadSteps_init f_BadBox_init f_TooMany_init f_Mail_init f_Mail_eq f_Way_init f_Way_eq f_Steps_init f_Room_init f_Line_init : Addr} (X : K.In h) (G : h.Ns mainGlobals mg) (hfa : mg "law" = some (.ref fa))
    {od_has_milder_room an_has_milder_room od_is_milder an_is_milder od_is_integer an_is_integer od_is_between an_is_between od_is_index an_is_index od_is_list an_is_list od_is_list_of an_is_list_of od_is_name an_is_name od_is_tuple_of an_is_tuple_of od_is_letter an_is_letter od_check_row an_check_row od_is_begin an_is_begin od_are_delays an_are_delays od_is_box an_is_box od_check_ways an_check_ways od_are_widths an_are_widths od_check_part an_check_part od_check_boxes an_check_boxes od__law_start an__law_start od__law_draw an__law_draw od__law_mail an__law_mail od__law_rising an__law_rising od__law_box an__law_box od__law_way an__law_way od__law_raw an__law_raw od__law_made_ways an__law_made_ways od__law_line an__law_line od__law_copy an__law_copy od__law_other an__law_other od__law_due an__law_due od_law an_law od_BadPart_init an_BadPart_init od_BadNumber_init an_BadNumber_init od_BadIndex_init an_BadIndex_init od_BadRow_init an_BadRow_init od_BadLetter_init an_BadLetter_init od_BadSteps_init an_BadSteps_init od_BadBox_init an_BadBox_init od_TooMany_init an_TooMany_init od_Mail_init an_Mail_init od_Mail_eq an_Mail_eq od_Way_init an_Way_init od_Way_eq an_Way_eq od_Steps_init an_Steps_init od_Room_init an_Room_init od_Line_init an_Line_init ddt edt : Option Addr} {sl_has_milder_room sl_is_milder sl_is_integer sl_is_between sl_is_index sl_is_list sl_is_list_of sl_is_name sl_is_tuple_of sl_is_letter sl_check_row sl_is_begin sl_are_delays sl_is_box sl_check_ways sl_are_widths sl_check_part sl_check_boxes sl__law_start sl__law_draw sl__law_mail sl__law_rising sl__law_box sl__law_way sl__law_raw sl__law_made_ways sl__law_line sl__law_copy sl__law_other sl__law_due sl_law sl_BadPart_init sl_BadNumber_init sl_BadIndex_init sl_BadRow_init sl_BadLetter_init sl_BadSteps_init sl_BadBox_init sl_TooMany_init sl_Mail_init sl_Mail_eq sl_Way_init sl_Way_eq sl_Steps_init sl_Room_init sl_Line_init dsl esl : Array (Option Value)} {oc_has_milder_room kV_has_milder_room dc_has_milder_room pm_has_milder_room_ cd_has_milder_room ct_has_milder_room oc_is_milder kV_is_milder dc_is_milder pm_is_milder_ cd_is_milder ct_is_milder oc_is_integer kV_is_integer dc_is_integer pm_is_integer_ cd_is_integer ct_is_integer oc_is_between kV_is_between dc_is_between pm_is_between_ cd_is_between ct_is_between oc_is_index kV_is_index dc_is_index pm_is_index_ cd_is_index ct_is_index oc_is_list kV_is_list dc_is_list pm_is_list_ cd_is_list ct_is_list oc_is_list_of kV_is_list_of dc_is_list_of pm_is_list_of_ cd_is_list_of ct_is_list_of oc_is_name kV_is_name dc_is_name pm_is_name_ cd_is_name ct_is_name oc_is_tuple_of kV_is_tuple_of dc_is_tuple_of pm_is_tuple_of_ cd_is_tuple_of ct_is_tuple_of oc_is_letter kV_is_letter dc_is_letter pm_is_letter_ cd_is_letter ct_is_letter oc_check_row kV_check_row dc_check_row pm_check_row_ cd_check_row ct_check_row oc_is_begin kV_is_begin dc_is_begin pm_is_begin_ cd_is_begin ct_is_begin oc_are_delays kV_are_delays dc_are_delays pm_are_delays_ cd_are_delays ct_are_delays oc_is_box kV_is_box dc_is_box pm_is_box_ cd_is_box ct_is_box oc_check_ways kV_check_ways dc_check_ways pm_check_ways_ cd_check_ways ct_check_ways oc_are_widths kV_are_widths dc_are_widths pm_are_widths_ cd_are_widths ct_are_widths oc_check_part kV_check_part dc_check_part pm_check_part_ cd_check_part ct_check_part oc_check_boxes kV_check_boxes dc_check_boxes pm_check_boxes_ cd_check_boxes ct_check_boxes oc__law_start kV__law_start dc__law_start pm__law_start_ cd__law_start ct__law_start oc__law_draw kV__law_draw dc__law_draw pm__law_draw_ cd__law_draw ct__law_draw oc__law_mail kV__law_mail dc__law_mail pm__law_mail_ cd__law_mail ct__law_mail oc__law_rising kV__law_rising dc__law_rising pm__law_rising_ cd__law_rising ct__law_rising oc__law_box kV__law_box dc__law_box pm__law_box_ cd__law_box ct__law_box oc__law_way kV__law_way dc__law_way pm__law_way_ cd__law_way ct__law_way oc__law_raw kV__law_raw dc__law_raw pm__law_raw_ cd__law_raw ct__law_raw oc__law_made_ways kV__law_made_ways dc__law_made_ways pm__law_made_ways_ cd__law_made_ways ct__law_made_ways oc__law_line kV__law_line dc__law_line pm__law_line_ cd__law_line ct__law_line oc__law_copy kV__law_copy dc__law_copy pm__law_copy_ cd__law_copy ct__law_copy oc__law_other kV__law_other dc__law_other pm__law_other_ cd__law_other ct__law_other oc__law_due kV__law_due dc__law_due pm__law_due_ cd__law_due ct__law_due oc_law kV_law dc_law pm_law_ cd_law ct_law oc_BadPart_init kV_BadPart_init dc_BadPart_init pm_BadPart_init_ cd_BadPart_init ct_BadPart_init oc_BadNumber_init kV_BadNumber_init dc_BadNumber_init pm_BadNumber_init_ cd_BadNumber_init ct_BadNumber_init oc_BadIndex_init kV_BadIndex_init dc_BadIndex_init pm_BadIndex_init_ cd_BadIndex_init ct_BadIndex_init oc_BadRow_init kV_BadRow_init dc_BadRow_init pm_BadRow_init_ cd_BadRow_init ct_BadRow_init oc_BadLetter_init kV_BadLetter_init dc_BadLetter_init pm_BadLetter_init_ cd_BadLetter_init ct_BadLetter_init oc_BadSteps_init kV_BadSteps_init dc_BadSteps_init pm_BadSteps_init_ cd_BadSteps_init ct_BadSteps_init oc_BadBox_init kV_BadBox_init dc_BadBox_init pm_BadBox_init_ cd_BadBox_init ct_BadBox_init oc_TooMany_init kV_TooMany_init dc_TooMany_init pm_TooMany_init_ cd_TooMany_init ct_TooMany_init oc_Mail_init kV_Mail_init dc_Mail_init pm_Mail_init_ cd_Mail_init ct_Mail_init oc_Mail_eq kV_Mail_eq dc_Mail_eq pm_Mail_eq_ cd_Mail_eq ct_Mail_eq oc_Way_init kV_Way_init dc_Way_init pm_Way_init_ cd_Way_init ct_Way_init oc_Way_eq kV_Way_eq dc_Way_eq pm_Way_eq_ cd_Way_eq ct_Way_eq oc_Steps_init kV_Steps_init dc_Steps_init pm_Steps_init_ cd_Steps_init ct_Steps_init oc_Room_init kV_Room_init dc_Room_init pm_Room_init_ cd_Room_init ct_Room_init oc_Line_init kV_Line_init dc_Line_init pm_Line_init_ cd_Line_init ct_Line_init dcl : Value} {t_MOST_HEADS t_MOST_BODY t_MOST_LETTERS t_MOST_ROWS t_MOST_PLACES t_MOST_BEGIN t_MOST_DELAY t_MOST_BOXES t_MOST_KEEP t_MOST_TURN t_MOST_NUMBERS t_MOST_QUIET t_MOST_LOST t_MOST_PERIOD t_MOST_BOUNDS t_MOST_UNITS t_MOST_WAYS t_MOST_SILENT t_MOST_WIDTHS t_MOST_WIDTH t_MOST_HEAD t_LEAST_COST t_MOST_COST t_ALPHABET : Tok} {dn en : Nat}
    {xBadPart_nm xBadPart_q : Str} {xBadPart_N : Addr} {xBadPart_bs : List Value} {xBadPart_sn : List Str} {xBadPart_sub : List Value} {xBadPart_ab : Bool} {xBadPart_col : Option Bool} {xBadPart_dd : Option Addr} {xBadPart_m0 xBadPart_m1 xBadPart_m2 xBadPart_m3 xBadPart_m5 : Option Value}
    {xBadNumber_nm xBadNumber_q : Str} {xBadNumber_N : Addr} {xBadNumber_bs : List Value} {xBadNumber_sn : List Str} {xBadNumber_sub : List Value} {xBadNumber_ab : Bool} {xBadNumber_col : Option Bool} {xBadNumber_dd : Option Addr} {xBadNumber_m0 xBadNumber_m1 xBadNumber_m2 xBadNumber_m3 xBadNumber_m5 : Option Value}
    {xBadIndex_nm xBadIndex_q : Str} {xBadIndex_N : Addr} {xBadIndex_bs : List Value} {xBadIndex_sn : List Str} {xBadIndex_sub : List Value} {xBadIndex_ab : Bool} {xBadIndex_col : Option Bool} {xBadIndex_dd : Option Addr} {xBadIndex_m0 xBadIndex_m1 xBadIndex_m2 xBadIndex_m3 xBadIndex_m5 : Option Value}
    {xBadRow_nm xBadRow_q : Str} {xBadRow_N : Addr} {xBadRow_bs : List Value} {xBadRow_sn : List Str} {xBadRow_sub : List Value} {xBadRow_ab : Bool} {xBadRow_col : Option Bool} {xBadRow_dd : Option Addr} {xBadRow_m0 xBadRow_m1 xBadRow_m2 xBadRow_m3 xBadRow_m5 : Option Value}
    {xBadLetter_nm xBadLetter_q : Str} {xBadLetter_N : Addr} {xBadLetter_bs : List Value} {xBadLetter_sn : List Str} {xBadLetter_sub : List Value} {xBadLetter_ab : Bool} {xBadLetter_col : Option Bool} {xBadLetter_dd : Option Addr} {xBadLetter_m0 xBadLetter_m1 xBadLetter_m2 xBadLetter_m3 xBadLetter_m5 : Option Value}
    {xBadSteps_nm xBadSteps_q : Str} {xBadSteps_N : Addr} {xBadSteps_bs : List Value} {xBadSteps_sn : List Str} {xBadSteps_sub : List Value} {xBadSteps_ab : Bool} {xBadSteps_col : Option Bool} {xBadSteps_dd : Option Addr} {xBadSteps_m0 xBadSteps_m1 xBadSteps_m2 xBadSteps_m3 xBadSteps_m5 : Option Value}
    {xBadBox_nm xBadBox_q : Str} {xBadBox_N : Addr} {xBadBox_bs : List Value} {xBadBox_sn : List Str} {xBadBox_sub : List Value} {xBadBox_ab : Bool} {xBadBox_col : Option Bool} {xBadBox_dd : Option Addr} {xBadBox_m0 xBadBox_m1 xBadBox_m2 xBadBox_m3 xBadBox_m5 : Option Value}
    {xTooMany_nm xTooMany_q : Str} {xTooMany_N : Addr} {xTooMany_bs : List Value} {xTooMany_sn : List Str} {xTooMany_sub : List Value} {xTooMany_ab : Bool} {xTooMany_col : Option Bool} {xTooMany_dd : Option Addr} {xTooMany_m0 xTooMany_m1 xTooMany_m2 xTooMany_m3 xTooMany_m5 : Option Value}
    (g_BadPart : PySem.W.nsIn K mainGlobals "BadPart" = some (some (.ref ABadPart)))
    (g_BadNumber : PySem.W.nsIn K mainGlobals "BadNumber" = some (some (.ref ABadNumber)))
    (g_BadIndex : PySem.W.nsIn K mainGlobals "BadIndex" = some (some (.ref ABadIndex)))
    (g_BadRow : PySem.W.nsIn K mainGlobals "BadRow" = some (some (.ref ABadRow)))
    (g_BadLetter : PySem.W.nsIn K mainGlobals "BadLetter" = some (some (.ref ABadLetter)))
    (g_BadSteps : PySem.W.nsIn K mainGlobals "BadSteps" = some (some (.ref ABadSteps)))
    (g_BadBox : PySem.W.nsIn K mainGlobals "BadBox" = some (some (.ref ABadBox)))
    (g_TooMany : PySem.W.nsIn K mainGlobals "TooMany" = some (some (.ref ATooMany)))
    (g_WholeError : PySem.W.nsIn K mainGlobals "WholeError" = some (some (.ref AWholeError)))
    (g_Mail : PySem.W.nsIn K mainGlobals "Mail" = some (some (.ref AMail)))
    (g_Way : PySem.W.nsIn K mainGlobals "Way" = some (some (.ref AWay)))
    (g_Steps : PySem.W.nsIn K mainGlobals "Steps" = some (some (.ref ASteps)))
    (g_Room : PySem.W.nsIn K mainGlobals "Room" = some (some (.ref ARoom)))
    (g_Line : PySem.W.nsIn K mainGlobals "Line" = some (some (.ref ALine)))
    (a_has_milder_room : PySem.W.nsIn K mainGlobals "has_milder_room" = some (some (.ref f_has_milder_room)))
    (l_has_milder_room : K.lookup f_has_milder_room = some ⟨oc_has_milder_room, od_has_milder_room, .func (PySem.W.fnOf "has_milder_room" "has_milder_room" (defArgs s_has_milder_room) (defBody s_has_milder_room) (defScope s_has_milder_room) .none kV_has_milder_room dc_has_milder_room pm_has_milder_room_ an_has_milder_room cd_has_milder_room ct_has_milder_room), sl_has_milder_room⟩)
    (c_has_milder_room : PySem.W.codeIn K cd_has_milder_room "has_milder_room" = true)
    (k_has_milder_room : PySem.W.keepIn K (.ref f_has_milder_room) = true)
    (a_is_milder : PySem.W.nsIn K mainGlobals "is_milder" = some (some (.ref f_is_milder)))
    (l_is_milder : K.lookup f_is_milder = some ⟨oc_is_milder, od_is_milder, .func (PySem.W.fnOf "is_milder" "is_milder" (defArgs s_is_milder) (defBody s_is_milder) (defScope s_is_milder) .none kV_is_milder dc_is_milder pm_is_milder_ an_is_milder cd_is_milder ct_is_milder), sl_is_milder⟩)
    (c_is_milder : PySem.W.codeIn K cd_is_milder "is_milder" = true)
    (k_is_milder : PySem.W.keepIn K (.ref f_is_milder) = true)
    (a_is_integer : PySem.W.nsIn K mainGlobals "is_integer" = some (some (.ref f_is_integer)))
    (l_is_integer : K.lookup f_is_integer = some ⟨oc_is_integer, od_is_integer, .func (PySem.W.fnOf "is_integer" "is_integer" (defArgs s_is_integer) (defBody s_is_integer) (defScope s_is_integer) .none kV_is_integer dc_is_integer pm_is_integer_ an_is_integer cd_is_integer ct_is_integer), sl_is_integer⟩)
    (c_is_integer : PySem.W.codeIn K cd_is_integer "is_integer" = true)
    (k_is_integer : PySem.W.keepIn K (.ref f_is_integer) = true)
    (a_is_between : PySem.W.nsIn K mainGlobals "is_between" = some (some (.ref f_is_between)))
    (l_is_between : K.lookup f_is_between = some ⟨oc_is_between, od_is_between, .func (PySem.W.fnOf "is_between" "is_between" (defArgs s_is_between) (defBody s_is_between) (defScope s_is_between) .none kV_is_between dc_is_between pm_is_between_ an_is_between cd_is_between ct_is_between), sl_is_between⟩)
    (c_is_between : PySem.W.codeIn K cd_is_between "is_between" = true)
    (k_is_between : PySem.W.keepIn K (.ref f_is_between) = true)
    (a_is_index : PySem.W.nsIn K mainGlobals "is_index" = some (some (.ref f_is_index)))
    (l_is_index : K.lookup f_is_index = some ⟨oc_is_index, od_is_index, .func (PySem.W.fnOf "is_index" "is_index" (defArgs s_is_index) (defBody s_is_index) (defScope s_is_index) .none kV_is_index dc_is_index pm_is_index_ an_is_index cd_is_index ct_is_index), sl_is_index⟩)
    (c_is_index : PySem.W.codeIn K cd_is_index "is_index" = true)
    (k_is_index : PySem.W.keepIn K (.ref f_is_index) = true)
    (a_is_list : PySem.W.nsIn K mainGlobals "is_list" = some (some (.ref f_is_list)))
    (l_is_list : K.lookup f_is_list = some ⟨oc_is_list, od_is_list, .func (PySem.W.fnOf "is_list" "is_list" (defArgs s_is_list) (defBody s_is_list) (defScope s_is_list) .none kV_is_list dc_is_list pm_is_list_ an_is_list cd_is_list ct_is_list), sl_is_list⟩)
    (c_is_list : PySem.W.codeIn K cd_is_list "is_list" = true)
    (k_is_list : PySem.W.keepIn K (.ref f_is_list) = true)
    (a_is_list_of : PySem.W.nsIn K mainGlobals "is_list_of" = some (some (.ref f_is_list_of)))
    (l_is_list_of : K.lookup f_is_list_of = some ⟨oc_is_list_of, od_is_list_of, .func (PySem.W.fnOf "is_list_of" "is_list_of" (defArgs s_is_list_of) (defBody s_is_list_of) (defScope s_is_list_of) .none kV_is_list_of dc_is_list_of pm_is_list_of_ an_is_list_of cd_is_list_of ct_is_list_of), sl_is_list_of⟩)
    (c_is_list_of : PySem.W.codeIn K cd_is_list_of "is_list_of" = true)
    (k_is_list_of : PySem.W.keepIn K (.ref f_is_list_of) = true)
    (a_is_name : PySem.W.nsIn K mainGlobals "is_name" = some (some (.ref f_is_name)))
    (l_is_name : K.lookup f_is_name = some ⟨oc_is_name, od_is_name, .func (PySem.W.fnOf "is_name" "is_name" (defArgs s_is_name) (defBody s_is_name) (defScope s_is_name) .none kV_is_name dc_is_name pm_is_name_ an_is_name cd_is_name ct_is_name), sl_is_name⟩)
    (c_is_name : PySem.W.codeIn K cd_is_name "is_name" = true)
    (k_is_name : PySem.W.keepIn K (.ref f_is_name) = true)
    (a_is_tuple_of : PySem.W.nsIn K mainGlobals "is_tuple_of" = some (some (.ref f_is_tuple_of)))
    (l_is_tuple_of : K.lookup f_is_tuple_of = some ⟨oc_is_tuple_of, od_is_tuple_of, .func (PySem.W.fnOf "is_tuple_of" "is_tuple_of" (defArgs s_is_tuple_of) (defBody s_is_tuple_of) (defScope s_is_tuple_of) .none kV_is_tuple_of dc_is_tuple_of pm_is_tuple_of_ an_is_tuple_of cd_is_tuple_of ct_is_tuple_of), sl_is_tuple_of⟩)
    (c_is_tuple_of : PySem.W.codeIn K cd_is_tuple_of "is_tuple_of" = true)
    (k_is_tuple_of : PySem.W.keepIn K (.ref f_is_tuple_of) = true)
    (a_is_letter : PySem.W.nsIn K mainGlobals "is_letter" = some (some (.ref f_is_letter)))
    (l_is_letter : K.lookup f_is_letter = some ⟨oc_is_letter, od_is_letter, .func (PySem.W.fnOf "is_letter" "is_letter" (defArgs s_is_letter) (defBody s_is_letter) (defScope s_is_letter) .none kV_is_letter dc_is_letter pm_is_letter_ an_is_letter cd_is_letter ct_is_letter), sl_is_letter⟩)
    (c_is_letter : PySem.W.codeIn K cd_is_letter "is_letter" = true)
    (k_is_letter : PySem.W.keepIn K (.ref f_is_letter) = true)
    (a_check_row : PySem.W.nsIn K mainGlobals "check_row" = some (some (.ref f_check_row)))
    (l_check_row : K.lookup f_check_row = some ⟨oc_check_row, od_check_row, .func (PySem.W.fnOf "check_row" "check_row" (defArgs s_check_row) (defBody s_check_row) (defScope s_check_row) .none kV_check_row dc_check_row pm_check_row_ an_check_row cd_check_row ct_check_row), sl_check_row⟩)
    (c_check_row : PySem.W.codeIn K cd_check_row "check_row" = true)
    (k_check_row : PySem.W.keepIn K (.ref f_check_row) = true)
    (a_is_begin : PySem.W.nsIn K mainGlobals "is_begin" = some (some (.ref f_is_begin)))
    (l_is_begin : K.lookup f_is_begin = some ⟨oc_is_begin, od_is_begin, .func (PySem.W.fnOf "is_begin" "is_begin" (defArgs s_is_begin) (defBody s_is_begin) (defScope s_is_begin) .none kV_is_begin dc_is_begin pm_is_begin_ an_is_begin cd_is_begin ct_is_begin), sl_is_begin⟩)
    (c_is_begin : PySem.W.codeIn K cd_is_begin "is_begin" = true)
    (k_is_begin : PySem.W.keepIn K (.ref f_is_begin) = true)
    (a_are_delays : PySem.W.nsIn K mainGlobals "are_delays" = some (some (.ref f_are_delays)))
    (l_are_delays : K.lookup f_are_delays = some ⟨oc_are_delays, od_are_delays, .func (PySem.W.fnOf "are_delays" "are_delays" (defArgs s_are_delays) (defBody s_are_delays) (defScope s_are_delays) .none kV_are_delays dc_are_delays pm_are_delays_ an_are_delays cd_are_delays ct_are_delays), sl_are_delays⟩)
    (c_are_delays : PySem.W.codeIn K cd_are_delays "are_delays" = true)
    (k_are_delays : PySem.W.keepIn K (.ref f_are_delays) = true)
    (a_is_box : PySem.W.nsIn K mainGlobals "is_box" = some (some (.ref f_is_box)))
    (l_is_box : K.lookup f_is_box = some ⟨oc_is_box, od_is_box, .func (PySem.W.fnOf "is_box" "is_box" (defArgs s_is_box) (defBody s_is_box) (defScope s_is_box) .none kV_is_box dc_is_box pm_is_box_ an_is_box cd_is_box ct_is_box), sl_is_box⟩)
    (c_is_box : PySem.W.codeIn K cd_is_box "is_box" = true)
    (k_is_box : PySem.W.keepIn K (.ref f_is_box) = true)
    (a_check_ways : PySem.W.nsIn K mainGlobals "check_ways" = some (some (.ref f_check_ways)))
    (l_check_ways : K.lookup f_check_ways = some ⟨oc_check_ways, od_check_ways, .func (PySem.W.fnOf "check_ways" "check_ways" (defArgs s_check_ways) (defBody s_check_ways) (defScope s_check_ways) .none kV_check_ways dc_check_ways pm_check_ways_ an_check_ways cd_check_ways ct_check_ways), sl_check_ways⟩)
    (c_check_ways : PySem.W.codeIn K cd_check_ways "check_ways" = true)
    (k_check_ways : PySem.W.keepIn K (.ref f_check_ways) = true)
    (a_are_widths : PySem.W.nsIn K mainGlobals "are_widths" = some (some (.ref f_are_widths)))
    (l_are_widths : K.lookup f_are_widths = some ⟨oc_are_widths, od_are_widths, .func (PySem.W.fnOf "are_widths" "are_widths" (defArgs s_are_widths) (defBody s_are_widths) (defScope s_are_widths) .none kV_are_widths dc_are_widths pm_are_widths_ an_are_widths cd_are_widths ct_are_widths), sl_are_widths⟩)
    (c_are_widths : PySem.W.codeIn K cd_are_widths "are_widths" = true)
    (k_are_widths : PySem.W.keepIn K (.ref f_are_widths) = true)
    (a_check_part : PySem.W.nsIn K mainGlobals "check_part" = some (some (.ref f_check_part)))
    (l_check_part : K.lookup f_check_part = some ⟨oc_check_part, od_check_part, .func (PySem.W.fnOf "check_part" "check_part" (defArgs s_check_part) (defBody s_check_part) (defScope s_check_part) .none kV_check_part dc_check_part pm_check_part_ an_check_part cd_check_part ct_check_part), sl_check_part⟩)
    (c_check_part : PySem.W.codeIn K cd_check_part "check_part" = true)
    (k_check_part : PySem.W.keepIn K (.ref f_check_part) = true)
    (a_check_boxes : PySem.W.nsIn K mainGlobals "check_boxes" = some (some (.ref f_check_boxes)))
    (l_check_boxes : K.lookup f_check_boxes = some ⟨oc_check_boxes, od_check_boxes, .func (PySem.W.fnOf "check_boxes" "check_boxes" (defArgs s_check_boxes) (defBody s_check_boxes) (defScope s_check_boxes) .none kV_check_boxes dc_check_boxes pm_check_boxes_ an_check_boxes cd_check_boxes ct_check_boxes), sl_check_boxes⟩)
    (c_check_boxes : PySem.W.codeIn K cd_check_boxes "check_boxes" = true)
    (k_check_boxes : PySem.W.keepIn K (.ref f_check_boxes) = true)
    (a__law_start : PySem.W.nsIn K mainGlobals "_law_start" = some (some (.ref f__law_start)))
    (l__law_start : K.lookup f__law_start = some ⟨oc__law_start, od__law_start, .func (PySem.W.fnOf "_law_start" "_law_start" (defArgs s__law_start) (defBody s__law_start) (defScope s__law_start) .none kV__law_start dc__law_start pm__law_start_ an__law_start cd__law_start ct__law_start), sl__law_start⟩)
    (c__law_start : PySem.W.codeIn K cd__law_start "_law_start" = true)
    (k__law_start : PySem.W.keepIn K (.ref f__law_start) = true)
    (a__law_draw : PySem.W.nsIn K mainGlobals "_law_draw" = some (some (.ref f__law_draw)))
    (l__law_draw : K.lookup f__law_draw = some ⟨oc__law_draw, od__law_draw, .func (PySem.W.fnOf "_law_draw" "_law_draw" (defArgs s__law_draw) (defBody s__law_draw) (defScope s__law_draw) .none kV__law_draw dc__law_draw pm__law_draw_ an__law_draw cd__law_draw ct__law_draw), sl__law_draw⟩)
    (c__law_draw : PySem.W.codeIn K cd__law_draw "_law_draw" = true)
    (k__law_draw : PySem.W.keepIn K (.ref f__law_draw) = true)
    (a__law_mail : PySem.W.nsIn K mainGlobals "_law_mail" = some (some (.ref f__law_mail)))
    (l__law_mail : K.lookup f__law_mail = some ⟨oc__law_mail, od__law_mail, .func (PySem.W.fnOf "_law_mail" "_law_mail" (defArgs s__law_mail) (defBody s__law_mail) (defScope s__law_mail) .none kV__law_mail dc__law_mail pm__law_mail_ an__law_mail cd__law_mail ct__law_mail), sl__law_mail⟩)
    (c__law_mail : PySem.W.codeIn K cd__law_mail "_law_mail" = true)
    (k__law_mail : PySem.W.keepIn K (.ref f__law_mail) = true)
    (a__law_rising : PySem.W.nsIn K mainGlobals "_law_rising" = some (some (.ref f__law_rising)))
    (l__law_rising : K.lookup f__law_rising = some ⟨oc__law_rising, od__law_rising, .func (PySem.W.fnOf "_law_rising" "_law_rising" (defArgs s__law_rising) (defBody s__law_rising) (defScope s__law_rising) .none kV__law_rising dc__law_rising pm__law_rising_ an__law_rising cd__law_rising ct__law_rising), sl__law_rising⟩)
    (c__law_rising : PySem.W.codeIn K cd__law_rising "_law_rising" = true)
    (k__law_rising : PySem.W.keepIn K (.ref f__law_rising) = true)
    (a__law_box : PySem.W.nsIn K mainGlobals "_law_box" = some (some (.ref f__law_box)))
    (l__law_box : K.lookup f__law_box = some ⟨oc__law_box, od__law_box, .func (PySem.W.fnOf "_law_box" "_law_box" (defArgs s__law_box) (defBody s__law_box) (defScope s__law_box) .none kV__law_box dc__law_box pm__law_box_ an__law_box cd__law_box ct__law_box), sl__law_box⟩)
    (c__law_box : PySem.W.codeIn K cd__law_box "_law_box" = true)
    (k__law_box : PySem.W.keepIn K (.ref f__law_box) = true)
    (a__law_way : PySem.W.nsIn K mainGlobals "_law_way" = some (some (.ref f__law_way)))
    (l__law_way : K.lookup f__law_way = some ⟨oc__law_way, od__law_way, .func (PySem.W.fnOf "_law_way" "_law_way" (defArgs s__law_way) (defBody s__law_way) (defScope s__law_way) .none kV__law_way dc__law_way pm__law_way_ an__law_way cd__law_way ct__law_way), sl__law_way⟩)
    (c__law_way : PySem.W.codeIn K cd__law_way "_law_way" = true)
    (k__law_way : PySem.W.keepIn K (.ref f__law_way) = true)
    (a__law_raw : PySem.W.nsIn K mainGlobals "_law_raw" = some (some (.ref f__law_raw)))
    (l__law_raw : K.lookup f__law_raw = some ⟨oc__law_raw, od__law_raw, .func (PySem.W.fnOf "_law_raw" "_law_raw" (defArgs s__law_raw) (defBody s__law_raw) (defScope s__law_raw) .none kV__law_raw dc__law_raw pm__law_raw_ an__law_raw cd__law_raw ct__law_raw), sl__law_raw⟩)
    (c__law_raw : PySem.W.codeIn K cd__law_raw "_law_raw" = true)
    (k__law_raw : PySem.W.keepIn K (.ref f__law_raw) = true)
    (a__law_made_ways : PySem.W.nsIn K mainGlobals "_law_made_ways" = some (some (.ref f__law_made_ways)))
    (l__law_made_ways : K.lookup f__law_made_ways = some ⟨oc__law_made_ways, od__law_made_ways, .func (PySem.W.fnOf "_law_made_ways" "_law_made_ways" (defArgs s__law_made_ways) (defBody s__law_made_ways) (defScope s__law_made_ways) .none kV__law_made_ways dc__law_made_ways pm__law_made_ways_ an__law_made_ways cd__law_made_ways ct__law_made_ways), sl__law_made_ways⟩)
    (c__law_made_ways : PySem.W.codeIn K cd__law_made_ways "_law_made_ways" = true)
    (k__law_made_ways : PySem.W.keepIn K (.ref f__law_made_ways) = true)
    (a__law_line : PySem.W.nsIn K mainGlobals "_law_line" = some (some (.ref f__law_line)))
    (l__law_line : K.lookup f__law_line = some ⟨oc__law_line, od__law_line, .func (PySem.W.fnOf "_law_line" "_law_line" (defArgs s__law_line) (defBody s__law_line) (defScope s__law_line) .none kV__law_line dc__law_line pm__law_line_ an__law_line cd__law_line ct__law_line), sl__law_line⟩)
    (c__law_line : PySem.W.codeIn K cd__law_line "_law_line" = true)
    (k__law_line : PySem.W.keepIn K (.ref f__law_line) = true)
    (a__law_copy : PySem.W.nsIn K mainGlobals "_law_copy" = some (some (.ref f__law_copy)))
    (l__law_copy : K.lookup f__law_copy = some ⟨oc__law_copy, od__law_copy, .func (PySem.W.fnOf "_law_copy" "_law_copy" (defArgs s__law_copy) (defBody s__law_copy) (defScope s__law_copy) .none kV__law_copy dc__law_copy pm__law_copy_ an__law_copy cd__law_copy ct__law_copy), sl__law_copy⟩)
    (c__law_copy : PySem.W.codeIn K cd__law_copy "_law_copy" = true)
    (k__law_copy : PySem.W.keepIn K (.ref f__law_copy) = true)
    (a__law_other : PySem.W.nsIn K mainGlobals "_law_other" = some (some (.ref f__law_other)))
    (l__law_other : K.lookup f__law_other = some ⟨oc__law_other, od__law_other, .func (PySem.W.fnOf "_law_other" "_law_other" (defArgs s__law_other) (defBody s__law_other) (defScope s__law_other) .none kV__law_other dc__law_other pm__law_other_ an__law_other cd__law_other ct__law_other), sl__law_other⟩)
    (c__law_other : PySem.W.codeIn K cd__law_other "_law_other" = true)
    (k__law_other : PySem.W.keepIn K (.ref f__law_other) = true)
    (a__law_due : PySem.W.nsIn K mainGlobals "_law_due" = some (some (.ref f__law_due)))
    (l__law_due : K.lookup f__law_due = some ⟨oc__law_due, od__law_due, .func (PySem.W.fnOf "_law_due" "_law_due" (defArgs s__law_due) (defBody s__law_due) (defScope s__law_due) .none kV__law_due dc__law_due pm__law_due_ an__law_due cd__law_due ct__law_due), sl__law_due⟩)
    (c__law_due : PySem.W.codeIn K cd__law_due "_law_due" = true)
    (k__law_due : PySem.W.keepIn K (.ref f__law_due) = true)
    (a_law : PySem.W.nsIn K mainGlobals "law" = some (some (.ref f_law)))
    (l_law : K.lookup f_law = some ⟨oc_law, od_law, .func (PySem.W.fnOf "law" "law" (defArgs s_law) (defBody s_law) (defScope s_law) .none kV_law dc_law pm_law_ an_law cd_law ct_law), sl_law⟩)
    (c_law : PySem.W.codeIn K cd_law "law" = true)
    (k_law : PySem.W.keepIn K (.ref f_law) = true)
    (a_BadPart_init : PySem.W.findIn K (.ref ABadPart) "__init__" = some (some (.ref f_BadPart_init)))
    (i_BadPart_init : PySem.W.typeIn K (.ref f_BadPart_init) = some (.type "function"))
    (l_BadPart_init : K.lookup f_BadPart_init = some ⟨oc_BadPart_init, od_BadPart_init, .func (PySem.W.fnOf "__init__" "BadPart.__init__" (defArgs s_BadPart_init) (defBody s_BadPart_init) (defScope s_BadPart_init) .none kV_BadPart_init dc_BadPart_init pm_BadPart_init_ an_BadPart_init cd_BadPart_init ct_BadPart_init), sl_BadPart_init⟩)
    (c_BadPart_init : PySem.W.codeIn K cd_BadPart_init "BadPart.__init__" = true)
    (k_BadPart_init : PySem.W.keepIn K (.ref f_BadPart_init) = true)
    (a_BadNumber_init : PySem.W.findIn K (.ref ABadNumber) "__init__" = some (some (.ref f_BadNumber_init)))
    (i_BadNumber_init : PySem.W.typeIn K (.ref f_BadNumber_init) = some (.type "function"))
    (l_BadNumber_init : K.lookup f_BadNumber_init = some ⟨oc_BadNumber_init, od_BadNumber_init, .func (PySem.W.fnOf "__init__" "BadNumber.__init__" (defArgs s_BadNumber_init) (defBody s_BadNumber_init) (defScope s_BadNumber_init) .none kV_BadNumber_init dc_BadNumber_init pm_BadNumber_init_ an_BadNumber_init cd_BadNumber_init ct_BadNumber_init), sl_BadNumber_init⟩)
    (c_BadNumber_init : PySem.W.codeIn K cd_BadNumber_init "BadNumber.__init__" = true)
    (k_BadNumber_init : PySem.W.keepIn K (.ref f_BadNumber_init) = true)
    (a_BadIndex_init : PySem.W.findIn K (.ref ABadIndex) "__init__" = some (some (.ref f_BadIndex_init)))
    (i_BadIndex_init : PySem.W.typeIn K (.ref f_BadIndex_init) = some (.type "function"))
    (l_BadIndex_init : K.lookup f_BadIndex_init = some ⟨oc_BadIndex_init, od_BadIndex_init, .func (PySem.W.fnOf "__init__" "BadIndex.__init__" (defArgs s_BadIndex_init) (defBody s_BadIndex_init) (defScope s_BadIndex_init) .none kV_BadIndex_init dc_BadIndex_init pm_BadIndex_init_ an_BadIndex_init cd_BadIndex_init ct_BadIndex_init), sl_BadIndex_init⟩)
    (c_BadIndex_init : PySem.W.codeIn K cd_BadIndex_init "BadIndex.__init__" = true)
    (k_BadIndex_init : PySem.W.keepIn K (.ref f_BadIndex_init) = true)
    (a_BadRow_init : PySem.W.findIn K (.ref ABadRow) "__init__" = some (some (.ref f_BadRow_init)))
    (i_BadRow_init : PySem.W.typeIn K (.ref f_BadRow_init) = some (.type "function"))
    (l_BadRow_init : K.lookup f_BadRow_init = some ⟨oc_BadRow_init, od_BadRow_init, .func (PySem.W.fnOf "__init__" "BadRow.__init__" (defArgs s_BadRow_init) (defBody s_BadRow_init) (defScope s_BadRow_init) .none kV_BadRow_init dc_BadRow_init pm_BadRow_init_ an_BadRow_init cd_BadRow_init ct_BadRow_init), sl_BadRow_init⟩)
    (c_BadRow_init : PySem.W.codeIn K cd_BadRow_init "BadRow.__init__" = true)
    (k_BadRow_init : PySem.W.keepIn K (.ref f_BadRow_init) = true)
    (a_BadLetter_init : PySem.W.findIn K (.ref ABadLetter) "__init__" = some (some (.ref f_BadLetter_init)))
    (i_BadLetter_init : PySem.W.typeIn K (.ref f_BadLetter_init) = some (.type "function"))
    (l_BadLetter_init : K.lookup f_BadLetter_init = some ⟨oc_BadLetter_init, od_BadLetter_init, .func (PySem.W.fnOf "__init__" "BadLetter.__init__" (defArgs s_BadLetter_init) (defBody s_BadLetter_init) (defScope s_BadLetter_init) .none kV_BadLetter_init dc_BadLetter_init pm_BadLetter_init_ an_BadLetter_init cd_BadLetter_init ct_BadLetter_init), sl_BadLetter_init⟩)
    (c_BadLetter_init : PySem.W.codeIn K cd_BadLetter_init "BadLetter.__init__" = true)
    (k_BadLetter_init : PySem.W.keepIn K (.ref f_BadLetter_init) = true)
    (a_BadSteps_init : PySem.W.findIn K (.ref ABadSteps) "__init__" = some (some (.ref f_BadSteps_init)))
    (i_BadSteps_init : PySem.W.typeIn K (.ref f_BadSteps_init) = some (.type "function"))
    (l_BadSteps_init : K.lookup f_BadSteps_init = some ⟨oc_BadSteps_init, od_BadSteps_init, .func (PySem.W.fnOf "__init__" "BadSteps.__init__" (defArgs s_BadSteps_init) (defBody s_BadSteps_init) (defScope s_BadSteps_init) .none kV_BadSteps_init dc_BadSteps_init pm_BadSteps_init_ an_BadSteps_init cd_BadSteps_init ct_BadSteps_init), sl_BadSteps_init⟩)
    (c_BadSteps_init : PySem.W.codeIn K cd_BadSteps_init "BadSteps.__init__" = true)
    (k_BadSteps_init : PySem.W.keepIn K (.ref f_BadSteps_init) = true)
    (a_BadBox_init : PySem.W.findIn K (.ref ABadBox) "__init__" = some (some (.ref f_BadBox_init)))
    (i_BadBox_init : PySem.W.typeIn K (.ref f_BadBox_init) = some (.type "function"))
    (l_BadBox_init : K.lookup f_BadBox_init = some ⟨oc_BadBox_init, od_BadBox_init, .func (PySem.W.fnOf "__init__" "BadBox.__init__" (defArgs s_BadBox_init) (defBody s_BadBox_init) (defScope s_BadBox_init) .none kV_BadBox_init dc_BadBox_init pm_BadBox_init_ an_BadBox_init cd_BadBox_init ct_BadBox_init), sl_BadBox_init⟩)
    (c_BadBox_init : PySem.W.codeIn K cd_BadBox_init "BadBox.__init__" = true)
    (k_BadBox_init : PySem.W.keepIn K (.ref f_BadBox_init) = true)
    (a_TooMany_init : PySem.W.findIn K (.ref ATooMany) "__init__" = some (some (.ref f_TooMany_init)))
    (i_TooMany_init : PySem.W.typeIn K (.ref f_TooMany_init) = some (.type "function"))
    (l_TooMany_init : K.lookup f_TooMany_init = some ⟨oc_TooMany_init, od_TooMany_init, .func (PySem.W.fnOf "__init__" "TooMany.__init__" (defArgs s_TooMany_init) (defBody s_TooMany_init) (defScope s_TooMany_init) .none kV_TooMany_init dc_TooMany_init pm_TooMany_init_ an_TooMany_init cd_TooMany_init ct_TooMany_init), sl_TooMany_init⟩)
    (c_TooMany_init : PySem.W.codeIn K cd_TooMany_init "TooMany.__init__" = true)
    (k_TooMany_init : PySem.W.keepIn K (.ref f_TooMany_init) = true)
    (a_Mail_init : PySem.W.findIn K (.ref AMail) "__init__" = some (some (.ref f_Mail_init)))
    (i_Mail_init : PySem.W.isFn K (.ref f_Mail_init) = true)
    (l_Mail_init : K.lookup f_Mail_init = some ⟨oc_Mail_init, od_Mail_init, .func (PySem.W.fnOf "__init__" "Mail.__init__" (defArgs s_Mail_init) (defBody s_Mail_init) (defScope s_Mail_init) .none kV_Mail_init dc_Mail_init pm_Mail_init_ an_Mail_init cd_Mail_init ct_Mail_init), sl_Mail_init⟩)
    (c_Mail_init : PySem.W.codeIn K cd_Mail_init "Mail.__init__" = true)
    (k_Mail_init : PySem.W.keepIn K (.ref f_Mail_init) = true)
    (a_Mail_eq : PySem.W.findIn K (.ref AMail) "__eq__" = some (some (.ref f_Mail_eq)))
    (i_Mail_eq : PySem.W.isFn K (.ref f_Mail_eq) = true)
    (l_Mail_eq : K.lookup f_Mail_eq = some ⟨oc_Mail_eq, od_Mail_eq, .func (PySem.W.fnOf "__eq__" "Mail.__eq__" (defArgs s_Mail_eq) (defBody s_Mail_eq) (defScope s_Mail_eq) .none kV_Mail_eq dc_Mail_eq pm_Mail_eq_ an_Mail_eq cd_Mail_eq ct_Mail_eq), sl_Mail_eq⟩)
    (c_Mail_eq : PySem.W.codeIn K cd_Mail_eq "Mail.__eq__" = true)
    (k_Mail_eq : PySem.W.keepIn K (.ref f_Mail_eq) = true)
    (a_Way_init : PySem.W.findIn K (.ref AWay) "__init__" = some (some (.ref f_Way_init)))
    (i_Way_init : PySem.W.isFn K (.ref f_Way_init) = true)
    (l_Way_init : K.lookup f_Way_init = some ⟨oc_Way_init, od_Way_init, .func (PySem.W.fnOf "__init__" "Way.__init__" (defArgs s_Way_init) (defBody s_Way_init) (defScope s_Way_init) (.ref Td) kV_Way_init dc_Way_init pm_Way_init_ an_Way_init cd_Way_init ct_Way_init), sl_Way_init⟩)
    (c_Way_init : PySem.W.codeIn K cd_Way_init "Way.__init__" = true)
    (k_Way_init : PySem.W.keepIn K (.ref f_Way_init) = true)
    (a_Way_eq : PySem.W.findIn K (.ref AWay) "__eq__" = some (some (.ref f_Way_eq)))
    (i_Way_eq : PySem.W.isFn K (.ref f_Way_eq) = true)
    (l_Way_eq : K.lookup f_Way_eq = some ⟨oc_Way_eq, od_Way_eq, .func (PySem.W.fnOf "__eq__" "Way.__eq__" (defArgs s_Way_eq) (defBody s_Way_eq) (defScope s_Way_eq) .none kV_Way_eq dc_Way_eq pm_Way_eq_ an_Way_eq cd_Way_eq ct_Way_eq), sl_Way_eq⟩)
    (c_Way_eq : PySem.W.codeIn K cd_Way_eq "Way.__eq__" = true)
    (k_Way_eq : PySem.W.keepIn K (.ref f_Way_eq) = true)
    (a_Steps_init : PySem.W.findIn K (.ref ASteps) "__init__" = some (some (.ref f_Steps_init)))
    (i_Steps_init : PySem.W.isFn K (.ref f_Steps_init) = true)
    (l_Steps_init : K.lookup f_Steps_init = some ⟨oc_Steps_init, od_Steps_init, .func (PySem.W.fnOf "__init__" "Steps.__init__" (defArgs s_Steps_init) (defBody s_Steps_init) (defScope s_Steps_init) .none kV_Steps_init dc_Steps_init pm_Steps_init_ an_Steps_init cd_Steps_init ct_Steps_init), sl_Steps_init⟩)
    (c_Steps_init : PySem.W.codeIn K cd_Steps_init "Steps.__init__" = true)
    (k_Steps_init : PySem.W.keepIn K (.ref f_Steps_init) = true)
    (a_Room_init : PySem.W.findIn K (.ref ARoom) "__init__" = some (some (.ref f_Room_init)))
    (i_Room_init : PySem.W.isFn K (.ref f_Room_init) = true)
    (l_Room_init : K.lookup f_Room_init = some ⟨oc_Room_init, od_Room_init, .func (PySem.W.fnOf "__init__" "Room.__init__" (defArgs s_Room_init) (defBody s_Room_init) (defScope s_Room_init) .none kV_Room_init dc_Room_init pm_Room_init_ an_Room_init cd_Room_init ct_Room_init), sl_Room_init⟩)
    (c_Room_init : PySem.W.codeIn K cd_Room_init "Room.__init__" = true)
    (k_Room_init : PySem.W.keepIn K (.ref f_Room_init) = true)
    (a_Line_init : PySem.W.findIn K (.ref ALine) "__init__" = some (some (.ref f_Line_init)))
    (i_Line_init : PySem.W.isFn K (.ref f_Line_init) = true)
    (l_Line_init : K.lookup f_Line_init = some ⟨oc_Line_init, od_Line_init, .func (PySem.W.fnOf "__init__" "Line.__init__" (defArgs s_Line_init) (defBody s_Line_init) (defScope s_Line_init) .none kV_Line_init dc_Line_init pm_Line_init_ an_Line_init cd_Line_init ct_Line_init), sl_Line_init⟩)
    (c_Line_init : PySem.W.codeIn K cd_Line_init "Line.__init__" = true)
    (k_Line_init : PySem.W.keepIn K (.ref f_Line_init) = true)
    (d_T : K.lookup Td = some ⟨dcl, ddt, .seq #[.ref AT0] dn, dsl⟩)
    (d_0 : K.lookup AT0 = some ⟨.type "tuple", edt, .seq #[] en, esl⟩)
    (n_isinstance : PySem.W.nsIn K mainGlobals "isinstance" = some none)
    (n_int : PySem.W.nsIn K mainGlobals "int" = some none)
    (n_bool : PySem.W.nsIn K mainGlobals "bool" = some none)
    (n_str : PySem.W.nsIn K mainGlobals "str" = some none)
    (n_list : PySem.W.nsIn K mainGlobals "list" = some none)
    (n_tuple : PySem.W.nsIn K mainGlobals "tuple" = some none)
    (n_len : PySem.W.nsIn K mainGlobals "len" = some none)
    (n_range : PySem.W.nsIn K mainGlobals "range" = some none)
    (n_enumerate : PySem.W.nsIn K mainGlobals "enumerate" = some none)
    (n_all : PySem.W.nsIn K mainGlobals "all" = some none)
    (n_abs : PySem.W.nsIn K mainGlobals "abs" = some none)
    (n_sum : PySem.W.nsIn K mainGlobals "sum" = some none)
    (n_repr : PySem.W.nsIn K mainGlobals "repr" = some none)
    (n_max : PySem.W.nsIn K mainGlobals "max" = some none)
    (n_zip : PySem.W.nsIn K mainGlobals "zip" = some none)
    (n_sorted : PySem.W.nsIn K mainGlobals "sorted" = some none)
    (v_MOST_HEADS : PySem.W.nsIn K mainGlobals "MOST_HEADS" = some (some (.int 4 t_MOST_HEADS)))
    (v_MOST_BODY : PySem.W.nsIn K mainGlobals "MOST_BODY" = some (some (.int 60 t_MOST_BODY)))
    (v_MOST_LETTERS : PySem.W.nsIn K mainGlobals "MOST_LETTERS" = some (some (.int 6 t_MOST_LETTERS)))
    (v_MOST_ROWS : PySem.W.nsIn K mainGlobals "MOST_ROWS" = some (some (.int 3 t_MOST_ROWS)))
    (v_MOST_PLACES : PySem.W.nsIn K mainGlobals "MOST_PLACES" = some (some (.int 4 t_MOST_PLACES)))
    (v_MOST_BEGIN : PySem.W.nsIn K mainGlobals "MOST_BEGIN" = some (some (.int 1000 t_MOST_BEGIN)))
    (v_MOST_DELAY : PySem.W.nsIn K mainGlobals "MOST_DELAY" = some (some (.int 50 t_MOST_DELAY)))
    (v_MOST_BOXES : PySem.W.nsIn K mainGlobals "MOST_BOXES" = some (some (.int 3 t_MOST_BOXES)))
    (v_MOST_KEEP : PySem.W.nsIn K mainGlobals "MOST_KEEP" = some (some (.int 10000 t_MOST_KEEP)))
    (v_MOST_TURN : PySem.W.nsIn K mainGlobals "MOST_TURN" = some (some (.int 200 t_MOST_TURN)))
    (v_MOST_NUMBERS : PySem.W.nsIn K mainGlobals "MOST_NUMBERS" = some (some (.int 8 t_MOST_NUMBERS)))
    (v_MOST_QUIET : PySem.W.nsIn K mainGlobals "MOST_QUIET" = some (some (.int 500 t_MOST_QUIET)))
    (v_MOST_LOST : PySem.W.nsIn K mainGlobals "MOST_LOST" = some (some (.int 3 t_MOST_LOST)))
    (v_MOST_PERIOD : PySem.W.nsIn K mainGlobals "MOST_PERIOD" = some (some (.int 200 t_MOST_PERIOD)))
    (v_MOST_BOUNDS : PySem.W.nsIn K mainGlobals "MOST_BOUNDS" = some (some (.int 4 t_MOST_BOUNDS)))
    (v_MOST_UNITS : PySem.W.nsIn K mainGlobals "MOST_UNITS" = some (some (.int 60 t_MOST_UNITS)))
    (v_MOST_WAYS : PySem.W.nsIn K mainGlobals "MOST_WAYS" = some (some (.int 4 t_MOST_WAYS)))
    (v_MOST_SILENT : PySem.W.nsIn K mainGlobals "MOST_SILENT" = some (some (.int 3 t_MOST_SILENT)))
    (v_MOST_WIDTHS : PySem.W.nsIn K mainGlobals "MOST_WIDTHS" = some (some (.int 8 t_MOST_WIDTHS)))
    (v_MOST_WIDTH : PySem.W.nsIn K mainGlobals "MOST_WIDTH" = some (some (.int 100 t_MOST_WIDTH)))
    (v_MOST_HEAD : PySem.W.nsIn K mainGlobals "MOST_HEAD" = some (some (.int 8 t_MOST_HEAD)))
    (v_LEAST_COST : PySem.W.nsIn K mainGlobals "LEAST_COST" = some (some (.int 2 t_LEAST_COST)))
    (v_MOST_COST : PySem.W.nsIn K mainGlobals "MOST_COST" = some (some (.int 9 t_MOST_COST)))
    (v_ALPHABET : PySem.W.nsIn K mainGlobals "ALPHABET" = some (some (.str "abcdefghijklmnopqrstuvwxyz" t_ALPHABET)))
    (s_hn : PySem.W.specialIn K (.builtin "object.__class__") "__get__" = some (some (.builtin "getset_descriptor.__get__")))
    (s_tk : PySem.W.takesIn K (.builtin "object.__class__") = some true)
    (pg_Mail : PySem.W.plainGet K AMail Str.empty = true)
    (hd_Mail : PySem.W.hasDictIn K AMail = true)
    (po_Mail : PySem.W.plainOver K AMail = true)
    (sa_Mail : PySem.W.findIn K (.ref AMail) "__setattr__" = some (some (.builtin "object.__setattr__")))
    (ha_Mail : PySem.W.findIn K (.ref AMail) "__class__" = some (some (.builtin "object.__class__")))
    (hm_Mail : PySem.W.mroIn K AMail (.type "object") = some true)
    (ne_Mail : PySem.W.findIn K (.ref AMail) "__ne__" = some (some (.builtin "object.__ne__")))
    (is_Mail : PySem.W.isClsIn K AMail = true)
    (ty_Mail : PySem.W.typeIn K (.ref AMail) = some (.type "type"))
    (tup_Mail : PySem.W.subIn K (.ref AMail) (.type "tuple") = some false)
    (lst_Mail : PySem.W.subIn K (.ref AMail) (.type "list") = some false)
    (int_Mail : PySem.W.subIn K (.ref AMail) (.type "int") = some false)
    (str_Mail : PySem.W.subIn K (.ref AMail) (.type "str") = some false)
    (mk_Mail : PySem.W.makesIn K AMail = true)
    (kc_Mail : PySem.W.keepIn K (.ref AMail) = true)
    (na_Mail_rows : PySem.W.findIn K (.ref AMail) "rows" = some none)
    (na_Mail_letters : PySem.W.findIn K (.ref AMail) "letters" = some none)
    (pg_Way : PySem.W.plainGet K AWay Str.empty = true)
    (hd_Way : PySem.W.hasDictIn K AWay = true)
    (po_Way : PySem.W.plainOver K AWay = true)
    (sa_Way : PySem.W.findIn K (.ref AWay) "__setattr__" = some (some (.builtin "object.__setattr__")))
    (ha_Way : PySem.W.findIn K (.ref AWay) "__class__" = some (some (.builtin "object.__class__")))
    (hm_Way : PySem.W.mroIn K AWay (.type "object") = some true)
    (ne_Way : PySem.W.findIn K (.ref AWay) "__ne__" = some (some (.builtin "object.__ne__")))
    (is_Way : PySem.W.isClsIn K AWay = true)
    (ty_Way : PySem.W.typeIn K (.ref AWay) = some (.type "type"))
    (tup_Way : PySem.W.subIn K (.ref AWay) (.type "tuple") = some false)
    (lst_Way : PySem.W.subIn K (.ref AWay) (.type "list") = some false)
    (int_Way : PySem.W.subIn K (.ref AWay) (.type "int") = some false)
    (str_Way : PySem.W.subIn K (.ref AWay) (.type "str") = some false)
    (mk_Way : PySem.W.makesIn K AWay = true)
    (kc_Way : PySem.W.keepIn K (.ref AWay) = true)
    (na_Way_begin : PySem.W.findIn K (.ref AWay) "begin" = some none)
    (na_Way_least : PySem.W.findIn K (.ref AWay) "least" = some none)
    (na_Way_most : PySem.W.findIn K (.ref AWay) "most" = some none)
    (na_Way_boxes : PySem.W.findIn K (.ref AWay) "boxes" = some none)
    (pg_Steps : PySem.W.plainGet K ASteps Str.empty = true)
    (hd_Steps : PySem.W.hasDictIn K ASteps = true)
    (po_Steps : PySem.W.plainOver K ASteps = true)
    (sa_Steps : PySem.W.findIn K (.ref ASteps) "__setattr__" = some (some (.builtin "object.__setattr__")))
    (ha_Steps : PySem.W.findIn K (.ref ASteps) "__class__" = some (some (.builtin "object.__class__")))
    (hm_Steps : PySem.W.mroIn K ASteps (.type "object") = some true)
    (ne_Steps : PySem.W.findIn K (.ref ASteps) "__ne__" = some (some (.builtin "object.__ne__")))
    (is_Steps : PySem.W.isClsIn K ASteps = true)
    (ty_Steps : PySem.W.typeIn K (.ref ASteps) = some (.type "type"))
    (tup_Steps : PySem.W.subIn K (.ref ASteps) (.type "tuple") = some false)
    (lst_Steps : PySem.W.subIn K (.ref ASteps) (.type "list") = some false)
    (int_Steps : PySem.W.subIn K (.ref ASteps) (.type "int") = some false)
    (str_Steps : PySem.W.subIn K (.ref ASteps) (.type "str") = some false)
    (mk_Steps : PySem.W.makesIn K ASteps = true)
    (kc_Steps : PySem.W.keepIn K (.ref ASteps) = true)
    (na_Steps_bounds : PySem.W.findIn K (.ref ASteps) "bounds" = some none)
    (pg_Room : PySem.W.plainGet K ARoom Str.empty = true)
    (hd_Room : PySem.W.hasDictIn K ARoom = true)
    (po_Room : PySem.W.plainOver K ARoom = true)
    (sa_Room : PySem.W.findIn K (.ref ARoom) "__setattr__" = some (some (.builtin "object.__setattr__")))
    (ha_Room : PySem.W.findIn K (.ref ARoom) "__class__" = some (some (.builtin "object.__class__")))
    (hm_Room : PySem.W.mroIn K ARoom (.type "object") = some true)
    (ne_Room : PySem.W.findIn K (.ref ARoom) "__ne__" = some (some (.builtin "object.__ne__")))
    (is_Room : PySem.W.isClsIn K ARoom = true)
    (ty_Room : PySem.W.typeIn K (.ref ARoom) = some (.type "type"))
    (tup_Room : PySem.W.subIn K (.ref ARoom) (.type "tuple") = some false)
    (lst_Room : PySem.W.subIn K (.ref ARoom) (.type "list") = some false)
    (int_Room : PySem.W.subIn K (.ref ARoom) (.type "int") = some false)
    (str_Room : PySem.W.subIn K (.ref ARoom) (.type "str") = some false)
    (mk_Room : PySem.W.makesIn K ARoom = true)
    (kc_Room : PySem.W.keepIn K (.ref ARoom) = true)
    (na_Room_size : PySem.W.findIn K (.ref ARoom) "size" = some none)
    (na_Room_steps : PySem.W.findIn K (.ref ARoom) "steps" = some none)
    (pg_Line : PySem.W.plainGet K ALine Str.empty = true)
    (hd_Line : PySem.W.hasDictIn K ALine = true)
    (po_Line : PySem.W.plainOver K ALine = true)
    (sa_Line : PySem.W.findIn K (.ref ALine) "__setattr__" = some (some (.builtin "object.__setattr__")))
    (ha_Line : PySem.W.findIn K (.ref ALine) "__class__" = some (some (.builtin "object.__class__")))
    (hm_Line : PySem.W.mroIn K ALine (.type "object") = some true)
    (ne_Line : PySem.W.findIn K (.ref ALine) "__ne__" = some (some (.builtin "object.__ne__")))
    (is_Line : PySem.W.isClsIn K ALine = true)
    (ty_Line : PySem.W.typeIn K (.ref ALine) = some (.type "type"))
    (tup_Line : PySem.W.subIn K (.ref ALine) (.type "tuple") = some false)
    (lst_Line : PySem.W.subIn K (.ref ALine) (.type "list") = some false)
    (int_Line : PySem.W.subIn K (.ref ALine) (.type "int") = some false)
    (str_Line : PySem.W.subIn K (.ref ALine) (.type "str") = some false)
    (mk_Line : PySem.W.makesIn K ALine = true)
    (kc_Line : PySem.W.keepIn K (.ref ALine) = true)
    (na_Line_mail : PySem.W.findIn K (.ref ALine) "mail" = some none)
    (na_Line_ways : PySem.W.findIn K (.ref ALine) "ways" = some none)
    (na_Line_widths : PySem.W.findIn K (.ref ALine) "widths" = some none)
    (na_Line_turn : PySem.W.findIn K (.ref ALine) "turn" = some none)
    (na_Line_numbers : PySem.W.findIn K (.ref ALine) "numbers" = some none)
    (na_Line_room : PySem.W.findIn K (.ref ALine) "room" = some none)
    (na_Line_head : PySem.W.findIn K (.ref ALine) "head" = some none)
    (na_Line_places : PySem.W.findIn K (.ref ALine) "places" = some none)
    (na_Line_cost : PySem.W.findIn K (.ref ALine) "cost" = some none)
    (na_Line_period : PySem.W.findIn K (.ref ALine) "period" = some none)
    (na_Line_quiet : PySem.W.findIn K (.ref ALine) "quiet" = some none)
    (na_Line_silent : PySem.W.findIn K (.ref ALine) "silent" = some none)
    (na_Line_losses : PySem.W.findIn K (.ref ALine) "losses" = some none)
    (xBadPart_L : K.lookup ABadPart = some (excClassObj xBadPart_nm xBadPart_q ABadPart xBadPart_N xBadPart_bs [.ref AWholeError, .type "ValueError", .type "Exception", .type "BaseException", .type "object"] true xBadPart_sn xBadPart_sub xBadPart_ab xBadPart_col xBadPart_dd xBadPart_m0 xBadPart_m1 xBadPart_m2 xBadPart_m3 xBadPart_m5 "ValueError.__new__"))
    (xBadPart_sa : PySem.W.findIn K (.ref ABadPart) "__setattr__" = some (some (.builtin "object.__setattr__")))
    (xBadPart_ex : PySem.W.subIn K (.ref ABadPart) (.type "BaseException") = some true)
    (xBadPart_ty : PySem.W.typeIn K (.ref ABadPart) = some (.type "type"))
    (xBadPart_kC : PySem.W.keepIn K (.ref ABadPart) = true)
    (xBadPart_noA : PySem.W.findIn K (.ref ABadPart) "part" = some none)
    (xBadPart_hg : PySem.W.findIn K (.ref ABadPart) "__getattribute__" = some (some (.builtin "BaseException.__getattribute__")))
    (xBadPart_hk : PySem.W.findIn K (.ref ABadPart) "__getattr__" = some none)
    (xBadPart_hd : PySem.W.hasDictIn K ABadPart = true)
    (xBadPart_ha : PySem.W.findIn K (.ref ABadPart) "__class__" = some (some (.builtin "object.__class__")))
    (xBadPart_hm : PySem.W.mroIn K ABadPart (.type "object") = some true)
    (xBadPart_is : PySem.W.isClsIn K ABadPart = true)
    (xBadPart_ss : PySem.W.subIn K (.ref ABadPart) (.ref ABadPart) = some true)
    (xBadPart_w : PySem.W.subIn K (.ref ABadPart) (.ref AWholeError) = some true)
    (xBadNumber_L : K.lookup ABadNumber = some (excClassObj xBadNumber_nm xBadNumber_q ABadNumber xBadNumber_N xBadNumber_bs [.ref AWholeError, .type "ValueError", .type "Exception", .type "BaseException", .type "object"] true xBadNumber_sn xBadNumber_sub xBadNumber_ab xBadNumber_col xBadNumber_dd xBadNumber_m0 xBadNumber_m1 xBadNumber_m2 xBadNumber_m3 xBadNumber_m5 "ValueError.__new__"))
    (xBadNumber_sa : PySem.W.findIn K (.ref ABadNumber) "__setattr__" = some (some (.builtin "object.__setattr__")))
    (xBadNumber_ex : PySem.W.subIn K (.ref ABadNumber) (.type "BaseException") = some true)
    (xBadNumber_ty : PySem.W.typeIn K (.ref ABadNumber) = some (.type "type"))
    (xBadNumber_kC : PySem.W.keepIn K (.ref ABadNumber) = true)
    (xBadNumber_noA : PySem.W.findIn K (.ref ABadNumber) "number" = some none)
    (xBadNumber_hg : PySem.W.findIn K (.ref ABadNumber) "__getattribute__" = some (some (.builtin "BaseException.__getattribute__")))
    (xBadNumber_hk : PySem.W.findIn K (.ref ABadNumber) "__getattr__" = some none)
    (xBadNumber_hd : PySem.W.hasDictIn K ABadNumber = true)
    (xBadNumber_ha : PySem.W.findIn K (.ref ABadNumber) "__class__" = some (some (.builtin "object.__class__")))
    (xBadNumber_hm : PySem.W.mroIn K ABadNumber (.type "object") = some true)
    (xBadNumber_is : PySem.W.isClsIn K ABadNumber = true)
    (xBadNumber_ss : PySem.W.subIn K (.ref ABadNumber) (.ref ABadNumber) = some true)
    (xBadNumber_w : PySem.W.subIn K (.ref ABadNumber) (.ref AWholeError) = some true)
    (xBadIndex_L : K.lookup ABadIndex = some (excClassObj xBadIndex_nm xBadIndex_q ABadIndex xBadIndex_N xBadIndex_bs [.ref AWholeError, .type "ValueError", .type "Exception", .type "BaseException", .type "object"] true xBadIndex_sn xBadIndex_sub xBadIndex_ab xBadIndex_col xBadIndex_dd xBadIndex_m0 xBadIndex_m1 xBadIndex_m2 xBadIndex_m3 xBadIndex_m5 "ValueError.__new__"))
    (xBadIndex_sa : PySem.W.findIn K (.ref ABadIndex) "__setattr__" = some (some (.builtin "object.__setattr__")))
    (xBadIndex_ex : PySem.W.subIn K (.ref ABadIndex) (.type "BaseException") = some true)
    (xBadIndex_ty : PySem.W.typeIn K (.ref ABadIndex) = some (.type "type"))
    (xBadIndex_kC : PySem.W.keepIn K (.ref ABadIndex) = true)
    (xBadIndex_noA : PySem.W.findIn K (.ref ABadIndex) "index" = some none)
    (xBadIndex_hg : PySem.W.findIn K (.ref ABadIndex) "__getattribute__" = some (some (.builtin "BaseException.__getattribute__")))
    (xBadIndex_hk : PySem.W.findIn K (.ref ABadIndex) "__getattr__" = some none)
    (xBadIndex_hd : PySem.W.hasDictIn K ABadIndex = true)
    (xBadIndex_ha : PySem.W.findIn K (.ref ABadIndex) "__class__" = some (some (.builtin "object.__class__")))
    (xBadIndex_hm : PySem.W.mroIn K ABadIndex (.type "object") = some true)
    (xBadIndex_is : PySem.W.isClsIn K ABadIndex = true)
    (xBadIndex_ss : PySem.W.subIn K (.ref ABadIndex) (.ref ABadIndex) = some true)
    (xBadIndex_w : PySem.W.subIn K (.ref ABadIndex) (.ref AWholeError) = some true)
    (xBadRow_L : K.lookup ABadRow = some (excClassObj xBadRow_nm xBadRow_q ABadRow xBadRow_N xBadRow_bs [.ref AWholeError, .type "ValueError", .type "Exception", .type "BaseException", .type "object"] true xBadRow_sn xBadRow_sub xBadRow_ab xBadRow_col xBadRow_dd xBadRow_m0 xBadRow_m1 xBadRow_m2 xBadRow_m3 xBadRow_m5 "ValueError.__new__"))
    (xBadRow_sa : PySem.W.findIn K (.ref ABadRow) "__setattr__" = some (some (.builtin "object.__setattr__")))
    (xBadRow_ex : PySem.W.subIn K (.ref ABadRow) (.type "BaseException") = some true)
    (xBadRow_ty : PySem.W.typeIn K (.ref ABadRow) = some (.type "type"))
    (xBadRow_kC : PySem.W.keepIn K (.ref ABadRow) = true)
    (xBadRow_noA : PySem.W.findIn K (.ref ABadRow) "index" = some none)
    (xBadRow_hg : PySem.W.findIn K (.ref ABadRow) "__getattribute__" = some (some (.builtin "BaseException.__getattribute__")))
    (xBadRow_hk : PySem.W.findIn K (.ref ABadRow) "__getattr__" = some none)
    (xBadRow_hd : PySem.W.hasDictIn K ABadRow = true)
    (xBadRow_ha : PySem.W.findIn K (.ref ABadRow) "__class__" = some (some (.builtin "object.__class__")))
    (xBadRow_hm : PySem.W.mroIn K ABadRow (.type "object") = some true)
    (xBadRow_is : PySem.W.isClsIn K ABadRow = true)
    (xBadRow_ss : PySem.W.subIn K (.ref ABadRow) (.ref ABadRow) = some true)
    (xBadRow_w : PySem.W.subIn K (.ref ABadRow) (.ref AWholeError) = some true)
    (xBadLetter_L : K.lookup ABadLetter = some (excClassObj xBadLetter_nm xBadLetter_q ABadLetter xBadLetter_N xBadLetter_bs [.ref AWholeError, .type "ValueError", .type "Exception", .type "BaseException", .type "object"] true xBadLetter_sn xBadLetter_sub xBadLetter_ab xBadLetter_col xBadLetter_dd xBadLetter_m0 xBadLetter_m1 xBadLetter_m2 xBadLetter_m3 xBadLetter_m5 "ValueError.__new__"))
    (xBadLetter_sa : PySem.W.findIn K (.ref ABadLetter) "__setattr__" = some (some (.builtin "object.__setattr__")))
    (xBadLetter_ex : PySem.W.subIn K (.ref ABadLetter) (.type "BaseException") = some true)
    (xBadLetter_ty : PySem.W.typeIn K (.ref ABadLetter) = some (.type "type"))
    (xBadLetter_kC : PySem.W.keepIn K (.ref ABadLetter) = true)
    (xBadLetter_noA : PySem.W.findIn K (.ref ABadLetter) "spot" = some none)
    (xBadLetter_hg : PySem.W.findIn K (.ref ABadLetter) "__getattribute__" = some (some (.builtin "BaseException.__getattribute__")))
    (xBadLetter_hk : PySem.W.findIn K (.ref ABadLetter) "__getattr__" = some none)
    (xBadLetter_hd : PySem.W.hasDictIn K ABadLetter = true)
    (xBadLetter_ha : PySem.W.findIn K (.ref ABadLetter) "__class__" = some (some (.builtin "object.__class__")))
    (xBadLetter_hm : PySem.W.mroIn K ABadLetter (.type "object") = some true)
    (xBadLetter_is : PySem.W.isClsIn K ABadLetter = true)
    (xBadLetter_ss : PySem.W.subIn K (.ref ABadLetter) (.ref ABadLetter) = some true)
    (xBadLetter_w : PySem.W.subIn K (.ref ABadLetter) (.ref AWholeError) = some true)
    (xBadSteps_L : K.lookup ABadSteps = some (excClassObj xBadSteps_nm xBadSteps_q ABadSteps xBadSteps_N xBadSteps_bs [.ref AWholeError, .type "ValueError", .type "Exception", .type "BaseException", .type "object"] true xBadSteps_sn xBadSteps_sub xBadSteps_ab xBadSteps_col xBadSteps_dd xBadSteps_m0 xBadSteps_m1 xBadSteps_m2 xBadSteps_m3 xBadSteps_m5 "ValueError.__new__"))
    (xBadSteps_sa : PySem.W.findIn K (.ref ABadSteps) "__setattr__" = some (some (.builtin "object.__setattr__")))
    (xBadSteps_ex : PySem.W.subIn K (.ref ABadSteps) (.type "BaseException") = some true)
    (xBadSteps_ty : PySem.W.typeIn K (.ref ABadSteps) = some (.type "type"))
    (xBadSteps_kC : PySem.W.keepIn K (.ref ABadSteps) = true)
    (xBadSteps_noA : PySem.W.findIn K (.ref ABadSteps) "index" = some none)
    (xBadSteps_hg : PySem.W.findIn K (.ref ABadSteps) "__getattribute__" = some (some (.builtin "BaseException.__getattribute__")))
    (xBadSteps_hk : PySem.W.findIn K (.ref ABadSteps) "__getattr__" = some none)
    (xBadSteps_hd : PySem.W.hasDictIn K ABadSteps = true)
    (xBadSteps_ha : PySem.W.findIn K (.ref ABadSteps) "__class__" = some (some (.builtin "object.__class__")))
    (xBadSteps_hm : PySem.W.mroIn K ABadSteps (.type "object") = some true)
    (xBadSteps_is : PySem.W.isClsIn K ABadSteps = true)
    (xBadSteps_ss : PySem.W.subIn K (.ref ABadSteps) (.ref ABadSteps) = some true)
    (xBadSteps_w : PySem.W.subIn K (.ref ABadSteps) (.ref AWholeError) = some true)
    (xBadBox_L : K.lookup ABadBox = some (excClassObj xBadBox_nm xBadBox_q ABadBox xBadBox_N xBadBox_bs [.ref AWholeError, .type "ValueError", .type "Exception", .type "BaseException", .type "object"] true xBadBox_sn xBadBox_sub xBadBox_ab xBadBox_col xBadBox_dd xBadBox_m0 xBadBox_m1 xBadBox_m2 xBadBox_m3 xBadBox_m5 "ValueError.__new__"))
    (xBadBox_sa : PySem.W.findIn K (.ref ABadBox) "__setattr__" = some (some (.builtin "object.__setattr__")))
    (xBadBox_ex : PySem.W.subIn K (.ref ABadBox) (.type "BaseException") = some true)
    (xBadBox_ty : PySem.W.typeIn K (.ref ABadBox) = some (.type "type"))
    (xBadBox_kC : PySem.W.keepIn K (.ref ABadBox) = true)
    (xBadBox_noA : PySem.W.findIn K (.ref ABadBox) "index" = some none)
    (xBadBox_hg : PySem.W.findIn K (.ref ABadBox) "__getattribute__" = some (some (.builtin "BaseException.__getattribute__")))
    (xBadBox_hk : PySem.W.findIn K (.ref ABadBox) "__getattr__" = some none)
    (xBadBox_hd : PySem.W.hasDictIn K ABadBox = true)
    (xBadBox_ha : PySem.W.findIn K (.ref ABadBox) "__class__" = some (some (.builtin "object.__class__")))
    (xBadBox_hm : PySem.W.mroIn K ABadBox (.type "object") = some true)
    (xBadBox_is : PySem.W.isClsIn K ABadBox = true)
    (xBadBox_ss : PySem.W.subIn K (.ref ABadBox) (.ref ABadBox) = some true)
    (xBadBox_w : PySem.W.subIn K (.ref ABadBox) (.ref AWholeError) = some true)
    (xTooMany_L : K.lookup ATooMany = some (excClassObj xTooMany_nm xTooMany_q ATooMany xTooMany_N xTooMany_bs [.type "OverflowError", .type "ArithmeticError", .type "Exception", .type "BaseException", .type "object"] true xTooMany_sn xTooMany_sub xTooMany_ab xTooMany_col xTooMany_dd xTooMany_m0 xTooMany_m1 xTooMany_m2 xTooMany_m3 xTooMany_m5 "OverflowError.__new__"))
    (xTooMany_sa : PySem.W.findIn K (.ref ATooMany) "__setattr__" = some (some (.builtin "object.__setattr__")))
    (xTooMany_ex : PySem.W.subIn K (.ref ATooMany) (.type "BaseException") = some true)
    (xTooMany_ty : PySem.W.typeIn K (.ref ATooMany) = some (.type "type"))
    (xTooMany_kC : PySem.W.keepIn K (.ref ATooMany) = true)
    (xTooMany_noA : PySem.W.findIn K (.ref ATooMany) "limit" = some none)
    (xTooMany_hg : PySem.W.findIn K (.ref ATooMany) "__getattribute__" = some (some (.builtin "BaseException.__getattribute__")))
    (xTooMany_hk : PySem.W.findIn K (.ref ATooMany) "__getattr__" = some none)
    (xTooMany_hd : PySem.W.hasDictIn K ATooMany = true)
    (xTooMany_ha : PySem.W.findIn K (.ref ATooMany) "__class__" = some (some (.builtin "object.__class__")))
    (xTooMany_hm : PySem.W.mroIn K ATooMany (.type "object") = some true)
    (xTooMany_is : PySem.W.isClsIn K ATooMany = true)
    (xTooMany_ss : PySem.W.subIn K (.ref ATooMany) (.ref ATooMany) = some true)
    (xw_i : PySem.W.isClsIn K AWholeError = true)
    (xw_t : PySem.W.typeIn K (.ref AWholeError) = some (.type "type"))
    (xw_b : PySem.W.subIn K (.ref AWholeError) (.type "BaseException") = some true)
    : ∃ fd : FuncData, (∀ (s : Shared) (v : Value), BindsTo s fd ⟨[v], []⟩ [("_law_script", v)]) ∧ ∀ base : Heap, K.In base → base.Ns mainGlobals mg → FnOk P w K mg base CX0 12 fa fd ["_law_script"] (spLaw K) := by
  have e := hfa.symm.trans (PySem.W.mg_of X G a_law)
  cases e
  have F_has_milder_room := fun_mk (st := s_has_milder_room) l_has_milder_room c_has_milder_room k_has_milder_room
  have D_has_milder_room : DefAt K mg "has_milder_room" s_has_milder_room pm_has_milder_room := ⟨_, _, F_has_milder_room, PySem.W.mg_of X G a_has_milder_room, F_has_milder_room.binds (ps := pm_has_milder_room) fun _ _ _ _ _ _ us hl => match us, hl with | [_, _], _ => rfl⟩
  have F_is_milder := fun_mk (st := s_is_milder) l_is_milder c_is_milder k_is_milder
  have D_is_milder : DefAt K mg "is_milder" s_is_milder pm_is_milder := ⟨_, _, F_is_milder, PySem.W.mg_of X G a_is_milder, F_is_milder.binds (ps := pm_is_milder) fun _ _ _ _ _ _ us hl => match us, hl with | [_, _], _ => rfl⟩
  have F_is_integer := fun_mk (st := s_is_integer) l_is_integer c_is_integer k_is_integer
  have D_is_integer : DefAt K mg "is_integer" s_is_integer pm_is_integer := ⟨_, _, F_is_integer, PySem.W.mg_of X G a_is_integer, F_is_integer.binds (ps := pm_is_integer) fun _ _ _ _ _ _ us hl => match us, hl with | [_], _ => rfl⟩
  have F_is_between := fun_mk (st := s_is_between) l_is_between c_is_between k_is_between
  have D_is_between : DefAt K mg "is_between" s_is_between pm_is_between := ⟨_, _, F_is_between, PySem.W.mg_of X G a_is_between, F_is_between.binds (ps := pm_is_between) fun _ _ _ _ _ _ us hl => match us, hl with | [_, _, _], _ => rfl⟩
  have F_is_index := fun_mk (st := s_is_index) l_is_index c_is_index k_is_index
  have D_is_index : DefAt K mg "is_index" s_is_index pm_is_index := ⟨_, _, F_is_index, PySem.W.mg_of X G a_is_index, F_is_index.binds (ps := pm_is_index) fun _ _ _ _ _ _ us hl => match us, hl with | [_, _], _ => rfl⟩
  have F_is_list := fun_mk (st := s_is_list) l_is_list c_is_list k_is_list
  have D_is_list : DefAt K mg "is_list" s_is_list pm_is_list := ⟨_, _, F_is_list, PySem.W.mg_of X G a_is_list, F_is_list.binds (ps := pm_is_list) fun _ _ _ _ _ _ us hl => match us, hl with | [_], _ => rfl⟩
  have F_is_list_of := fun_mk (st := s_is_list_of) l_is_list_of c_is_list_of k_is_list_of
  have D_is_list_of : DefAt K mg "is_list_of" s_is_list_of pm_is_list_of := ⟨_, _, F_is_list_of, PySem.W.mg_of X G a_is_list_of, F_is_list_of.binds (ps := pm_is_list_of) fun _ _ _ _ _ _ us hl => match us, hl with | [_, _, _], _ => rfl⟩
  have F_is_name := fun_mk (st := s_is_name) l_is_name c_is_name k_is_name
  have D_is_name : DefAt K mg "is_name" s_is_name pm_is_name := ⟨_, _, F_is_name, PySem.W.mg_of X G a_is_name, F_is_name.binds (ps := pm_is_name) fun _ _ _ _ _ _ us hl => match us, hl with | [_], _ => rfl⟩
  have F_is_tuple_of := fun_mk (st := s_is_tuple_of) l_is_tuple_of c_is_tuple_of k_is_tuple_of
  have D_is_tuple_of : DefAt K mg "is_tuple_of" s_is_tuple_of pm_is_tuple_of := ⟨_, _, F_is_tuple_of, PySem.W.mg_of X G a_is_tuple_of, F_is_tuple_of.binds (ps := pm_is_tuple_of) fun _ _ _ _ _ _ us hl => match us, hl with | [_, _], _ => rfl⟩
  have F_is_letter := fun_mk (st := s_is_letter) l_is_letter c_is_letter k_is_letter
  have D_is_letter : DefAt K mg "is_letter" s_is_letter pm_is_letter := ⟨_, _, F_is_letter, PySem.W.mg_of X G a_is_letter, F_is_letter.binds (ps := pm_is_letter) fun _ _ _ _ _ _ us hl => match us, hl with | [_], _ => rfl⟩
  have F_check_row := fun_mk (st := s_check_row) l_check_row c_check_row k_check_row
  have D_check_row : DefAt K mg "check_row" s_check_row pm_check_row := ⟨_, _, F_check_row, PySem.W.mg_of X G a_check_row, F_check_row.binds (ps := pm_check_row) fun _ _ _ _ _ _ us hl => match us, hl with | [_, _], _ => rfl⟩
  have F_is_begin := fun_mk (st := s_is_begin) l_is_begin c_is_begin k_is_begin
  have D_is_begin : DefAt K mg "is_begin" s_is_begin pm_is_begin := ⟨_, _, F_is_begin, PySem.W.mg_of X G a_is_begin, F_is_begin.binds (ps := pm_is_begin) fun _ _ _ _ _ _ us hl => match us, hl with | [_], _ => rfl⟩
  have F_are_delays := fun_mk (st := s_are_delays) l_are_delays c_are_delays k_are_delays
  have D_are_delays : DefAt K mg "are_delays" s_are_delays pm_are_delays := ⟨_, _, F_are_delays, PySem.W.mg_of X G a_are_delays, F_are_delays.binds (ps := pm_are_delays) fun _ _ _ _ _ _ us hl => match us, hl with | [_, _], _ => rfl⟩
  have F_is_box := fun_mk (st := s_is_box) l_is_box c_is_box k_is_box
  have D_is_box : DefAt K mg "is_box" s_is_box pm_is_box := ⟨_, _, F_is_box, PySem.W.mg_of X G a_is_box, F_is_box.binds (ps := pm_is_box) fun _ _ _ _ _ _ us hl => match us, hl with | [_, _, _], _ => rfl⟩
  have F_check_ways := fun_mk (st := s_check_ways) l_check_ways c_check_ways k_check_ways
  have D_check_ways : DefAt K mg "check_ways" s_check_ways pm_check_ways := ⟨_, _, F_check_ways, PySem.W.mg_of X G a_check_ways, F_check_ways.binds (ps := pm_check_ways) fun _ _ _ _ _ _ us hl => match us, hl with | [_], _ => rfl⟩
  have F_are_widths := fun_mk (st := s_are_widths) l_are_widths c_are_widths k_are_widths
  have D_are_widths : DefAt K mg "are_widths" s_are_widths pm_are_widths := ⟨_, _, F_are_widths, PySem.W.mg_of X G a_are_widths, F_are_widths.binds (ps := pm_are_widths) fun _ _ _ _ _ _ us hl => match us, hl with | [_], _ => rfl⟩
  have F_check_part := fun_mk (st := s_check_part) l_check_part c_check_part k_check_part
  have D_check_part : DefAt K mg "check_part" s_check_part pm_check_part := ⟨_, _, F_check_part, PySem.W.mg_of X G a_check_part, F_check_part.binds (ps := pm_check_part) fun _ _ _ _ _ _ us hl => match us, hl with | [_, _, _, _], _ => rfl⟩
  have F_check_boxes := fun_mk (st := s_check_boxes) l_check_boxes c_check_boxes k_check_boxes
  have D_check_boxes : DefAt K mg "check_boxes" s_check_boxes pm_check_boxes := ⟨_, _, F_check_boxes, PySem.W.mg_of X G a_check_boxes, F_check_boxes.binds (ps := pm_check_boxes) fun _ _ _ _ _ _ us hl => match us, hl with | [_, _], _ => rfl⟩
  have F__law_start := fun_mk (st := s__law_start) l__law_start c__law_start k__law_start
  have D__law_start : DefAt K mg "_law_start" s__law_start pm__law_start := ⟨_, _, F__law_start, PySem.W.mg_of X G a__law_start, F__law_start.binds (ps := pm__law_start) fun _ _ _ _ _ _ us hl => match us, hl with | [_], _ => rfl⟩
  have F__law_draw := fun_mk (st := s__law_draw) l__law_draw c__law_draw k__law_draw
  have D__law_draw : DefAt K mg "_law_draw" s__law_draw pm__law_draw := ⟨_, _, F__law_draw, PySem.W.mg_of X G a__law_draw, F__law_draw.binds (ps := pm__law_draw) fun _ _ _ _ _ _ us hl => match us, hl with | [_, _, _], _ => rfl⟩
  have F__law_mail := fun_mk (st := s__law_mail) l__law_mail c__law_mail k__law_mail
  have D__law_mail : DefAt K mg "_law_mail" s__law_mail pm__law_mail := ⟨_, _, F__law_mail, PySem.W.mg_of X G a__law_mail, F__law_mail.binds (ps := pm__law_mail) fun _ _ _ _ _ _ us hl => match us, hl with | [_, _], _ => rfl⟩
  have F__law_rising := fun_mk (st := s__law_rising) l__law_rising c__law_rising k__law_rising
  have D__law_rising : DefAt K mg "_law_rising" s__law_rising pm__law_rising := ⟨_, _, F__law_rising, PySem.W.mg_of X G a__law_rising, F__law_rising.binds (ps := pm__law_rising) fun _ _ _ _ _ _ us hl => match us, hl with | [_, _, _, _], _ => rfl⟩
  have F__law_box := fun_mk (st := s__law_box) l__law_box c__law_box k__law_box
  have D__law_box : DefAt K mg "_law_box" s__law_box pm__law_box := ⟨_, _, F__law_box, PySem.W.mg_of X G a__law_box, F__law_box.binds (ps := pm__law_box) fun _ _ _ _ _ _ us hl => match us, hl with | [_, _, _, _], _ => rfl⟩
  have F__law_way := fun_mk (st := s__law_way) l__law_way c__law_way k__law_way
  have D__law_way : DefAt K mg "_law_way" s__law_way pm__law_way := ⟨_, _, F__law_way, PySem.W.mg_of X G a__law_way, F__law_way.binds (ps := pm__law_way) fun _ _ _ _ _ _ us hl => match us, hl with | [_, _], _ => rfl⟩
  have F__law_raw := fun_mk (st := s__law_raw) l__law_raw c__law_raw k__law_raw
  have D__law_raw : DefAt K mg "_law_raw" s__law_raw pm__law_raw := ⟨_, _, F__law_raw, PySem.W.mg_of X G a__law_raw, F__law_raw.binds (ps := pm__law_raw) fun _ _ _ _ _ _ us hl => match us, hl with | [_, _], _ => rfl⟩
  have F__law_made_ways := fun_mk (st := s__law_made_ways) l__law_made_ways c__law_made_ways k__law_made_ways
  have D__law_made_ways : DefAt K mg "_law_made_ways" s__law_made_ways pm__law_made_ways := ⟨_, _, F__law_made_ways, PySem.W.mg_of X G a__law_made_ways, F__law_made_ways.binds (ps := pm__law_made_ways) fun _ _ _ _ _ _ us hl => match us, hl with | [_], _ => rfl⟩
  have F__law_line := fun_mk (st := s__law_line) l__law_line c__law_line k__law_line
  have D__law_line : DefAt K mg "_law_line" s__law_line pm__law_line := ⟨_, _, F__law_line, PySem.W.mg_of X G a__law_line, F__law_line.binds (ps := pm__law_line) fun _ _ _ _ _ _ us hl => match us, hl with | [_], _ => rfl⟩
  have F__law_copy := fun_mk (st := s__law_copy) l__law_copy c__law_copy k__law_copy
  have D__law_copy : DefAt K mg "_law_copy" s__law_copy pm__law_copy := ⟨_, _, F__law_copy, PySem.W.mg_of X G a__law_copy, F__law_copy.binds (ps := pm__law_copy) fun _ _ _ _ _ _ us hl => match us, hl with | [_], _ => rfl⟩
  have F__law_other := fun_mk (st := s__law_other) l__law_other c__law_other k__law_other
  have D__law_other : DefAt K mg "_law_other" s__law_other pm__law_other := ⟨_, _, F__law_other, PySem.W.mg_of X G a__law_other, F__law_other.binds (ps := pm__law_other) fun _ _ _ _ _ _ us hl => match us, hl with | [_, _, _], _ => rfl⟩
  have F__law_due := fun_mk (st := s__law_due) l__law_due c__law_due k__law_due
  have D__law_due : DefAt K mg "_law_due" s__law_due pm__law_due := ⟨_, _, F__law_due, PySem.W.mg_of X G a__law_due, F__law_due.binds (ps := pm__law_due) fun _ _ _ _ _ _ us hl => match us, hl with | [_, _], _ => rfl⟩
  have F_BadPart_init := fun_mk (st := s_BadPart_init) l_BadPart_init c_BadPart_init k_BadPart_init
  have F_BadNumber_init := fun_mk (st := s_BadNumber_init) l_BadNumber_init c_BadNumber_init k_BadNumber_init
  have F_BadIndex_init := fun_mk (st := s_BadIndex_init) l_BadIndex_init c_BadIndex_init k_BadIndex_init
  have F_BadRow_init := fun_mk (st := s_BadRow_init) l_BadRow_init c_BadRow_init k_BadRow_init
  have F_BadLetter_init := fun_mk (st := s_BadLetter_init) l_BadLetter_init c_BadLetter_init k_BadLetter_init
  have F_BadSteps_init := fun_mk (st := s_BadSteps_init) l_BadSteps_init c_BadSteps_init k_BadSteps_init
  have F_BadBox_init := fun_mk (st := s_BadBox_init) l_BadBox_init c_BadBox_init k_BadBox_init
  have F_TooMany_init := fun_mk (st := s_TooMany_init) l_TooMany_init c_TooMany_init k_TooMany_init
  have F_Mail_init := fun_mk (st := s_Mail_init) l_Mail_init c_Mail_init k_Mail_init
  have M_Mail_init : MethAt K AMail "__init__" "Mail.__init__" s_Mail_init pm_Mail_init := ⟨_, _, F_Mail_init, a_Mail_init, i_Mail_init, F_Mail_init.binds (ps := pm_Mail_init) fun _ _ _ _ _ _ us hl => match us, hl with | [_, _], _ => rfl⟩
  have F_Mail_eq := fun_mk (st := s_Mail_eq) l_Mail_eq c_Mail_eq k_Mail_eq
  have M_Mail_eq : MethAt K AMail "__eq__" "Mail.__eq__" s_Mail_eq pm_Mail_eq := ⟨_, _, F_Mail_eq, a_Mail_eq, i_Mail_eq, F_Mail_eq.binds (ps := pm_Mail_eq) fun _ _ _ _ _ _ us hl => match us, hl with | [_, _], _ => rfl⟩
  have FI : FunD K "__init__" "Way.__init__" (defArgs s_Way_init) (defBody s_Way_init) (defScope s_Way_init) [.ref AT0] [] f_Way_init _ := ⟨⟨_, _, _, _, _, _, _, _, _, _, rfl, l_Way_init, c_Way_init, .inr ⟨(fun z => nomatch z), Td, _, [.ref AT0], dn, rfl, d_T, rfl, .cons rfl .nil⟩, .inl rfl⟩, k_Way_init⟩
  obtain ⟨d4, v4, B4⟩ := FI.binds1 (ps := pm_Way_init) 5 1 (fun z => nomatch z) rfl (fun T kV doc pm an cdv ct us its hu hi => match us, hu, its, hi with | [_, _, _, _, _], _, [_], _ => ⟨_, rfl, rfl⟩)
  obtain ⟨d3, v3, B3⟩ := FI.binds1 (ps := pm_Way_init) 4 0 (fun z => nomatch z) rfl (fun T kV doc pm an cdv ct us its hu hi => match us, hu, its, hi with | [_, _, _, _], _, [_], _ => ⟨_, rfl, rfl⟩)
  cases v4
  have F_Way_eq := fun_mk (st := s_Way_eq) l_Way_eq c_Way_eq k_Way_eq
  have M_Way_eq : MethAt K AWay "__eq__" "Way.__eq__" s_Way_eq pm_Way_eq := ⟨_, _, F_Way_eq, a_Way_eq, i_Way_eq, F_Way_eq.binds (ps := pm_Way_eq) fun _ _ _ _ _ _ us hl => match us, hl with | [_, _], _ => rfl⟩
  have F_Steps_init := fun_mk (st := s_Steps_init) l_Steps_init c_Steps_init k_Steps_init
  have M_Steps_init : MethAt K ASteps "__init__" "Steps.__init__" s_Steps_init pm_Steps_init := ⟨_, _, F_Steps_init, a_Steps_init, i_Steps_init, F_Steps_init.binds (ps := pm_Steps_init) fun _ _ _ _ _ _ us hl => match us, hl with | [_, _], _ => rfl⟩
  have F_Room_init := fun_mk (st := s_Room_init) l_Room_init c_Room_init k_Room_init
  have M_Room_init : MethAt K ARoom "__init__" "Room.__init__" s_Room_init pm_Room_init := ⟨_, _, F_Room_init, a_Room_init, i_Room_init, F_Room_init.binds (ps := pm_Room_init) fun _ _ _ _ _ _ us hl => match us, hl with | [_, _, _], _ => rfl⟩
  have F_Line_init := fun_mk (st := s_Line_init) l_Line_init c_Line_init k_Line_init
  have KB_Line : KBa K _ pm_Line_init 4 ["turn", "numbers", "room", "head", "places", "cost", "period", "quiet", "silent", "losses"] := F_Line_init.kba fun _ _ _ _ _ _ us ws h1 h2 => match us, h1, ws, h2 with | [_, _, _, _], _, [_, _, _, _, _, _, _, _, _, _], _ => rfl
  have T : Txt K mg ⟨ABadPart, ABadNumber, ABadIndex, ABadRow, ABadLetter, ABadSteps, ABadBox, ATooMany, AWholeError, AMail, AWay, ASteps, ARoom, ALine, AT0⟩ :=
    { n_isinstance := PySem.W.mg_none_of X G n_isinstance,
      n_int := PySem.W.mg_none_of X G n_int,
      n_bool := PySem.W.mg_none_of X G n_bool,
      n_str := PySem.W.mg_none_of X G n_str,
      n_list := PySem.W.mg_none_of X G n_list,
      n_tuple := PySem.W.mg_none_of X G n_tuple,
      n_len := PySem.W.mg_none_of X G n_len,
      n_range := PySem.W.mg_none_of X G n_range,
      n_enumerate := PySem.W.mg_none_of X G n_enumerate,
      n_all := PySem.W.mg_none_of X G n_all,
      n_abs := PySem.W.mg_none_of X G n_abs,
      n_sum := PySem.W.mg_none_of X G n_sum,
      n_repr := PySem.W.mg_none_of X G n_repr,
      n_max := PySem.W.mg_none_of X G n_max,
      n_zip := PySem.W.mg_none_of X G n_zip,
      n_sorted := PySem.W.mg_none_of X G n_sorted,
      g_MOST_HEADS := ⟨_, PySem.W.mg_of X G v_MOST_HEADS⟩,
      g_MOST_BODY := ⟨_, PySem.W.mg_of X G v_MOST_BODY⟩,
      g_MOST_LETTERS := ⟨_, PySem.W.mg_of X G v_MOST_LETTERS⟩,
      g_MOST_ROWS := ⟨_, PySem.W.mg_of X G v_MOST_ROWS⟩,
      g_MOST_PLACES := ⟨_, PySem.W.mg_of X G v_MOST_PLACES⟩,
      g_MOST_BEGIN := ⟨_, PySem.W.mg_of X G v_MOST_BEGIN⟩,
      g_MOST_DELAY := ⟨_, PySem.W.mg_of X G v_MOST_DELAY⟩,
      g_MOST_BOXES := ⟨_, PySem.W.mg_of X G v_MOST_BOXES⟩,
      g_MOST_KEEP := ⟨_, PySem.W.mg_of X G v_MOST_KEEP⟩,
      g_MOST_TURN := ⟨_, PySem.W.mg_of X G v_MOST_TURN⟩,
      g_MOST_NUMBERS := ⟨_, PySem.W.mg_of X G v_MOST_NUMBERS⟩,
      g_MOST_QUIET := ⟨_, PySem.W.mg_of X G v_MOST_QUIET⟩,
      g_MOST_LOST := ⟨_, PySem.W.mg_of X G v_MOST_LOST⟩,
      g_MOST_PERIOD := ⟨_, PySem.W.mg_of X G v_MOST_PERIOD⟩,
      g_MOST_BOUNDS := ⟨_, PySem.W.mg_of X G v_MOST_BOUNDS⟩,
      g_MOST_UNITS := ⟨_, PySem.W.mg_of X G v_MOST_UNITS⟩,
      g_MOST_WAYS := ⟨_, PySem.W.mg_of X G v_MOST_WAYS⟩,
      g_MOST_SILENT := ⟨_, PySem.W.mg_of X G v_MOST_SILENT⟩,
      g_MOST_WIDTHS := ⟨_, PySem.W.mg_of X G v_MOST_WIDTHS⟩,
      g_MOST_WIDTH := ⟨_, PySem.W.mg_of X G v_MOST_WIDTH⟩,
      g_MOST_HEAD := ⟨_, PySem.W.mg_of X G v_MOST_HEAD⟩,
      g_LEAST_COST := ⟨_, PySem.W.mg_of X G v_LEAST_COST⟩,
      g_MOST_COST := ⟨_, PySem.W.mg_of X G v_MOST_COST⟩,
      g_ALPHABET := ⟨_, PySem.W.mg_of X G v_ALPHABET⟩,
      Mail := ⟨PySem.W.mg_of X G g_Mail, ⟨pg_Mail, hd_Mail, po_Mail, sa_Mail⟩, ha_Mail, s_hn, s_tk, hm_Mail, ne_Mail, is_Mail, ty_Mail, tup_Mail, lst_Mail, int_Mail, str_Mail⟩,
      m_rows := na_Mail_rows,
      m_letters := na_Mail_letters,
      Way := ⟨PySem.W.mg_of X G g_Way, ⟨pg_Way, hd_Way, po_Way, sa_Way⟩, ha_Way, s_hn, s_tk, hm_Way, ne_Way, is_Way, ty_Way, tup_Way, lst_Way, int_Way, str_Way⟩,
      w_begin := na_Way_begin,
      w_least := na_Way_least,
      w_most := na_Way_most,
      w_boxes := na_Way_boxes,
      Steps := ⟨PySem.W.mg_of X G g_Steps, ⟨pg_Steps, hd_Steps, po_Steps, sa_Steps⟩, ha_Steps, s_hn, s_tk, hm_Steps, ne_Steps, is_Steps, ty_Steps, tup_Steps, lst_Steps, int_Steps, str_Steps⟩,
      s_bounds := na_Steps_bounds,
      Room := ⟨PySem.W.mg_of X G g_Room, ⟨pg_Room, hd_Room, po_Room, sa_Room⟩, ha_Room, s_hn, s_tk, hm_Room, ne_Room, is_Room, ty_Room, tup_Room, lst_Room, int_Room, str_Room⟩,
      r_size := na_Room_size,
      r_steps := na_Room_steps,
      Line := ⟨PySem.W.mg_of X G g_Line, ⟨pg_Line, hd_Line, po_Line, sa_Line⟩, ha_Line, s_hn, s_tk, hm_Line, ne_Line, is_Line, ty_Line, tup_Line, lst_Line, int_Line, str_Line⟩,
      l_mail := na_Line_mail,
      l_ways := na_Line_ways,
      l_widths := na_Line_widths,
      l_turn := na_Line_turn,
      l_numbers := na_Line_numbers,
      l_room := na_Line_room,
      l_head := na_Line_head,
      l_places := na_Line_places,
      l_cost := na_Line_cost,
      l_period := na_Line_period,
      l_quiet := na_Line_quiet,
      l_silent := na_Line_silent,
      l_losses := na_Line_losses,
      BadPart := ⟨⟨⟨_, _, _, _, _, _, _, _, _, _, _, _, _, _, _, xBadPart_L, ve_one⟩, xBadPart_sa, xBadPart_ex, xBadPart_ty, xBadPart_kC⟩, PySem.W.mg_of X G g_BadPart, xBadPart_noA, ⟨xBadPart_hg, xBadPart_hk, xBadPart_ex, xBadPart_hd, xBadPart_ha, s_hn, s_tk, xBadPart_hm⟩, _, a_BadPart_init, i_BadPart_init, _, F_BadPart_init, F_BadPart_init.binds (ps := ["self", "part"]) fun _ _ _ _ _ _ us hl => match us, hl with | [_, _], _ => rfl⟩,
      BadNumber := ⟨⟨⟨_, _, _, _, _, _, _, _, _, _, _, _, _, _, _, xBadNumber_L, ve_one⟩, xBadNumber_sa, xBadNumber_ex, xBadNumber_ty, xBadNumber_kC⟩, PySem.W.mg_of X G g_BadNumber, xBadNumber_noA, ⟨xBadNumber_hg, xBadNumber_hk, xBadNumber_ex, xBadNumber_hd, xBadNumber_ha, s_hn, s_tk, xBadNumber_hm⟩, _, a_BadNumber_init, i_BadNumber_init, _, F_BadNumber_init, F_BadNumber_init.binds (ps := ["self", "number"]) fun _ _ _ _ _ _ us hl => match us, hl with | [_, _], _ => rfl⟩,
      BadIndex := ⟨⟨⟨_, _, _, _, _, _, _, _, _, _, _, _, _, _, _, xBadIndex_L, ve_one⟩, xBadIndex_sa, xBadIndex_ex, xBadIndex_ty, xBadIndex_kC⟩, PySem.W.mg_of X G g_BadIndex, xBadIndex_noA, ⟨xBadIndex_hg, xBadIndex_hk, xBadIndex_ex, xBadIndex_hd, xBadIndex_ha, s_hn, s_tk, xBadIndex_hm⟩, _, a_BadIndex_init, i_BadIndex_init, _, F_BadIndex_init, F_BadIndex_init.binds (ps := ["self", "index"]) fun _ _ _ _ _ _ us hl => match us, hl with | [_, _], _ => rfl⟩,
      BadRow := ⟨⟨⟨_, _, _, _, _, _, _, _, _, _, _, _, _, _, _, xBadRow_L, ve_one⟩, xBadRow_sa, xBadRow_ex, xBadRow_ty, xBadRow_kC⟩, PySem.W.mg_of X G g_BadRow, xBadRow_noA, ⟨xBadRow_hg, xBadRow_hk, xBadRow_ex, xBadRow_hd, xBadRow_ha, s_hn, s_tk, xBadRow_hm⟩, _, a_BadRow_init, i_BadRow_init, _, F_BadRow_init, F_BadRow_init.binds (ps := ["self", "index"]) fun _ _ _ _ _ _ us hl => match us, hl with | [_, _], _ => rfl⟩,
      BadLetter := ⟨⟨⟨_, _, _, _, _, _, _, _, _, _, _, _, _, _, _, xBadLetter_L, ve_one⟩, xBadLetter_sa, xBadLetter_ex, xBadLetter_ty, xBadLetter_kC⟩, PySem.W.mg_of X G g_BadLetter, xBadLetter_noA, ⟨xBadLetter_hg, xBadLetter_hk, xBadLetter_ex, xBadLetter_hd, xBadLetter_ha, s_hn, s_tk, xBadLetter_hm⟩, _, a_BadLetter_init, i_BadLetter_init, _, F_BadLetter_init, F_BadLetter_init.binds (ps := ["self", "spot"]) fun _ _ _ _ _ _ us hl => match us, hl with | [_, _], _ => rfl⟩,
      BadSteps := ⟨⟨⟨_, _, _, _, _, _, _, _, _, _, _, _, _, _, _, xBadSteps_L, ve_one⟩, xBadSteps_sa, xBadSteps_ex, xBadSteps_ty, xBadSteps_kC⟩, PySem.W.mg_of X G g_BadSteps, xBadSteps_noA, ⟨xBadSteps_hg, xBadSteps_hk, xBadSteps_ex, xBadSteps_hd, xBadSteps_ha, s_hn, s_tk, xBadSteps_hm⟩, _, a_BadSteps_init, i_BadSteps_init, _, F_BadSteps_init, F_BadSteps_init.binds (ps := ["self", "index"]) fun _ _ _ _ _ _ us hl => match us, hl with | [_, _], _ => rfl⟩,
      BadBox := ⟨⟨⟨_, _, _, _, _, _, _, _, _, _, _, _, _, _, _, xBadBox_L, ve_one⟩, xBadBox_sa, xBadBox_ex, xBadBox_ty, xBadBox_kC⟩, PySem.W.mg_of X G g_BadBox, xBadBox_noA, ⟨xBadBox_hg, xBadBox_hk, xBadBox_ex, xBadBox_hd, xBadBox_ha, s_hn, s_tk, xBadBox_hm⟩, _, a_BadBox_init, i_BadBox_init, _, F_BadBox_init, F_BadBox_init.binds (ps := ["self", "index"]) fun _ _ _ _ _ _ us hl => match us, hl with | [_, _], _ => rfl⟩,
      TooMany := ⟨⟨⟨_, _, _, _, _, _, _, _, _, _, _, _, _, _, xTooMany_L⟩, xTooMany_sa, xTooMany_ex, xTooMany_ty, xTooMany_kC⟩, PySem.W.mg_of X G g_TooMany, xTooMany_noA, ⟨xTooMany_hg, xTooMany_hk, xTooMany_ex, xTooMany_hd, xTooMany_ha, s_hn, s_tk, xTooMany_hm⟩, _, a_TooMany_init, i_TooMany_init, _, F_TooMany_init, F_TooMany_init.binds (ps := ["self", "limit"]) fun _ _ _ _ _ _ us hl => match us, hl with | [_, _], _ => rfl⟩,
      t0 := fun H => .inr ⟨_, #[], en, d_0, rfl, rfl, Nat.zero_le _, .nil⟩ }
  exact ⟨PySem.W.fnOf "law" "law" (defArgs s_law) (defBody s_law) (defScope s_law) .none kV_law dc_law pm_law_ an_law cd_law ct_law, fun s v => .of_eq rfl, fun base _ _ =>
    law_ok T D_has_milder_room D_is_milder D_is_integer D_is_between D_is_index D_is_list D_is_list_of D_is_name D_is_tuple_of D_is_letter D_check_row D_is_begin D_are_delays D_is_box D_check_ways D_are_widths D_check_part D_check_boxes D__law_start D__law_draw D__law_mail D__law_rising D__law_box D__law_way D__law_raw D__law_made_ways D__law_line D__law_copy D__law_other D__law_due M_Mail_init M_Mail_eq M_Way_eq M_Steps_init M_Room_init mk_Mail kc_Mail mk_Steps kc_Steps mk_Room kc_Room FI ⟨mk_Way, a_Way_init, i_Way_init, kc_Way⟩ B4 v3 B3 F_Line_init ⟨mk_Line, a_Line_init, i_Line_init, kc_Line⟩ KB_Line (fun_mk (st := s_law) l_law c_law k_law)⟩
theorem walk {l : PySem.W.OpenLaw} {q : Program} {loose : List Str} {XP : (Str → Option Value) → Heap → Prop} {YP : World → Heap → Prop} {d : DefRec} {K : Params → PySem.W.Frag} (hn : l.most = some 63) (hdf : d.params.defaults = [])
    (hY : ∀ (w : World) (h : Heap), YP w h → (K w.params).In h)
    (F : ∀ (w : World) (mg : Str → Option Value) (fa : Addr) (h : Heap), (K w.params).In h → h.Ns mainGlobals mg → mg d.name = some (.ref fa) →
      ∃ fd : FuncData, (∀ (s : Shared) (u : Value), BindsTo s fd ⟨[u], []⟩ [("_law_script", u)]) ∧ ∀ base : Heap, (K w.params).In base → base.Ns mainGlobals mg → FnOk l.prog w (K w.params) mg base CX0 12 fa fd ["_law_script"] (spLaw (K w.params))) :
    PySem.W.WalkO q loose XP YP l.row.toRowW d [] (fun f vs => PySem.call f vs) :=
  L2.walk_of (n := 63) (k := 12) (x := "_law_script") (CX := fun _ => CX0) (sp := fun w => spLaw (K w.params)) hn (by decide) hdf ⟨rfl, by decide, by decide⟩ hY F (fun _ _ a ns hl _ hS => ⟨a, ns, rfl, hS, hl, fun _ => rfl⟩) fun _ _ _ _ _ z => z
end K73

open PySem PySem.W PyProof.Rows in
set_option maxRecDepth 100000 in
set_option maxHeartbeats 0 in
theorem PySem.Challenge.cw_wholeline_k73_milder_lines_in_order_holds : PySem.Challenge.rw_wholeline_k73_milder_lines_in_order.Holds := by
  w_on; o_law; k_head; (case hw => w_witness2)
  k_fill
  refine K73.walk (l := PySem.Challenge.rw_wholeline_k73_milder_lines_in_order) rfl rfl (fun w h Y => PySem.W.kIn_of Y) ?F
  case F =>
    intro w mg fa h KX G hmg
    refine' K73.all_mk KX G hmg ?q_g_BadPart ?q_g_BadNumber ?q_g_BadIndex ?q_g_BadRow ?q_g_BadLetter ?q_g_BadSteps ?q_g_BadBox ?q_g_TooMany ?q_g_WholeError ?q_g_Mail ?q_g_Way ?q_g_Steps ?q_g_Room ?q_g_Line ?q_a_has_milder_room ?q_l_has_milder_room ?q_c_has_milder_room ?q_k_has_milder_room ?q_a_is_milder ?q_l_is_milder ?q_c_is_milder ?q_k_is_milder ?q_a_is_integer ?q_l_is_integer ?q_c_is_integer ?q_k_is_integer ?q_a_is_between ?q_l_is_between ?q_c_is_between ?q_k_is_between ?q_a_is_index ?q_l_is_index ?q_c_is_index ?q_k_is_index ?q_a_is_list ?q_l_is_list ?q_c_is_list ?q_k_is_list ?q_a_is_list_of ?q_l_is_list_of ?q_c_is_list_of ?q_k_is_list_of ?q_a_is_name ?q_l_is_name ?q_c_is_name ?q_k_is_name ?q_a_is_tuple_of ?q_l_is_tuple_of ?q_c_is_tuple_of ?q_k_is_tuple_of ?q_a_is_letter ?q_l_is_letter ?q_c_is_letter ?q_k_is_letter ?q_a_check_row ?q_l_check_row ?q_c_check_row ?q_k_check_row ?q_a_is_begin ?q_l_is_begin ?q_c_is_begin ?q_k_is_begin ?q_a_are_delays ?q_l_are_delays ?q_c_are_delays ?q_k_are_delays ?q_a_is_box ?q_l_is_box ?q_c_is_box ?q_k_is_box ?q_a_check_ways ?q_l_check_ways ?q_c_check_ways ?q_k_check_ways ?q_a_are_widths ?q_l_are_widths ?q_c_are_widths ?q_k_are_widths ?q_a_check_part ?q_l_check_part ?q_c_check_part ?q_k_check_part ?q_a_check_boxes ?q_l_check_boxes ?q_c_check_boxes ?q_k_check_boxes ?q_a__law_start ?q_l__law_start ?q_c__law_start ?q_k__law_start ?q_a__law_draw ?q_l__law_draw ?q_c__law_draw ?q_k__law_draw ?q_a__law_mail ?q_l__law_mail ?q_c__law_mail ?q_k__law_mail ?q_a__law_rising ?q_l__law_rising ?q_c__law_rising ?q_k__law_rising ?q_a__law_box ?q_l__law_box ?q_c__law_box ?q_k__law_box ?q_a__law_way ?q_l__law_way ?q_c__law_way ?q_k__law_way ?q_a__law_raw ?q_l__law_raw ?q_c__law_raw ?q_k__law_raw ?q_a__law_made_ways ?q_l__law_made_ways ?q_c__law_made_ways ?q_k__law_made_ways ?q_a__law_line ?q_l__law_line ?q_c__law_line ?q_k__law_line ?q_a__law_copy ?q_l__law_copy ?q_c__law_copy ?q_k__law_copy ?q_a__law_other ?q_l__law_other ?q_c__law_other ?q_k__law_other ?q_a__law_due ?q_l__law_due ?q_c__law_due ?q_k__law_due ?q_a_law ?q_l_law ?q_c_law ?q_k_law ?q_a_BadPart_init ?q_i_BadPart_init ?q_l_BadPart_init ?q_c_BadPart_init ?q_k_BadPart_init ?q_a_BadNumber_init ?q_i_BadNumber_init ?q_l_BadNumber_init ?q_c_BadNumber_init ?q_k_BadNumber_init ?q_a_BadIndex_init ?q_i_BadIndex_init ?q_l_BadIndex_init ?q_c_BadIndex_init ?q_k_BadIndex_init ?q_a_BadRow_init ?q_i_BadRow_init ?q_l_BadRow_init ?q_c_BadRow_init ?q_k_BadRow_init ?q_a_BadLetter_init ?q_i_BadLetter_init ?q_l_BadLetter_init ?q_c_BadLetter_init ?q_k_BadLetter_init ?q_a_BadSteps_init ?q_i_BadSteps_init ?q_l_BadSteps_init ?q_c_BadSteps_init ?q_k_BadSteps_init ?q_a_BadBox_init ?q_i_BadBox_init ?q_l_BadBox_init ?q_c_BadBox_init ?q_k_BadBox_init ?q_a_TooMany_init ?q_i_TooMany_init ?q_l_TooMany_init ?q_c_TooMany_init ?q_k_TooMany_init ?q_a_Mail_init ?q_i_Mail_init ?q_l_Mail_init ?q_c_Mail_init ?q_k_Mail_init ?q_a_Mail_eq ?q_i_Mail_eq ?q_l_Mail_eq ?q_c_Mail_eq ?q_k_Mail_eq ?q_a_Way_init ?q_i_Way_init ?q_l_Way_init ?q_c_Way_init ?q_k_Way_init ?q_a_Way_eq ?q_i_Way_eq ?q_l_Way_eq ?q_c_Way_eq ?q_k_Way_eq ?q_a_Steps_init ?q_i_Steps_init ?q_l_Steps_init ?q_c_Steps_init ?q_k_Steps_init ?q_a_Room_init ?q_i_Room_init ?q_l_Room_init ?q_c_Room_init ?q_k_Room_init ?q_a_Line_init ?q_i_Line_init ?q_l_Line_init ?q_c_Line_init ?q_k_Line_init ?q_d_T ?q_d_0 ?q_n_isinstance ?q_n_int ?q_n_bool ?q_n_str ?q_n_list ?q_n_tuple ?q_n_len ?q_n_range ?q_n_enumerate ?q_n_all ?q_n_abs ?q_n_sum ?q_n_repr ?q_n_max ?q_n_zip ?q_n_sorted ?q_v_MOST_HEADS ?q_v_MOST_BODY ?q_v_MOST_LETTERS ?q_v_MOST_ROWS ?q_v_MOST_PLACES ?q_v_MOST_BEGIN ?q_v_MOST_DELAY ?q_v_MOST_BOXES ?q_v_MOST_KEEP ?q_v_MOST_TURN ?q_v_MOST_NUMBERS ?q_v_MOST_QUIET ?q_v_MOST_LOST ?q_v_MOST_PERIOD ?q_v_MOST_BOUNDS ?q_v_MOST_UNITS ?q_v_MOST_WAYS ?q_v_MOST_SILENT ?q_v_MOST_WIDTHS ?q_v_MOST_WIDTH ?q_v_MOST_HEAD ?q_v_LEAST_COST ?q_v_MOST_COST ?q_v_ALPHABET ?q_s_hn ?q_s_tk ?q_pg_Mail ?q_hd_Mail ?q_po_Mail ?q_sa_Mail ?q_ha_Mail ?q_hm_Mail ?q_ne_Mail ?q_is_Mail ?q_ty_Mail ?q_tup_Mail ?q_lst_Mail ?q_int_Mail ?q_str_Mail ?q_mk_Mail ?q_kc_Mail ?q_na_Mail_rows ?q_na_Mail_letters ?q_pg_Way ?q_hd_Way ?q_po_Way ?q_sa_Way ?q_ha_Way ?q_hm_Way ?q_ne_Way ?q_is_Way ?q_ty_Way ?q_tup_Way ?q_lst_Way ?q_int_Way ?q_str_Way ?q_mk_Way ?q_kc_Way ?q_na_Way_begin ?q_na_Way_least ?q_na_Way_most ?q_na_Way_boxes ?q_pg_Steps ?q_hd_Steps ?q_po_Steps ?q_sa_Steps ?q_ha_Steps ?q_hm_Steps ?q_ne_Steps ?q_is_Steps ?q_ty_Steps ?q_tup_Steps ?q_lst_Steps ?q_int_Steps ?q_str_Steps ?q_mk_Steps ?q_kc_Steps ?q_na_Steps_bounds ?q_pg_Room ?q_hd_Room ?q_po_Room ?q_sa_Room ?q_ha_Room ?q_hm_Room ?q_ne_Room ?q_is_Room ?q_ty_Room ?q_tup_Room ?q_lst_Room ?q_int_Room ?q_str_Room ?q_mk_Room ?q_kc_Room ?q_na_Room_size ?q_na_Room_steps ?q_pg_Line ?q_hd_Line ?q_po_Line ?q_sa_Line ?q_ha_Line ?q_hm_Line ?q_ne_Line ?q_is_Line ?q_ty_Line ?q_tup_Line ?q_lst_Line ?q_int_Line ?q_str_Line ?q_mk_Line ?q_kc_Line ?q_na_Line_mail ?q_na_Line_ways ?q_na_Line_widths ?q_na_Line_turn ?q_na_Line_numbers ?q_na_Line_room ?q_na_Line_head ?q_na_Line_places ?q_na_Line_cost ?q_na_Line_period ?q_na_Line_quiet ?q_na_Line_silent ?q_na_Line_losses ?q_xBadPart_L ?q_xBadPart_sa ?q_xBadPart_ex ?q_xBadPart_ty ?q_xBadPart_kC ?q_xBadPart_noA ?q_xBadPart_hg ?q_xBadPart_hk ?q_xBadPart_hd ?q_xBadPart_ha ?q_xBadPart_hm ?q_xBadPart_is ?q_xBadPart_ss ?q_xBadPart_w ?q_xBadNumber_L ?q_xBadNumber_sa ?q_xBadNumber_ex ?q_xBadNumber_ty ?q_xBadNumber_kC ?q_xBadNumber_noA ?q_xBadNumber_hg ?q_xBadNumber_hk ?q_xBadNumber_hd ?q_xBadNumber_ha ?q_xBadNumber_hm ?q_xBadNumber_is ?q_xBadNumber_ss ?q_xBadNumber_w ?q_xBadIndex_L ?q_xBadIndex_sa ?q_xBadIndex_ex ?q_xBadIndex_ty ?q_xBadIndex_kC ?q_xBadIndex_noA ?q_xBadIndex_hg ?q_xBadIndex_hk ?q_xBadIndex_hd ?q_xBadIndex_ha ?q_xBadIndex_hm ?q_xBadIndex_is ?q_xBadIndex_ss ?q_xBadIndex_w ?q_xBadRow_L ?q_xBadRow_sa ?q_xBadRow_ex ?q_xBadRow_ty ?q_xBadRow_kC ?q_xBadRow_noA ?q_xBadRow_hg ?q_xBadRow_hk ?q_xBadRow_hd ?q_xBadRow_ha ?q_xBadRow_hm ?q_xBadRow_is ?q_xBadRow_ss ?q_xBadRow_w ?q_xBadLetter_L ?q_xBadLetter_sa ?q_xBadLetter_ex ?q_xBadLetter_ty ?q_xBadLetter_kC ?q_xBadLetter_noA ?q_xBadLetter_hg ?q_xBadLetter_hk ?q_xBadLetter_hd ?q_xBadLetter_ha ?q_xBadLetter_hm ?q_xBadLetter_is ?q_xBadLetter_ss ?q_xBadLetter_w ?q_xBadSteps_L ?q_xBadSteps_sa ?q_xBadSteps_ex ?q_xBadSteps_ty ?q_xBadSteps_kC ?q_xBadSteps_noA ?q_xBadSteps_hg ?q_xBadSteps_hk ?q_xBadSteps_hd ?q_xBadSteps_ha ?q_xBadSteps_hm ?q_xBadSteps_is ?q_xBadSteps_ss ?q_xBadSteps_w ?q_xBadBox_L ?q_xBadBox_sa ?q_xBadBox_ex ?q_xBadBox_ty ?q_xBadBox_kC ?q_xBadBox_noA ?q_xBadBox_hg ?q_xBadBox_hk ?q_xBadBox_hd ?q_xBadBox_ha ?q_xBadBox_hm ?q_xBadBox_is ?q_xBadBox_ss ?q_xBadBox_w ?q_xTooMany_L ?q_xTooMany_sa ?q_xTooMany_ex ?q_xTooMany_ty ?q_xTooMany_kC ?q_xTooMany_noA ?q_xTooMany_hg ?q_xTooMany_hk ?q_xTooMany_hd ?q_xTooMany_ha ?q_xTooMany_hm ?q_xTooMany_is ?q_xTooMany_ss ?q_xw_i ?q_xw_t ?q_xw_b
    (case q_g_BadPart => k_is)
    (case q_g_BadNumber => k_is)
    (case q_g_BadIndex => k_is)
    (case q_g_BadRow => k_is)
    (case q_g_BadLetter => k_is)
    (case q_g_BadSteps => k_is)
    (case q_g_BadBox => k_is)
    (case q_g_TooMany => k_is)
    (case q_g_WholeError => k_is)
    (case q_g_Mail => k_is)
    (case q_g_Way => k_is)
    (case q_g_Steps => k_is)
    (case q_g_Room => k_is)
    (case q_g_Line => k_is)
    (case q_a_has_milder_room => k_is)
    (case q_l_has_milder_room => k_is)
    (case q_c_has_milder_room => k_is)
    (case q_k_has_milder_room => k_is)
    (case q_a_is_milder => k_is)
    (case q_l_is_milder => k_is)
    (case q_c_is_milder => k_is)
    (case q_k_is_milder => k_is)
    (case q_a_is_integer => k_is)
    (case q_l_is_integer => k_is)
    (case q_c_is_integer => k_is)
    (case q_k_is_integer => k_is)
    (case q_a_is_between => k_is)
    (case q_l_is_between => k_is)
    (case q_c_is_between => k_is)
    (case q_k_is_between => k_is)
    (case q_a_is_index => k_is)
    (case q_l_is_index => k_is)
    (case q_c_is_index => k_is)
    (case q_k_is_index => k_is)
    (case q_a_is_list => k_is)
    (case q_l_is_list => k_is)
    (case q_c_is_list => k_is)
    (case q_k_is_list => k_is)
    (case q_a_is_list_of => k_is)
    (case q_l_is_list_of => k_is)
    (case q_c_is_list_of => k_is)
    (case q_k_is_list_of => k_is)
    (case q_a_is_name => k_is)
    (case q_l_is_name => k_is)
    (case q_c_is_name => k_is)
    (case q_k_is_name => k_is)
    (case q_a_is_tuple_of => k_is)
    (case q_l_is_tuple_of => k_is)
    (case q_c_is_tuple_of => k_is)
    (case q_k_is_tuple_of => k_is)
    (case q_a_is_letter => k_is)
    (case q_l_is_letter => k_is)
    (case q_c_is_letter => k_is)
    (case q_k_is_letter => k_is)
    (case q_a_check_row => k_is)
    (case q_l_check_row => k_is)
    (case q_c_check_row => k_is)
    (case q_k_check_row => k_is)
    (case q_a_is_begin => k_is)
    (case q_l_is_begin => k_is)
    (case q_c_is_begin => k_is)
    (case q_k_is_begin => k_is)
    (case q_a_are_delays => k_is)
    (case q_l_are_delays => k_is)
    (case q_c_are_delays => k_is)
    (case q_k_are_delays => k_is)
    (case q_a_is_box => k_is)
    (case q_l_is_box => k_is)
    (case q_c_is_box => k_is)
    (case q_k_is_box => k_is)
    (case q_a_check_ways => k_is)
    (case q_l_check_ways => k_is)
    (case q_c_check_ways => k_is)
    (case q_k_check_ways => k_is)
    (case q_a_are_widths => k_is)
    (case q_l_are_widths => k_is)
    (case q_c_are_widths => k_is)
    (case q_k_are_widths => k_is)
    (case q_a_check_part => k_is)
    (case q_l_check_part => k_is)
    (case q_c_check_part => k_is)
    (case q_k_check_part => k_is)
    (case q_a_check_boxes => k_is)
    (case q_l_check_boxes => k_is)
    (case q_c_check_boxes => k_is)
    (case q_k_check_boxes => k_is)
    (case q_a__law_start => k_is)
    (case q_l__law_start => k_is)
    (case q_c__law_start => k_is)
    (case q_k__law_start => k_is)
    (case q_a__law_draw => k_is)
    (case q_l__law_draw => k_is)
    (case q_c__law_draw => k_is)
    (case q_k__law_draw => k_is)
    (case q_a__law_mail => k_is)
    (case q_l__law_mail => k_is)
    (case q_c__law_mail => k_is)
    (case q_k__law_mail => k_is)
    (case q_a__law_rising => k_is)
    (case q_l__law_rising => k_is)
    (case q_c__law_rising => k_is)
    (case q_k__law_rising => k_is)
    (case q_a__law_box => k_is)
    (case q_l__law_box => k_is)
    (case q_c__law_box => k_is)
    (case q_k__law_box => k_is)
    (case q_a__law_way => k_is)
    (case q_l__law_way => k_is)
    (case q_c__law_way => k_is)
    (case q_k__law_way => k_is)
    (case q_a__law_raw => k_is)
    (case q_l__law_raw => k_is)
    (case q_c__law_raw => k_is)
    (case q_k__law_raw => k_is)
    (case q_a__law_made_ways => k_is)
    (case q_l__law_made_ways => k_is)
    (case q_c__law_made_ways => k_is)
    (case q_k__law_made_ways => k_is)
    (case q_a__law_line => k_is)
    (case q_l__law_line => k_is)
    (case q_c__law_line => k_is)
    (case q_k__law_line => k_is)
    (case q_a__law_copy => k_is)
    (case q_l__law_copy => k_is)
    (case q_c__law_copy => k_is)
    (case q_k__law_copy => k_is)
    (case q_a__law_other => k_is)
    (case q_l__law_other => k_is)
    (case q_c__law_other => k_is)
    (case q_k__law_other => k_is)
    (case q_a__law_due => k_is)
    (case q_l__law_due => k_is)
    (case q_c__law_due => k_is)
    (case q_k__law_due => k_is)
    (case q_a_law => k_is)
    (case q_l_law => k_is)
    (case q_c_law => k_is)
    (case q_k_law => k_is)
    (case q_a_BadPart_init => k_is)
    (case q_i_BadPart_init => k_is)
    (case q_l_BadPart_init => k_is)
    (case q_c_BadPart_init => k_is)
    (case q_k_BadPart_init => k_is)
    (case q_a_BadNumber_init => k_is)
    (case q_i_BadNumber_init => k_is)
    (case q_l_BadNumber_init => k_is)
    (case q_c_BadNumber_init => k_is)
    (case q_k_BadNumber_init => k_is)
    (case q_a_BadIndex_init => k_is)
    (case q_i_BadIndex_init => k_is)
    (case q_l_BadIndex_init => k_is)
    (case q_c_BadIndex_init => k_is)
    (case q_k_BadIndex_init => k_is)
    (case q_a_BadRow_init => k_is)
    (case q_i_BadRow_init => k_is)
    (case q_l_BadRow_init => k_is)
    (case q_c_BadRow_init => k_is)
    (case q_k_BadRow_init => k_is)
    (case q_a_BadLetter_init => k_is)
    (case q_i_BadLetter_init => k_is)
    (case q_l_BadLetter_init => k_is)
    (case q_c_BadLetter_init => k_is)
    (case q_k_BadLetter_init => k_is)
    (case q_a_BadSteps_init => k_is)
    (case q_i_BadSteps_init => k_is)
    (case q_l_BadSteps_init => k_is)
    (case q_c_BadSteps_init => k_is)
    (case q_k_BadSteps_init => k_is)
    (case q_a_BadBox_init => k_is)
    (case q_i_BadBox_init => k_is)
    (case q_l_BadBox_init => k_is)
    (case q_c_BadBox_init => k_is)
    (case q_k_BadBox_init => k_is)
    (case q_a_TooMany_init => k_is)
    (case q_i_TooMany_init => k_is)
    (case q_l_TooMany_init => k_is)
    (case q_c_TooMany_init => k_is)
    (case q_k_TooMany_init => k_is)
    (case q_a_Mail_init => k_is)
    (case q_i_Mail_init => k_is)
    (case q_l_Mail_init => k_is)
    (case q_c_Mail_init => k_is)
    (case q_k_Mail_init => k_is)
    (case q_a_Mail_eq => k_is)
    (case q_i_Mail_eq => k_is)
    (case q_l_Mail_eq => k_is)
    (case q_c_Mail_eq => k_is)
    (case q_k_Mail_eq => k_is)
    (case q_a_Way_init => k_is)
    (case q_i_Way_init => k_is)
    (case q_l_Way_init => k_is)
    (case q_c_Way_init => k_is)
    (case q_k_Way_init => k_is)
    (case q_a_Way_eq => k_is)
    (case q_i_Way_eq => k_is)
    (case q_l_Way_eq => k_is)
    (case q_c_Way_eq => k_is)
    (case q_k_Way_eq => k_is)
    (case q_a_Steps_init => k_is)
    (case q_i_Steps_init => k_is)
    (case q_l_Steps_init => k_is)
    (case q_c_Steps_init => k_is)
    (case q_k_Steps_init => k_is)
    (case q_a_Room_init => k_is)
    (case q_i_Room_init => k_is)
    (case q_l_Room_init => k_is)
    (case q_c_Room_init => k_is)
    (case q_k_Room_init => k_is)
    (case q_a_Line_init => k_is)
    (case q_i_Line_init => k_is)
    (case q_l_Line_init => k_is)
    (case q_c_Line_init => k_is)
    (case q_k_Line_init => k_is)
    (case q_d_T => k_is)
    (case q_d_0 => k_is)
    (case q_n_isinstance => k_is)
    (case q_n_int => k_is)
    (case q_n_bool => k_is)
    (case q_n_str => k_is)
    (case q_n_list => k_is)
    (case q_n_tuple => k_is)
    (case q_n_len => k_is)
    (case q_n_range => k_is)
    (case q_n_enumerate => k_is)
    (case q_n_all => k_is)
    (case q_n_abs => k_is)
    (case q_n_sum => k_is)
    (case q_n_repr => k_is)
    (case q_n_max => k_is)
    (case q_n_zip => k_is)
    (case q_n_sorted => k_is)
    (case q_v_MOST_HEADS => k_is)
    (case q_v_MOST_BODY => k_is)
    (case q_v_MOST_LETTERS => k_is)
    (case q_v_MOST_ROWS => k_is)
    (case q_v_MOST_PLACES => k_is)
    (case q_v_MOST_BEGIN => k_is)
    (case q_v_MOST_DELAY => k_is)
    (case q_v_MOST_BOXES => k_is)
    (case q_v_MOST_KEEP => k_is)
    (case q_v_MOST_TURN => k_is)
    (case q_v_MOST_NUMBERS => k_is)
    (case q_v_MOST_QUIET => k_is)
    (case q_v_MOST_LOST => k_is)
    (case q_v_MOST_PERIOD => k_is)
    (case q_v_MOST_BOUNDS => k_is)
    (case q_v_MOST_UNITS => k_is)
    (case q_v_MOST_WAYS => k_is)
    (case q_v_MOST_SILENT => k_is)
    (case q_v_MOST_WIDTHS => k_is)
    (case q_v_MOST_WIDTH => k_is)
    (case q_v_MOST_HEAD => k_is)
    (case q_v_LEAST_COST => k_is)
    (case q_v_MOST_COST => k_is)
    (case q_v_ALPHABET => k_is)
    (case q_s_hn => k_is)
    (case q_s_tk => k_is)
    (case q_pg_Mail => k_is)
    (case q_hd_Mail => k_is)
    (case q_po_Mail => k_is)
    (case q_sa_Mail => k_is)
    (case q_ha_Mail => k_is)
    (case q_hm_Mail => k_is)
    (case q_ne_Mail => k_is)
    (case q_is_Mail => k_is)
    (case q_ty_Mail => k_is)
    (case q_tup_Mail => k_is)
    (case q_lst_Mail => k_is)
    (case q_int_Mail => k_is)
    (case q_str_Mail => k_is)
    (case q_mk_Mail => k_is)
    (case q_kc_Mail => k_is)
    (case q_na_Mail_rows => k_is)
    (case q_na_Mail_letters => k_is)
    (case q_pg_Way => k_is)
    (case q_hd_Way => k_is)
    (case q_po_Way => k_is)
    (case q_sa_Way => k_is)
    (case q_ha_Way => k_is)
    (case q_hm_Way => k_is)
    (case q_ne_Way => k_is)
    (case q_is_Way => k_is)
    (case q_ty_Way => k_is)
    (case q_tup_Way => k_is)
    (case q_lst_Way => k_is)
    (case q_int_Way => k_is)
    (case q_str_Way => k_is)
    (case q_mk_Way => k_is)
    (case q_kc_Way => k_is)
    (case q_na_Way_begin => k_is)
    (case q_na_Way_least => k_is)
    (case q_na_Way_most => k_is)
    (case q_na_Way_boxes => k_is)
    (case q_pg_Steps => k_is)
    (case q_hd_Steps => k_is)
    (case q_po_Steps => k_is)
    (case q_sa_Steps => k_is)
    (case q_ha_Steps => k_is)
    (case q_hm_Steps => k_is)
    (case q_ne_Steps => k_is)
    (case q_is_Steps => k_is)
    (case q_ty_Steps => k_is)
    (case q_tup_Steps => k_is)
    (case q_lst_Steps => k_is)
    (case q_int_Steps => k_is)
    (case q_str_Steps => k_is)
    (case q_mk_Steps => k_is)
    (case q_kc_Steps => k_is)
    (case q_na_Steps_bounds => k_is)
    (case q_pg_Room => k_is)
    (case q_hd_Room => k_is)
    (case q_po_Room => k_is)
    (case q_sa_Room => k_is)
    (case q_ha_Room => k_is)
    (case q_hm_Room => k_is)
    (case q_ne_Room => k_is)
    (case q_is_Room => k_is)
    (case q_ty_Room => k_is)
    (case q_tup_Room => k_is)
    (case q_lst_Room => k_is)
    (case q_int_Room => k_is)
    (case q_str_Room => k_is)
    (case q_mk_Room => k_is)
    (case q_kc_Room => k_is)
    (case q_na_Room_size => k_is)
    (case q_na_Room_steps => k_is)
    (case q_pg_Line => k_is)
    (case q_hd_Line => k_is)
    (case q_po_Line => k_is)
    (case q_sa_Line => k_is)
    (case q_ha_Line => k_is)
    (case q_hm_Line => k_is)
    (case q_ne_Line => k_is)
    (case q_is_Line => k_is)
    (case q_ty_Line => k_is)
    (case q_tup_Line => k_is)
    (case q_lst_Line => k_is)
    (case q_int_Line => k_is)
    (case q_str_Line => k_is)
    (case q_mk_Line => k_is)
    (case q_kc_Line => k_is)
    (case q_na_Line_mail => k_is)
    (case q_na_Line_ways => k_is)
    (case q_na_Line_widths => k_is)
    (case q_na_Line_turn => k_is)
    (case q_na_Line_numbers => k_is)
    (case q_na_Line_room => k_is)
    (case q_na_Line_head => k_is)
    (case q_na_Line_places => k_is)
    (case q_na_Line_cost => k_is)
    (case q_na_Line_period => k_is)
    (case q_na_Line_quiet => k_is)
    (case q_na_Line_silent => k_is)
    (case q_na_Line_losses => k_is)
    (case q_xBadPart_L => k_is)
    (case q_xBadPart_sa => k_is)
    (case q_xBadPart_ex => k_is)
    (case q_xBadPart_ty => k_is)
    (case q_xBadPart_kC => k_is)
    (case q_xBadPart_noA => k_is)
    (case q_xBadPart_hg => k_is)
    (case q_xBadPart_hk => k_is)
    (case q_xBadPart_hd => k_is)
    (case q_xBadPart_ha => k_is)
    (case q_xBadPart_hm => k_is)
    (case q_xBadPart_is => k_is)
    (case q_xBadPart_ss => k_is)
    (case q_xBadPart_w => k_is)
    (case q_xBadNumber_L => k_is)
    (case q_xBadNumber_sa => k_is)
    (case q_xBadNumber_ex => k_is)
    (case q_xBadNumber_ty => k_is)
    (case q_xBadNumber_kC => k_is)
    (case q_xBadNumber_noA => k_is)
    (case q_xBadNumber_hg => k_is)
    (case q_xBadNumber_hk => k_is)
    (case q_xBadNumber_hd => k_is)
    (case q_xBadNumber_ha => k_is)
    (case q_xBadNumber_hm => k_is)
    (case q_xBadNumber_is => k_is)
    (case q_xBadNumber_ss => k_is)
    (case q_xBadNumber_w => k_is)
    (case q_xBadIndex_L => k_is)
    (case q_xBadIndex_sa => k_is)
    (case q_xBadIndex_ex => k_is)
    (case q_xBadIndex_ty => k_is)
    (case q_xBadIndex_kC => k_is)
    (case q_xBadIndex_noA => k_is)
    (case q_xBadIndex_hg => k_is)
    (case q_xBadIndex_hk => k_is)
    (case q_xBadIndex_hd => k_is)
    (case q_xBadIndex_ha => k_is)
    (case q_xBadIndex_hm => k_is)
    (case q_xBadIndex_is => k_is)
    (case q_xBadIndex_ss => k_is)
    (case q_xBadIndex_w => k_is)
    (case q_xBadRow_L => k_is)
    (case q_xBadRow_sa => k_is)
    (case q_xBadRow_ex => k_is)
    (case q_xBadRow_ty => k_is)
    (case q_xBadRow_kC => k_is)
    (case q_xBadRow_noA => k_is)
    (case q_xBadRow_hg => k_is)
    (case q_xBadRow_hk => k_is)
    (case q_xBadRow_hd => k_is)
    (case q_xBadRow_ha => k_is)
    (case q_xBadRow_hm => k_is)
    (case q_xBadRow_is => k_is)
    (case q_xBadRow_ss => k_is)
    (case q_xBadRow_w => k_is)
    (case q_xBadLetter_L => k_is)
    (case q_xBadLetter_sa => k_is)
    (case q_xBadLetter_ex => k_is)
    (case q_xBadLetter_ty => k_is)
    (case q_xBadLetter_kC => k_is)
    (case q_xBadLetter_noA => k_is)
    (case q_xBadLetter_hg => k_is)
    (case q_xBadLetter_hk => k_is)
    (case q_xBadLetter_hd => k_is)
    (case q_xBadLetter_ha => k_is)
    (case q_xBadLetter_hm => k_is)
    (case q_xBadLetter_is => k_is)
    (case q_xBadLetter_ss => k_is)
    (case q_xBadLetter_w => k_is)
    (case q_xBadSteps_L => k_is)
    (case q_xBadSteps_sa => k_is)
    (case q_xBadSteps_ex => k_is)
    (case q_xBadSteps_ty => k_is)
    (case q_xBadSteps_kC => k_is)
    (case q_xBadSteps_noA => k_is)
    (case q_xBadSteps_hg => k_is)
    (case q_xBadSteps_hk => k_is)
    (case q_xBadSteps_hd => k_is)
    (case q_xBadSteps_ha => k_is)
    (case q_xBadSteps_hm => k_is)
    (case q_xBadSteps_is => k_is)
    (case q_xBadSteps_ss => k_is)
    (case q_xBadSteps_w => k_is)
    (case q_xBadBox_L => k_is)
    (case q_xBadBox_sa => k_is)
    (case q_xBadBox_ex => k_is)
    (case q_xBadBox_ty => k_is)
    (case q_xBadBox_kC => k_is)
    (case q_xBadBox_noA => k_is)
    (case q_xBadBox_hg => k_is)
    (case q_xBadBox_hk => k_is)
    (case q_xBadBox_hd => k_is)
    (case q_xBadBox_ha => k_is)
    (case q_xBadBox_hm => k_is)
    (case q_xBadBox_is => k_is)
    (case q_xBadBox_ss => k_is)
    (case q_xBadBox_w => k_is)
    (case q_xTooMany_L => k_is)
    (case q_xTooMany_sa => k_is)
    (case q_xTooMany_ex => k_is)
    (case q_xTooMany_ty => k_is)
    (case q_xTooMany_kC => k_is)
    (case q_xTooMany_noA => k_is)
    (case q_xTooMany_hg => k_is)
    (case q_xTooMany_hk => k_is)
    (case q_xTooMany_hd => k_is)
    (case q_xTooMany_ha => k_is)
    (case q_xTooMany_hm => k_is)
    (case q_xTooMany_is => k_is)
    (case q_xTooMany_ss => k_is)
    (case q_xw_i => k_is)
    (case q_xw_t => k_is)
    (case q_xw_b => k_is)
