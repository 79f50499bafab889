import PyProof.Rows.All
import Wide.All
import OpenK.AllK
import Wide.FinOn
import PyProof.EqAt
import PyProof.EqKinds
import PyProof.TupleCall
import HandS.Base
import HandS.Call
import HandS.List
import HandS.Comp
import HandS.Ends
import HandS.Words
import HandS.WordsList
import HandS.Exc
import HandS.ExcInit
import HandS.ExcIs
import HandS.OwnEq
import HandS.IsInst
import HandS.ExcOwn
import HandS.ExcField
import HandS.WordsExc
import HandS.TryOnly
import HandS.TryMany
import HandS.CallSlots
import HandS.Wide
import HandS.Codes
import KE.KTupSum
import PyProof.ListRange
import KE.GoesEnum
import HandS.Iter
import HandS.Walk
import HandS.HotCalls
import KE.KEqNest
import HandS.Defaults
import HandS.TupAny
import HandS.Evl
import HandS.MakeKwOnly
import HandS.Strs
import HandS.Deep
import HandS.Zip
import HandS.Star
import HandS.Conv
import HandS.IterVal
import HandS.ListItems
import KE.KDictZip
import KE.DataFind
import HandS.GenCall
import HandS.GenList
import KE.DataMinMax
import HandS.SortKw
import KE.KExcInit
import HandS.SetFor
import HandS.Style
import KE.GoesZip
import KE.GoesMore
import HandS.Flow
import PySem.Challenge.RW_wholeline_k21_whole_best_begins
set_option Elab.async false
set_option maxRecDepth 100000
set_option maxHeartbeats 4000000
namespace PySem.W
open PySem PySem.Calls PyProof.Rows
section
variable {prog : Program} {w : World} {A : Around} {E : Value → Shared → Prop} {s : Shared} {K : Frag} {x C L f : Addr} {h₀ : Heap} {m : Str → Option Value} {ox : Obj} {od : Option Obj} {b tb : Value}
theorem objNe_K {Q : Fin → Shared → Prop} (hu : A.units < cLine) (X : K.In s.heap) (I : InstAt s.heap x ox C od)
    (hs : findIn K (.ref C) "__eq__" = some (some (.ref f))) (hf : isFn K (.ref f) = true)
    (h : wpAny (model prog w) A (call (.ref f) [.ref x, b]) (fun v s' => ∃ r, v = .bool r ∧ Q (.done (.ret (.bool (!r)))) s') E s) :
    wpAny (model prog w) A (Builtin.«object.__ne__» ⟨[.ref x, b], []⟩) Q E s := by
  obtain ⟨hp, g, d, tk, os⟩ := s
  unfold Builtin.«object.__ne__»
  repeat (first
    | with_reducible refine wpAny_cRoomFor hu ?_
    | (refine wpAny_bind (m := callSpecialIfBound? (.ref x) (Str.ofString "__eq__") [b])
        (ifBound_K X I hs hf (wpAny_mono h (fun r s' hr => by
          obtain ⟨b, rfl, hq⟩ := hr
          repeat (first | exact hq | exact wpAny_pure hq | exact wpAny_truthy_bool hq | (refine wpAny_bind (m := truthy (.bool _)) (wpAny_truthy_bool ?_)) | wp_step)) fun _ _ e => e)))
    | wp_step)
theorem cmpNe_K {Q : Value → Shared → Prop} (hu : A.units + 1 < cLine) (F : Fr h₀ L s.heap m) (X₀ : K.In h₀) (I : InstAt s.heap x ox C od) (hb : Looks (model prog w) s.heap (typeOf b) tb) (hn : notFirst K C tb = true)
    (hne : findIn K (.ref C) "__ne__" = some (some (.builtin "object.__ne__"))) (hm : mroIn K C (.type "object") = some true)
    (hs : findIn K (.ref C) "__eq__" = some (some (.ref f))) (hf : isFn K (.ref f) = true)
    (h : wpAny (model prog w) A.in1 (call (.ref f) [.ref x, b]) (fun v s' => ∃ r, v = .bool r ∧ Q (.bool (!r)) s') E s) : wpAny (model prog w) A (richCompare .NotEq (.ref x) b) Q E s := by
  have X := X₀.keeps F.keep
  have sub : Looks (model prog w) s.heap (isInstance (.ref x) (.type "object")) true := I.type.andThen (looks_mroIn X hm)
  have one : wpAny (model prog w) A (tryCompare (.ref x) "__ne__" b) (fun r s' => ∃ v, r = some v ∧ Q v s') E s := by
    unfold tryCompare
    refine wpAny_bind ?_
    simp only [callSpecialIfBound?, bindSpecialIfBound?]
    refine wpAny_holding (wpAny_bind (wpAny_bind (wpAny_bind (I.type.here ((looks_findIn X hne).here ?_)))))
    simp only [PySem.F.cmp_object.ne.bind]
    refine wpAny_bind (wpAny_askSetting (wpAny_ite ?_))
    have fin : wpAny (model prog w) A (call (.builtin "object.__ne__") ([.ref x] ++ [b]) >>= fun v => pure (some v)) (fun r s' => wpAny (model prog w) A (match r with
        | some .notImplemented | none => pure none
        | some v => pure (some v)) (fun r s' => ∃ v, r = some v ∧ Q v s') E s') E s := by
      refine wpAny_bind (wpAny_call (codeAny_call_builtin PySem.F.cmp_object.ne.plain PySem.F.cmpEntry_ne (check_slot PySem.F.cmpKind_ne PySem.F.cmpSplit_ne sub (PySem.F.cmpArgs_ne _ _)
        (objNe_K (A := A.in1) hu X I hs hf (wpAny_mono h (fun v s' hv => ?_) fun _ _ e => e)))))
      obtain ⟨r, rfl, hq⟩ := hv
      first | exact ⟨r, rfl, wpAny_pure (wpAny_pure ⟨_, rfl, hq⟩)⟩ | exact ⟨r, rfl, wpAny_pure ⟨_, rfl, hq⟩⟩
    split
    · repeat (first | exact fin | with_reducible refine wpAny_pure ?_ | with_reducible refine wpAny_bind ?_ | with_reducible refine wpAny_tryCatch ?_)
    · refine wpAny_tryCatch ?_
      repeat (first | exact fin | with_reducible refine wpAny_pure ?_ | with_reducible refine wpAny_bind ?_)
  unfold richCompare
  simp only [oneThing_ref]
  refine wpAny_holding (wpAny_bind (wpAny_cRoomFor (Nat.lt_of_succ_lt hu) ?_))
  refine wpAny_bind (I.type.here (wpAny_bind (hb.here ?_)))
  split
  · rename_i q
    have e : subIn K tb (.ref C) = some false := by
      rcases Bool.or_eq_true_iff.mp hn with e | e
      · rw [beq_iff_eq.mp e] at q; simp at q
      · exact beq_iff_eq.mp e
    refine wpAny_bind ((looks_subIn X e).here ?_)
    simp only [Bool.false_eq_true, if_false]
    refine wpAny_bind (wpAny_mono one (fun r s' z => ?_) fun _ _ e => e)
    obtain ⟨v, rfl, hq⟩ := z
    exact wpAny_pure hq
  · refine wpAny_bind (wpAny_pure ?_)
    simp only [Bool.false_eq_true, if_false]
    refine wpAny_bind (wpAny_mono one (fun r s' z => ?_) fun _ _ e => e)
    obtain ⟨v, rfl, hq⟩ := z
    exact wpAny_pure hq
end
end PySem.W

set_option Elab.async false
set_option maxRecDepth 100000
set_option maxHeartbeats 4000000
namespace L2
open PySem PySem.Spec PyProof.Rows
section
variable {X : Cx} {CX : CXT} {k : Nat} {f C : Addr} {fd : FuncData} {ps : List Str} {sp : Sp}
/-- the own method f, called at some frame below with room -/
theorem run_at {A : Around} {pins : List (Addr × Obj)} {σ : St} {H : Hp} {s : Shared} {Q : VK} {us : List Value} {vs : List V} (F : FnOk X.prog X.w X.K X.mg X.base CX k f fd ps sp) (hr : Room k A) (hA : A.frames = X.A.frames) (hb : Binds X.K fd ps []) (hx : Passes CX X E0)
    (I : Inv X pins σ H s) (r : Vals vs us) (h : sp vs H Q E0) : wpAny (model X.prog X.w) A (call (.ref f) us) (EP X pins σ Q) X.xe s := by
  have hl : us.length = ps.length := by rw [← r.length]; exact F.len _ _ _ _ h
  have e0 : Env0 X.prog X.w X.K X.mg X.base A X.stack s H := by
    have e := I.env0
    exact ⟨by rw [hA]; exact e.frames, e.mod, e.bs, e.bsz, e.funs, e.frf, e.hok, e.bare⟩
  refine wpAny_call (codeAny_mono (F.run A X.stack s H ⟨us, []⟩ us vs Q E0 hr e0 (by
    have := hb s us I.kIn (by simpa using hl)
    simpa using this) r h) fun r s' hq => ?_)
  cases r with
  | error e => exact hx pins σ H s e s' I hq
  | ok fl =>
    cases fl with
    | ret u => exact I.after hq
    | next => exact False.elim hq
    | brk => exact False.elim hq
    | cont => exact False.elim hq
/-- x == y, x an instance of the class at C, by its own ==; y anything whose type is known -/
def rEqO (K : PySem.W.Frag) (C : Addr) (sp : Sp) : R2 := fun x y H Q => ∃ a dx fs t, x = .ref a ∧ H a = some (.ins C dx fs) ∧ TyX K H y t ∧ PySem.W.notFirst K C t = true ∧ sp [x, y] H (fun v H' => ∃ b, v = .bl b ∧ Q (.bl b) H') E0
def rNeO (K : PySem.W.Frag) (C : Addr) (sp : Sp) : R2 := fun x y H Q => ∃ a dx fs t, x = .ref a ∧ H a = some (.ins C dx fs) ∧ TyX K H y t ∧ PySem.W.notFirst K C t = true ∧ sp [x, y] H (fun v H' => ∃ b, v = .bl b ∧ Q (.bl (!b)) H') E0
structure EqM (K : PySem.W.Frag) (C f : Addr) : Prop where
  eq : PySem.W.findIn K (.ref C) "__eq__" = some (some (.ref f))
  fn : PySem.W.isFn K (.ref f) = true
  ne : PySem.W.findIn K (.ref C) "__ne__" = some (some (.builtin "object.__ne__"))
  ob : PySem.W.mroIn K C (.type "object") = some true
theorem op_eqO (F : FnOk X.prog X.w X.K X.mg X.base CX k f fd ps sp) (M : EqM X.K C f) (hr : Room k X.A) (hb : Binds X.K fd ps []) (hx : Passes CX X E0) : OpR X (compareOp .Eq) (rEqO X.K C sp) := by
  intro pins s σ H x y v u Q I rx ry hq
  obtain ⟨a, dx, fs, t, rfl, ha, ty, hn, q⟩ := hq
  cases (show v = Value.ref a from rx)
  obtain ⟨P, Z, p, _⟩ := kit_of I ry ty
  obtain ⟨mA, J, _⟩ := ins_get I.hok ha
  obtain ⟨od, J, _⟩ := J.look
  obtain ⟨m, hF⟩ := I.fr
  show wpAny (model X.prog X.w) X.A (richCompare .Eq (.ref a) u) (EP X pins σ Q) X.xe s
  refine PySem.W.cmp_K (op := .Eq) (tb := t) hr.units0 hF I.ok.mod.kin J (Z.ty _ _ I.kIn p) hn M.eq M.fn ?_
  refine wpAny_mono (run_at (vs := [.ref a, y]) F hr rfl hb hx I (.cons rfl (.cons ry .nil)) q) (fun v' s' z => ?_) fun _ _ e => e
  obtain ⟨w', H', I', rv, b, rfl, q'⟩ := z
  cases rv
  exact ⟨.bl b, H', I', rfl, q'⟩
theorem op_neO (F : FnOk X.prog X.w X.K X.mg X.base CX k f fd ps sp) (M : EqM X.K C f) (hr : Room (k + 1) X.A) (hb : Binds X.K fd ps []) (hx : Passes CX X E0) : OpR X (compareOp .NotEq) (rNeO X.K C sp) := by
  intro pins s σ H x y v u Q I rx ry hq
  obtain ⟨a, dx, fs, t, rfl, ha, ty, hn, q⟩ := hq
  cases (show v = Value.ref a from rx)
  obtain ⟨P, Z, p, _⟩ := kit_of I ry ty
  obtain ⟨mA, J, _⟩ := ins_get I.hok ha
  obtain ⟨od, J, _⟩ := J.look
  obtain ⟨m, hF⟩ := I.fr
  show wpAny (model X.prog X.w) X.A (richCompare .NotEq (.ref a) u) (EP X pins σ Q) X.xe s
  refine PySem.W.cmpNe_K (tb := t) (by have := hr.units; omega) hF I.ok.mod.kin J (Z.ty _ _ I.kIn p) hn M.ne M.ob M.eq M.fn ?_
  refine wpAny_mono (run_at (vs := [.ref a, y]) F hr.in1 rfl hb hx I (.cons rfl (.cons ry .nil)) q) (fun v' s' z => ?_) fun _ _ e => e
  obtain ⟨w', H', I', rv, b, rfl, q'⟩ := z
  cases rv
  exact ⟨b, rfl, .bl (!b), H', I', rfl, q'⟩
/-- len(o), o an instance of the class at C with an own __len__ -/
def rLenO (C : Addr) (sp : Sp) : List V → Hp → VK → Prop := fun xs H Q => ∃ a dx fs, xs = [.ref a] ∧ H a = some (.ins C dx fs) ∧ sp [.ref a] H (fun v H' => ∃ n : Int, v = .int n ∧ (0 ≤ n ∧ n < 2 ^ 63) ∧ Q (.int n) H') E0
theorem call_lenO (F : FnOk X.prog X.w X.K X.mg X.base CX k f fd ps sp) (hs : PySem.W.findIn X.K (.ref C) "__len__" = some (some (.ref f))) (hf : PySem.W.isFn X.K (.ref f) = true) (hr : Room (k + 1) X.A) (hb : Binds X.K fd ps []) (hx : Passes CX X E0) :
    CallR X (.builtin "len") (rLenO C sp) := by
  intro pins s σ H xs us Q I r h
  obtain ⟨a, dx, fs, rfl, ha, q⟩ := h
  cases r with
  | cons rx rr =>
    rename_i u us'
    cases rr
    cases (show u = Value.ref a from rx)
    obtain ⟨mA, J, _⟩ := ins_get I.hok ha
    obtain ⟨od, J, _⟩ := J.look
    obtain ⟨m, hF⟩ := I.fr
    refine PySem.W.len_K hF I.ok.mod.kin J hs hf ?_
    refine wpAny_mono (run_at (vs := [.ref a]) F hr.in1 rfl hb hx I (.cons rfl .nil) q) (fun v' s' z => ?_) fun _ _ e => e
    obtain ⟨w', H', I', rv, n, rfl, hn, q'⟩ := z
    obtain ⟨t, rfl⟩ := (show ∃ t, v' = Value.int n t from rv)
    exact ⟨hn, .int n, H', I'.tok _, ⟨_, rfl⟩, q'⟩
end
end L2

set_option Elab.async false
set_option maxRecDepth 100000
set_option maxHeartbeats 4000000
namespace PySem.W
open PySem PySem.Spec PySem.Calls PyProof.Rows
section
variable {K : Frag} {C : Addr}
theorem findObj_dat {od : Option Obj} {name : Str} {a g : Value} (hc : (clsIn K C).isSome = true) (ha : findIn K (.ref C) name = some (some a)) (hg : specialIn K a "__get__" = some (some g)) (ht : takesIn K a = some true) :
    findObj K C od name = some (.bind g a) := by
  obtain ⟨cd, hc⟩ := Option.isSome_iff_exists.mp hc
  simp [findObj, hc, ha, hg, ht]
variable {prog : Program} {w : World} {A : Around} {E : Value → Shared → Prop} {s : Shared} {x D : Addr} {ox : Obj}
theorem kin_classD {od : Option Obj} {Q : Option Value → Shared → Prop} (T : L2.ExcC K D)
    (X : K.In s.heap) (I : InstAt s.heap x ox D od) (h : Q (some (.ref D)) { s with toks := s.toks + 1 }) : wpAny (model prog w) A (getAttr? (.ref x) "__class__") Q E s := by
  have hf : findObj K D od "__class__" = some (.bind (.builtin "getset_descriptor.__get__") (.builtin "object.__class__")) :=
    findObj_dat (by obtain ⟨cd, hc, _⟩ := any_some T.hd; rw [hc]; rfl) T.ha T.hn T.ht
  obtain ⟨hp, g, d, t, os⟩ := s
  have L0 := I.type (M := model prog w)
  have L1 := looks_findIn (M := model prog w) X T.hg
  have L2 := looks_findIn (M := model prog w) X T.hk
  have L3 := looks_find (M := model prog w) X I hf
  have sub : Looks (model prog w) hp (isInstance (.ref x) (.type "BaseException")) true := L0.andThen (looks_subIn X T.hs)
  have hx0 : (false && onTheHeap (Value.builtin "BaseException.__getattribute__")) = false := rfl
  have hx2 : (Value.builtin "BaseException.__getattribute__" == Value.builtin "object.__getattribute__") = false := by decide +kernel
  have hx1 : (onTheHeap (Value.ref D) && Value.builtin "BaseException.__getattribute__" == Value.builtin "object.__getattribute__") = false := by rw [hx2]; rfl
  unfold getAttr? getAttrBy? getAttrBy
  refine wpAny_bind (wpAny_mkText (wpAny_bind (wpAny_attempt (wpAny_holding (wpAny_bind (L0.at (wpAny_bind (L1.at ?_))))))))
  show wpAny _ _ (if (onTheHeap (Value.ref D) && Value.builtin "BaseException.__getattribute__" == Value.builtin "object.__getattribute__") = true then _ else _) _ _ _
  rw [hx1, if_neg Bool.false_ne_true]
  unfold getAttrByItsOwn hookBefore
  refine wpAny_bind ?_
  rw [if_pos (show onTheHeap (Value.ref D) = true from rfl)]
  refine L2.at ?_
  refine wpAny_bind (wpAny_attempt (wpAny_holding ?_))
  unfold callGetattribute
  rw [hx0, if_neg Bool.false_ne_true]
  unfold boundAndCalled
  rw [PySem.F.excAttr_ValueError.ga.bind (.ref x)]
  refine wpAny_bind (wpAny_pure ?_)
  show wpAny _ _ (call (.builtin "BaseException.__getattribute__") [.ref x, .str "__class__" t]) _ _ _
  refine wpAny_call (codeAny_call_builtin PySem.F.excAttr_ValueError.ga.plain PySem.F.entry_bexc_ga ?_)
  refine @check_slot (model prog w) _ _ ⟨hp, g, d, t + 1, os⟩ "BaseException.__getattribute__" "BaseException" "__getattribute__" (.ref x) [.str "__class__" t] [] _ (by decide +kernel) (by decide +kernel) sub (PySem.F.args_bexc_ga (.ref x) (.str "__class__" t)) ?_
  unfold Builtin.«object.__getattribute__»
  refine wpAny_bind (wpAny_of_eq (a := ((Value.ref x : Value), [Value.str "__class__" t])) (by first | rfl | (simp only [slotArgs]; rfl)) ?_)
  refine wpAny_bind (wpAny_pure (wpAny_bind (L0.at (wpAny_bind (L3.at ?_)))))
  show wpAny _ _ (holding [Value.builtin "object.__class__"] (call (.builtin "getset_descriptor.__get__") [.builtin "object.__class__", .ref x, .ref D]) >>= ret) _ _ _
  refine wpAny_bind (wpAny_holding (wpAny_call (class_get (s := ⟨hp, g, d, t + 1, os⟩) (ox := ox) (od := od) X I T.hm ?_)))
  refine wpAny_pure ?_
  show wpAny _ _ (handedOut (.ref D)) _ _ _
  rw [handedOut_of (v := .ref D) rfl]
  first
    | exact wpAny_pure (wpAny_pure h)
    | exact wpAny_pure h
    | exact wpAny_pure (wpAny_bind (wpAny_pure (wpAny_pure h)))
theorem kitx_excD (T : L2.ExcC K D) : KitX K (.ref x) (.ref D) (fun h => ∃ od, InstAt h x ox D od) where
  ty := fun _ _ _ I => by
    obtain ⟨_, I⟩ := I
    exact I.type
  it := fun M h X _ => by
    obtain ⟨cdD, hcD, _⟩ := any_some T.hd
    unfold clsIn at hcD
    split at hcD
    · rename_i c' d' cd' sl' ho
      intro A' Q' E' s' k q
      unfold isType loadHead
      exact wpAny_bind (wpAny_loadPart (k _ _ (X _ _ ho)) (wpAny_pure q))
    · cases hcD
  ne := fun h tp dd its n sl X htp => by
    obtain ⟨cdD, hcD, _⟩ := any_some T.hd
    refine Bool.eq_false_iff.mpr fun q => ?_
    have e : D = tp := Value.ref.inj (beq_iff_eq.mp q)
    subst e
    unfold clsIn at hcD
    split at hcD
    · rename_i c' d' cd' sl' ho
      have z := (X _ _ ho).symm.trans htp
      cases z
    · cases hcD
  ca := fun X I k => by
    obtain ⟨_, I⟩ := I
    exact kin_classD T X I k
end
end PySem.W
namespace L2
open PySem PySem.Spec PyProof.Rows
section
variable {X : Cx}
/-- isinstance(e, c), e the exception that the suite holds, with a dict or without -/
theorem call_isED {a D : Addr} {d : Option Addr} {oe : Obj} {pn : List (Addr × Obj)} (C : ExcC X.K D) (hz : Zc (.ref D) d oe) (hf : ∃ vs, oe.data = .fields vs) (hd : ∀ (pins : List (Addr × Obj)) (σ : St) (H : Hp) (s : Shared), Inv (X.suite a ((a, oe) :: pn)) pins σ H s → ∀ dd, d = some dd → ∃ od, s.heap.get? dd = some od) :
    CallR (X.suite a ((a, oe) :: pn)) (.builtin "isinstance") (rIsE X.K D a) := by
  intro pins s σ H xs us Q I r h
  obtain ⟨c, cv, b, rfl, hcv, e, q⟩ := h
  cases r with
  | cons rx rr =>
    cases rr with
    | cons rt rr =>
      cases rr
      cases rx
      have ec := hcv _ rt
      subst ec
      obtain ⟨hget, _⟩ := I.pin (a, oe) (List.mem_append.mpr (.inl List.mem_cons_self))
      obtain ⟨vs, hv⟩ := hf
      have J : ∃ od, PySem.W.InstAt s.heap a oe D od := by
        have hd' := hd pins σ H s I
        obtain ⟨oc, od, oda, osl⟩ := oe
        obtain ⟨h1, h2⟩ := hz
        dsimp only at h1 h2 hv
        subst h1 h2 hv
        cases od with
        | none => exact ⟨none, hget, rfl, rfl, trivial⟩
        | some dd =>
          obtain ⟨o, ho⟩ := hd' dd rfl
          exact ⟨some o, hget, rfl, rfl, ho⟩
      exact PySem.W.kia_one (PySem.W.kitx_excD C) I.kIn J e (fun z => nomatch z) fun tk => ⟨.bl b, H, I.kept (t' := tk) fun _ _ z => z, rfl, q⟩
/-- the same where the dict is tracked: the reading asks it -/
def rIsED (K : PySem.W.Frag) (D a : Addr) (cls : Value) (d : Option Addr) : List V → Hp → VK → Prop := fun xs H Q => cls = .ref D ∧ (∀ dd, d = some dd → ∃ fs, H dd = some (.xd fs)) ∧ ∃ (c : V) (cv : Value) (b : Bool), xs = [.ref a, c] ∧ (∀ u, RelV c u → u = cv) ∧ PySem.W.kitOne K (.ref D) cv = some b ∧ Q (.bl b) H
theorem call_isEX {a D : Addr} {cls : Value} {d : Option Addr} {oe : Obj} {pn : List (Addr × Obj)} (C : ExcC X.K D) (hz : Zc cls d oe) (hf : ∃ vs, oe.data = .fields vs) : CallR (X.suite a ((a, oe) :: pn)) (.builtin "isinstance") (rIsED X.K D a cls d) := by
  intro pins s σ H xs us Q I r h
  obtain ⟨ec0, hdd, c, cv, b, rfl, hcv, e, q⟩ := h
  subst ec0
  cases r with
  | cons rx rr =>
    cases rr with
    | cons rt rr =>
      cases rr
      cases rx
      have ec := hcv _ rt
      subst ec
      obtain ⟨hget, _⟩ := I.pin (a, oe) (List.mem_append.mpr (.inl List.mem_cons_self))
      obtain ⟨vs, hv⟩ := hf
      have J : ∃ od, PySem.W.InstAt s.heap a oe D od := by
        obtain ⟨oc, od, oda, osl⟩ := oe
        obtain ⟨h1, h2⟩ := hz
        dsimp only at h1 h2 hv
        subst h1 h2 hv
        cases od with
        | none => exact ⟨none, hget, rfl, rfl, trivial⟩
        | some dd =>
          obtain ⟨fs, hfs⟩ := hdd dd rfl
          obtain ⟨mA, hns, _⟩ := (show ObjOk X.prog X.w H s.heap dd (.xd fs) from I.hok dd _ hfs)
          obtain ⟨od, ho, _⟩ := lookIn_ns hns
          exact ⟨some od, hget, rfl, rfl, ho⟩
      exact PySem.W.kia_one (PySem.W.kitx_excD C) I.kIn J e (fun z => nomatch z) fun tk => ⟨.bl b, H, I.kept (t' := tk) fun _ _ z => z, rfl, q⟩
end
section
variable {X : Cx} {CX : CXT} {k : Nat} {f C : Addr} {fd : FuncData} {ps : List Str} {sp : Sp} {dvs : List V} {ds : List Value} {E : St → XK} {x m : Str} {p pos apos : Pos} {e o : Expr} {es : List Expr} {ta : TE} {t : TA}
/-- C(e, ..) where what is raised is wished for at the slots as they stand -/
def tMakeS (C : Addr) (sp : Sp) (dvs : List V) (E : St → XK) (t : TA) : TE := fun σ H Q => t σ H fun vs H1 => ∀ x dx, H1 x = none → H1 dx = none → dx ≠ x →
  sp (.ref x :: (vs ++ dvs)) (upd (upd H1 dx (.own x)) x (.ins C dx [])) (fun v H2 => v = .non ∧ Q (.ref x) H2) (fun cls d H2 => E σ cls d H2)
theorem run_makeS {pins : List (Addr × Obj)} {σ : St} {H : Hp} {s : Shared} {Q : VK} {us : List Value} {vs : List V} (M : Mk X.K C f) (F : FnOk X.prog X.w X.K X.mg X.base CX k f fd ps sp) (hr : Room (k + 1) X.A) (hb : Binds X.K fd ps ds) (hd : Vals dvs ds)
    (hx : PassesAt CX X σ (E σ)) (I : Inv X pins σ H s) (r : Vals vs us)
    (h : ∀ x dx, H x = none → H dx = none → dx ≠ x → sp (.ref x :: (vs ++ dvs)) (upd (upd H dx (.own x)) x (.ins C dx [])) (fun v H2 => v = .non ∧ Q (.ref x) H2) (E σ)) :
    wpAny (model X.prog X.w) X.A (call (.ref C) us) (EP X pins σ Q) X.xe s := by
  have hq := h (s.heap.objs.size + 1) s.heap.objs.size (I.hok.fresh (Nat.le_succ _)) (I.hok.fresh (Nat.le_refl _)) (Nat.ne_of_lt (Nat.lt_succ_self _))
  have I2 := Inv.made (C := C) I
  have r2 : Vals (V.ref (s.heap.objs.size + 1) :: (vs ++ dvs)) (Value.ref (s.heap.objs.size + 1) :: (us ++ ds)) := .cons rfl (r.append hd)
  have hl : (Value.ref (s.heap.objs.size + 1) :: us ++ ds).length = ps.length := by
    have e := r2.length
    rw [F.len _ _ _ _ hq] at e
    exact e.symm
  refine wpAny_call (make_map (f := f) I.kIn M.makes M.init (beq_iff_eq.mp M.fn) (codeAny_mono (F.run _ X.stack _ _ ⟨Value.ref (s.heap.objs.size + 1) :: us, []⟩ (Value.ref (s.heap.objs.size + 1) :: (us ++ ds)) _ _ (E σ) (hr.make C us [])
    (I2.env0.make C us []) (hb _ (Value.ref (s.heap.objs.size + 1) :: us) I2.kIn hl) r2 hq) fun r s' hq' => ?_))
  cases r with
  | error e => exact hx pins _ _ e s' I2 hq'
  | ok fl =>
    cases fl with
    | ret u =>
      obtain ⟨v, H', I3, rv, ev, q3⟩ := I2.after hq'
      subst ev
      exact ⟨rv, ⟨V.ref (s.heap.objs.size + 1), H', I3, rfl, q3⟩⟩
    | next => exact False.elim hq'
    | brk => exact False.elim hq'
    | cont => exact False.elim hq'
theorem pe_makeS (M : Mk X.K C f) (F : FnOk X.prog X.w X.K X.mg X.base CX k f fd ps sp) (hr : Room (k + 1) X.A) (hg : Gl X x) (hm : X.mg x = some (.ref C)) (hb : Binds X.K fd ps ds) (hd : Vals dvs ds) (hx : ∀ σ, PassesAt CX X σ (E σ))
    (ha : PA X (e :: es) t) (hdb : (x == ("__debug__" : Str)) = false := by decide) (he : starEach (e :: es) X.env = (false, eval e X.env) :: starEach es X.env := by rfl) (hpl : (backTo pos (starEach es X.env)).any (·.1) = false := by rfl) :
    PE X (.Call (.Name x p) (e :: es) [] pos) (tMakeS C sp dvs E t) := by
  refine ⟨fun pins s σ H Q I h => ?_⟩
  refine wpAny_Call_Name_kw (ld_glob I hg hm ?_ hdb)
  refine PySem.W.callWith_K (h₀ := X.base) I.ok.mod.kin M.kp (thn (ha.run pos pins s σ H _ I h) fun us s1 ⟨vs, H1, I1, r, q⟩ => ⟨I1.kIn, ?_⟩) he hpl
  exact run_makeS M F hr hb hd (hx σ) I1 r q
/-- o.m(e, ..) | o.m() likewise -/
def tMethSD (C : Addr) (m : Str) (sp : Sp) (dvs : List V) (E : St → XK) (ta : TE) (t : TA) : TE := fun σ H Q => ta σ H fun x H1 => ∃ a dx fs, x = .ref a ∧ H1 a = some (.ins C dx fs) ∧ fs.lookup m = none ∧
  t σ H1 fun vs H2 => sp (x :: (vs ++ dvs)) H2 Q (E σ)
theorem pe_methSD {pl : Sem Bool} (he : PE X o ta) (c : Cls X.K C) (hm : Meth X.K C m f) (F : FnOk X.prog X.w X.K X.mg X.base CX k f fd ps sp) (hr : Room k X.A) (hb : Binds X.K fd ps ds) (hd : Vals dvs ds) (hx : ∀ σ, PassesAt CX X σ (E σ)) (ha : PA X (e :: es) t)
    (hst : starEach (e :: es) X.env = (false, eval e X.env) :: starEach es X.env := by rfl) (hpl : (backTo pos (starEach es X.env)).any (·.1) = false := by rfl)
    (ht : eval (.Call (.Attribute o m apos) (e :: es) [] pos) X.env = (do
      let ov ← eval o X.env
      standAt apos.atName
      let (f, first) ← holding [ov] (getMethod ov m pl)
      callWith pos f first (backTo pos (starEach (e :: es) X.env)) (backToKw pos (keywordEach [] X.env))) := by rfl) :
    PE X (.Call (.Attribute o m apos) (e :: es) [] pos) (tMethSD C m sp dvs E ta t) := by
  refine ⟨fun pins s σ H Q I h => ?_⟩
  refine PySem.W.methodCall_KW (pl := pl) (thn (he.run pins s σ H _ I h) fun u s1 ⟨x, H1, I1, rx, a, dx, fs, ex, ea, l, q⟩ => ?_) ht
  subst ex
  obtain rfl : u = Value.ref a := rx
  refine getmeth_ok I1 ea c hm l ?_
  refine PySem.W.callWith_K (first := [.ref a]) (h₀ := X.base) I.ok.mod.kin hm.kp (thn (ha.run pos pins s1 σ H1 _ I1 q) fun us s2 ⟨vs, H2, I2, r, q2⟩ => ⟨I2.kIn, ?_⟩) hst hpl
  exact run_fnSD (us := .ref a :: us) (vs := .ref a :: vs) F hr hb hd (hx σ) I2 (.cons rfl r) q2
theorem pe_methSD0 {pl : Sem Bool} (he : PE X o ta) (c : Cls X.K C) (hm : Meth X.K C m f) (F : FnOk X.prog X.w X.K X.mg X.base CX k f fd ps sp) (hr : Room k X.A) (hb : Binds X.K fd ps ds) (hd : Vals dvs ds) (hx : ∀ σ, PassesAt CX X σ (E σ))
    (ht : eval (.Call (.Attribute o m apos) [] [] pos) X.env = (do
      let ov ← eval o X.env
      standAt apos.atName
      let (f, first) ← holding [ov] (getMethod ov m pl)
      callWith pos f first (backTo pos (starEach [] X.env)) (backToKw pos (keywordEach [] X.env))) := by rfl) :
    PE X (.Call (.Attribute o m apos) [] [] pos) (tMethSD C m sp dvs E ta tNil) := by
  refine ⟨fun pins s σ H Q I h => ?_⟩
  refine PySem.W.methodCall_KW (pl := pl) (thn (he.run pins s σ H _ I h) fun u s1 ⟨x, H1, I1, rx, a, dx, fs, ex, ea, l, q⟩ => ?_) ht
  subst ex
  obtain rfl : u = Value.ref a := rx
  refine getmeth_ok I1 ea c hm l ?_
  exact PySem.W.callWith_K0 (first := [.ref a]) I1.kIn hm.kp (run_fnSD (us := [.ref a]) (vs := [.ref a]) F hr hb hd (hx σ) I1 (.cons rfl .nil) q)
end

/-! ### own errors with one field -/
/-- what __init__ of such an error does: self.f = v -/
def spXI (C : Addr) (f : Str) : Sp := fun vs H Q _ => ∃ (a : Addr) (y : V), vs = [.ref a, y] ∧ H a = some (exo a C none) ∧ ∀ dx, H dx = none → dx ≠ a → Q .non (upd (upd H dx (exd dx [(f, y)])) a (exo a C (some dx)))
/-- all that is asked of the class x of errors at C, whose field is f -/
structure XCls (P : Program) (w : World) (K : PySem.W.Frag) (mg : Str → Option Value) (base : Heap) (x f : Str) (C : Addr) : Prop where
  ox : OexC K C
  gC : mg x = some (.ref C)
  noA : PySem.W.findIn K (.ref C) f = some none
  ec : ExcC K C
  ini : ∃ (fI : Addr) (fd : FuncData), PySem.W.findIn K (.ref C) "__init__" = some (some (.ref fI)) ∧ PySem.W.typeIn K (.ref fI) = some (.type "function") ∧ FnOk P w K mg base CX0 1 fI fd ["self", f] (spXI C f) ∧ Binds K fd ["self", f] []
theorem XCls.xf {P : Program} {w : World} {K : PySem.W.Frag} {mg : Str → Option Value} {base : Heap} {x f : Str} {C : Addr} (T : XCls P w K mg base x f C) : XfC K C := ⟨T.ec.hg, T.ec.hk, T.ec.hs, T.ec.hd⟩
section
variable {X : Cx} {C : Addr} {x f : Str} {e : Expr} {te : TE} {p pos pos2 : Pos}
theorem pmk_X (T : XCls X.prog X.w X.K X.mg X.base x f C) (hr : Room 2 X.A) (he : PE X e te) (hg : Gl X x) (hdb : (x == ("__debug__" : Str)) = false := by decide)
    (hs : starEach [e] X.env = (false, eval e X.env) :: starEach [] X.env := by rfl) (hpl : (backTo pos (starEach [] X.env)).any (·.1) = false := by rfl) :
    PMk X (.Call (.Name x p) [e] [] pos) (tMkO C (spXI C f) [] (tCons te tNil)) := by
  obtain ⟨fI, fd, i1, i2, F, b⟩ := T.ini
  exact pmk_oex (dvs := []) (ds := []) T.ox i1 i2 F hr b .nil pass0 hg T.gC (pa_cons he pa_nil hs) hdb hs hpl
/-- what is left to be shown behind the argument y -/
theorem mkX_fin {H1 : Hp} {y : V} {Q : XK} (h : ∀ d, H1 d = none → Q (.ref C) (some d) (upd H1 d (.xd [(f, y)]))) :
    [y].length ≤ 1000 ∧ ∀ a, H1 a = none → spXI C f (.ref a :: ([y] ++ [])) (upd H1 a (exo a C none))
      (fun v H2 => v = .non ∧ ∃ (d : Addr) (fs : List (Str × V)), H2 a = some (exo a C (some d)) ∧ H2 d = some (exd d fs) ∧ H1 d = none ∧ Q (.ref C) (some d) (upd (del H2 a) d (.xd fs))) (fun _ _ _ => False) := by
  refine ⟨by show 1 ≤ 1000; decide, fun a ha => ⟨a, y, rfl, upd_same, fun dx hdx hne => ⟨rfl, dx, [(f, y)], upd_same, ?_, ?_, ?_⟩⟩⟩
  · rw [upd_ne hne, upd_same]
  · rw [upd_ne hne] at hdx
    exact hdx
  · have hdx' : H1 dx = none := by
      rw [upd_ne hne] at hdx
      exact hdx
    have e : upd (del (upd (upd (upd H1 a (exo a C none)) dx (exd dx [(f, y)])) a (exo a C (some dx))) a) dx (.xd [(f, y)]) = upd H1 dx (.xd [(f, y)]) := by
      funext b
      by_cases hb : b = dx
      · rw [hb, upd_same, upd_same]
      · rw [upd_ne hb, upd_ne hb]
        by_cases hba : b = a
        · rw [hba, del_same, ha]
        · rw [del_ne hba, upd_ne hba, upd_ne hb, upd_ne hba]
    rw [e]
    exact h dx hdx'
end
end L2

set_option Elab.async false
set_option maxRecDepth 100000
set_option maxHeartbeats 4000000
namespace L2
open PySem PySem.Spec PyProof.Rows
section
variable (P : Program) (w : World) (K : PySem.W.Frag) (mg : Str → Option Value) (base : Heap)
/-- a def of the top, as the text has it -/
structure DefAt (x : Str) (st : Stmt) (ps : List Str) : Prop where
  ex : ∃ (f : Addr) (fd : FuncData), Fun K x x st f fd ∧ mg x = some (.ref f) ∧ Binds K fd ps []
/-- a def of the top that keeps its promise -/
structure Own (CX : CXT) (x : Str) (k : Nat) (ps : List Str) (sp : Sp) : Prop where
  ex : ∃ (f : Addr) (fd : FuncData), FnOk P w K mg base CX k f fd ps sp ∧ mg x = some (.ref f) ∧ PySem.W.keepIn K (.ref f) = true ∧ Binds K fd ps []
/-- a method of the class at C, as the text has it; one that keeps its promise -/
structure MethAt (C : Addr) (m qual : Str) (st : Stmt) (ps : List Str) : Prop where
  ex : ∃ (f : Addr) (fd : FuncData), Fun K m qual st f fd ∧ PySem.W.findIn K (.ref C) m = some (some (.ref f)) ∧ PySem.W.isFn K (.ref f) = true ∧ Binds K fd ps []
structure OwnM (CX : CXT) (C : Addr) (m : Str) (k : Nat) (ps : List Str) (sp : Sp) : Prop where
  ex : ∃ (f : Addr) (fd : FuncData), FnOk P w K mg base CX k f fd ps sp ∧ Meth K C m f ∧ PySem.W.isFn K (.ref f) = true ∧ Binds K fd ps []
/-- a class of the top with an own __init__ that keeps its promise -/
structure OwnC (CX : CXT) (x : Str) (C : Addr) (k : Nat) (ps : List Str) (sp : Sp) : Prop where
  ex : ∃ (f : Addr) (fd : FuncData), FnOk P w K mg base CX k f fd ps sp ∧ Mk K C f ∧ mg x = some (.ref C) ∧ Binds K fd ps []
end
section
variable {P : Program} {w : World} {K : PySem.W.Frag} {mg : Str → Option Value} {base : Heap} {CX : CXT} {x m qual : Str} {k : Nat} {ps : List Str} {sp : Sp} {st : Stmt} {C : Addr}
theorem DefAt.own (D : DefAt K mg x st ps) (h : ∀ f fd, Fun K x x st f fd → FnOk P w K mg base CX k f fd ps sp) : Own P w K mg base CX x k ps sp := by
  obtain ⟨f, fd, F, hm, hb⟩ := D.ex
  exact ⟨f, fd, h f fd F, hm, F.kp, hb⟩
theorem MethAt.own (D : MethAt K C m qual st ps) (h : ∀ f fd, Fun K m qual st f fd → FnOk P w K mg base CX k f fd ps sp) : OwnM P w K mg base CX C m k ps sp := by
  obtain ⟨f, fd, F, hm, hi, hb⟩ := D.ex
  exact ⟨f, fd, h f fd F, ⟨hm, hi, F.kp⟩, hi, hb⟩
theorem MethAt.cls (D : MethAt K C "__init__" qual st ps) (h : ∀ f fd, Fun K "__init__" qual st f fd → FnOk P w K mg base CX k f fd ps sp) (m1 : PySem.W.makesIn K C = true) (m2 : PySem.W.keepIn K (.ref C) = true) (m3 : mg x = some (.ref C)) :
    OwnC P w K mg base CX x C k ps sp := by
  obtain ⟨f, fd, F, hm, hi, hb⟩ := D.ex
  exact ⟨f, fd, h f fd F, ⟨m1, hm, hi, m2⟩, m3, hb⟩
end
section
variable {X : Cx} {CX : CXT} {x m : Str} {k : Nat} {ps : List Str} {sp : Sp} {e o : Expr} {es : List Expr} {t : TA} {ta : TE} {p pos apos : Pos} {C : Addr}
theorem pe_own (O : Own X.prog X.w X.K X.mg X.base CX x k ps sp) (hr : Room k X.A) (hx : Passes CX X E0) (ha : PA X (e :: es) t) (hg : Gl X x := by rfl) (hdb : (x == ("__debug__" : Str)) = false := by decide)
    (he : starEach (e :: es) X.env = (false, eval e X.env) :: starEach es X.env := by rfl) (hpl : (backTo pos (starEach es X.env)).any (·.1) = false := by rfl) : PE X (.Call (.Name x p) (e :: es) [] pos) (tCall sp [] E0 t) := by
  obtain ⟨f, fd, F, hm, hk, hb⟩ := O.ex
  exact pe_call F hr hg hm hk hb .nil hx ha hdb he hpl
theorem pe_own0 (O : Own X.prog X.w X.K X.mg X.base CX x k ps sp) (hr : Room k X.A) (hx : Passes CX X E0) (hg : Gl X x := by rfl) (hdb : (x == ("__debug__" : Str)) = false := by decide) : PE X (.Call (.Name x p) [] [] pos) (tCall sp [] E0 tNil) := by
  obtain ⟨f, fd, F, hm, hk, hb⟩ := O.ex
  exact pe_call0 F hr hg hm hk hb .nil hx hdb
/-- one that may raise; W is wished for what it raises -/
theorem pe_ownS {W : WX} (O : Own X.prog X.w X.K X.mg X.base (L2.CX X.prog X.w) x k ps sp) (hr : Room k X.A) (tk : Takes X W) (ha : PA X (e :: es) t) (hg : Gl X x := by rfl) (hdb : (x == ("__debug__" : Str)) = false := by decide)
    (he : starEach (e :: es) X.env = (false, eval e X.env) :: starEach es X.env := by rfl) (hpl : (backTo pos (starEach es X.env)).any (·.1) = false := by rfl) : PE X (.Call (.Name x p) (e :: es) [] pos) (tCallS sp (WE W) t) := by
  obtain ⟨f, fd, F, hm, hk, hb⟩ := O.ex
  exact pe_callS F hr hg hm hk hb (fun σ => passAt tk σ) ha hdb he hpl
theorem pe_new (O : OwnC X.prog X.w X.K X.mg X.base CX x C k ps sp) (hr : Room (k + 1) X.A) (hx : Passes CX X E0) (ha : PA X (e :: es) t) (hg : Gl X x := by rfl) (hdb : (x == ("__debug__" : Str)) = false := by decide)
    (he : starEach (e :: es) X.env = (false, eval e X.env) :: starEach es X.env := by rfl) (hpl : (backTo pos (starEach es X.env)).any (·.1) = false := by rfl) : PE X (.Call (.Name x p) (e :: es) [] pos) (tMake C sp [] E0 t) := by
  obtain ⟨f, fd, F, M, hm, hb⟩ := O.ex
  exact pe_make M F hr hg hm hb .nil hx ha hdb he hpl
theorem pe_newS {W : WX} (O : OwnC X.prog X.w X.K X.mg X.base (L2.CX X.prog X.w) x C k ps sp) (hr : Room (k + 1) X.A) (tk : Takes X W) (ha : PA X (e :: es) t) (hg : Gl X x := by rfl) (hdb : (x == ("__debug__" : Str)) = false := by decide)
    (he : starEach (e :: es) X.env = (false, eval e X.env) :: starEach es X.env := by rfl) (hpl : (backTo pos (starEach es X.env)).any (·.1) = false := by rfl) : PE X (.Call (.Name x p) (e :: es) [] pos) (tMakeS C sp [] (WE W) t) := by
  obtain ⟨f, fd, F, M, hm, hb⟩ := O.ex
  exact pe_makeS M F hr hg hm hb .nil (fun σ => passAt tk σ) ha hdb he hpl
theorem pe_gint {n : Int} (hm : ∃ t, X.mg x = some (.int n t)) (hg : Gl X x := by rfl) (hd : (x == ("__debug__" : Str)) = false := by decide) : PE X (.Name x pos) (tC (.int n)) := by
  obtain ⟨t, hm⟩ := hm
  exact pe_glob hg hm ⟨t, rfl⟩ hd
theorem pe_gcls (hm : X.mg x = some (.ref C)) (hg : Gl X x := by rfl) (hd : (x == ("__debug__" : Str)) = false := by decide) : PE X (.Name x pos) (tC (.ref C)) := pe_glob hg hm rfl hd
end
/-! ### ==, != by own methods, len -/
section
variable {X : Cx} {CX : CXT} {k : Nat} {C : Addr} {ps : List Str} {sp : Sp}
structure NeM (K : PySem.W.Frag) (C : Addr) : Prop where
  ne : PySem.W.findIn K (.ref C) "__ne__" = some (some (.builtin "object.__ne__"))
  ob : PySem.W.mroIn K C (.type "object") = some true
theorem eqO (O : OwnM X.prog X.w X.K X.mg X.base CX C "__eq__" k ps sp) (N : NeM X.K C) (hr : Room k X.A) (hx : Passes CX X E0) : OpR X (compareOp .Eq) (rEqO X.K C sp) := by
  obtain ⟨f, fd, F, M, hi, hb⟩ := O.ex
  exact op_eqO F ⟨M.at_, hi, N.ne, N.ob⟩ hr hb hx
theorem neO (O : OwnM X.prog X.w X.K X.mg X.base CX C "__eq__" k ps sp) (N : NeM X.K C) (hr : Room (k + 1) X.A) (hx : Passes CX X E0) : OpR X (compareOp .NotEq) (rNeO X.K C sp) := by
  obtain ⟨f, fd, F, M, hi, hb⟩ := O.ex
  exact op_neO F ⟨M.at_, hi, N.ne, N.ob⟩ hr hb hx
theorem lenO (O : OwnM X.prog X.w X.K X.mg X.base CX C "__len__" k ps sp) (hr : Room (k + 1) X.A) (hx : Passes CX X E0) : CallR X (.builtin "len") (rLenO C sp) := by
  obtain ⟨f, fd, F, M, hi, hb⟩ := O.ex
  exact call_lenO F M.at_ hi hr hb hx
end
end L2

set_option Elab.async false
set_option maxRecDepth 100000
set_option maxHeartbeats 4000000
/-! kinds of plain values; their isinstance -/
namespace L2
open PySem PySem.Spec PyProof.Rows
inductive Knd | int | bool | none | str | list | tuple
  deriving DecidableEq
def Knd.name : Knd → String
  | .int => "int" | .bool => "bool" | .none => "NoneType" | .str => "str" | .list => "list" | .tuple => "tuple"
def KndOf (H : Hp) (v : V) : Knd → Prop
  | .int => ∃ n, v = .int n
  | .bool => ∃ b, v = .bl b
  | .none => v = .non
  | .str => ∃ s, v = .str s
  | .list => ∃ a xs, v = .ref a ∧ H a = some (.lst xs)
  | .tuple => ∃ a xs, v = .ref a ∧ H a = some (.tup xs)
def Knd.isInt : Knd → Bool | .int => true | .bool => true | _ => false
def Knd.isBool : Knd → Bool | .bool => true | _ => false
def Knd.isSeq : Knd → Bool | .list => true | .tuple => true | _ => false
def Knd.isTup : Knd → Bool | .tuple => true | _ => false
def Knd.isList : Knd → Bool | .list => true | _ => false
def Knd.isStr : Knd → Bool | .str => true | _ => false
section
variable {K : PySem.W.Frag} {H : Hp} {v : V} {k : Knd}
theorem knd_ty (h : KndOf H v k) : TyX K H v (.type k.name) := by
  cases k with
  | int => obtain ⟨n, rfl⟩ := h; exact .base (.int n)
  | bool => obtain ⟨n, rfl⟩ := h; exact .base (.bl n)
  | none => cases h; exact .base .non
  | str => obtain ⟨n, rfl⟩ := h; exact .base (.str n)
  | list => obtain ⟨a, xs, rfl, e⟩ := h; exact .base (.lst e)
  | tuple => obtain ⟨a, xs, rfl, e⟩ := h; exact .base (.tup e)
theorem knd_int : PySem.W.kitOne K (.type k.name) (.type "int") = some k.isInt := by cases k <;> exact kit_ty (by decide +kernel)
theorem knd_bool : PySem.W.kitOne K (.type k.name) (.type "bool") = some k.isBool := by cases k <;> exact kit_ty (by decide +kernel)
theorem knd_tup : PySem.W.kitOne K (.type k.name) (.type "tuple") = some k.isTup := by cases k <;> exact kit_ty (by decide +kernel)
theorem knd_list : PySem.W.kitOne K (.type k.name) (.type "list") = some k.isList := by cases k <;> exact kit_ty (by decide +kernel)
theorem knd_str : PySem.W.kitOne K (.type k.name) (.type "str") = some k.isStr := by cases k <;> exact kit_ty (by decide +kernel)
theorem knd_seq : PySem.W.kitAny K (.type k.name) [.type "list", .type "tuple"] = some k.isSeq := by
  cases k
  case list => exact kitAny_cons knd_list (by intro h; cases h) (fun _ => rfl)
  case tuple => exact kitAny_cons knd_list (fun _ => kitAny_cons knd_tup (by intro h; cases h) (fun _ => rfl)) (by intro h; cases h)
  all_goals exact kitAny_cons knd_list (fun _ => kitAny_cons knd_tup (fun _ => kitAny_nil) (by intro h; cases h)) (by intro h; cases h)
theorem KndOf.ext {H' : Hp} (h : KndOf H v k) (e : Ext H H') : KndOf H' v k := by
  cases k with
  | list => obtain ⟨a, xs, r, q⟩ := h; exact ⟨a, xs, r, e _ _ q⟩
  | tuple => obtain ⟨a, xs, r, q⟩ := h; exact ⟨a, xs, r, e _ _ q⟩
  | _ => exact h
theorem ki (n : Int) : KndOf H (.int n) .int := ⟨n, rfl⟩
theorem kb (n : Bool) : KndOf H (.bl n) .bool := ⟨n, rfl⟩
theorem kn : KndOf H .non .none := rfl
theorem ks (n : Str) : KndOf H (.str n) .str := ⟨n, rfl⟩
end
/-- a value that is an int from a to b -/
def betw (v : V) (a b : Int) : Bool := match v with
  | .int n => decide (a ≤ n) && decide (n ≤ b)
  | _ => false
theorem betw_int {n a b : Int} : betw (.int n) a b = (decide (a ≤ n) && decide (n ≤ b)) := rfl
theorem betw_not {H : Hp} {v : V} {k : Knd} {a b : Int} (h : KndOf H v k) (hk : (k.isInt && !k.isBool) = false) : betw v a b = false := by
  cases k with
  | int => cases hk
  | bool => obtain ⟨n, rfl⟩ := h; rfl
  | none => cases h; rfl
  | str => obtain ⟨n, rfl⟩ := h; rfl
  | list => obtain ⟨n, xs, rfl, _⟩ := h; rfl
  | tuple => obtain ⟨n, xs, rfl, _⟩ := h; rfl
theorem knd_yes {k : Knd} (h : (k.isInt && !k.isBool) = true) : k = .int := by cases k <;> first | rfl | cases h
/-! ### isinstance, read -/
section
variable {K : PySem.W.Frag} {σ : St} {H : Hp} {v : V} {k : Knd} {Q : VK} {te : TE}
theorem v_isI (hk : KndOf H v k) {b : Bool} {c : String} (e : PySem.W.kitOne K (.type k.name) (.type c) = some b) (q : Q (.bl b) H) : rIsi K [v, .ty c] H Q :=
  ⟨v, .ty c, .type k.name, .type c, b, rfl, .ty c, knd_ty hk, e, q⟩
end
end L2

set_option Elab.async false
set_option maxRecDepth 100000
set_option maxHeartbeats 4000000
namespace L2
open PySem PySem.Spec PyProof.Rows
section
variable {K : PySem.W.Frag} {C : Addr}
theorem no_ref (l : List String) : (l.map Value.type).contains (Value.ref C) = false := by
  induction l with
  | nil => rfl
  | cons a l ih =>
    rw [List.map_cons, List.contains_cons, ih]
    rfl
theorem sub_ty_ref {T : String} (h : (fastFind? T).isSome = true) : PySem.W.subIn K (.type T) (.ref C) = some false := by
  obtain ⟨r, hr⟩ := Option.isSome_iff_exists.mp h
  show (fastBuiltinMro T).map (·.contains (Value.ref C)) = some false
  unfold fastBuiltinMro
  rw [hr]
  show some ((r.mro.map Value.type).contains (Value.ref C)) = some false
  rw [no_ref]
theorem knd_find (k : Knd) : (fastFind? k.name).isSome = true := by cases k <;> decide +kernel
/-- all that is asked of an own plain class x at C -/
structure ClsX (K : PySem.W.Frag) (mg : Str → Option Value) (x : Str) (C : Addr) : Prop where
  gC : mg x = some (.ref C)
  cl : Cls K C
  ha : PySem.W.findIn K (.ref C) "__class__" = some (some (.builtin "object.__class__"))
  hn : PySem.W.specialIn K (.builtin "object.__class__") "__get__" = some (some (.builtin "getset_descriptor.__get__"))
  htk : PySem.W.takesIn K (.builtin "object.__class__") = some true
  hm : PySem.W.mroIn K C (.type "object") = some true
  ne : PySem.W.findIn K (.ref C) "__ne__" = some (some (.builtin "object.__ne__"))
  is : PySem.W.isClsIn K C = true
  ty : PySem.W.typeIn K (.ref C) = some (.type "type")
  tup : PySem.W.subIn K (.ref C) (.type "tuple") = some false
  lst : PySem.W.subIn K (.ref C) (.type "list") = some false
  int : PySem.W.subIn K (.ref C) (.type "int") = some false
  str : PySem.W.subIn K (.ref C) (.type "str") = some false
variable {mg : Str → Option Value} {x : Str}
theorem ClsX.neM (T : ClsX K mg x C) : NeM K C := ⟨T.ne, T.hm⟩
theorem ClsX.tyOf (T : ClsX K mg x C) {H : Hp} {a dx : Addr} {fs : List (Str × V)} (e : H a = some (.ins C dx fs)) : TyX K H (.ref a) (.ref C) := .base (.ins e T.cl T.ha T.hn T.htk T.hm)
theorem ClsX.me (_ : ClsX K mg x C) : PySem.W.kitOne K (.ref C) (.ref C) = some true := if_pos (beq_self_eq_true _)
theorem ClsX.nfMe (_ : ClsX K mg x C) : PySem.W.notFirst K C (.ref C) = true := by
  show (Value.ref C == Value.ref C || _) = true
  rw [beq_self_eq_true]
  rfl
theorem ClsX.kitB (T : ClsX K mg x C) {t : Value} {b : Bool} (h : PySem.W.subIn K t (.ref C) = some b) (hne : (t == .ref C) = false) : PySem.W.kitOne K t (.ref C) = some b := by
  have e : ((PySem.W.clsIn K C).isSome && PySem.W.typeIn K (.ref C) == some (.type "type")) = true := by
    have h1 : (PySem.W.clsIn K C).isSome = true := T.is
    rw [h1, T.ty]
    rfl
  show (if (t == Value.ref C) = true then some true else if ((PySem.W.clsIn K C).isSome && PySem.W.typeIn K (.ref C) == some (.type "type")) = true then PySem.W.subIn K t (.ref C) else none) = some b
  rw [hne, if_neg Bool.false_ne_true, if_pos e]
  exact h
theorem ClsX.kitK (T : ClsX K mg x C) (k : Knd) : PySem.W.kitOne K (.type k.name) (.ref C) = some false := T.kitB (sub_ty_ref (knd_find k)) rfl
theorem ClsX.nfK (_ : ClsX K mg x C) (k : Knd) : PySem.W.notFirst K C (.type k.name) = true := by
  show (Value.type k.name == Value.ref C || PySem.W.subIn K (.type k.name) (.ref C) == some false) = true
  rw [sub_ty_ref (knd_find k)]
  exact Bool.or_eq_true_iff.mpr (.inr (by decide))
theorem kit_meta {T : String} {b : Bool} (h : PySem.W.subIn K (.ref C) (.type T) = some b) (hm : PySem.W.kitMeta T = true) : PySem.W.kitOne K (.ref C) (.type T) = some b := by
  show (if (Value.ref C == Value.type T) = true then some true else if PySem.W.kitMeta T = true then PySem.W.subIn K (.ref C) (.type T) else none) = some b
  rw [show (Value.ref C == Value.type T) = false from rfl, if_neg Bool.false_ne_true, if_pos hm]
  exact h
theorem ClsX.kTup (T : ClsX K mg x C) : PySem.W.kitOne K (.ref C) (.type "tuple") = some false := kit_meta T.tup (by decide +kernel)
theorem ClsX.kInt (T : ClsX K mg x C) : PySem.W.kitOne K (.ref C) (.type "int") = some false := kit_meta T.int (by decide +kernel)
theorem ClsX.kLst (T : ClsX K mg x C) : PySem.W.kitOne K (.ref C) (.type "list") = some false := kit_meta T.lst (by decide +kernel)
theorem ClsX.kStr (T : ClsX K mg x C) : PySem.W.kitOne K (.ref C) (.type "str") = some false := kit_meta T.str (by decide +kernel)
end
/-! ### an own error's class, from what the top has written -/
section
variable {P : Program} {w : World} {K : PySem.W.Frag} {mg : Str → Option Value} {base : Heap} {x f : Str} {C : Addr}
/-- what k_is finds of the class -/
structure XAt (K : PySem.W.Frag) (mg : Str → Option Value) (x f : Str) (C : Addr) (st : Stmt) (qual : Str) : Prop where
  ox : OexC K C
  gC : mg x = some (.ref C)
  noA : PySem.W.findIn K (.ref C) f = some none
  ec : ExcC K C
  tI : ∃ fI, PySem.W.findIn K (.ref C) "__init__" = some (some (.ref fI)) ∧ PySem.W.typeIn K (.ref fI) = some (.type "function") ∧ ∃ fd, Fun K "__init__" qual st fI fd ∧ Binds K fd ["self", f] []
theorem XAt.cls {st : Stmt} {qual : Str} (T : XAt K mg x f C st qual) (h : ∀ fI fd, Fun K "__init__" qual st fI fd → FnOk P w K mg base CX0 1 fI fd ["self", f] (spXI C f)) : XCls P w K mg base x f C := by
  obtain ⟨fI, i1, i2, fd, F, b⟩ := T.tI
  exact ⟨T.ox, T.gC, T.noA, T.ec, fI, fd, i1, i2, h fI fd F, b⟩
end
/-! ### fields -/
section
theorem lk_put {f g : Str} {v : V} {fs : List (Str × V)} : List.lookup g ((f, v) :: fs) = if (g == f) = true then some v else List.lookup g fs := by
  simp only [List.lookup]
  split
  · rename_i h; rw [h, if_pos rfl]
  · rename_i h; rw [h, if_neg Bool.false_ne_true]
end
end L2

set_option Elab.async false
set_option maxRecDepth 100000
set_option maxHeartbeats 4000000
/-! plain data: lists and tuples of flat values, compared -/
namespace L2
open PySem PySem.Spec PyProof.Rows
def pd : V → PyData
  | .int i => .int i
  | .bl b => .bool b
  | .str s => .str s
  | _ => .none
/-- flat, its text (if it is one) within the model's signs -/
def Fl : V → Prop
  | .int _ => True
  | .bl _ => True
  | .non => True
  | .str s => PySem.PyData.canLay0 (.str s) = true
  | _ => False
section
variable {K : PySem.W.Frag} {H : Hp} {v u : V}
theorem dp_fl (h : Fl v) : Dp K H v (pd v) := by
  cases v <;> first | exact .int _ | exact .bl _ | exact .str _ | exact .non | exact h.elim
theorem dp_all : ∀ {vs : List V}, (∀ v ∈ vs, Fl v) → DpAll K H vs (vs.map pd)
  | [], _ => .nil
  | v :: vs, h => .cons (dp_fl (h v List.mem_cons_self)) (dp_all fun u hu => h u (List.mem_cons_of_mem _ hu))
theorem lay_fl (h : Fl v) : (pd v).canLay0 = true := by
  cases v <;> first | rfl | exact h | exact h.elim
theorem dep_fl : (pd v).depth = 0 := by cases v <;> rfl
theorem lay_all : ∀ {vs : List V}, (∀ v ∈ vs, Fl v) → PyData.canLayAll0 (vs.map pd) = true ∧ PyData.depthAll (vs.map pd) = 0
  | [], _ => ⟨rfl, rfl⟩
  | v :: vs, h => by
    obtain ⟨a, b⟩ := lay_all (vs := vs) fun u hu => h u (List.mem_cons_of_mem _ hu)
    constructor
    · show ((pd v).canLay0 && PyData.canLayAll0 (vs.map pd)) = true
      rw [lay_fl (h v List.mem_cons_self), a]
      rfl
    · show max (pd v).depth (PyData.depthAll (vs.map pd)) = 0
      rw [dep_fl, b]
      rfl
theorem shp_fl (h : Fl v) : SeqAt.shaped (pd v) = true := by
  show ((pd v).canLay0 && decide ((pd v).depth ≤ 64)) = true
  rw [lay_fl h, dep_fl]
  rfl
theorem shp_tup {vs : List V} (h : ∀ v ∈ vs, Fl v) : SeqAt.shaped (.tuple (vs.map pd)) = true := by
  obtain ⟨a, b⟩ := lay_all h
  show (PyData.canLayAll0 (vs.map pd) && decide (PyData.depthAll (vs.map pd) + 1 ≤ 64)) = true
  rw [a, b]
  rfl
theorem shp_lst {vs : List V} (h : ∀ v ∈ vs, Fl v) : SeqAt.shaped (.list (vs.map pd)) = true := by
  obtain ⟨a, b⟩ := lay_all h
  show (PyData.canLayAll0 (vs.map pd) && decide (PyData.depthAll (vs.map pd) + 1 ≤ 64)) = true
  rw [a, b]
  rfl
theorem fl_int (n : Int) : Fl (.int n) := trivial
theorem fl_ints {ns : List Int} : ∀ v ∈ ns.map V.int, Fl v := fun v hv => by
  obtain ⟨n, _, rfl⟩ := List.mem_map.mp hv
  trivial
theorem eqv_ints : ∀ (ns ms : List Int), PyData.eqvAll ((ns.map V.int).map pd) ((ms.map V.int).map pd) = decide (ns = ms)
  | [], [] => rfl
  | [], _ :: _ => rfl
  | _ :: _, [] => rfl
  | n :: ns, m :: ms => by
    show ((n == m) && PyData.eqvAll ((ns.map V.int).map pd) ((ms.map V.int).map pd)) = decide (n :: ns = m :: ms)
    rw [eqv_ints ns ms, Bool.eq_iff_iff]
    simp
/-- the same values are equal data -/
theorem eqv_same : ∀ {vs : List V}, (∀ v ∈ vs, Fl v) → PyData.eqvAll (vs.map pd) (vs.map pd) = true
  | [], _ => rfl
  | v :: vs, h => by
    show (PyData.eqv (pd v) (pd v) && PyData.eqvAll (vs.map pd) (vs.map pd)) = true
    rw [eqv_same (vs := vs) fun u hu => h u (List.mem_cons_of_mem _ hu), Bool.and_true]
    cases v <;> first | rfl | (show (_ == _) = true; exact beq_self_eq_true _)
/-- two tuples compared (op_eqD, op_neD): what is left -/
theorem eqD_tup {p q : Addr} {vs us : List V} {Q : VK} (hp : SqT K H p vs) (hq : SqT K H q us) (fv : ∀ v ∈ vs, Fl v) (fu : ∀ v ∈ us, Fl v) (h : Q (.bl (PyData.eqvAll (vs.map pd) (us.map pd))) H) : rEqD K (.ref p) (.ref q) H Q :=
  ⟨_, _, .tup hp (dp_all fv), .tup hq (dp_all fu), shp_tup fv, shp_tup fu, h⟩
theorem neD_tup {p q : Addr} {vs us : List V} {Q : VK} (hp : SqT K H p vs) (hq : SqT K H q us) (fv : ∀ v ∈ vs, Fl v) (fu : ∀ v ∈ us, Fl v) (h : Q (.bl (!PyData.eqvAll (vs.map pd) (us.map pd))) H) : rNeD K (.ref p) (.ref q) H Q :=
  ⟨_, _, .tup hp (dp_all fv), .tup hq (dp_all fu), shp_tup fv, shp_tup fu, h⟩
theorem eqD_lst {p q : Addr} {vs us : List V} {Q : VK} (hp : SqL K H p vs) (hq : SqL K H q us) (fv : ∀ v ∈ vs, Fl v) (fu : ∀ v ∈ us, Fl v) (h : Q (.bl (PyData.eqvAll (vs.map pd) (us.map pd))) H) : rEqD K (.ref p) (.ref q) H Q :=
  ⟨_, _, .lst hp (dp_all fv), .lst hq (dp_all fu), shp_lst fv, shp_lst fu, h⟩
theorem neD_lst {p q : Addr} {vs us : List V} {Q : VK} (hp : SqL K H p vs) (hq : SqL K H q us) (fv : ∀ v ∈ vs, Fl v) (fu : ∀ v ∈ us, Fl v) (h : Q (.bl (!PyData.eqvAll (vs.map pd) (us.map pd))) H) : rNeD K (.ref p) (.ref q) H Q :=
  ⟨_, _, .lst hp (dp_all fv), .lst hq (dp_all fu), shp_lst fv, shp_lst fu, h⟩
end
end L2

set_option Elab.async false
set_option maxRecDepth 100000
set_option maxHeartbeats 4000000
namespace L2
open PySem PySem.Spec PyProof.Rows
section
variable {X : Cx}
/-- range(j), kept -/
theorem cr_range1 : CallR X (.type "range") (fun vs H Q => ∃ j, vs = [V.int j] ∧ ∀ p, H p = none → Q (.ref p) (upd H p (.rng 0 j))) := by
  intro pins s σ H vs us Q I r h
  obtain ⟨j, rfl, q⟩ := h
  obtain ⟨u1, rfl, rj⟩ := vals1 r
  obtain ⟨t, rfl⟩ := rj
  refine call_range_1 ⟨.ref s.heap.objs.size, upd H s.heap.objs.size (.rng 0 j), I.laid (t' := s.toks + 1 + 1) (fun b o e => Heap.get?_push_of_some _ e) (Nat.le_refl _) ?_, rfl, q _ (I.hok.fresh (Nat.le_refl _))⟩
  exact ⟨s.toks, t, s.toks + 1, Heap.get?_push_size _ rfl⟩
/-- len of a range -/
theorem call_lenR : CallR X (.builtin "len") (fun xs H Q => ∃ a lo hi, xs = [.ref a] ∧ H a = some (.rng lo hi) ∧ (hi - lo).toNat < 2 ^ 62 ∧ Q (.int ((hi - lo).toNat : Int)) H) := by
  intro pins s σ H xs us Q I r h
  obtain ⟨a, lo, hi, rfl, ha, hz, q⟩ := h
  rw [Vals.ref1 r]
  obtain ⟨t, u, v, ho⟩ := I.hok a _ ha
  exact call_len_range (n := (hi - lo).toNat) ho (rangeSize_nat lo hi) (by omega) ⟨.int ((hi - lo).toNat : Int), H, I.tok _, ⟨_, rfl⟩, q⟩
/-- sum of a tuple of ints -/
def rSumT (K : PySem.W.Frag) : List V → Hp → VK → Prop := fun vs H Q => ∃ (a : Addr) (ns : List Int), vs = [V.ref a] ∧ SqT K H a (ns.map V.int) ∧ Q (.int ns.sum) H
theorem cr_sumT (hc : X.calm = true) : CallR X (.builtin "sum") (rSumT X.K) := by
  intro pins s σ H vs us Q I r h
  obtain ⟨a, ns, rfl, hs, q⟩ := h
  obtain ⟨its, rv, hl, _⟩ := I.tuple hs
  rw [Vals.ref1 r]
  have hi := rv.ints
  obtain ⟨xs, e⟩ := hi.allInts.items
  have hn : numsOf (intItems xs).toList = ns := by rw [← e]; exact hi.numsOf
  rw [nums_intItems] at hn
  rw [e] at hl
  refine PySem.W.ktm_sumG (I.ok.hd hc) hl fun h' tk t' hk => ?_
  rw [preSum_eq, List.take_of_length_le (by simp), hn]
  exact ⟨.int ns.sum, H, I.kept hk, ⟨_, rfl⟩, q⟩
end
end L2

set_option Elab.async false
set_option maxRecDepth 100000
set_option maxHeartbeats 4000000
namespace L2
open PySem PySem.Spec PyProof.Rows
/-- a list or tuple at p of the items xs -/
def Sq (H : Hp) (p : Addr) (xs : List V) : Prop := H p = some (.lst xs) ∨ H p = some (.tup xs)
section
variable {K : PySem.W.Frag} {H H' : Hp} {p : Addr} {xs : List V}
theorem Sq.k (h : Sq H p xs) : ∃ k, KndOf H (.ref p) k ∧ k.isSeq = true := by
  rcases h with h | h
  · exact ⟨.list, ⟨p, xs, rfl, h⟩, rfl⟩
  · exact ⟨.tuple, ⟨p, xs, rfl, h⟩, rfl⟩
theorem Sq.ext (h : Sq H p xs) (e : Ext H H') : Sq H' p xs := h.imp (e _ _) (e _ _)
theorem Sq.l (h : Sq H p xs) : SqL K H p xs ∨ SqT K H p xs := h.imp SqL.of SqT.of
theorem ext_mut {D : Addr} {o : HO} (e : Ext H H') (h : H D = none) : Ext H (upd H' D o) := fun a u ha => by
  rw [upd_ne (ne_of_none ha h)]
  exact e a u ha
theorem ext_none {D : Addr} (e : Ext H H') (h : H' D = none) : H D = none := by
  cases h1 : H D with
  | none => rfl
  | some o =>
    rw [e D o h1] at h
    cases h
end
section
variable {X : Cx} {tg : Expr}
/-- a list or a tuple is walked -/
def iSq (K : PySem.W.Frag) (tl : TE) : TI := fun σ H R => tl σ H fun x H1 => ∃ a, x = .ref a ∧ (((∃ xs, SqL K H1 a xs) ∧ R (Itl K a) H1) ∨ ((∃ xs, SqT K H1 a xs) ∧ R (Itt K a) H1))
theorem pi_sq {l : Expr} {tl : TE} (hl : PE X l tl) : PI X tg l (iSq X.K tl) := by
  refine ⟨fun pins s σ H R I h => ?_⟩
  refine thn (hl.run pins s σ H _ I h) fun v s1 ⟨x, H1, I1, r1, q1⟩ => ?_
  obtain ⟨a, e, q1⟩ := q1
  subst e
  cases r1
  rcases q1 with ⟨⟨xs, hq⟩, q⟩ | ⟨⟨xs, hq⟩, q⟩
  · obtain ⟨its, rv, p, hz⟩ := I1.list hq
    refine wpAny_pyIter_list p.isList ?_
    refine ⟨s1.heap.objs.size, [s1.heap.objs.size], _, _, H1, rfl, I1.kept (t' := s1.toks) fun b o e => Heap.get?_push_of_some _ e, turn_list a _, ⟨_, Heap.get?_push_size _ rfl, rfl, rfl⟩, fun b hb => ?_, q⟩
    have e : b = s1.heap.objs.size := by simpa using hb
    subst e
    exact I1.fpOk (Nat.le_refl _) (I1.hok.fresh (Nat.le_refl _))
  · obtain ⟨its, rv, p, hz⟩ := I1.tuple hq
    refine wpAny_pyIter_tuple (show s1.heap.IsTuple a its.toArray from p) ?_
    refine ⟨s1.heap.objs.size, [s1.heap.objs.size], _, _, H1, rfl, I1.kept (t' := s1.toks) fun b o e => Heap.get?_push_of_some _ e, turn_tuple a _, ⟨_, Heap.get?_push_size _ rfl, rfl, rfl⟩, fun b hb => ?_, q⟩
    have e : b = s1.heap.objs.size := by simpa using hb
    subst e
    exact I1.fpOk (Nat.le_refl _) (I1.hok.fresh (Nat.le_refl _))
end
section
variable {K : PySem.W.Frag} {σ : St} {H : Hp} {p : Addr} {xs : List V} {te : TE} {tt : TT} {j : Nat} {vs : List Nat} {Q : VK}
theorem take_snoc {α : Type} {l : List α} {i : Nat} {x : α} (h : l[i]? = some x) : l.take (i + 1) = l.take i ++ [x] := by
  rw [List.take_add_one, h]
  rfl
/-- [f(x) for x in xs if b(x)], what is tested and made only adding to the heap: the reading behind the source's own -/
theorem lc_sqR {Qd : Addr → Hp → Prop} {f : V → V} {b : V → Bool} (hx : Sq H p xs) (hz : xs.length < sizeLine) (hw : ∀ x, wipe ((wipe σ vs).set j (some x)) vs = wipe σ vs)
    (ht : ∀ x ∈ xs, ∀ H', Ext H H' → ∀ Q : Bool → Hp → Prop, (∀ H'', Ext H' H'' → Q (b x) H'') → tt ((wipe σ vs).set j (some x)) H' Q)
    (he : ∀ x ∈ xs, b x = true → ∀ H', Ext H H' → ∀ Q : VK, (∀ H'', Ext H' H'' → Q (f x) H'') → te ((wipe σ vs).set j (some x)) H' Q)
    (q : ∀ D H', H D = none → Ext H H' → H' D = some (.lst ((xs.filter b).map f)) → Qd D H') :
    ((∃ xs, SqL K H p xs) ∧ (fun J H1 => ∀ D, H1 D = none → ∃ W : Nat → Nat → Hp → Prop, (∃ m, W 0 m (upd H1 D (.lst []))) ∧ ∀ i m H, W i m H →
      (J.stop i H ∧ Qd D H) ∨ (J.go i H ∧ ∃ Nx : Hp → Prop, (∀ H', Nx H' → ∃ m', m' < m ∧ W (i + 1) m' H') ∧ ∀ x H', J.yld i H x H' → gName j x (wipe σ vs) H' fun σ2 H2 => wipe σ2 vs = wipe σ vs ∧ tt σ2 H2 fun b H3 =>
        if b = true then te σ2 H3 fun y H4 => ∃ acc, H4 D = some (.lst acc) ∧ acc.length < sizeLine ∧ Nx (upd H4 D (.lst (acc ++ [y]))) else Nx H3)) (Itl K p) H) ∨
    ((∃ xs, SqT K H p xs) ∧ (fun J H1 => ∀ D, H1 D = none → ∃ W : Nat → Nat → Hp → Prop, (∃ m, W 0 m (upd H1 D (.lst []))) ∧ ∀ i m H, W i m H →
      (J.stop i H ∧ Qd D H) ∨ (J.go i H ∧ ∃ Nx : Hp → Prop, (∀ H', Nx H' → ∃ m', m' < m ∧ W (i + 1) m' H') ∧ ∀ x H', J.yld i H x H' → gName j x (wipe σ vs) H' fun σ2 H2 => wipe σ2 vs = wipe σ vs ∧ tt σ2 H2 fun b H3 =>
        if b = true then te σ2 H3 fun y H4 => ∃ acc, H4 D = some (.lst acc) ∧ acc.length < sizeLine ∧ Nx (upd H4 D (.lst (acc ++ [y]))) else Nx H3)) (Itt K p) H) := by
  have turn : ∀ (D : Addr), H D = none → ∀ i x H', xs[i]? = some x → (Ext H H' ∧ H' D = some (.lst (((xs.take i).filter b).map f))) → gName j x (wipe σ vs) H' fun σ2 H2 => wipe σ2 vs = wipe σ vs ∧ tt σ2 H2 fun b' H3 =>
      if b' = true then te σ2 H3 fun y H4 => ∃ acc, H4 D = some (.lst acc) ∧ acc.length < sizeLine ∧ (Ext H (upd H4 D (.lst (acc ++ [y]))) ∧ upd H4 D (.lst (acc ++ [y])) D = some (.lst (((xs.take (i + 1)).filter b).map f))) else (Ext H H3 ∧ H3 D = some (.lst (((xs.take (i + 1)).filter b).map f))) := by
    intro D hD i x H' hi pv
    obtain ⟨e, hl⟩ := pv
    have hm : x ∈ xs := List.mem_of_getElem? hi
    refine ⟨hw x, ht x hm H' e _ fun H3 e3 => ?_⟩
    have hl3 : H3 D = some (.lst (((xs.take i).filter b).map f)) := e3 _ _ hl
    cases hb : b x with
    | true =>
      refine iteT (he x hm hb H3 (e.trans e3) _ fun H4 e4 => ⟨_, e4 _ _ hl3, ?_, ext_mut ((e.trans e3).trans e4) hD, ?_⟩)
      · rw [List.length_map]
        refine Nat.lt_of_le_of_lt (Nat.le_trans (List.length_filter_le _ _) ?_) hz
        exact List.length_take_le' _ _
      · rw [upd_same, take_snoc hi, List.filter_append, List.map_append]
        simp [hb]
    | false =>
      refine iteF ⟨e.trans e3, ?_⟩
      rw [hl3, take_snoc hi, List.filter_append, List.map_append]
      simp [hb]
  have fin : ∀ D, H D = none → ∀ H', (Ext H H' ∧ H' D = some (.lst (((xs.take xs.length).filter b).map f))) → Qd D H' := fun D hD H' pv => by
    rw [List.take_length] at pv
    exact q D H' hD pv.1 pv.2
  rcases hx with hx | hx
  · refine .inl ⟨⟨xs, SqL.of hx⟩, fun D hD => lc_list (xs := xs) (fun i H' => Ext H H' ∧ H' D = some (.lst (((xs.take i).filter b).map f))) ⟨Ext.upd hD, upd_same⟩ (fun i H' _ pv => SqL.of (pv.1 _ _ hx)) (fun i x H' hi pv => turn D hD i x H' hi pv) (fun H' pv => fin D hD H' pv)⟩
  · refine .inr ⟨⟨xs, SqT.of hx⟩, fun D hD => lc_tup (xs := xs) (fun i H' => Ext H H' ∧ H' D = some (.lst (((xs.take i).filter b).map f))) ⟨Ext.upd hD, upd_same⟩ (fun i H' _ pv => SqT.of (pv.1 _ _ hx)) (fun i x H' hi pv => turn D hD i x H' hi pv) (fun H' pv => fin D hD H' pv)⟩
end
theorem filter_all {α : Type} (l : List α) : l.filter (fun _ => true) = l := List.filter_eq_self.mpr fun _ _ => rfl
end L2

set_option Elab.async false
set_option maxRecDepth 100000
set_option maxHeartbeats 4000000
/-! enumerate over a list or a tuple -/
namespace PySem
open Sem (wp)
/-- the maker of enumerate, handed one thing whose iterator is told -/
theorem en1_meets {v : Value} {ob : Obj} {HP : Heap → Prop} (BG : Begins v ob HP) :
    Meets (Builtin.«enumerate.__new__» ⟨[.type "enumerate", v], []⟩) (fun _ RR sh => HP sh.heap ∧
      RR (.ok (.ret (.ref (sh.heap.push ob).objs.size)))
        { sh with heap := (sh.heap.push ob).push { cls := .type "enumerate", data := .fields #[.none, .bool false, .ref sh.heap.objs.size, rawInt 0, .none, .none] } }) :=
  .of_wp fun pr ww AA RR sh hh => by
    obtain ⟨hp, gg, dd, tk, os⟩ := sh
    obtain ⟨hh1, hh⟩ := hh
    have sub1 := sub_enumerate
    have begin1 : ∀ {A1 : Around} {E1 Q1 : Value → Shared → Prop}, Q1 (.ref hp.objs.size) ⟨hp.push ob, gg, dd, tk, os⟩ →
        wpAny (model pr ww) A1 (pyIter v) Q1 E1 ⟨hp, gg, dd, tk, os⟩ :=
      fun qq => BG.iter pr ww _ _ ⟨hp, gg, dd, tk, os⟩ _ hh1 qq
    wp_walk using begin1
    refine wpAny_stack_any fun sta => wpAny_pure ?_
    split
    · rename_i cc _ _ _ _ _
      cases (cc == Value.type "enumerate")
      all_goals
        wp_walk using begin1
        exact ⟨_, rfl, hh⟩
    · wp_walk using begin1
      exact ⟨_, rfl, hh⟩
section
variable {pr : Program} {ww : World} {AA : Around} {EE : Value → Shared → Prop} {sh : Shared}
theorem en1_call {v : Value} {ob : Obj} {HP : Heap → Prop} {QQ : Value → Shared → Prop} (BG : Begins v ob HP) (hh : HP sh.heap)
    (kk : ∀ h1, IsEnum h1 (sh.heap.objs.size + 1) sh.heap.objs.size 0 .none → h1.get? sh.heap.objs.size = some ob →
      (∀ x y, sh.heap.get? x = some y → h1.get? x = some y) → QQ (.ref (sh.heap.objs.size + 1)) { sh with heap := h1 }) :
    wpAny (model pr ww) AA (call (.type "enumerate") [v]) QQ EE sh := by
  refine callType_new F.called_enumerate (by decide) (F.typeCall_enumerate_1 _) (F.newCall_enumerate_1 _) (fun oo => F.args_object_init_2 oo _) F.entry_enumerate_new (en1_meets BG) ⟨hh, ?_⟩
  have sz : (sh.heap.push ob).objs.size = sh.heap.objs.size + 1 := Heap.size_push ..
  show _ ∧ _
  rw [sz]
  have en : IsEnum ((sh.heap.push ob).push { cls := .type "enumerate", data := .fields #[.none, .bool false, .ref sh.heap.objs.size, rawInt 0, .none, .none] })
      (sh.heap.objs.size + 1) sh.heap.objs.size 0 .none := by
    have qq := Heap.get?_push_size (sh.heap.push ob) (o := { cls := .type "enumerate", data := .fields #[.none, .bool false, .ref sh.heap.objs.size, rawInt 0, .none, .none] }) rfl
    rw [sz] at qq
    exact qq
  exact ⟨⟨_, en, rfl⟩, kk _ en (Heap.get?_push_of_some _ (Heap.get?_push_size _ BG.free)) fun x y hx => Heap.get?_push_of_some _ (Heap.get?_push_of_some _ hx)⟩
end
end PySem
namespace L2
open PySem PySem.Spec PyProof.Rows
/-- the tuple at a, each item in a new pair with its place -/
def Itet (K : PySem.W.Frag) (a : Addr) : It :=
  ⟨fun i H => ∃ xs : List V, SqT K H a xs ∧ i < xs.length,
    fun i H v H' => ∃ T x, v = .ref T ∧ H T = none ∧ H' = upd H T (.tup [.int (i : Nat), x]) ∧ ∀ xs, SqT K H a xs → xs[i]? = some x,
    fun i H => ∃ xs : List V, SqT K H a xs ∧ xs.length = i⟩
theorem turn_enT {P : Program} {w : World} {K : PySem.W.Frag} {elts : List Expr} {kk : Nat} {tpos : Pos} (a e it : Addr) (hea : e ≠ a) (hia : a ≠ it) :
    Turn P w K (.Tuple elts kk tpos) (Itet K a) [e, it] e (fun i h => (∃ old, IsEnum h e it ((i : Nat) : Int) old) ∧ h.IsTupleIter it a i ∧ e ≠ it) where
  mem := List.mem_cons_self
  obj := fun i h st b hb => by
    obtain ⟨⟨old, he⟩, ⟨o, ho, _, hd⟩, _⟩ := st
    rcases List.mem_cons.mp hb with z | z
    · subst z
      exact ⟨_, he, fun v q => nomatch q⟩
    · have z' := List.mem_singleton.mp z
      subst z'
      exact ⟨o, ho, fun v q => by rw [hd] at q; cases q⟩
  keep := fun i h h' st k => by
    obtain ⟨⟨old, he⟩, hi, hne⟩ := st
    exact ⟨⟨old, k e List.mem_cons_self _ he⟩, hi.at fun o q => k it (List.mem_cons_of_mem _ (List.mem_singleton.mpr rfl)) o q, hne⟩
  item := by
    intro X hP hw hK hc i pins s σ H E I hf st hg
    subst hP hw hK
    obtain ⟨⟨old, he⟩, hit, hne⟩ := st
    obtain ⟨xs, hq, hx⟩ := hg
    obtain ⟨its, rv, p, hz⟩ := I.tuple hq
    have hl := rv.length
    have hel : e < s.heap.objs.size := Heap.lt_size he
    have hil : it < s.heap.objs.size := by
      obtain ⟨_, q, _⟩ := hit
      exact Heap.lt_size q
    have D := Draws.tuple (prog := X.prog) (w := X.w) (A := X.A.in1) (show X.A.in1.handled = none from I.ok.hd hc) it a hia its.toArray
    refine wpAny_pyNext_enum_itemC D he (i := i) ⟨hit, p⟩ (by simp; omega) hne (by simp [hne, hea]) fun u h' tk hP ho hst' hT hsz hk => ?_
    have hu : its[i]? = some u := by simpa using hP
    obtain ⟨x, hxx⟩ : ∃ x, xs[i]? = some x := ⟨_, List.getElem?_eq_getElem hx⟩
    obtain ⟨u', hu', ru'⟩ := rv.get hxx
    have eu : u' = u := Option.some.inj (hu'.symm.trans hu)
    subst eu
    refine ⟨_, rfl, wpAny_letOwnedTupleGo_enum (s := { s with heap := h', toks := tk + 1 }) ho fun h2 he2 sb => ?_⟩
    have hT2 : h2.get? s.heap.objs.size = some { cls := .type "tuple", data := .seq #[.int i tk, u'] } := (sb.2 _ (Nat.ne_of_gt hel)).trans hT
    have new : ObjOk X.prog X.w (upd H s.heap.objs.size (.tup [.int (i : Nat), x])) h2 s.heap.objs.size (.tup [.int (i : Nat), x]) := by
      refine ⟨?_, [.int i tk, u'], .cons ⟨_, rfl⟩ (.cons ru' .nil), ⟨_, hT2, rfl, _, rfl⟩⟩
      show 2 ≤ sizeLine
      decide
    have I1 : Inv X pins σ (upd H s.heap.objs.size (.tup [.int (i : Nat), x])) { s with heap := h2, toks := tk + 1 } := by
      refine I.turnedNew (ch := [e, it]) (fun b ob hb q => ?_) hf (Nat.le_refl _) new
      have b1 : b ≠ e := fun z => hb (by simp [z])
      have b2 : b ≠ it := fun z => hb (by simp [z])
      exact (sb.2 b b1).trans (hk b ob b1 b2 q)
    refine ⟨.ref s.heap.objs.size, _, I1, rfl, ⟨_, x, rfl, I.hok.fresh (Nat.le_refl _), rfl, fun ys hy => ?_⟩, ⟨⟨u', ?_⟩, hst'.1.at fun o q => (sb.2 it (Ne.symm hne)).trans q, hne⟩, fun b hb => ?_⟩
    · obtain ⟨its2, rv2, p2, _⟩ := I.tuple hy
      rw [I.tuple_inj hy hq]
      exact hxx
    · have e1 : ((i + 1 : Nat) : Int) = (i : Int) + 1 := rfl
      rw [e1]
      exact he2
    · have hb' : b < s.heap.objs.size := by
        rcases List.mem_cons.mp hb with z | z
        · rw [z]
          exact hel
        · rw [List.mem_singleton.mp z]
          exact hil
      rw [upd_ne (Nat.ne_of_lt hb')]
      exact (hf b hb).1
  done := by
    intro X hP hw hK hc i pins s σ H E I hf st hg
    subst hP hw hK
    obtain ⟨⟨old, he⟩, hit, hne⟩ := st
    obtain ⟨xs, hq, hx⟩ := hg
    obtain ⟨its, rv, p, hz⟩ := I.tuple hq
    have hl := rv.length
    obtain ⟨f0, f1, f2, f3, f4, f5⟩ := hf it (List.mem_cons_of_mem _ (List.mem_singleton.mpr rfl))
    have D := Draws.tuple (prog := X.prog) (w := X.w) (A := X.A.in1) (show X.A.in1.handled = none from I.ok.hd hc) it a hia its.toArray
    have ei : i = its.toArray.size := by simp; omega
    refine wpAny_pyNext_enum_endD D he (by rw [← ei]; exact ⟨hit, p⟩) fun h' eb => ⟨rfl, ?_⟩
    exact I.turned (t' := s.toks) (fun b o hb q => eb b o hb q) f0 f1 f3 f4 f5
  self := fun A i s Q E st h => by
    obtain ⟨⟨_, he⟩, _⟩ := st
    exact wpAny_pyIter_enum he h
/-- a list or a tuple is walked with the places -/
def iEnSq (K : PySem.W.Frag) (ta : TA) : TI := fun σ H R => ta σ H fun vs H1 => ∃ a, vs = [.ref a] ∧ (((∃ xs, SqL K H1 a xs) ∧ R (Ite K a) H1) ∨ ((∃ xs, SqT K H1 a xs) ∧ R (Itet K a) H1))
theorem pi_enSq {X : Cx} {e : Expr} {ta : TA} {p pos tpos : Pos} {elts : List Expr} {kk : Nat} (hg : Gl X "enumerate") (hm : X.mg "enumerate" = none) (ha : PA X [e] ta) (hs : starEach [e] X.env = [(false, eval e X.env)] := by rfl) :
    PI X (.Tuple elts kk tpos) (.Call (.Name "enumerate" p) [e] [] pos) (iEnSq X.K ta) := by
  refine ⟨fun pins s σ H R I h => ?_⟩
  refine Call_ (ld_blt I hg hm boot_enumerate (PyProof.Rows.callWith_type1 (thn (ha.run pos pins s σ H _ I h) fun us s1 ⟨vs, H1, I1, r1, q1⟩ => ?_) hs rfl))
  obtain ⟨a, ex, q1⟩ := q1
  subst ex
  obtain rfl := Vals.ref1 r1
  have two : ∀ b, b ∈ [s1.heap.objs.size + 1, s1.heap.objs.size] → s1.heap.objs.size ≤ b := fun b hb => by
    rcases List.mem_cons.mp hb with z | z
    · rw [z]
      exact Nat.le_add_right _ _
    · rw [List.mem_singleton.mp z]
      exact Nat.le_refl _
  rcases q1 with ⟨⟨xs, hq⟩, q⟩ | ⟨⟨xs, hq⟩, q⟩
  · obtain ⟨its, rv, p', hz⟩ := I1.list hq
    refine en1_call (begins_list a its.toArray) p'.isList fun h' he hit hk => wpAny_pyIter_enum he ?_
    have I2 : Inv X pins σ H1 { s1 with heap := h' } := I1.kept (t' := s1.toks) hk
    refine ⟨s1.heap.objs.size + 1, [s1.heap.objs.size + 1, s1.heap.objs.size], _, _, H1, rfl, I2, turn_enum a (s1.heap.objs.size + 1) s1.heap.objs.size, ⟨⟨.none, he⟩, ⟨_, hit, rfl, rfl⟩, Nat.succ_ne_self _⟩, fun b hb => ?_, q⟩
    exact I1.fpOk (two b hb) (I1.hok.fresh (two b hb))
  · obtain ⟨its, rv, p', hz⟩ := I1.tuple hq
    have hlt : a < s1.heap.objs.size := by
      obtain ⟨o, ho, _⟩ := (show s1.heap.IsTuple a its.toArray from p')
      exact Heap.lt_size ho
    refine en1_call (begins_tuple a its.toArray) p' fun h' he hit hk => wpAny_pyIter_enum he ?_
    have I2 : Inv X pins σ H1 { s1 with heap := h' } := I1.kept (t' := s1.toks) hk
    refine ⟨s1.heap.objs.size + 1, [s1.heap.objs.size + 1, s1.heap.objs.size], _, _, H1, rfl, I2, turn_enT a (s1.heap.objs.size + 1) s1.heap.objs.size (Nat.ne_of_gt (Nat.lt_succ_of_lt hlt)) (Nat.ne_of_lt hlt), ⟨⟨.none, he⟩, ⟨_, hit, rfl, rfl⟩, Nat.succ_ne_self _⟩, fun b hb => ?_, q⟩
    exact I1.fpOk (two b hb) (I1.hok.fresh (two b hb))
section
variable {K : PySem.W.Frag} {a : Addr} {xs : List V}
theorem walk_enT : Walk (Itet K a) xs.length (fun H => SqT K H a xs) (YPair (fun i => some (.int (i : Nat))) (fun i => xs[i]?)) := by
  refine ⟨fun i _ hi q => ⟨xs, q, hi⟩, fun _ q => ⟨xs, q, rfl⟩, fun i H v H' _ q y => ?_⟩
  obtain ⟨T, x, e1, e2, e3, e4⟩ := y
  exact ⟨T, .int (i : Nat), x, e1, e2, e3, rfl, e4 xs q⟩
/-- the turns of an end: what goes on is N -/
def turnsOf (g : TG) (tb : TS) (D : Ends) (σ : St) (J : It) (H : Hp) : Prop := ∃ W : Nat → Nat → St → Hp → Prop, (∃ m, W 0 m σ H) ∧ ∀ i m σ H, W i m σ H →
  (J.stop i H ∧ D.nx σ H) ∨ (J.go i H ∧ ∃ N : St → Hp → Prop, (∀ σ' H', N σ' H' → ∃ m', m' < m ∧ W (i + 1) m' σ' H') ∧ ∀ x H', J.yld i H x H' → g x σ H' fun σ2 H2 => tb { D with nx := N, ct := N, bk := D.nx } σ2 H2)
theorem for_enSq {g : TG} {tb : TS} {D : Ends} {σ : St} {H : Hp} (hx : SqL K H a xs ∨ SqT K H a xs) (Pv : Nat → St → Hp → Prop) (h0 : Pv 0 σ H) (hE : ∀ i σ' H', Pv i σ' H' → Ext H H')
    (hs : ∀ i x σ' H' T, xs[i]? = some x → Pv i σ' H' → H' T = none → g (.ref T) σ' (upd H' T (.tup [.int (i : Nat), x])) fun σ2 H2 => tb { D with nx := Pv (i + 1), ct := Pv (i + 1), bk := D.nx } σ2 H2) (hd : ∀ σ' H', Pv xs.length σ' H' → D.nx σ' H') :
    ((∃ xs, SqL K H a xs) ∧ turnsOf g tb D σ (Ite K a) H) ∨ ((∃ xs, SqT K H a xs) ∧ turnsOf g tb D σ (Itet K a) H) := by
  have step : ∀ i x σ' H' H'', i < xs.length → Pv i σ' H' → YPair (fun i => some (V.int (i : Nat))) (fun i => xs[i]?) i H' x H'' → g x σ' H'' fun σ2 H2 => tb { D with nx := Pv (i + 1), ct := Pv (i + 1), bk := D.nx } σ2 H2 := by
    rintro i v σ' H' H'' hi pv ⟨T, x, y, rfl, hT, rfl, hx', hy⟩
    cases hx'
    exact hs i y σ' H' T hy pv hT
  rcases hx with hx | hx
  · exact .inl ⟨⟨xs, hx⟩, for_it (walk_enum (xs := xs)) Pv h0 (fun i σ' H' _ pv => hx.ext (hE i σ' H' pv)) step hd⟩
  · exact .inr ⟨⟨xs, hx⟩, for_it (walk_enT (xs := xs)) Pv h0 (fun i σ' H' _ pv => hx.ext (hE i σ' H' pv)) step hd⟩
end
end L2

set_option Elab.async false
set_option maxRecDepth 100000
set_option maxHeartbeats 4000000
/-! values told by the data that they hold -/
namespace L2
open PySem PySem.Spec PyProof.Rows
/-- the type's name -/
def tnD : PyData → String
  | .none => "NoneType" | .bool _ => "bool" | .int _ => "int" | .str _ => "str" | .list _ => "list" | .tuple _ => "tuple" | .dict _ => "dict"
def isIntD : PyData → Bool | .int _ => true | .bool _ => true | _ => false
def isBoolD : PyData → Bool | .bool _ => true | _ => false
def isTupD : PyData → Bool | .tuple _ => true | _ => false
def isListD : PyData → Bool | .list _ => true | _ => false
def isStrD : PyData → Bool | .str _ => true | _ => false
def isSeqD : PyData → Bool | .list _ => true | .tuple _ => true | _ => false
def isNoneD : PyData → Bool | .none => true | _ => false
/-- the int that it is, no truth -/
def betD (d : PyData) (a b : Int) : Bool := match d with
  | .int n => decide (a ≤ n) && decide (n ≤ b)
  | _ => false
def lenD : PyData → Nat | .list ds => ds.length | .tuple ds => ds.length | _ => 0
section
variable {K : PySem.W.Frag} {H H' : Hp} {v : V} {d : PyData}
theorem dp_ty (h : Dp K H v d) : TyX K H v (.type (tnD d)) := by
  cases h with
  | non => exact .base .non
  | bl b => exact .base (.bl b)
  | int i => exact .base (.int i)
  | str s => exact .base (.str s)
  | lst hs _ =>
    rcases hs with (h | ⟨o, h⟩) | ⟨o, its, n, e, c, _⟩
    · exact .base (.lst h)
    · exact .base (.frz h)
    · exact .kList e c
  | tup hs _ =>
    rcases hs with (h | ⟨o, h⟩) | ⟨o, its, n, e, c, _⟩
    · exact .base (.tup h)
    · exact .fTuple h
    · exact .kTuple e c
theorem kd_int : PySem.W.kitOne K (.type (tnD d)) (.type "int") = some (isIntD d) := by cases d <;> exact kit_ty (by dsimp only [tnD, isIntD]; decide +kernel)
theorem kd_bool : PySem.W.kitOne K (.type (tnD d)) (.type "bool") = some (isBoolD d) := by cases d <;> exact kit_ty (by dsimp only [tnD, isBoolD]; decide +kernel)
theorem kd_tup : PySem.W.kitOne K (.type (tnD d)) (.type "tuple") = some (isTupD d) := by cases d <;> exact kit_ty (by dsimp only [tnD, isTupD]; decide +kernel)
theorem kd_list : PySem.W.kitOne K (.type (tnD d)) (.type "list") = some (isListD d) := by cases d <;> exact kit_ty (by dsimp only [tnD, isListD]; decide +kernel)
theorem kd_seq : PySem.W.kitAny K (.type (tnD d)) [.type "list", .type "tuple"] = some (isSeqD d) := by
  unfold PySem.W.kitAny
  rw [kd_list]
  unfold PySem.W.kitAny
  rw [kd_tup]
  cases d <;> rfl
theorem kd_find : (fastFind? (tnD d)).isSome = true := by cases d <;> (dsimp only [tnD]; decide +kernel)
mutual
theorem dp_ext (e : Ext H H') : ∀ (d : PyData) (v : V), Dp K H v d → Dp K H' v d
  | .none, _, h => by cases h; exact .non
  | .bool _, _, h => by cases h; exact .bl _
  | .int _, _, h => by cases h; exact .int _
  | .str _, _, h => by cases h; exact .str _
  | .list ds, _, h => by
    cases h with
    | lst hs ha => exact .lst (hs.ext e) (dps_ext e ds _ ha)
  | .tuple ds, _, h => by
    cases h with
    | tup hs ha => exact .tup (hs.ext e) (dps_ext e ds _ ha)
  | .dict _, _, h => by cases h
theorem dps_ext (e : Ext H H') : ∀ (ds : List PyData) (vs : List V), DpAll K H vs ds → DpAll K H' vs ds
  | [], _, h => by cases h; exact .nil
  | d :: ds, _, h => by
    cases h with
    | cons h1 h2 => exact .cons (dp_ext e d _ h1) (dps_ext e ds _ h2)
end
theorem dps_len : ∀ {vs : List V} {ds : List PyData}, DpAll K H vs ds → vs.length = ds.length
  | [], _, h => by cases h; rfl
  | v :: vs, _, h => by
    cases h with
    | cons _ h2 => exact congrArg Nat.succ (dps_len h2)
theorem dps_get : ∀ {vs : List V} {ds : List PyData} {i : Nat} {v : V}, DpAll K H vs ds → vs[i]? = some v → ∃ d, ds[i]? = some d ∧ Dp K H v d
  | [], _, _, _, _, e => by cases e
  | v :: vs, _, i, _, h, e => by
    cases h with
    | @cons _ _ d ds h1 h2 =>
      cases i with
      | zero => cases e; exact ⟨d, rfl, h1⟩
      | succ i => exact dps_get (i := i) h2 e
theorem bet_int {n a b : Int} : betD (.int n) a b = (decide (a ≤ n) && decide (n ≤ b)) := rfl
theorem bet_not {a b : Int} (h : (isIntD d && !isBoolD d) = false) : betD d a b = false := by cases d <;> first | rfl | cases h
theorem bet_yes {a b : Int} (h : betD d a b = true) : ∃ n, d = .int n ∧ a ≤ n ∧ n ≤ b := by
  cases d <;> first | (rw [bet_int, Bool.and_eq_true, decide_eq_true_eq, decide_eq_true_eq] at h; exact ⟨_, rfl, h.1, h.2⟩) | cases h
theorem int_yes (h : (isIntD d && !isBoolD d) = true) : ∃ n, d = .int n := by cases d <;> first | exact ⟨_, rfl⟩ | cases h
theorem dp_int {n : Int} (h : Dp K H v (.int n)) : v = .int n := by cases h; rfl
theorem dp_seq (h : Dp K H v d) (hs : isSeqD d = true) : ∃ (a : Addr) (xs : List V) (ds : List PyData), v = .ref a ∧ (SqL K H a xs ∨ SqT K H a xs) ∧ DpAll K H xs ds ∧ (d = .list ds ∨ d = .tuple ds) := by
  cases h with
  | lst h ha => exact ⟨_, _, _, rfl, .inl h, ha, .inl rfl⟩
  | tup h ha => exact ⟨_, _, _, rfl, .inr h, ha, .inr rfl⟩
  | _ => cases hs
theorem dp_tup (h : Dp K H v d) (hs : isTupD d = true) : ∃ (a : Addr) (xs : List V) (ds : List PyData), v = .ref a ∧ SqT K H a xs ∧ DpAll K H xs ds ∧ d = .tuple ds := by
  cases h with
  | tup h ha => exact ⟨_, _, _, rfl, h, ha, rfl⟩
  | _ => cases hs
end
/-! ### own methods, called -/
section
variable {X : Cx} {CX : CXT} {m : Str} {k : Nat} {ps : List Str} {sp : Sp} {e o : Expr} {es : List Expr} {t : TA} {ta : TE} {pos apos : Pos} {C : Addr}
theorem pe_ownM0 {pl : Sem Bool} (O : OwnM X.prog X.w X.K X.mg X.base CX C m k ps sp) (he : PE X o ta) (c : Cls X.K C) (hr : Room k X.A) (hx : Passes CX X E0)
    (ht : eval (.Call (.Attribute o m apos) [] [] pos) X.env = (do
      let ov ← eval o X.env
      standAt apos.atName
      let (f, first) ← holding [ov] (getMethod ov m pl)
      callWith pos f first (backTo pos (starEach [] X.env)) (backToKw pos (keywordEach [] X.env))) := by rfl) :
    PE X (.Call (.Attribute o m apos) [] [] pos) (tMeth C m sp [] E0 ta tNil) := by
  obtain ⟨f, fd, F, M, _, hb⟩ := O.ex
  exact pe_meth0 he c M F hr hb .nil hx ht
theorem pe_ownM {pl : Sem Bool} (O : OwnM X.prog X.w X.K X.mg X.base CX C m k ps sp) (he : PE X o ta) (c : Cls X.K C) (hr : Room k X.A) (hx : Passes CX X E0) (ha : PA X (e :: es) t)
    (hst : starEach (e :: es) X.env = (false, eval e X.env) :: starEach es X.env := by rfl) (hpl : (backTo pos (starEach es X.env)).any (·.1) = false := by rfl)
    (ht : eval (.Call (.Attribute o m apos) (e :: es) [] pos) X.env = (do
      let ov ← eval o X.env
      standAt apos.atName
      let (f, first) ← holding [ov] (getMethod ov m pl)
      callWith pos f first (backTo pos (starEach (e :: es) X.env)) (backToKw pos (keywordEach [] X.env))) := by rfl) :
    PE X (.Call (.Attribute o m apos) (e :: es) [] pos) (tMeth C m sp [] E0 ta t) := by
  obtain ⟨f, fd, F, M, _, hb⟩ := O.ex
  exact pe_meth he c M F hr hb .nil hx ha hst hpl ht
end
end L2

set_option Elab.async false
set_option maxRecDepth 100000
set_option maxHeartbeats 4000000
/-! defs that are handed the error that the suite holds; classes made with defaults -/
namespace L2
open PySem PySem.Spec PyProof.Rows
section
variable {X : Cx}
/-- isinstance(e, c), e the held error, anywhere that it is pinned -/
theorem call_isEP {a D : Addr} {cls : Value} {d : Option Addr} {oe : Obj} (hpn : (a, oe) ∈ X.pn) (C : ExcC X.K D) (hz : Zc cls d oe) (hf : ∃ vs, oe.data = .fields vs) : CallR X (.builtin "isinstance") (rIsED X.K D a cls d) := by
  intro pins s σ H xs us Q I r h
  obtain ⟨ec0, hdd, c, cv, b, rfl, hcv, e, q⟩ := h
  subst ec0
  cases r with
  | cons rx rr =>
    cases rr with
    | cons rt rr =>
      cases rr
      cases rx
      have ec := hcv _ rt
      subst ec
      obtain ⟨hget, _⟩ := I.pin (a, oe) (List.mem_append.mpr (.inl hpn))
      obtain ⟨vs, hv⟩ := hf
      have J : ∃ od, PySem.W.InstAt s.heap a oe D od := by
        obtain ⟨oc, od, oda, osl⟩ := oe
        obtain ⟨h1, h2⟩ := hz
        dsimp only at h1 h2 hv
        subst h1 h2 hv
        cases od with
        | none => exact ⟨none, hget, rfl, rfl, trivial⟩
        | some dd =>
          obtain ⟨fs, hfs⟩ := hdd dd rfl
          obtain ⟨mA, hns, _⟩ := (show ObjOk X.prog X.w H s.heap dd (.xd fs) from I.hok dd _ hfs)
          obtain ⟨od, ho, _⟩ := lookIn_ns hns
          exact ⟨some od, hget, rfl, rfl, ho⟩
      exact PySem.W.kia_one (PySem.W.kitx_excD C) I.kIn J e (fun z => nomatch z) fun tk => ⟨.bl b, H, I.kept (t' := tk) fun _ _ z => z, rfl, q⟩
/-- e.f of it -/
theorem pe_xfP {a C : Addr} {oe : Obj} {cls : Value} {d : Option Addr} {e : Expr} {te : TE} {pos : Pos} {n : Str} (hpn : (a, oe) ∈ X.pn) (T : XfC X.K C) (hno : PySem.W.findIn X.K (.ref C) n = some none)
    (hz : Zc cls d oe) (hf : ∃ vs, oe.data = .fields vs) (he : PE X e te) (hb : attributeBase e n X.env (eval e X.env) = eval e X.env := by rfl) :
    PE X (.Attribute e n pos) (tXf a cls d C n te) := by
  refine ⟨fun pins s σ H Q I h => attr_of hb (thn (he.run pins s σ H _ I h) fun u s1 hh => ?_)⟩
  obtain ⟨x, H1, I1, rx, ex, ec, dd, fs, v, ed, ea, l, q⟩ := hh
  subst ex ec ed
  obtain rfl : u = Value.ref a := rx
  obtain ⟨hget, _⟩ := I1.pin (a, oe) (List.mem_append.mpr (.inl hpn))
  obtain ⟨vs, hv⟩ := hf
  obtain ⟨mA, hns, hr⟩ := (show ObjOk X.prog X.w H1 s1.heap dd (.xd fs) from I1.hok dd _ ea)
  obtain ⟨od, ho, hl⟩ := lookIn_ns hns
  obtain ⟨uu, hu, ru⟩ := RelO.some_of (v := v) (o := mA n) (by rw [← l]; exact hr n)
  have ncls : PySem.W.notCls oe = true := by
    unfold PySem.W.notCls
    rw [hv] <;> rfl
  have J : PySem.W.InstAt s1.heap a oe C (some od) := ⟨hget, hz.1, ncls, by rw [hz.2]; exact ho⟩
  have fo := PySem.W.findObj_own T.hdC hno (od := od) rfl (by rw [hl, hu])
  exact HandSPX.exc_get I1.kIn J T.ga T.gg T.exC fo (handed_of ru) ⟨v, H1, I1.tok _, ru, q⟩
end
end L2
namespace L2H
open PySem PySem.Spec PyProof.Rows L2 HotX
/-- such a def: its promise speaks of the held error, too -/
structure FnE (P : Program) (w : World) (K : PySem.W.Frag) (mg : Str → Option Value) (base : Heap) (CX : CXT) (k : Nat) (f : Addr) (fd : FuncData) (ps : List Str) (sp : Addr × Obj → Sp) : Prop where
  len : ∀ p vs H Q E, sp p vs H Q E → vs.length = ps.length
  run : ∀ (p : Addr × Obj) (AA : Around) (outer : List Env) (sh : Shared) (H : Hp) (args : Args) (us : List Value) (vs : List V) (Q : VK) (E : XK), RoomH k AA → PinOk outer H sh p → Env0 P w K mg base AA outer sh H →
    BindsTo sh fd args (ps.zip us) → Vals vs us → sp p vs H Q E → codeAny (model P w) AA (.call (.ref f) args) (CR CX outer P w H sh Q E) sh
section
variable {CX : CXT} {P : Program} {w : World} {K : PySem.W.Frag} {mg : Str → Option Value} {base : Heap} {k : Nat} {f : Addr} {fd : FuncData} {x qual : Str} {st : Stmt} {N ps : List Str} {sp : Addr × Obj → Sp}
theorem fnE_of (F : Fun K x qual st f fd) (S : FnScope N ps (defScope st)) (len : ∀ p vs H Q E, sp p vs H Q E → vs.length = ps.length)
    (hbody : ∀ (p : Addr × Obj) (cdv : Value) (AA : Around) (outer : List Env) (sh : Shared) (H : Hp) (vs : List V) (Q : VK) (E : XK), RoomH k (AA.deeper (envOfC qual (defScope st) sh.heap.objs.size f cdv)) → sp p vs H Q E →
      ∃ t, PSs (cxH CX P w K mg base N qual (defScope st) f cdv AA outer sh H E p) (defBody st) t ∧ t { nx := fun _ H' => Q .non H', rt := Q } (L2.start N vs) H) : FnE P w K mg base CX (k + 1) f fd ps sp := by
  obtain ⟨oc, od, kV, doc, pm, an, cdv, ct, osl, rfl, lk, hcd⟩ := F.ex
  refine ⟨len, fun p AA outer sh H args us vs Q E hr hpin e0 hb r hsp => ?_⟩
  have hl := len _ _ _ _ _ hsp
  have KX : K.In sh.heap := e0.mod.kin.keeps fun b o e => (e0.bs b o e).1
  have lim : sh.heap.NoLimit := e0.mod.nolimit.keeps fun b o e => (e0.bs b o e).1
  have binds : ∀ y ∈ ps.zip us, (defScope st).names.lookup y.1 = some .local ∨ ((defScope st).names.lookup y.1 = some .cell ∧ ((cellsFrom (sh.heap.objs.size + 1) (defScope st).names []).lookup y.1).isSome = true) := by
    rintro ⟨n, v⟩ hy
    rcases S.par n (List.of_mem_zip hy).1 with q | q
    · exact .inl q
    · exact .inr ⟨q, PySem.W.cellsFrom_some _ _ _ (.inl q)⟩
  refine codeAny_call_function hr.depth (KX _ _ lk) rfl S.co S.gen rfl (PySem.W.codeRec_of KX hcd) (hb _ _ _ _ ?_)
  refine wpAny_newFunctionEnv_cells S.kind binds fun env he s1 xx => ?_
  subst he
  refine ⟨lim.keeps xx.toInCall.keep, codeAny_func ?_⟩
  obtain ⟨t, ht, hq⟩ := hbody p cdv AA outer sh H vs Q E (hr.deeper _) hsp
  have I := inv_startH (CX := CX) (E := E) S hpin e0 hl r xx
  refine wpAny_mono (ht.run [] s1 (L2.start N vs) H _ I hq) (fun fl s' hs => ?_) fun _ _ hs => hs
  cases fl with
  | ret u =>
    obtain ⟨v, σ', H', J, rv, q⟩ := hs
    exact ⟨v, H', J.os, J.bare, J.base, J.hok, rv, q⟩
  | next =>
    obtain ⟨σ', H', J, q⟩ := hs
    exact ⟨V.non, H', J.os, J.bare, J.base, J.hok, rfl, q⟩
  | brk =>
    obtain ⟨_, _, _, q⟩ := hs
    exact q.elim
  | cont =>
    obtain ⟨_, _, _, q⟩ := hs
    exact q.elim
end
section
variable {X : Cx} {CX : CXT} {k : Nat} {f : Addr} {fd : FuncData} {ps : List Str} {sp : Addr × Obj → Sp} {x : Str} {q pos : Pos} {e : Expr} {es : List Expr} {t : TA} {p : Addr × Obj}
/-- f(e, ..) in the suite that holds p -/
theorem pe_callE (F : FnE X.prog X.w X.K X.mg X.base CX k f fd ps sp) (hr : RoomH k X.A) (hp : p ∈ X.pn) (hg : Gl X x) (hm : X.mg x = some (.ref f)) (hk : PySem.W.keepIn X.K (.ref f) = true) (hb : Binds X.K fd ps []) (hx : Passes CX X E0)
    (ha : PA X (e :: es) t) (hdb : (x == ("__debug__" : Str)) = false := by decide) (he : starEach (e :: es) X.env = (false, eval e X.env) :: starEach es X.env := by rfl) (hpl : (backTo pos (starEach es X.env)).any (·.1) = false := by rfl) :
    PE X (.Call (.Name x q) (e :: es) [] pos) (tCall (sp p) [] E0 t) := by
  refine ⟨fun pins s σ H Q I h => wpAny_Call_Name_kw (ld_glob I hg hm ?_ hdb)⟩
  refine PySem.W.callWith_K (h₀ := X.base) I.ok.mod.kin hk (thn (ha.run pos pins s σ H _ I h) fun us s1 ⟨vs, H1, I1, r, hsp⟩ => ⟨I1.kIn, ?_⟩) he hpl
  have hsp : sp p vs H1 Q E0 := by
    have z : sp p (vs ++ []) H1 Q E0 := hsp
    rwa [List.append_nil] at z
  have hl : us.length = ps.length := by
    rw [← r.length]
    exact F.len _ _ _ _ _ hsp
  have bd := hb s1 us I1.kIn (by rw [List.append_nil]; exact hl)
  rw [List.append_nil] at bd
  have P1 := I1.pin p (List.mem_append.mpr (.inl hp))
  have hpin : PinOk X.stack H1 s1 p := ⟨P1.1, P1.2.1, fun hm => (List.mem_cons.mp (I1.stkSub p.1 hm)).elim P1.2.2.1 P1.2.2.2.1, P1.2.2.2.2⟩
  refine wpAny_call (codeAny_mono (F.run p X.A X.stack s1 H1 ⟨us, []⟩ us vs Q E0 hr hpin I1.env0 bd r hsp) fun rr s' hq => ?_)
  match rr, hq with
  | .error ee, hq => exact hx pins σ H1 s1 ee s' I1 hq
  | .ok (.ret u), hq => exact I1.after hq
  | .ok .next, hq => exact hq.elim
  | .ok .brk, hq => exact hq.elim
  | .ok .cont, hq => exact hq.elim
end
end L2H
namespace L2
open PySem PySem.Spec PyProof.Rows
/-- a class of the top whose __init__ has defaults, dvs those that fill up -/
structure OwnCD (P : Program) (w : World) (K : PySem.W.Frag) (mg : Str → Option Value) (base : Heap) (CX : CXT) (x : Str) (C : Addr) (k : Nat) (ps : List Str) (sp : Sp) (dvs : List V) : Prop where
  ex : ∃ (f : Addr) (fd : FuncData) (ds : List Value), FnOk P w K mg base CX k f fd ps sp ∧ Mk K C f ∧ mg x = some (.ref C) ∧ Binds K fd ps ds ∧ Vals dvs ds
section
variable {X : Cx} {CX : CXT} {x : Str} {k : Nat} {ps : List Str} {sp : Sp} {e : Expr} {es : List Expr} {t : TA} {p pos : Pos} {C : Addr} {dvs : List V}
theorem pe_newD (O : OwnCD X.prog X.w X.K X.mg X.base CX x C k ps sp dvs) (hr : Room (k + 1) X.A) (hx : Passes CX X E0) (ha : PA X (e :: es) t) (hg : Gl X x := by rfl) (hdb : (x == ("__debug__" : Str)) = false := by decide)
    (he : starEach (e :: es) X.env = (false, eval e X.env) :: starEach es X.env := by rfl) (hpl : (backTo pos (starEach es X.env)).any (·.1) = false := by rfl) : PE X (.Call (.Name x p) (e :: es) [] pos) (tMake C sp dvs E0 t) := by
  obtain ⟨f, fd, ds, F, M, hm, hb, hv⟩ := O.ex
  exact pe_make M F hr hg hm hb hv hx ha hdb he hpl
end
end L2

set_option Elab.async false
set_option maxRecDepth 100000
set_option maxHeartbeats 4000000
/-! a op b op c op d -/
namespace L2
open PySem PySem.Spec PyProof.Rows
def tCh3 (r r' r2 : R2) (ta tb tc td : TE) : TE := fun σ H Q => ta σ H fun x H1 => tb σ H1 fun y H2 => r x y H2 fun z H3 => ∃ k, z = .bl k ∧
  (if k = true then tc σ H3 fun u H4 => r' y u H4 fun z' H5 => ∃ k', z' = .bl k' ∧ (if k' = true then td σ H5 fun v H6 => r2 u v H6 Q else Q (.bl false) H5) else Q (.bl false) H3)
section
variable {X : Cx} {a b c d : Expr} {pos : Pos} {ta tb tc td : TE} {op op' op2 : CmpOp} {r r' r2 : R2}
theorem pe_chain3 (ho : OpR X (compareOp op) r) (ho' : OpR X (compareOp op') r') (ho2 : OpR X (compareOp op2) r2) (ha : PE X a ta) (hb : PE X b tb) (hc : PE X c tc) (hd : PE X d td)
    (hm : lastMarks [op, op', op2] [b, c, d] = false := by with_unfolding_all rfl) : PE X (.Compare a [op, op', op2] [b, c, d] pos) (tCh3 r r' r2 ta tb tc td) := by
  refine ⟨fun pins s σ H Q I h => ?_⟩
  refine Compare_chain (thn (ha.run pins s σ H _ I h) fun v s1 ⟨x, H1, I1, r1, q1⟩ => chain_link (thn (hb.run pins s1 σ H1 _ I1 q1) fun u s2 ⟨y, H2, I2, r2', q2⟩ =>
    thn (ho pins s2 σ H2 x y v u _ I2 r1 r2' q2) fun e s3 ⟨z, H3, I3, r3, k, ez, q3⟩ => ?_)) hm
  subst ez
  cases r3
  refine wpAny_truthy_bool ?_
  cases k with
  | false => exact ite_ff ⟨.bl false, H3, I3, rfl, q3⟩
  | true =>
    refine ite_tt (chain_link (thn (hc.run pins s3 σ H3 _ I3 q3) fun u2 s4 ⟨z4, H4, I4, r4, q4⟩ => thn (ho' pins s4 σ H4 y z4 u u2 _ I4 r2' r4 q4) fun e5 s5 ⟨z5, H5, I5, r5, k5, ez5, q5⟩ => ?_))
    subst ez5
    cases r5
    refine wpAny_truthy_bool ?_
    cases k5 with
    | false => exact ite_ff ⟨.bl false, H5, I5, rfl, q5⟩
    | true => exact ite_tt (chain_last (thn (hd.run pins s5 σ H5 _ I5 q5) fun u6 s6 ⟨z6, H6, I6, r6, q6⟩ => ho2 pins s6 σ H6 z4 z6 u2 u6 Q I6 r4 r6 q6))
theorem pt_chain3 (ho : OpR X (compareOp op) r) (ho' : OpR X (compareOp op') r') (ho2 : OpR X (compareOp op2) r2) (ha : PE X a ta) (hb : PE X b tb) (hc : PE X c tc) (hd : PE X d td)
    (hm : lastMarks [op, op', op2] [b, c, d] = false := by with_unfolding_all rfl) : PT X (.Compare a [op, op', op2] [b, c, d] pos) (tTest (tCh3 r r' r2 ta tb tc td)) := by
  refine ⟨fun pins s σ H Q I h => ?_⟩
  refine isTrue_chain (thn (ha.run pins s σ H _ I h) fun v s1 ⟨x, H1, I1, r1, q1⟩ => test_link (thn (hb.run pins s1 σ H1 _ I1 q1) fun u s2 ⟨y, H2, I2, r2', q2⟩ =>
    thn (ho pins s2 σ H2 x y v u _ I2 r1 r2' q2) fun e s3 ⟨z, H3, I3, r3, k, ez, q3⟩ => ?_)) hm
  subst ez
  cases r3
  refine wpAny_truthy_bool ?_
  cases k with
  | false =>
    obtain ⟨k', e', q'⟩ := q3
    cases e'
    exact ite_ff ⟨H3, I3, q'⟩
  | true =>
    refine ite_tt (test_link (thn (hc.run pins s3 σ H3 _ I3 q3) fun u2 s4 ⟨z4, H4, I4, r4, q4⟩ => thn (ho' pins s4 σ H4 y z4 u u2 _ I4 r2' r4 q4) fun e5 s5 ⟨z5, H5, I5, r5, k5, ez5, q5⟩ => ?_))
    subst ez5
    cases r5
    refine wpAny_truthy_bool ?_
    cases k5 with
    | false =>
      obtain ⟨k', e', q'⟩ := q5
      cases e'
      exact ite_ff ⟨H5, I5, q'⟩
    | true =>
      refine ite_tt (test_last (thn (hd.run pins s5 σ H5 _ I5 q5) fun u6 s6 ⟨z6, H6, I6, r6, q6⟩ => thn (ho2 pins s6 σ H6 z4 z6 u2 u6 _ I6 r4 r6 q6) fun e7 s7 ⟨z7, H7, I7, r7, k7, ez7, q7⟩ => ?_))
      subst ez7
      cases r7
      exact wpAny_truthy_bool ⟨H7, I7, q7⟩
end
end L2
namespace L2
open PySem PySem.Spec PyProof.Rows
def numV : V → Bool | .int _ => true | _ => false
section
variable {K : PySem.W.Frag} {σ : St} {H : Hp} {p : Addr} {xs : List V} {te : TE} {tt : TT} {j : Nat} {vs : List Nat} {Q : VK} {v : V} {d : PyData}
theorem num_dp (h : Dp K H v d) : (isIntD d && !isBoolD d) = numV v := by cases h <;> rfl
theorem non_dp (h : Dp K H v d) : decide (v = .non) = isNoneD d := by cases h <;> simp [isNoneD]
/-- [f(x) for x in xs if b(x)] over a list or a tuple wherever it stands, what is tested and made only adding to the heap -/
theorem lc_sqG {Qd : Addr → Hp → Prop} {f : V → V} {b : V → Bool} (hx : SqL K H p xs ∨ SqT K H p xs) (hz : xs.length < sizeLine) (hw : ∀ x, wipe ((wipe σ vs).set j (some x)) vs = wipe σ vs)
    (ht : ∀ x ∈ xs, ∀ H', Ext H H' → ∀ Q : Bool → Hp → Prop, (∀ H'', Ext H' H'' → Q (b x) H'') → tt ((wipe σ vs).set j (some x)) H' Q)
    (he : ∀ x ∈ xs, b x = true → ∀ H', Ext H H' → ∀ Q : VK, (∀ H'', Ext H' H'' → Q (f x) H'') → te ((wipe σ vs).set j (some x)) H' Q)
    (q : ∀ D H', H D = none → Ext H H' → H' D = some (.lst ((xs.filter b).map f)) → Qd D H') :
    ((∃ xs, SqL K H p xs) ∧ (fun J H1 => ∀ D, H1 D = none → ∃ W : Nat → Nat → Hp → Prop, (∃ m, W 0 m (upd H1 D (.lst []))) ∧ ∀ i m H, W i m H →
      (J.stop i H ∧ Qd D H) ∨ (J.go i H ∧ ∃ Nx : Hp → Prop, (∀ H', Nx H' → ∃ m', m' < m ∧ W (i + 1) m' H') ∧ ∀ x H', J.yld i H x H' → gName j x (wipe σ vs) H' fun σ2 H2 => wipe σ2 vs = wipe σ vs ∧ tt σ2 H2 fun b H3 =>
        if b = true then te σ2 H3 fun y H4 => ∃ acc, H4 D = some (.lst acc) ∧ acc.length < sizeLine ∧ Nx (upd H4 D (.lst (acc ++ [y]))) else Nx H3)) (Itl K p) H) ∨
    ((∃ xs, SqT K H p xs) ∧ (fun J H1 => ∀ D, H1 D = none → ∃ W : Nat → Nat → Hp → Prop, (∃ m, W 0 m (upd H1 D (.lst []))) ∧ ∀ i m H, W i m H →
      (J.stop i H ∧ Qd D H) ∨ (J.go i H ∧ ∃ Nx : Hp → Prop, (∀ H', Nx H' → ∃ m', m' < m ∧ W (i + 1) m' H') ∧ ∀ x H', J.yld i H x H' → gName j x (wipe σ vs) H' fun σ2 H2 => wipe σ2 vs = wipe σ vs ∧ tt σ2 H2 fun b H3 =>
        if b = true then te σ2 H3 fun y H4 => ∃ acc, H4 D = some (.lst acc) ∧ acc.length < sizeLine ∧ Nx (upd H4 D (.lst (acc ++ [y]))) else Nx H3)) (Itt K p) H) := by
  have turn : ∀ (D : Addr), H D = none → ∀ i x H', xs[i]? = some x → (Ext H H' ∧ H' D = some (.lst (((xs.take i).filter b).map f))) → gName j x (wipe σ vs) H' fun σ2 H2 => wipe σ2 vs = wipe σ vs ∧ tt σ2 H2 fun b' H3 =>
      if b' = true then te σ2 H3 fun y H4 => ∃ acc, H4 D = some (.lst acc) ∧ acc.length < sizeLine ∧ (Ext H (upd H4 D (.lst (acc ++ [y]))) ∧ upd H4 D (.lst (acc ++ [y])) D = some (.lst (((xs.take (i + 1)).filter b).map f))) else (Ext H H3 ∧ H3 D = some (.lst (((xs.take (i + 1)).filter b).map f))) := by
    intro D hD i x H' hi pv
    obtain ⟨e, hl⟩ := pv
    have hm : x ∈ xs := List.mem_of_getElem? hi
    refine ⟨hw x, ht x hm H' e _ fun H3 e3 => ?_⟩
    have hl3 : H3 D = some (.lst (((xs.take i).filter b).map f)) := e3 _ _ hl
    cases hb : b x with
    | true =>
      refine iteT (he x hm hb H3 (e.trans e3) _ fun H4 e4 => ⟨_, e4 _ _ hl3, ?_, ext_mut ((e.trans e3).trans e4) hD, ?_⟩)
      · rw [List.length_map]
        refine Nat.lt_of_le_of_lt (Nat.le_trans (List.length_filter_le _ _) ?_) hz
        exact List.length_take_le' _ _
      · rw [upd_same, take_snoc hi, List.filter_append, List.map_append]
        simp [hb]
    | false =>
      refine iteF ⟨e.trans e3, ?_⟩
      rw [hl3, take_snoc hi, List.filter_append, List.map_append]
      simp [hb]
  have fin : ∀ D, H D = none → ∀ H', (Ext H H' ∧ H' D = some (.lst (((xs.take xs.length).filter b).map f))) → Qd D H' := fun D hD H' pv => by
    rw [List.take_length] at pv
    exact q D H' hD pv.1 pv.2
  rcases hx with hx | hx
  · refine .inl ⟨⟨xs, hx⟩, fun D hD => lc_list (xs := xs) (fun i H' => Ext H H' ∧ H' D = some (.lst (((xs.take i).filter b).map f))) ⟨Ext.upd hD, upd_same⟩ (fun i H' _ pv => hx.ext pv.1) (fun i x H' hi pv => turn D hD i x H' hi pv) (fun H' pv => fin D hD H' pv)⟩
  · refine .inr ⟨⟨xs, hx⟩, fun D hD => lc_tup (xs := xs) (fun i H' => Ext H H' ∧ H' D = some (.lst (((xs.take i).filter b).map f))) ⟨Ext.upd hD, upd_same⟩ (fun i H' _ pv => hx.ext pv.1) (fun i x H' hi pv => turn D hD i x H' hi pv) (fun H' pv => fin D hD H' pv)⟩
end
end L2

set_option Elab.async false
set_option maxRecDepth 100000
set_option maxHeartbeats 4000000
namespace L2
open PySem PySem.Spec PyProof.Rows
section
variable {X : Cx} {m : Str} {k : Nat} {ps : List Str} {sp : Sp} {e o : Expr} {es : List Expr} {t : TA} {ta : TE} {pos apos : Pos} {C : Addr} {W : WX}
/-- o.m(e, ..) that may raise; W is wished for what it raises -/
theorem pe_ownMS {pl : Sem Bool} (O : OwnM X.prog X.w X.K X.mg X.base (L2.CX X.prog X.w) C m k ps sp) (he : PE X o ta) (c : Cls X.K C) (hr : Room k X.A) (tk : Takes X W) (ha : PA X (e :: es) t)
    (hst : starEach (e :: es) X.env = (false, eval e X.env) :: starEach es X.env := by rfl) (hpl : (backTo pos (starEach es X.env)).any (·.1) = false := by rfl)
    (ht : eval (.Call (.Attribute o m apos) (e :: es) [] pos) X.env = (do
      let ov ← eval o X.env
      standAt apos.atName
      let (f, first) ← holding [ov] (getMethod ov m pl)
      callWith pos f first (backTo pos (starEach (e :: es) X.env)) (backToKw pos (keywordEach [] X.env))) := by rfl) :
    PE X (.Call (.Attribute o m apos) (e :: es) [] pos) (tMethSD C m sp [] (WE W) ta t) := by
  obtain ⟨f, fd, F, M, _, hb⟩ := O.ex
  exact pe_methSD he c M F hr hb .nil (fun σ => passAt tk σ) ha hst hpl ht
theorem PE.imp {ex : Expr} {t1 t2 : TE} (h : PE X ex t1) (i : ∀ σ H Q, t2 σ H Q → t1 σ H Q) : PE X ex t2 := ⟨fun pins s σ H Q I z => h.run pins s σ H Q I (i σ H Q z)⟩
end
end L2

set_option Elab.async false
set_option linter.all false
set_option maxRecDepth 100000
set_option maxHeartbeats 4000000
/-! tuples of own objects, compared by their own ==, whichever the answer -/
namespace GQ
open PySem PySem.SeqAt
open AutoSeq1 (wpAny_loadPart')
open MeetsSeq MeetsSeq2 MeetsSeq3 SeqRoads2
section
variable {prog : Program} {w : World} {A : Around} {R : Result → Shared → Prop}
/-- the places one by one: I goes on, J at the first two that differ -/
theorem tup_eqB (la lb : Addr) (xs ys : Array Value) (n n2 : Nat) (dd dd2 : Option Addr) (sl sl2 : Array (Option Value)) (hsz : xs.size = ys.size) (I : Nat → Shared → Prop) (J : Shared → Prop)
    (turn : ∀ i (h1 : i < xs.size) (h2 : i < ys.size) s, I i s → wpAny (model prog w) A.in1 (eqBool xs[i] ys[i]) (fun r s' => (r = true ∧ I (i + 1) s') ∨ (r = false ∧ J s')) (fun e s' => R (.error e) s') s)
    (finT : ∀ s, I xs.size s → R (.ok (.ret (.bool true))) s) (finF : ∀ s, J s → R (.ok (.ret (.bool false))) s) {s : Shared}
    (hla : s.heap.get? la = some { cls := .type "tuple", dict := dd, data := .seq xs n, slots := sl }) (hlb : s.heap.get? lb = some { cls := .type "tuple", dict := dd2, data := .seq ys n2, slots := sl2 }) (h : I 0 s) :
    wpAny (model prog w) A.in1 (Builtin.«tuple.__eq__» ⟨[.ref la, .ref lb], []⟩) (FinOf prog w A R) (fun e s' => R (.error e) s') s := by
  have f2 := AutoSeq1.sub_tuple_tuple
  have hZ : (xs.toList.zip ys.toList).length = xs.size := by simp [hsz]
  have h0 := h
  obtain ⟨hp, g, d, tk, os⟩ := s
  wp_walk using wpAny_loadPart' hla, wpAny_loadPart' hlb, wpAny_forIn_list _ (fun rest b s' => b.1 = none ∧ ∃ i, rest = (xs.toList.zip ys.toList).drop i ∧ i ≤ xs.size ∧ I i s') _
  case turn =>
    rintro ⟨y, x⟩ rest b s' ⟨hb', i, hz, hi, hI⟩
    have hlt : i < (xs.toList.zip ys.toList).length := by
      rcases Nat.lt_or_ge i (xs.toList.zip ys.toList).length with h' | h'
      · exact h'
      · rw [List.drop_of_length_le h'] at hz
        cases hz
    have h1 : i < xs.size := hZ ▸ hlt
    have h2 : i < ys.size := hsz ▸ h1
    rw [List.drop_eq_getElem_cons hlt] at hz
    injection hz with hyx hrest
    have hy : y = xs[i] := by
      have q := congrArg Prod.fst hyx
      simpa using q
    have hx : x = ys[i] := by
      have q := congrArg Prod.snd hyx
      simpa using q
    subst hy hx
    refine wpAny_bind (wpAny_mono (turn i h1 h2 s' hI) (fun r s2 q2 => ?_) fun _ _ x => x)
    rcases q2 with ⟨hr, q2⟩ | ⟨hr, q2⟩
    · subst hr
      wp_walk
      exact ⟨rfl, i + 1, hrest, h1, q2⟩
    · subst hr
      have hR : R (.ok (.ret (.bool false))) s2 := finF s2 q2
      wp_walk
      exact hR
  case fin =>
    rintro ⟨b1, b2⟩ s' ⟨hb', i, hz, hi, hI⟩
    simp only at hb'
    subst hb'
    have hge : xs.size ≤ i := by
      rcases Nat.lt_or_ge i (xs.toList.zip ys.toList).length with h' | h'
      · rw [List.drop_eq_getElem_cons h'] at hz
        cases hz
      · exact hZ ▸ h'
    have hi' : i = xs.size := by omega
    have hR : R (.ok (.ret (.bool true))) s' := finT s' (hi' ▸ hI)
    wp_walk
    simpa [Builtin.Tuple.tupleCompareSizes, hsz] using hR
  case h =>
    exact ⟨rfl, 0, rfl, Nat.zero_le _, h0⟩
/-- the same for != -/
theorem tup_neB (la lb : Addr) (xs ys : Array Value) (n n2 : Nat) (dd dd2 : Option Addr) (sl sl2 : Array (Option Value)) (hsz : xs.size = ys.size) (I : Nat → Shared → Prop) (J : Shared → Prop)
    (turn : ∀ i (h1 : i < xs.size) (h2 : i < ys.size) s, I i s → wpAny (model prog w) A.in1 (eqBool xs[i] ys[i]) (fun r s' => (r = true ∧ I (i + 1) s') ∨ (r = false ∧ J s')) (fun e s' => R (.error e) s') s)
    (finT : ∀ s, I xs.size s → R (.ok (.ret (.bool false))) s) (finF : ∀ s, J s → R (.ok (.ret (.bool true))) s) {s : Shared}
    (hla : s.heap.get? la = some { cls := .type "tuple", dict := dd, data := .seq xs n, slots := sl }) (hlb : s.heap.get? lb = some { cls := .type "tuple", dict := dd2, data := .seq ys n2, slots := sl2 }) (h : I 0 s) :
    wpAny (model prog w) A.in1 (Builtin.«tuple.__ne__» ⟨[.ref la, .ref lb], []⟩) (FinOf prog w A R) (fun e s' => R (.error e) s') s := by
  have f2 := AutoSeq1.sub_tuple_tuple
  have hZ : (xs.toList.zip ys.toList).length = xs.size := by simp [hsz]
  have h0 := h
  obtain ⟨hp, g, d, tk, os⟩ := s
  wp_walk using wpAny_loadPart' hla, wpAny_loadPart' hlb, wpAny_forIn_list _ (fun rest b s' => b.1 = none ∧ ∃ i, rest = (xs.toList.zip ys.toList).drop i ∧ i ≤ xs.size ∧ I i s') _
  case turn =>
    rintro ⟨y, x⟩ rest b s' ⟨hb', i, hz, hi, hI⟩
    have hlt : i < (xs.toList.zip ys.toList).length := by
      rcases Nat.lt_or_ge i (xs.toList.zip ys.toList).length with h' | h'
      · exact h'
      · rw [List.drop_of_length_le h'] at hz
        cases hz
    have h1 : i < xs.size := hZ ▸ hlt
    have h2 : i < ys.size := hsz ▸ h1
    rw [List.drop_eq_getElem_cons hlt] at hz
    injection hz with hyx hrest
    have hy : y = xs[i] := by
      have q := congrArg Prod.fst hyx
      simpa using q
    have hx : x = ys[i] := by
      have q := congrArg Prod.snd hyx
      simpa using q
    subst hy hx
    refine wpAny_bind (wpAny_mono (turn i h1 h2 s' hI) (fun r s2 q2 => ?_) fun _ _ x => x)
    rcases q2 with ⟨hr, q2⟩ | ⟨hr, q2⟩
    · subst hr
      wp_walk
      exact ⟨rfl, i + 1, hrest, h1, q2⟩
    · subst hr
      have hR : R (.ok (.ret (.bool true))) s2 := finF s2 q2
      wp_walk
      exact hR
  case fin =>
    rintro ⟨b1, b2⟩ s' ⟨hb', i, hz, hi, hI⟩
    simp only at hb'
    subst hb'
    have hge : xs.size ≤ i := by
      rcases Nat.lt_or_ge i (xs.toList.zip ys.toList).length with h' | h'
      · rw [List.drop_eq_getElem_cons h'] at hz
        cases hz
      · exact hZ ▸ h'
    have hi' : i = xs.size := by omega
    have hR : R (.ok (.ret (.bool false))) s' := finT s' (hi' ▸ hI)
    wp_walk
    simpa [Builtin.Tuple.tupleCompareSizes, bne, hsz] using hR
  case h =>
    exact ⟨rfl, 0, rfl, Nat.zero_le _, h0⟩
end
end GQ
namespace GQ
open PySem PySem.SeqAt
section
variable {prog : Program} {w : World} {A : Around} {E : Value → Shared → Prop} {s : Shared}
theorem rc_tupB {la lb : Addr} {xs ys : Array Value} {Q : Value → Shared → Prop} (hsz : xs.size = ys.size) (hu : A.units < cLine) (I : Nat → Shared → Prop) (J : Shared → Prop) (hla : s.heap.IsTuple la xs) (hlb : s.heap.IsTuple lb ys)
    (turn : ∀ i (h1 : i < xs.size) (h2 : i < ys.size) s, I i s → wpAny (model prog w) A.in1 (eqBool xs[i] ys[i]) (fun r s' => (r = true ∧ I (i + 1) s') ∨ (r = false ∧ J s')) E s)
    (finT : ∀ s, I xs.size s → Q (.bool true) s) (finF : ∀ s, J s → Q (.bool false) s) (h : I 0 s) : wpAny (model prog w) A (richCompare .Eq (.ref la) (.ref lb)) Q E s := by
  obtain ⟨⟨cls, dd, data, sl⟩, ho, hc, n, hd⟩ := id hla
  obtain ⟨⟨cls2, dd2, data2, sl2⟩, ho2, hc2, n2, hd2⟩ := id hlb
  simp only at hc hd hc2 hd2
  subst hc hd hc2 hd2
  refine wpAny_richCompare_same_room (op := .Eq) ⟨_, ho, rfl⟩ ⟨_, ho2, rfl⟩ F.slot_tuple_eq (call_here F.slot_tuple_eq ⟨_, ho, rfl⟩ F.entry_tuple_eq (F.args_tuple_eq_2 _ _) ?_) hu
  exact tup_eqB (R := wants (fun v s' => v ≠ .notImplemented ∧ Q v s') E) la lb xs ys n n2 dd dd2 sl sl2 hsz I J turn (fun s' q => ⟨(fun x => nomatch x), finT s' q⟩) (fun s' q => ⟨(fun x => nomatch x), finF s' q⟩) ho ho2 h
theorem rc_tupNB {la lb : Addr} {xs ys : Array Value} {Q : Value → Shared → Prop} (hsz : xs.size = ys.size) (hu : A.units < cLine) (I : Nat → Shared → Prop) (J : Shared → Prop) (hla : s.heap.IsTuple la xs) (hlb : s.heap.IsTuple lb ys)
    (turn : ∀ i (h1 : i < xs.size) (h2 : i < ys.size) s, I i s → wpAny (model prog w) A.in1 (eqBool xs[i] ys[i]) (fun r s' => (r = true ∧ I (i + 1) s') ∨ (r = false ∧ J s')) E s)
    (finT : ∀ s, I xs.size s → Q (.bool false) s) (finF : ∀ s, J s → Q (.bool true) s) (h : I 0 s) : wpAny (model prog w) A (richCompare .NotEq (.ref la) (.ref lb)) Q E s := by
  obtain ⟨⟨cls, dd, data, sl⟩, ho, hc, n, hd⟩ := id hla
  obtain ⟨⟨cls2, dd2, data2, sl2⟩, ho2, hc2, n2, hd2⟩ := id hlb
  simp only at hc hd hc2 hd2
  subst hc hd hc2 hd2
  refine wpAny_richCompare_same_room (op := .NotEq) ⟨_, ho, rfl⟩ ⟨_, ho2, rfl⟩ F.slot_tuple_ne (call_here F.slot_tuple_ne ⟨_, ho, rfl⟩ F.entry_tuple_ne (F.args_tuple_ne_2 _ _) ?_) hu
  exact tup_neB (R := wants (fun v s' => v ≠ .notImplemented ∧ Q v s') E) la lb xs ys n n2 dd dd2 sl sl2 hsz I J turn (fun s' q => ⟨(fun x => nomatch x), finT s' q⟩) (fun s' q => ⟨(fun x => nomatch x), finF s' q⟩) ho ho2 h
end
end GQ
namespace L2
open PySem PySem.Spec PyProof.Rows
/-- how two values compare, by the abstract heap -/
abbrev EqvB := V → V → Hp → Bool → Prop
def MonB (D : EqvB) : Prop := ∀ x y H H' k, Ext H H' → D x y H k → D x y H' k
def EqB (X : Cx) (n : Nat) (D : EqvB) : Prop :=
  ∀ (A : Around) (pins : List (Addr × Obj)) (s : Shared) (σ : St) (H : Hp) (x y : V) (u v : Value) (k : Bool), Sub X n A → Inv X pins σ H s → RelV x u → RelV y v → D x y H k →
    wpAny (model X.prog X.w) A (eqBool u v) (fun r s' => r = k ∧ ∃ H', Inv X pins σ H' s' ∧ Ext H H') X.xe s
def RcB (X : Cx) (n : Nat) (D : EqvB) : Prop :=
  ∀ (A : Around) (pins : List (Addr × Obj)) (s : Shared) (σ : St) (H : Hp) (x y : V) (u v : Value) (k : Bool), Sub X n A → Inv X pins σ H s → RelV x u → RelV y v → D x y H k →
    wpAny (model X.prog X.w) A (richCompare .Eq u v) (fun r s' => r = .bool k ∧ ∃ H', Inv X pins σ H' s' ∧ Ext H H') X.xe s
section
variable {X : Cx} {n : Nat} {D : EqvB}
/-- instances of the class at C -/
def DInsB (C : Addr) (R : Addr → Addr → Hp → Bool → Prop) : EqvB := fun x y H k => ∃ a b dx dy fs gs, x = .ref a ∧ y = .ref b ∧ H a = some (.ins C dx fs) ∧ H b = some (.ins C dy gs) ∧ R a b H k
def spEqB (R : Addr → Addr → Hp → Bool → Prop) : Sp := fun vs H Q _ => ∃ a b k, vs = [.ref a, .ref b] ∧ R a b H k ∧ ∀ H', Ext H H' → Q (.bl k) H'
theorem rcB_ins {CX : CXT} {C f : Addr} {fd : FuncData} {ps : List Str} {R : Addr → Addr → Hp → Bool → Prop} {E : XK} (F : FnOk X.prog X.w X.K X.mg X.base CX n f fd ps (spEqB R))
    (hs : PySem.W.findIn X.K (.ref C) "__eq__" = some (some (.ref f))) (hf : PySem.W.isFn X.K (.ref f) = true) (hb : Binds X.K fd ps []) (hx : Passes CX X E) : RcB X n (DInsB C R) := by
  intro A pins s σ H x y u v k sb I rx ry d
  obtain ⟨a, b, dx, dy, fs, gs, rfl, rfl, ha, hb', hr⟩ := d
  cases rx
  cases ry
  obtain ⟨mA, J, _⟩ := ins_get I.hok ha
  obtain ⟨mB, J', _⟩ := ins_get I.hok hb'
  obtain ⟨od, J, _⟩ := J.look
  obtain ⟨od', J', _⟩ := J'.look
  obtain ⟨m, hF⟩ := I.fr
  refine PySem.W.cmp_K (op := .Eq) (tb := .ref C) sb.room.units0 hF I.ok.mod.kin J J'.type (by simp [PySem.W.notFirst]) hs hf ?_
  have hsp : spEqB R [.ref a, .ref b] H (fun v H' => v = .bl k ∧ Ext H H') E := ⟨a, b, k, rfl, hr, fun H' e => ⟨rfl, e⟩⟩
  have e1 := I.env0
  have e0 : Env0 X.prog X.w X.K X.mg X.base A X.stack s H := ⟨by rw [sb.fr]; exact e1.frames, e1.mod, e1.bs, e1.bsz, e1.funs, e1.frf, e1.hok, e1.bare⟩
  have hl := F.len _ _ _ _ hsp
  have bd := hb s [.ref a, .ref b] I.kIn (by simpa using hl)
  have bd' : BindsTo s fd ⟨[.ref a, .ref b], []⟩ (ps.zip [.ref a, .ref b]) := by simpa using bd
  refine wpAny_call (codeAny_mono (F.run A X.stack s H ⟨[.ref a, .ref b], []⟩ [.ref a, .ref b] [.ref a, .ref b] _ E sb.room e0 bd' (.cons rfl (.cons rfl .nil)) hsp) fun r s' hq => ?_)
  match r, hq with
  | .error e, hq => exact hx pins σ H s e s' I hq
  | .ok (.ret z), hq =>
    obtain ⟨zv, H', I', rz, ez, ex⟩ := I.after hq
    subst ez
    cases rz
    exact ⟨rfl, H', I', ex⟩
  | .ok .next, hq => exact hq.elim
  | .ok .brk, hq => exact hq.elim
  | .ok .cont, hq => exact hq.elim
/-- within a tuple: the same object is equal to itself -/
theorem RcB.eqB (h : RcB X n D) (hr : ∀ x y H k, D x y H k → ∃ a b, x = .ref a ∧ y = .ref b ∧ (a = b → k = true)) : EqB X n D := by
  intro A pins s σ H x y u v k sb I rx ry d
  obtain ⟨a, b, rfl, rfl, hk⟩ := hr _ _ _ _ d
  cases rx
  cases ry
  by_cases hab : a = b
  · have hk' := hk hab
    subst hab hk'
    exact SeqAt.EqAt.same (A := A) (s := s) (.ref a) X.prog X.w X.xe _ ⟨rfl, H, I, Ext.rfl'⟩
  · refine GQ.eqBool_refG hab (wpAny_mono (h A pins s σ H (.ref a) (.ref b) _ _ k sb I rfl rfl d) (fun r s' q => ?_) fun _ _ x => x)
    obtain ⟨hr', q⟩ := q
    exact ⟨k, hr', rfl, q⟩
/-- tuples of one length, place by place; ks the answers -/
def DTupB (K : PySem.W.Frag) (D : EqvB) : EqvB := fun x y H k => ∃ (a b : Addr) (xs ys : List V) (ks : List Bool), x = .ref a ∧ y = .ref b ∧ SqT K H a xs ∧ SqT K H b ys ∧ xs.length = ys.length ∧ ks.length = xs.length ∧
  (∀ (i : Nat) x y c, xs[i]? = some x → ys[i]? = some y → ks[i]? = some c → D x y H c) ∧ k = ks.all id
theorem all_take {ks : List Bool} {i : Nat} (h : ∀ j, j < i → ks[j]? = some true) (hi : ks.length ≤ i) : ks.all id = true := by
  rw [List.all_eq_true]
  intro c hc
  obtain ⟨j, hj⟩ := List.mem_iff_getElem?.mp hc
  have hjl := (List.getElem?_eq_some_iff.mp hj).1
  have q := h j (Nat.lt_of_lt_of_le hjl hi)
  rw [hj] at q
  cases q
  rfl
theorem rcB_tup (hD : MonB D) (h : EqB X n D) : RcB X (n + 1) (DTupB X.K D) := by
  intro A pins s σ H x y u v k sb I rx ry d
  obtain ⟨a, b, xs, ys, ks, rfl, rfl, ha, hb, hlen, hks, hp, rfl⟩ := d
  cases rx
  cases ry
  obtain ⟨its, r, e, z⟩ := I.tuple ha
  obtain ⟨its2, r2, e2, z2⟩ := I.tuple hb
  have l1 := r.length
  have l2 := r2.length
  have hsz : its.toArray.size = its2.toArray.size := by rw [List.size_toArray, List.size_toArray, ← l1, ← l2]; exact hlen
  refine GQ.rc_tupB hsz sb.room.units0 (fun i s' => (∃ H', Inv X pins σ H' s' ∧ Ext H H') ∧ ∀ j, j < i → ks[j]? = some true) (fun s' => (∃ H', Inv X pins σ H' s' ∧ Ext H H') ∧ ks.all id = false) e e2 (fun i h1 h2 s' q => ?_) (fun s' q => ?_) (fun s' q => ?_) ⟨⟨H, I, Ext.rfl'⟩, fun j hj => absurd hj (Nat.not_lt_zero _)⟩
  · obtain ⟨⟨H1, I1, e1⟩, hk⟩ := q
    have h1' : i < its.length := by simpa using h1
    have h2' : i < its2.length := by simpa using h2
    have g1 : its[i]? = some its.toArray[i] := by rw [List.getElem?_eq_getElem h1'] <;> simp
    have g2 : its2[i]? = some its2.toArray[i] := by rw [List.getElem?_eq_getElem h2'] <;> simp
    have k1 : i < xs.length := by omega
    have k2 : i < ys.length := by omega
    have k3 : i < ks.length := by omega
    obtain ⟨uu, hu, ru⟩ := r.get (List.getElem?_eq_getElem k1)
    obtain ⟨vv, hv, rv⟩ := r2.get (List.getElem?_eq_getElem k2)
    rw [g1] at hu
    rw [g2] at hv
    rw [Option.some.inj hu, Option.some.inj hv]
    refine wpAny_mono (h A.in1 pins s' σ H1 _ _ uu vv ks[i] sb.in1 I1 ru rv (hD _ _ _ _ _ e1 (hp i _ _ _ (List.getElem?_eq_getElem k1) (List.getElem?_eq_getElem k2) (List.getElem?_eq_getElem k3)))) (fun rr s2 q2 => ?_) fun _ _ x => x
    obtain ⟨hr, H2, I2, e2'⟩ := q2
    have hki : ks[i]? = some rr := by rw [hr]; exact List.getElem?_eq_getElem k3
    cases rr with
    | true =>
      refine .inl ⟨rfl, ⟨H2, I2, e1.trans e2'⟩, fun j hj => ?_⟩
      rcases Nat.lt_succ_iff_lt_or_eq.mp hj with hj | rfl
      · exact hk j hj
      · exact hki
    | false =>
      refine .inr ⟨rfl, ⟨H2, I2, e1.trans e2'⟩, ?_⟩
      rw [List.all_eq_false]
      exact ⟨false, List.mem_of_getElem? hki, by decide⟩
  · obtain ⟨q1, hk⟩ := q
    exact ⟨by rw [all_take hk (by simp; omega)], q1⟩
  · obtain ⟨q1, hk⟩ := q
    exact ⟨by rw [hk], q1⟩
/-- the same for !=, told by what == would say -/
def RcNB (X : Cx) (n : Nat) (D : EqvB) : Prop :=
  ∀ (A : Around) (pins : List (Addr × Obj)) (s : Shared) (σ : St) (H : Hp) (x y : V) (u v : Value) (k : Bool), Sub X n A → Inv X pins σ H s → RelV x u → RelV y v → D x y H k →
    wpAny (model X.prog X.w) A (richCompare .NotEq u v) (fun r s' => r = .bool (!k) ∧ ∃ H', Inv X pins σ H' s' ∧ Ext H H') X.xe s
theorem rcNB_tup (hD : MonB D) (h : EqB X n D) : RcNB X (n + 1) (DTupB X.K D) := by
  intro A pins s σ H x y u v k sb I rx ry d
  obtain ⟨a, b, xs, ys, ks, rfl, rfl, ha, hb, hlen, hks, hp, rfl⟩ := d
  cases rx
  cases ry
  obtain ⟨its, r, e, z⟩ := I.tuple ha
  obtain ⟨its2, r2, e2, z2⟩ := I.tuple hb
  have l1 := r.length
  have l2 := r2.length
  have hsz : its.toArray.size = its2.toArray.size := by rw [List.size_toArray, List.size_toArray, ← l1, ← l2]; exact hlen
  refine GQ.rc_tupNB hsz sb.room.units0 (fun i s' => (∃ H', Inv X pins σ H' s' ∧ Ext H H') ∧ ∀ j, j < i → ks[j]? = some true) (fun s' => (∃ H', Inv X pins σ H' s' ∧ Ext H H') ∧ ks.all id = false) e e2 (fun i h1 h2 s' q => ?_) (fun s' q => ?_) (fun s' q => ?_) ⟨⟨H, I, Ext.rfl'⟩, fun j hj => absurd hj (Nat.not_lt_zero _)⟩
  · obtain ⟨⟨H1, I1, e1⟩, hk⟩ := q
    have h1' : i < its.length := by simpa using h1
    have h2' : i < its2.length := by simpa using h2
    have g1 : its[i]? = some its.toArray[i] := by rw [List.getElem?_eq_getElem h1'] <;> simp
    have g2 : its2[i]? = some its2.toArray[i] := by rw [List.getElem?_eq_getElem h2'] <;> simp
    have k1 : i < xs.length := by omega
    have k2 : i < ys.length := by omega
    have k3 : i < ks.length := by omega
    obtain ⟨uu, hu, ru⟩ := r.get (List.getElem?_eq_getElem k1)
    obtain ⟨vv, hv, rv⟩ := r2.get (List.getElem?_eq_getElem k2)
    rw [g1] at hu
    rw [g2] at hv
    rw [Option.some.inj hu, Option.some.inj hv]
    refine wpAny_mono (h A.in1 pins s' σ H1 _ _ uu vv ks[i] sb.in1 I1 ru rv (hD _ _ _ _ _ e1 (hp i _ _ _ (List.getElem?_eq_getElem k1) (List.getElem?_eq_getElem k2) (List.getElem?_eq_getElem k3)))) (fun rr s2 q2 => ?_) fun _ _ x => x
    obtain ⟨hr, H2, I2, e2'⟩ := q2
    have hki : ks[i]? = some rr := by rw [hr]; exact List.getElem?_eq_getElem k3
    cases rr with
    | true =>
      refine .inl ⟨rfl, ⟨H2, I2, e1.trans e2'⟩, fun j hj => ?_⟩
      rcases Nat.lt_succ_iff_lt_or_eq.mp hj with hj | rfl
      · exact hk j hj
      · exact hki
    | false =>
      refine .inr ⟨rfl, ⟨H2, I2, e1.trans e2'⟩, ?_⟩
      rw [List.all_eq_false]
      exact ⟨false, List.mem_of_getElem? hki, by decide⟩
  · obtain ⟨q1, hk⟩ := q
    exact ⟨by rw [all_take hk (by simp; omega)]; rfl, q1⟩
  · obtain ⟨q1, hk⟩ := q
    exact ⟨by rw [hk]; rfl, q1⟩
/-- x == y, x != y as expressions -/
def rEqB (D : EqvB) : R2 := fun x y H Q => ∃ k, D x y H k ∧ ∀ H', Ext H H' → Q (.bl k) H'
def rNeB (D : EqvB) : R2 := fun x y H Q => ∃ k, D x y H k ∧ ∀ H', Ext H H' → Q (.bl (!k)) H'
theorem op_eqB (h : RcB X n D) (hr : Room n X.A) : OpR X (compareOp .Eq) (rEqB D) := by
  intro pins s σ H x y v u Q I rx ry hq
  obtain ⟨k, d, q⟩ := hq
  show wpAny (model X.prog X.w) X.A (richCompare .Eq v u) (EP X pins σ Q) X.xe s
  refine wpAny_mono (h X.A pins s σ H x y v u k ⟨hr, rfl⟩ I rx ry d) (fun r s' z => ?_) fun _ _ x => x
  obtain ⟨hr', H', I', e⟩ := z
  subst hr'
  exact ⟨.bl k, H', I', rfl, q H' e⟩
theorem op_neB (h : RcNB X n D) (hr : Room n X.A) : OpR X (compareOp .NotEq) (rNeB D) := by
  intro pins s σ H x y v u Q I rx ry hq
  obtain ⟨k, d, q⟩ := hq
  show wpAny (model X.prog X.w) X.A (richCompare .NotEq v u) (EP X pins σ Q) X.xe s
  refine wpAny_mono (h X.A pins s σ H x y v u k ⟨hr, rfl⟩ I rx ry d) (fun r s' z => ?_) fun _ _ x => x
  obtain ⟨hr', H', I', e⟩ := z
  subst hr'
  exact ⟨.bl (!k), H', I', rfl, q H' e⟩
end
end L2

set_option Elab.async false
namespace K18
/-! a race, told by its ways' begins and delays: plain mathematics -/
abbrev Wd := Option Int × Int × Int
abbrev En := Option (Int × Int)
def has (ds : List Wd) (j : Nat) : Bool := match ds[j]? with | some d => d.1.isSome | none => false
def bg (ds : List Wd) (j : Nat) : Int := match ds[j]? with | some d => d.1.getD 0 | none => 0
def ls (ds : List Wd) (j : Nat) : Int := match ds[j]? with | some d => d.2.1 | none => 0
def ms (ds : List Wd) (j : Nat) : Int := match ds[j]? with | some d => d.2.2 | none => 0
def fin (ds : List Wd) (j : Nat) : Int := bg ds j + 2 * ms ds j
def opn (ds : List Wd) (j : Nat) : Int := bg ds j + 2 * ls ds j
def early (ds : List Wd) (w : Nat) (t : Int) (j : Nat) : Bool := has ds j && (decide (j ≠ w) && (decide (fin ds j < t) || (decide (fin ds j = t) && decide (j < w))))
def hurs (ds : List Wd) (w : Nat) (t : Int) : List Nat := (List.range ds.length).filter (early ds w t)
def can (ds : List Wd) (z : Int) (w : Nat) (t : Int) : Bool := has ds w && (decide (opn ds w ≤ t) && decide (t ≤ fin ds w)) && decide (((hurs ds w t).length : Int) ≤ z)
/-- delays in order -/
def Fit (ds : List Wd) : Prop := ∀ j, has ds j = true → ls ds j ≤ ms ds j
def ent (es : List En) (j : Nat) : En := (es[j]?).getD none
/-- a run -/
def Run (ds : List Wd) (es : List En) : Prop := es.length = ds.length ∧ ∀ j a b, ent es j = some (a, b) → has ds j = true ∧ ls ds j ≤ a ∧ a ≤ ms ds j ∧ ls ds j ≤ b ∧ b ≤ ms ds j
def shut (ds : List Wd) (es : List En) (j : Nat) : Bool := has ds j && (ent es j).isNone
def qn (ds : List Wd) (es : List En) : Nat := ((List.range ds.length).filter (shut ds es)).length
def step (ds : List Wd) (es : List En) (best : Option (Nat × Int)) (k : Nat) : Option (Nat × Int) := match ent es k with
  | none => best
  | some (a, b) => match best with
    | none => some (k, bg ds k + a + b)
    | some (k', m') => if bg ds k + a + b < m' then some (k, bg ds k + a + b) else some (k', m')
def outN (ds : List Wd) (es : List En) : Nat → Option (Nat × Int)
  | 0 => none
  | n + 1 => step ds es (outN ds es n) n
def out (ds : List Wd) (es : List En) : Option (Nat × Int) := outN ds es ds.length
variable {ds : List Wd} {es : List En} {w : Nat} {t z : Int}
theorem has_lt {j : Nat} (h : has ds j = true) : j < ds.length := by
  unfold has at h
  by_cases q : j < ds.length
  · exact q
  · rw [List.getElem?_eq_none (by omega)] at h
    cases h
/-- the earliest answer, the first of those at one moment -/
theorem outN_spec (n : Nat) : match outN ds es n with
    | none => ∀ j, j < n → ent es j = none
    | some (w, t) => w < n ∧ (∃ a b, ent es w = some (a, b) ∧ t = bg ds w + a + b) ∧ ∀ j a b, j < n → ent es j = some (a, b) → t < bg ds j + a + b ∨ (t = bg ds j + a + b ∧ w ≤ j) := by
  induction n with
  | zero => exact fun j hj => absurd hj (Nat.not_lt_zero _)
  | succ n ih =>
    show match step ds es (outN ds es n) n with
      | none => ∀ j, j < n + 1 → ent es j = none
      | some (w, t) => w < n + 1 ∧ (∃ a b, ent es w = some (a, b) ∧ t = bg ds w + a + b) ∧ ∀ j a b, j < n + 1 → ent es j = some (a, b) → t < bg ds j + a + b ∨ (t = bg ds j + a + b ∧ w ≤ j)
    unfold step
    cases he : ent es n with
    | none =>
      dsimp only
      cases ho : outN ds es n with
      | none =>
        rw [ho] at ih
        exact fun j hj => by
          rcases Nat.lt_succ_iff_lt_or_eq.mp hj with h | rfl
          · exact ih j h
          · exact he
      | some r =>
        obtain ⟨w, t⟩ := r
        rw [ho] at ih
        obtain ⟨h1, h2, h3⟩ := ih
        refine ⟨by omega, h2, fun j a b hj h => ?_⟩
        rcases Nat.lt_succ_iff_lt_or_eq.mp hj with q | rfl
        · exact h3 j a b q h
        · rw [he] at h
          cases h
    | some p =>
      obtain ⟨a, b⟩ := p
      dsimp only
      cases ho : outN ds es n with
      | none =>
        rw [ho] at ih
        refine ⟨by omega, ⟨a, b, he, rfl⟩, fun j a' b' hj h => ?_⟩
        rcases Nat.lt_succ_iff_lt_or_eq.mp hj with q | rfl
        · rw [ih j q] at h
          cases h
        · rw [he] at h
          cases h
          exact .inr ⟨rfl, Nat.le_refl _⟩
      | some r =>
        obtain ⟨w, t⟩ := r
        rw [ho] at ih
        obtain ⟨h1, ⟨a1, b1, h2, h2'⟩, h3⟩ := ih
        dsimp only
        by_cases hlt : bg ds n + a + b < t
        · rw [if_pos hlt]
          refine ⟨by omega, ⟨a, b, he, rfl⟩, fun j a' b' hj h => ?_⟩
          rcases Nat.lt_succ_iff_lt_or_eq.mp hj with q | rfl
          · rcases h3 j a' b' q h with h4 | ⟨h4, h5⟩
            · exact .inl (by omega)
            · exact .inl (by omega)
          · rw [he] at h
            cases h
            exact .inr ⟨rfl, Nat.le_refl _⟩
        · rw [if_neg hlt]
          refine ⟨by omega, ⟨a1, b1, h2, h2'⟩, fun j a' b' hj h => ?_⟩
          rcases Nat.lt_succ_iff_lt_or_eq.mp hj with q | rfl
          · exact h3 j a' b' q h
          · rw [he] at h
            cases h
            by_cases e : t = bg ds j + a + b
            · exact .inr ⟨e, by omega⟩
            · exact .inl (by omega)
theorem filter_mono {α : Type} {l : List α} {p q : α → Bool} (h : ∀ x ∈ l, p x = true → q x = true) : (l.filter p).length ≤ (l.filter q).length := by
  induction l with
  | nil => exact Nat.le_refl _
  | cons x xs ih =>
    have ih' := ih fun y hy => h y (List.mem_cons_of_mem _ hy)
    rw [List.filter_cons, List.filter_cons]
    cases hp : p x with
    | true =>
      rw [h x List.mem_cons_self hp, if_pos rfl, if_pos rfl]
      exact Nat.succ_le_succ ih'
    | false =>
      rw [if_neg (by decide)]
      cases q x with
      | true => rw [if_pos rfl]; exact Nat.le_succ_of_le ih'
      | false => rw [if_neg (by decide)]; exact ih'
theorem early_iff {j : Nat} : early ds w t j = true ↔ has ds j = true ∧ j ≠ w ∧ (fin ds j < t ∨ (fin ds j = t ∧ j < w)) := by
  unfold early
  simp [Bool.and_eq_true, Bool.or_eq_true]
theorem can_iff : can ds z w t = true ↔ has ds w = true ∧ (opn ds w ≤ t ∧ t ≤ fin ds w) ∧ ((hurs ds w t).length : Int) ≤ z := by
  unfold can
  simp [Bool.and_eq_true, and_assoc]
theorem can_of_run (hr : Run ds es) (hq : (qn ds es : Int) ≤ z) (ho : out ds es = some (w, t)) : can ds z w t = true := by
  have sp := outN_spec (ds := ds) (es := es) ds.length
  have ho' : outN ds es ds.length = some (w, t) := ho
  rw [ho'] at sp
  obtain ⟨h1, ⟨a, b, h2, rfl⟩, h3⟩ := sp
  obtain ⟨r1, r2, r3, r4, r5⟩ := hr.2 w a b h2
  refine can_iff.mpr ⟨r1, ⟨by unfold opn; omega, by unfold fin; omega⟩, ?_⟩
  refine Int.le_trans (Int.ofNat_le.mpr ?_) hq
  refine filter_mono fun j hj he => ?_
  obtain ⟨e1, e2, e3⟩ := early_iff.mp he
  unfold shut
  rw [e1, Bool.true_and]
  cases hE : ent es j with
  | none => rfl
  | some p =>
    obtain ⟨a', b'⟩ := p
    exfalso
    obtain ⟨_, q2, q3, q4, q5⟩ := hr.2 j a' b' hE
    have f : fin ds j = bg ds j + 2 * ms ds j := rfl
    rcases h3 j a' b' (has_lt e1) hE with h | ⟨h, h'⟩
    · rcases e3 with e | ⟨e, _⟩ <;> omega
    · rcases e3 with e | ⟨e, e'⟩ <;> omega
/-- a run in which w answers first, at t -/
def run (ds : List Wd) (w : Nat) (t : Int) : List En := (List.range ds.length).map fun j => if j = w then
    (if t - bg ds w - ls ds w ≤ ms ds w then some (t - bg ds w - ls ds w, ls ds w) else some (ms ds w, t - bg ds w - ms ds w))
  else if early ds w t j = true then none else if has ds j = true then some (ms ds j, ms ds j) else none
theorem ent_run {j : Nat} (h : j < ds.length) : ent (run ds w t) j = if j = w then
    (if t - bg ds w - ls ds w ≤ ms ds w then some (t - bg ds w - ls ds w, ls ds w) else some (ms ds w, t - bg ds w - ms ds w))
  else if early ds w t j = true then none else if has ds j = true then some (ms ds j, ms ds j) else none := by
  unfold ent run
  rw [List.getElem?_map, List.getElem?_range h]
  rfl
theorem ent_none {j : Nat} (h : es.length ≤ j) : ent es j = none := by
  unfold ent
  rw [List.getElem?_eq_none h]
  rfl
theorem run_of_can (hf : Fit ds) (h : can ds z w t = true) : Run ds (run ds w t) ∧ (qn ds (run ds w t) : Int) ≤ z ∧ out ds (run ds w t) = some (w, t) := by
  obtain ⟨c1, ⟨c2, c3⟩, c4⟩ := can_iff.mp h
  have hw := has_lt c1
  have hlm := hf w c1
  unfold opn at c2
  unfold fin at c3
  have len : (run ds w t).length = ds.length := by unfold run; rw [List.length_map, List.length_range]
  have hrun : Run ds (run ds w t) := by
    refine ⟨len, fun j a b he => ?_⟩
    have hj : j < ds.length := by
      by_cases q : j < ds.length
      · exact q
      · rw [ent_none (by omega)] at he
        cases he
    rw [ent_run hj] at he
    by_cases e : j = w
    · subst e
      rw [if_pos rfl] at he
      by_cases e2 : t - bg ds j - ls ds j ≤ ms ds j
      · rw [if_pos e2] at he
        cases he
        exact ⟨c1, by omega, by omega, by omega, by omega⟩
      · rw [if_neg e2] at he
        cases he
        exact ⟨c1, by omega, by omega, by omega, by omega⟩
    · rw [if_neg e] at he
      cases e2 : early ds w t j with
      | true => rw [e2, if_pos rfl] at he; cases he
      | false =>
        rw [e2, if_neg (by decide)] at he
        cases e3 : has ds j with
        | false => rw [e3, if_neg (by decide)] at he; cases he
        | true =>
          rw [e3, if_pos rfl] at he
          cases he
          have := hf j e3
          exact ⟨rfl, by omega, by omega, by omega, by omega⟩
  have hq : (qn ds (run ds w t) : Int) ≤ z := by
    refine Int.le_trans (Int.ofNat_le.mpr ?_) c4
    refine filter_mono fun j hj he => ?_
    have hj' := List.mem_range.mp hj
    unfold shut at he
    rw [Bool.and_eq_true, ent_run hj'] at he
    obtain ⟨h1, h2⟩ := he
    by_cases e : j = w
    · rw [if_pos e] at h2
      split at h2 <;> cases h2
    · rw [if_neg e] at h2
      cases e2 : early ds w t j with
      | true => rfl
      | false =>
        rw [e2, if_neg (by decide), h1, if_pos rfl] at h2
        cases h2
  refine ⟨hrun, hq, ?_⟩
  obtain ⟨aw, bw, hE, hs⟩ : ∃ a b, ent (run ds w t) w = some (a, b) ∧ t = bg ds w + a + b := by
    rw [ent_run hw, if_pos rfl]
    by_cases e2 : t - bg ds w - ls ds w ≤ ms ds w
    · rw [if_pos e2]
      exact ⟨_, _, rfl, by omega⟩
    · rw [if_neg e2]
      exact ⟨_, _, rfl, by omega⟩
  have sp := outN_spec (ds := ds) (es := run ds w t) ds.length
  unfold out
  cases ho : outN ds (run ds w t) ds.length with
  | none =>
    rw [ho] at sp
    rw [sp w hw] at hE
    cases hE
  | some r =>
    obtain ⟨w', t'⟩ := r
    rw [ho] at sp
    obtain ⟨s1, ⟨a, b, s2, s2'⟩, s3⟩ := sp
    by_cases e : w' = w
    · subst e
      rw [hE] at s2
      cases s2
      rw [s2', hs]
    · exfalso
      rw [ent_run s1, if_neg e] at s2
      cases e2 : early ds w t w' with
      | true => rw [e2, if_pos rfl] at s2; cases s2
      | false =>
        rw [e2, if_neg (by decide)] at s2
        cases e3 : has ds w' with
        | false => rw [e3, if_neg (by decide)] at s2; cases s2
        | true =>
          rw [e3, if_pos rfl] at s2
          cases s2
          have f : fin ds w' = bg ds w' + 2 * ms ds w' := rfl
          have ne : ¬ (has ds w' = true ∧ w' ≠ w ∧ (fin ds w' < t ∨ (fin ds w' = t ∧ w' < w))) := fun q => by
            rw [early_iff.mpr q] at e2
            cases e2
          have ne' : ¬ (fin ds w' < t) ∧ ¬ (fin ds w' = t ∧ w' < w) := ⟨fun q => ne ⟨e3, e, .inl q⟩, fun q => ne ⟨e3, e, .inr q⟩⟩
          rcases s3 w aw bw hw hE with q | ⟨q, q'⟩
          · rw [← hs] at q
            exact ne'.1 (by omega)
          · rw [← hs] at q
            exact ne'.2 ⟨by omega, by omega⟩
def plan (ds : List Wd) : List Nat := (List.range ds.length).filter (has ds)
theorem none_of_run (hr : Run ds es) (ho : out ds es = none) : qn ds es = (plan ds).length := by
  have sp := outN_spec (ds := ds) (es := es) ds.length
  have ho' : outN ds es ds.length = none := ho
  rw [ho'] at sp
  unfold qn plan
  congr 1
  refine List.filter_congr fun j hj => ?_
  unfold shut
  rw [sp j (List.mem_range.mp hj), Option.isNone_none, Bool.and_true]
def still (ds : List Wd) : List En := ds.map fun _ => none
theorem ent_still {j : Nat} : ent (still ds) j = none := by
  unfold ent still
  rw [List.getElem?_map]
  cases ds[j]? <;> rfl
theorem outN_still : ∀ n, outN ds (still ds) n = none
  | 0 => rfl
  | n + 1 => by
    show step ds (still ds) (outN ds (still ds) n) n = none
    unfold step
    rw [ent_still, outN_still n]
theorem still_run : Run ds (still ds) ∧ qn ds (still ds) = (plan ds).length ∧ out ds (still ds) = none := by
  have h1 : Run ds (still ds) := ⟨by unfold still; rw [List.length_map], fun j a b h => by rw [ent_still] at h; cases h⟩
  have h3 : out ds (still ds) = none := outN_still _
  exact ⟨h1, none_of_run h1 h3, h3⟩
theorem can_mono {t' : Int} (h : can ds z w t = true) (h1 : opn ds w ≤ t') (h2 : t' ≤ t) : can ds z w t' = true := by
  obtain ⟨c1, ⟨c2, c3⟩, c4⟩ := can_iff.mp h
  refine can_iff.mpr ⟨c1, ⟨h1, by omega⟩, Int.le_trans (Int.ofNat_le.mpr (filter_mono fun j _ he => ?_)) c4⟩
  obtain ⟨e1, e2, e3⟩ := early_iff.mp he
  refine early_iff.mpr ⟨e1, e2, ?_⟩
  rcases e3 with e | ⟨e, e'⟩
  · exact .inl (by omega)
  · by_cases q : t' = t
    · exact .inr ⟨by omega, e'⟩
    · exact .inl (by omega)
/-! the latest end -/
theorem count_lt : ∀ {E : List Int} {n : Nat} {L : Int}, E.Pairwise (· ≤ ·) → E[n]? = some L → (E.filter fun x => decide (x < L)).length ≤ n
  | [], _, _, _, h => nomatch h
  | x :: E, 0, L, hs, h => by
    cases h
    have : (List.filter (fun y => decide (y < x)) (x :: E)) = [] := by
      rw [List.filter_eq_nil_iff]
      intro y hy
      rcases List.mem_cons.mp hy with rfl | hy
      · simp
      · have := (List.pairwise_cons.mp hs).1 y hy
        simp
        omega
    rw [this]
    exact Nat.le_refl _
  | x :: E, n + 1, L, hs, h => by
    have ih := count_lt (n := n) (L := L) (List.pairwise_cons.mp hs).2 h
    rw [List.filter_cons]
    split
    · exact Nat.succ_le_succ ih
    · exact Nat.le_succ_of_le ih
theorem count_le : ∀ {E : List Int} {n : Nat} {L : Int}, E.Pairwise (· ≤ ·) → E[n]? = some L → n + 1 ≤ (E.filter fun x => decide (x ≤ L)).length
  | [], _, _, _, h => nomatch h
  | x :: E, 0, L, hs, h => by
    cases h
    rw [List.filter_cons, if_pos (by simp)]
    exact Nat.succ_le_succ (Nat.zero_le _)
  | x :: E, n + 1, L, hs, h => by
    have ih := count_le (n := n) (L := L) (List.pairwise_cons.mp hs).2 h
    have hx : x ≤ L := (List.pairwise_cons.mp hs).1 L (List.mem_of_getElem? h)
    rw [List.filter_cons, if_pos (by simpa using hx)]
    exact Nat.succ_le_succ ih
def ends (ds : List Wd) : List Int := (plan ds).map (fin ds)
theorem ends_count (p : Int → Bool) : ((ends ds).filter p).length = ((List.range ds.length).filter fun j => has ds j && p (fin ds j)).length := by
  unfold ends plan
  rw [List.filter_map, List.length_map, List.filter_filter]
  congr 1
  refine List.filter_congr fun j _ => ?_
  exact Bool.and_comm _ _
theorem perm_count {E F : List Int} (h : E.Perm F) (p : Int → Bool) : (E.filter p).length = (F.filter p).length := (h.filter p).length_eq
theorem latest_hi {E : List Int} {n : Nat} {L : Int} (hp : E.Perm (ends ds)) (hs : E.Pairwise (· ≤ ·)) (hL : E[n]? = some L) (hz : z = (n : Int)) (h : can ds z w t = true) : t ≤ L := by
  by_cases q : t ≤ L
  · exact q
  · exfalso
    obtain ⟨c1, ⟨c2, c3⟩, c4⟩ := can_iff.mp h
    have k := count_le hs hL
    rw [perm_count hp, ends_count] at k
    have k2 : ((List.range ds.length).filter fun j => has ds j && decide (fin ds j ≤ L)).length ≤ (hurs ds w t).length := filter_mono fun j hj he => by
      rw [Bool.and_eq_true, decide_eq_true_eq] at he
      refine early_iff.mpr ⟨he.1, fun e => ?_, .inl (by omega)⟩
      subst e
      omega
    omega
theorem first_of {p : Nat → Bool} : ∀ {n : Nat}, (∃ j, j < n ∧ p j = true) → ∃ j, j < n ∧ p j = true ∧ ∀ i, i < j → p i = false
  | 0, ⟨j, h, _⟩ => absurd h (Nat.not_lt_zero _)
  | n + 1, h => by
    by_cases q : ∃ j, j < n ∧ p j = true
    · obtain ⟨j, h1, h2, h3⟩ := first_of q
      exact ⟨j, by omega, h2, h3⟩
    · obtain ⟨j, h1, h2⟩ := h
      have e : j = n := by
        by_cases z : j < n
        · exact absurd ⟨j, z, h2⟩ q
        · omega
      subst e
      refine ⟨j, h1, h2, fun i hi => ?_⟩
      cases z : p i with
      | false => rfl
      | true => exact absurd ⟨i, hi, z⟩ q
theorem latest_lo (hf : Fit ds) {E : List Int} {n : Nat} {L : Int} (hp : E.Perm (ends ds)) (hs : E.Pairwise (· ≤ ·)) (hL : E[n]? = some L) (hz : z = (n : Int)) : ∃ w, can ds z w L = true := by
  have hm : L ∈ ends ds := hp.mem_iff.mp (List.mem_of_getElem? hL)
  obtain ⟨j, hj, hjL⟩ := List.mem_map.mp hm
  obtain ⟨hj1, hj2⟩ := List.mem_filter.mp hj
  obtain ⟨w, h1, h2, h3⟩ := first_of (p := fun j => has ds j && decide (fin ds j = L)) (n := ds.length) ⟨j, List.mem_range.mp hj1, by rw [hj2, hjL]; simp⟩
  rw [Bool.and_eq_true, decide_eq_true_eq] at h2
  refine ⟨w, can_iff.mpr ⟨h2.1, ⟨?_, by omega⟩, ?_⟩⟩
  · have := hf w h2.1
    have q : fin ds w = bg ds w + 2 * ms ds w := rfl
    unfold opn
    omega
  · have k := count_lt hs hL
    rw [perm_count hp, ends_count] at k
    have k2 : (hurs ds w L).length ≤ ((List.range ds.length).filter fun j => has ds j && decide (fin ds j < L)).length := filter_mono fun i hi he => by
      obtain ⟨e1, e2, e3⟩ := early_iff.mp he
      rcases e3 with e | ⟨e, e'⟩
      · rw [e1, decide_eq_true e]
        rfl
      · have := h3 i e'
        rw [e1, decide_eq_true e] at this
        cases this
    omega
end K18

set_option Elab.async false
set_option linter.all false
set_option maxRecDepth 100000
set_option maxHeartbeats 4000000
/-! except A as e: .. except B as e: ..; classes made with keyword-only parameters -/
namespace L2
open PySem PySem.Spec PyProof.Rows
abbrev SuT := Addr → Value → Option Addr → TS
/-- behind a suite the i-th slot is empty -/
def dropAt (i : Nat) (D : Ends) : Ends := { nx := fun g J => D.nx (g.set i none) J, rt := D.rt, bk := fun g J => D.bk (g.set i none) J, ct := fun g J => D.ct (g.set i none) J }
def wManyA (K : PySem.W.Frag) (Wo : WX) (D : Ends) : List (Value × Nat × SuT) → WX
  | [] => Wo
  | (c, i, ts) :: r => fun cl d g J => ∃ y, PySem.W.exmOne K cl c = some y ∧ (y = true → ∀ q, J q = none → ts q cl d (dropAt i D) (g.set i (some (.ref q))) J) ∧ (y = false → wManyA K Wo D r cl d g J)
inductive HdsA (X : Cx) : List ExceptHandler → List (Value × Nat × SuT) → Prop
  | nil : HdsA X [] []
  | cons {x n : Str} {c : Value} {i : Nat} {ts : SuT} {b0 : Stmt} {su : List Stmt} {np pp : Pos} {hds : List ExceptHandler} {l : List (Value × Nat × SuT)} (hi : X.N[i]? = some n) (hl : X.env.kindOf n = some .local) (hc : Names X x c)
      (hsu : ∀ (q : Addr) (oq : Obj) (cl : Value) (d : Option Addr) (pn : List (Addr × Obj)), Zc cl d oq → (∃ us, oq.data = .fields us) → PSs (X.suite q ((q, oq) :: pn)) (b0 :: su) (ts q cl d)) (r : HdsA X hds l) :
      HdsA X (.ExceptHandler (some (.Name x np)) (some n) (b0 :: su) pp :: hds) ((c, i, ts) :: l)
section
variable {X : Cx} {bd : List Stmt} {hd0 : ExceptHandler} {hds : List ExceptHandler} {l : List (Value × Nat × SuT)} {pos : Pos} {tb : WX → TS} {Wo : WX}
theorem ps_try_manyA (hs : X.stack = X.env :: X.outer) (hf : X.env.frame = some X.env.locals) (hN : X.N.Nodup) (tk : Takes X Wo)
    (hb : ∀ (W : WX) (pn : List (Addr × Obj)) (xe : Value → Shared → Prop), Takes (X.tr pn xe) W → PassesOwn (model X.prog X.w) X.A X.env xe → PSs (X.tr pn xe) bd (tb W))
    (hh : HdsA X (hd0 :: hds) l) : PS X (.Try bd (hd0 :: hds) [] [] pos) (fun D g J => tb (wManyA X.K Wo D l) D g J) := by
  refine ⟨fun pins s0 g0 J0 D I0 h => ?_⟩
  have kk := I0.ok
  have hfr : X.A.frames = some (X.env :: X.outer) := by rw [kk.frames, hs]
  refine wpAny_Try_except (wpAny_mono ((hb (wManyA X.K Wo D l) (X.pn ++ pins) (fun u t1 => wpAny (model X.prog X.w) X.A (noteFrame u X.env) (fun _ t2 => wpAny (model X.prog X.w) X.A (setFlight u none) (fun _ t3 =>
    wpAny (model X.prog X.w) X.A (handleBy u X.env (hd0 :: hds)) (SP X pins D) X.xe t3) X.xe t2) X.xe t1) (fun u t1 xx => ?_) PassesOwn.looking).run [] s0 g0 J0 D (I0.toTry _) h) (fun fl t1 hsp => ?_) (fun _ _ z => z))
  · obtain ⟨q, B, sI, pns, g1, J1, cl, d, rfl, K1, nb, up, sky, na, os, ag, wx⟩ := xx
    have V : Inv X pins g1 J1 sI := K1.ofTry kk
    have sky2 : Sky B (X.env :: X.outer) q (Zc cl d) X.env.locals t1.heap := by rw [← hs]; exact sky
    show wpAny (model X.prog X.w) X.A (noteFrame (.ref q) X.env) _ _ _
    refine Sky.land Zc.steady hfr hf sky2 fun h3 f3 u3 => ?_
    have V3 : Inv X pins g1 J1 { t1 with heap := h3 } := V.landed nb f3.1 (up.trans u3) os ag
    obtain ⟨o3, v3, e3, z3, d3⟩ := f3.there
    have apart : ∀ {hh : Heap} {o : Obj} {us : Array Value}, hh.FunFrames B (X.env :: X.outer) → hh.get? q = some o → o.data = .fields us → q ∉ frs (X.env :: X.outer) := fun {hh o us} ff e dd hm => by
      obtain ⟨_, o', e', hnf⟩ := ff.mem hm
      rw [e] at e'
      cases e'
      exact hnf _ dd
    have np := apart f3.2.2.1 e3 d3
    have nL : q ≠ X.env.locals := fun z => np (List.mem_filterMap.mpr ⟨X.env, List.mem_cons_self, by rw [hf, z]⟩)
    have nF : q ∉ X.fs := fun hm => by
      obtain ⟨e, he, r⟩ := List.mem_filterMap.mp hm
      exact np (List.mem_filterMap.mpr ⟨e, List.mem_cons_of_mem _ he, r⟩)
    have S3 := V3.suite e3 d3 na nL nF
    have go : ∀ {hz : List ExceptHandler} {lz : List (Value × Nat × SuT)}, HdsA X hz lz → wManyA X.K Wo D lz cl d g1 J1 → wpAny (model X.prog X.w) X.A (handleBy (.ref q) X.env hz) (SP X pins D) X.xe { t1 with heap := h3 } := by
      intro hz lz hk
      induction hk with
      | nil =>
        intro wz
        refine wpAny_handleBy_nil ?_
        obtain ⟨_, _, _, oq, us, TB, oT, ts2, he, hq, hdd, h1, hr⟩ := id f3
        unfold PySem.passOn
        refine wpAny_bind (wpAny_field he hdd h1 ?_)
        rw [if_neg (show ¬ ((Value.ref TB == Value.none) = true) by simp)]
        have fin : wpAny (model X.prog X.w) X.A (setFlight (.ref q) X.env.frame) (fun _ t4 => wpAny (model X.prog X.w) X.A (throw (.ref q) : Sem Flow) (SP X pins D) X.xe t4) X.xe { t1 with heap := h3 } := by
          rw [hf]
          refine HandSPX.setFlight_upZ f3 fun h4 hh4 up4 => wpAny_throw (tk _ _ ?_)
          exact ⟨q, B, sI, pins, g1, J1, cl, d, rfl, V, nb, (up.trans u3).trans up4, .inr (.inr (by rw [hs]; exact hh4)), na, os, ag, wz⟩
        first | exact wpAny_bind (wpAny_pure (wpAny_bind fin)) | exact wpAny_bind fin
      | @cons x n c i ts b0 su np pp hds2 l2 hi hl hc hsu r ih =>
        intro wz
        obtain ⟨y, hy, yes, no⟩ := wz
        refine wpAny_handleBy_cons (codeAny_handlers_test ?_) (by intro z; cases z)
        have LT : PySem.W.Looks (model X.prog X.w) h3 (typeOf (.ref q)) cl := fun A Q E s k r => wpAny_typeOf_ref (k _ _ e3) (by rw [z3.1]; exact r)
        have LM := PySem.W.exm_one (M := model X.prog X.w) (V3.kIn) LT hy
        have tst : ∀ {Q E : Value → Shared → Prop}, Q c { t1 with heap := h3 } → wpAny (model X.prog X.w) (X.A.mark (some (.ref q))) (eval (.Name x np) X.env) Q E { t1 with heap := h3 } := fun {Q E} z => by
          obtain ⟨hg, hdbg, hm | ⟨hm, hv, hnn⟩⟩ := hc
          · exact ld_glob (X := X.suite q ((q, o3) :: (X.pn ++ pins))) S3 hg hm z hdbg
          · exact ld_blt (X := X.suite q ((q, o3) :: (X.pn ++ pins))) S3 hg hm hv z hnn hdbg
        refine tst (LM.here ?_)
        cases y with
        | true =>
          refine codeAny_handlers_suite_as (HandSPX.lands_againZ f3 fun h4 f4 u4 => ?_)
          have V4 : Inv X pins g1 J1 { t1 with heap := h4 } := V.landed nb f4.1 ((up.trans u3).trans u4) os ag
          obtain ⟨o4, v4, e4, z4, d4⟩ := f4.there
          have S4 := V4.suite e4 d4 na nL nF
          have hloc : Loc X.env.scope n := .inl hl
          refine store_ok (X := X.suite q ((q, o4) :: (X.pn ++ pins))) (v := .ref q) S4 hN hi hloc rfl (fun t5 S5 => ?_) (.inr hl)
          refine wpAny_mono ((hsu q o4 cl d (X.pn ++ pins) z4 ⟨_, d4⟩).run [] t5 _ J1 _ S5 (yes rfl q na)) (fun fl t6 sp => ?_) (fun _ _ z => False.elim z)
          have ends : ∀ {g6 : St} {J6 : Hp} {Q : Shared → Prop}, Inv (X.suite q ((q, o4) :: (X.pn ++ pins))) [] g6 J6 t6 → (∀ t7, Inv X pins (g6.set i none) J6 t7 → Q t7) →
              wpAny (model X.prog X.w) X.A (do bindName X.env n .none; unbindBehindTheSuite X.env n pp) (fun _ t7 => Q t7) X.xe t6 := fun {g6 J6 Q} S6 hq => gone_ok (S6.unsuite kk) hN hi hl hq
          cases fl with
          | next =>
            obtain ⟨g6, J6, S6, r6⟩ := sp
            exact ends S6 fun t7 V7 => ⟨_, _, V7, r6⟩
          | brk =>
            obtain ⟨g6, J6, S6, r6⟩ := sp
            exact ends S6 fun t7 V7 => ⟨_, _, V7, r6⟩
          | cont =>
            obtain ⟨g6, J6, S6, r6⟩ := sp
            exact ends S6 fun t7 V7 => ⟨_, _, V7, r6⟩
          | ret u =>
            obtain ⟨w6, g6, J6, S6, r6, y6⟩ := sp
            exact ends S6 fun t7 V7 => ⟨_, _, _, V7, r6, y6⟩
        | false =>
          show wpAny _ X.A (handleBy (.ref q) X.env hds2) _ _ _
          exact ih (no rfl)
    exact go hh wx
  · cases fl with
    | next =>
      obtain ⟨g6, J6, V6, r⟩ := hsp
      exact wpAny_execs_nil ⟨g6, J6, V6.ofTry kk, r⟩
    | brk =>
      obtain ⟨g6, J6, V6, r⟩ := hsp
      exact ⟨g6, J6, V6.ofTry kk, r⟩
    | cont =>
      obtain ⟨g6, J6, V6, r⟩ := hsp
      exact ⟨g6, J6, V6.ofTry kk, r⟩
    | ret u =>
      obtain ⟨v6, g6, J6, V6, rv, r⟩ := hsp
      exact ⟨v6, g6, J6, V6.ofTry kk, rv, r⟩
end
/-! ### C(e, .., k = v, ..), keyword-only parameters without defaults, all written in their order -/
section
variable {K : PySem.W.Frag} {x qual : Str} {st : Stmt} {f : Addr} {fd : FuncData} {ps ks : List Str} {n : Nat}
abbrev KBa (K : PySem.W.Frag) (fd : FuncData) (ps : List Str) (n : Nat) (ks : List Str) : Prop := KBn K fd ps n ks (fun us ws => us ++ ws) (fun vs zs => vs ++ zs)
theorem Fun.kba (F : Fun K x qual st f fd)
    (h : ∀ (kV doc pm : Value) (an : Option Addr) (cdv ct : Value) (us ws : List Value), us.length = n → ws.length = ks.length → bindArgs (PySem.W.fnOf x qual (defArgs st) (defBody st) (defScope st) .none kV doc pm an cdv ct) ⟨us, ks.zip ws⟩ = pure (ps.zip (us ++ ws))) : KBa K fd ps n ks := by
  obtain ⟨_, _, kV, doc, pm, an, cdv, ct, _, rfl, _, _⟩ := F.ex
  exact ⟨fun s us ws _ l1 l2 => .of_eq (h kV doc pm an cdv ct us ws l1 l2), fun r1 r2 => r1.append r2⟩
end
structure OwnCK (P : Program) (w : World) (K : PySem.W.Frag) (mg : Str → Option Value) (base : Heap) (CX : CXT) (x : Str) (C : Addr) (k : Nat) (ps : List Str) (n : Nat) (ks : List Str) (sp : Sp) : Prop where
  ex : ∃ (f : Addr) (fd : FuncData), FnOk P w K mg base CX k f fd ps sp ∧ Mk K C f ∧ mg x = some (.ref C) ∧ KBa K fd ps (n + 1) ks
section
variable {X : Cx} {CX : CXT} {k n : Nat} {f C : Addr} {fd : FuncData} {ps ks : List Str} {sp : Sp} {E : St → XK} {x : Str} {p pos : Pos} {e : Expr} {es : List Expr} {kws : List Keyword} {t tk : TA} {W : WX}
/-- the errors wished at the slots -/
def tMakeKS (C : Addr) (n m : Nat) (sp : Sp) (E : St → XK) (t tk : TA) : TE := fun g J Q => t g J fun vs J1 => tk g J1 fun zs J2 => vs.length = n ∧ zs.length = m ∧ ∀ o dx, J2 o = none → J2 dx = none → dx ≠ o →
  sp (.ref o :: vs ++ zs) (upd (upd J2 dx (.own o)) o (.ins C dx [])) (fun v J3 => v = .non ∧ Q (.ref o) J3) (fun cl d J3 => E g cl d J3)
theorem run_makeKS {pins : List (Addr × Obj)} {g : St} {J : Hp} {s : Shared} {Q : VK} {us ws : List Value} {vs zs : List V} (M : Mk X.K C f) (F : FnOk X.prog X.w X.K X.mg X.base CX k f fd ps sp) (hr : Room (k + 1) X.A) (hb : KBa X.K fd ps (n + 1) ks) (hx : PassesAt CX X g (E g))
    (I : Inv X pins g J s) (r : Vals vs us) (rz : Vals zs ws) (l1 : vs.length = n) (l2 : zs.length = ks.length)
    (h : ∀ o dx, J o = none → J dx = none → dx ≠ o → sp (.ref o :: vs ++ zs) (upd (upd J dx (.own o)) o (.ins C dx [])) (fun v J2 => v = .non ∧ Q (.ref o) J2) (E g)) :
    wpAny (model X.prog X.w) X.A (call (.ref C) us (ks.zip ws)) (EP X pins g Q) X.xe s := by
  have want := h (s.heap.objs.size + 1) s.heap.objs.size (I.hok.fresh (Nat.le_succ _)) (I.hok.fresh (Nat.le_refl _)) (Nat.ne_of_lt (Nat.lt_succ_self _))
  have I2 := Inv.made (C := C) I
  have m1 : Vals (V.ref (s.heap.objs.size + 1) :: vs) (Value.ref (s.heap.objs.size + 1) :: us) := .cons rfl r
  have m2 := hb.rel m1 rz
  have k1 : (Value.ref (s.heap.objs.size + 1) :: us).length = n + 1 := by rw [List.length_cons, ← r.length, l1]
  refine wpAny_call (make_map (f := f) I.kIn M.makes M.init (beq_iff_eq.mp M.fn) (codeAny_mono (F.run _ X.stack _ _ ⟨Value.ref (s.heap.objs.size + 1) :: us, ks.zip ws⟩ (Value.ref (s.heap.objs.size + 1) :: us ++ ws) _ _ (E g) (hr.make C us (ks.zip ws))
    (I2.env0.make C us (ks.zip ws)) (hb.to _ (Value.ref (s.heap.objs.size + 1) :: us) ws I2.kIn k1 (rz.length.symm.trans l2)) m2 want) fun z t1 hz => ?_))
  cases z with
  | error u => exact hx pins _ _ u t1 I2 hz
  | ok fl =>
    cases fl with
    | ret u =>
      obtain ⟨v, J3, I3, rv, ev, q3⟩ := I2.after hz
      subst ev
      exact ⟨rv, ⟨V.ref (s.heap.objs.size + 1), J3, I3, rfl, q3⟩⟩
    | next => exact False.elim hz
    | brk => exact False.elim hz
    | cont => exact False.elim hz
theorem pe_newKS (O : OwnCK X.prog X.w X.K X.mg X.base (L2.CX X.prog X.w) x C k ps n ks sp) (hr : Room (k + 1) X.A) (tw : Takes X W) (ha : PA X (e :: es) t) (hkw : PK X kws tk) (hg : Gl X x := by rfl)
    (hall : (backToKw pos (keywordEach kws X.env)).all (·.1.isSome) = true := by rfl) (hks : (backToKw pos (keywordEach kws X.env)).filterMap (·.1) = ks := by rfl) (hdb : (x == ("__debug__" : Str)) = false := by decide)
    (he : starEach (e :: es) X.env = (false, eval e X.env) :: starEach es X.env := by rfl) (hpl : ((backTo pos (starEach (e :: es) X.env)).any (·.1) || (backToKw pos (keywordEach kws X.env)).any (·.1.isNone)) = false := by rfl) :
    PE X (.Call (.Name x p) (e :: es) kws pos) (tMakeKS C n ks.length sp (WE W) t tk) := by
  obtain ⟨f, fd, F, M, hm, hb⟩ := O.ex
  refine ⟨fun pins s g J Q I h => wpAny_Call_Name_kw (ld_glob I hg hm ?_ hdb)⟩
  refine PySem.W.callWith_KW (h₀ := X.base) I.ok.mod.kin M.kp hall (thn (ha.run pos pins s g J _ I h) fun us s1 ⟨vs, J1, I1, r, q⟩ => ?_) hpl he
  refine thn (hkw.run pos pins s1 g J1 _ I1 q) fun ws s2 ⟨zs, J2, I2, rz, l1, l2, q2⟩ => ⟨I2.kIn, ?_⟩
  rw [hks]
  exact run_makeKS M F hr hb (passAt tw g) I2 r rz l1 l2 q2
end
section
variable {X : Cx} {e : Expr} {f : Str} {pos : Pos} {ta : TE}
/-- e.f where the context is not known yet -/
theorem pe_fldA (he : PE X e ta) (hb : attributeBase e f X.env (eval e X.env) = eval e X.env := by rfl) : PE X (.Attribute e f pos) (tFld X.K ta f) := pe_fld he hb
end
end L2

set_option Elab.async false
set_option maxRecDepth 100000
set_option maxHeartbeats 4000000
/-! slices and sums of tuples, whichever object it is -/
namespace L2
open PySem PySem.Spec PyProof.Rows
section
variable {X : Cx}
theorem cut_whole {xs : List V} {lo hi : Option Int} (h : HT.sIx xs.length 0 lo = 0 ∧ HT.sIx xs.length xs.length hi = xs.length) : cutV xs lo hi = xs := by
  unfold cutV
  rw [h.1, h.2]
  simp
/-- a slice of a tuple, whichever object it is -/
def rSlE : V → Option Int → Option Int → Hp → VK → Prop := fun x lo hi H Q => ∃ a xs, x = .ref a ∧ H a = some (.tup xs) ∧ ∀ p H', Ext H H' → H' p = some (.tup (cutV xs lo hi)) → Q (.ref p) H'
theorem sl_tupE : SlR X rSlE := by
  intro pins s σ H x v vl vu lo hi sl Q I rx hs pl pu h
  obtain ⟨a, xs, rfl, ha, q⟩ := h
  exact sl_tupA pins s σ H _ v vl vu lo hi sl Q I rx hs pl pu ⟨a, xs, rfl, SqT.of ha, fun hw => q a H Ext.rfl' (by rw [cut_whole hw]; exact ha), fun _ p hp => q p _ (Ext.upd hp) upd_same⟩
/-- the sum of two tuples, whichever object it is -/
def rCatE : R2 := fun x y H Q => ∃ a b xs ys, x = .ref a ∧ y = .ref b ∧ H a = some (.tup xs) ∧ H b = some (.tup ys) ∧ xs.length + ys.length ≤ sizeLine ∧ ∀ p H', Ext H H' → H' p = some (.tup (xs ++ ys)) → Q (.ref p) H'
theorem op_catE : OpR X (binaryOp .Add) rCatE := by
  intro pins s σ H x y v u Q I rx ry h
  obtain ⟨a, b, xs, ys, rfl, rfl, ha, hb, hz, q⟩ := h
  refine op_catA pins s σ H _ _ v u Q I rx ry ⟨a, b, xs, ys, rfl, rfl, SqT.of ha, SqT.of hb, hz, fun e => q b H Ext.rfl' ?_, fun _ e => q a H Ext.rfl' ?_, fun _ _ p hp => q p _ (Ext.upd hp) upd_same⟩
  · subst e
    exact hb
  · subst e
    rw [List.append_nil]
    exact ha
end
end L2

set_option Elab.async false
set_option linter.all false
set_option maxRecDepth 100000
set_option maxHeartbeats 4000000
/-! one of two readings; tuple.index of flat items; an own __contains__ -/
namespace PySem.W
open PySem PySem.Calls PyProof.Rows
section
variable {prog : Program} {w : World} {A : Around} {E : Value → Shared → Prop} {s : Shared} {K : Frag} {x C f : Addr} {ox : Obj} {od : Option Obj}
theorem contains_fn {v : Value} {Q : Bool → Shared → Prop} (X : K.In s.heap) (I : InstAt s.heap x ox C od) (hs : findIn K (.ref C) "__contains__" = some (some (.ref f))) (hf : isFn K (.ref f) = true)
    (h : wpAny (model prog w) A (call (.ref f) [.ref x, v]) (fun r s' => ∃ b, r = .bool b ∧ Q b s') E s) : wpAny (model prog w) A (contains (.ref x) v) Q E s := by
  unfold contains
  refine wpAny_holding ?_
  have e1 : stdlibNamesSay? (.ref x) v = none := rfl
  rw [e1]
  refine wpAny_bind (wpAny_bind (I.type.here ((looks_findIn X hs).here ?_)))
  show wpAny _ _ (if (some (Value.ref f) == some Value.none) = true then _ else _) _ _ _
  rw [if_neg (by simp)]
  refine wpAny_bind (m := callSpecialUnlessNone? (.ref x) _ _ _) ?_
  unfold callSpecialUnlessNone?
  refine wpAny_bind (wpAny_bind (I.type.here ((looks_findIn X hs).here ?_)))
  refine wpAny_holding (wpAny_bind ((bind_fn X _ (beq_iff_eq.mp hf)).here ?_))
  show wpAny _ _ (if (Value.ref f == Value.none) = true then _ else _) _ _ _
  rw [if_neg (by simp)]
  refine wpAny_bind (wpAny_mono h (fun r s' z => ?_) fun _ _ z => z)
  obtain ⟨b, rfl, q⟩ := z
  exact wpAny_pure (wpAny_truthy_bool q)
end
end PySem.W
namespace L2
open PySem PySem.Spec PyProof.Rows
section
variable {X : Cx}
theorem pe_either {ex : Expr} {t1 t2 : TE} (h1 : PE X ex t1) (h2 : PE X ex t2) : PE X ex (fun g J Q => t1 g J Q ∨ t2 g J Q) := ⟨fun pins s g J Q I h => h.elim (fun z => h1.run pins s g J Q I z) (fun z => h2.run pins s g J Q I z)⟩
def rIndexT (K : PySem.W.Frag) : V → List V → Hp → VK → Prop := fun o vs J Q => ∃ (p : Addr) (ts : List V) (e : V) (n : Nat) (c : V), o = V.ref p ∧ vs = [e] ∧ SqT K J p ts ∧ flatV e = true ∧ ts.all flatV = true ∧ ts[n]? = some c ∧ eqV c e = true ∧
  (∀ (m : Nat) (c' : V), m < n → ts[m]? = some c' → eqV c' e = false) ∧ Q (.int (n : Nat)) J
theorem mt_tupIndex : MtR X "tuple.index" (rIndexT X.K) := by
  intro pins s g J o vs v us Q I ro rvs h
  obtain ⟨p, ts, e, n, c, rfl, rfl, ht, fe, fts, hc, hce, no, q⟩ := h
  cases ro
  cases rvs with
  | cons re rt =>
    rename_i ue ut
    cases rt
    obtain ⟨its, rv, ⟨⟨cls, dd, dt, sl⟩, ho, hcl, nn, hd⟩, hz⟩ := I.tuple ht
    simp only at hcl hd
    subst hcl hd
    obtain ⟨u, hu, ru⟩ := rv.get hc
    obtain ⟨nl, ne⟩ := List.getElem?_eq_some_iff.mp hu
    have hvl := rv.length
    have hn : n < its.toArray.size := by simpa using nl
    refine call_meets PySem.F.slot_tuple_index ⟨_, ho, rfl⟩ PySem.F.entry_tuple_index (PySem.F.args_tuple_index_2 _ _) (TI.tuple_indexAt p its.toArray nn dd sl ue (eqU e) n hn ?_ ?_)
      ⟨ho, fun w hw => mem_eqAt re fe rv fts w (by simpa using hw), ?_⟩
    · have e1 : its.toArray[n] = u := by simpa using ne
      rw [e1, eqU_of ru (flat_at fts hc)]
      exact hce
    · intro m hm hmn
      have ml : m < its.length := by simpa using hm
      have mt : m < ts.length := by omega
      have gm : ts[m]? = some ts[m] := List.getElem?_eq_getElem mt
      obtain ⟨u2, hu2, ru2⟩ := rv.get gm
      obtain ⟨_, me⟩ := List.getElem?_eq_some_iff.mp hu2
      have e2 : its.toArray[m] = u2 := by simpa using me
      rw [e2, eqU_of ru2 (flat_at fts gm)]
      exact no m _ hmn gm
    · exact ⟨.int (n : Nat), J, I.tok _, ⟨_, rfl⟩, q⟩
end
section
variable {X : Cx} {CX : CXT} {k : Nat} {f C : Addr} {fd : FuncData} {ps : List Str} {sp : Sp}
/-- x in o, o an instance of the class at C with an own __contains__ -/
def rInO (C : Addr) (sp : Sp) : R2 := fun x y H Q => ∃ a dx fs, y = .ref a ∧ H a = some (.ins C dx fs) ∧ sp [y, x] H (fun v H' => ∃ b, v = .bl b ∧ Q (.bl b) H') E0
theorem op_inO (F : FnOk X.prog X.w X.K X.mg X.base CX k f fd ps sp) (hs : PySem.W.findIn X.K (.ref C) "__contains__" = some (some (.ref f))) (hf : PySem.W.isFn X.K (.ref f) = true) (hr : Room k X.A) (hb : Binds X.K fd ps []) (hx : Passes CX X E0) : OpR X (compareOp .In) (rInO C sp) := by
  intro pins s g J x y v u Q I rx ry hq
  obtain ⟨a, dx, fs, rfl, ha, q⟩ := hq
  cases (show u = Value.ref a from ry)
  obtain ⟨mA, O, _⟩ := ins_get I.hok ha
  obtain ⟨od, O, _⟩ := O.look
  show wpAny (model X.prog X.w) X.A (contains (.ref a) v >>= fun b => pure (.bool b)) (EP X pins g Q) X.xe s
  refine wpAny_bind (PySem.W.contains_fn I.kIn O hs hf (wpAny_mono (run_at (vs := [.ref a, x]) F hr rfl hb hx I (.cons rfl (.cons rx .nil)) q) (fun r s' z => ?_) fun _ _ e => e))
  obtain ⟨w', J', I', rv, b, rfl, q'⟩ := z
  cases rv
  exact ⟨b, rfl, wpAny_pure ⟨.bl b, J', I', rfl, q'⟩⟩
theorem inO {m : Nat} (O : OwnM X.prog X.w X.K X.mg X.base CX C "__contains__" m ps sp) (hr : Room m X.A) (hx : Passes CX X E0) : OpR X (compareOp .In) (rInO C sp) := by
  obtain ⟨f, fd, F, M, hi, hb⟩ := O.ex
  exact op_inO F M.at_ hi hr hb hx
end
end L2

set_option Elab.async false
set_option maxRecDepth 100000
set_option maxHeartbeats 4000000
/-! ranges with a step made lists and tuples; zip of two tuples in a comprehension; a def that is held by a name -/
namespace L2
open PySem PySem.Spec PyProof.Rows
theorem pss_dead {X : Cx} {ss : List Stmt} : PSs X ss (fun _ _ _ => False) := ⟨fun _ _ _ _ _ _ h => h.elim⟩
/-- the def at f keeps its promise -/
structure OwnAt (P : Program) (w : World) (K : PySem.W.Frag) (mg : Str → Option Value) (base : Heap) (CX : CXT) (f : Addr) (k : Nat) (ps : List Str) (sp : Sp) : Prop where
  ex : ∃ fd, FnOk P w K mg base CX k f fd ps sp ∧ PySem.W.keepIn K (.ref f) = true ∧ Binds K fd ps []
theorem Own.at_ {P : Program} {w : World} {K : PySem.W.Frag} {mg : Str → Option Value} {base : Heap} {CX : CXT} {x : Str} {k : Nat} {ps : List Str} {sp : Sp} (O : Own P w K mg base CX x k ps sp) : ∃ f, mg x = some (.ref f) ∧ OwnAt P w K mg base CX f k ps sp := by
  obtain ⟨f, fd, F, hm, hk, hb⟩ := O.ex
  exact ⟨f, hm, fd, F, hk, hb⟩
section
variable {X : Cx} {CX : CXT} {x : Str} {k i : Nat} {f : Addr} {ps : List Str} {sp : Sp} {e : Expr} {es : List Expr} {t : TA} {p pos : Pos}
/-- the i-th slot holds f, which is called; W is wished for what it raises -/
def tCallVS (i : Nat) (f : Addr) (sp : Sp) (E : St → XK) (t : TA) : TE := fun σ H Q => σ[i]? = some (some (.ref f)) ∧ t σ H fun vs H1 => sp vs H1 Q (E σ)
theorem pe_ownVS {W : WX} (O : OwnAt X.prog X.w X.K X.mg X.base (L2.CX X.prog X.w) f k ps sp) (hr : Room k X.A) (tk : Takes X W) (hN : X.N[i]? = some x) (hv : Vis X.env.scope x) (ha : PA X (e :: es) t)
    (hdb : (x == ("__debug__" : Str)) = false := by decide) (hcd : (x == ("__classdict__" : Str)) = false := by decide)
    (he : starEach (e :: es) X.env = (false, eval e X.env) :: starEach es X.env := by rfl) (hpl : (backTo pos (starEach es X.env)).any (·.1) = false := by rfl) : PE X (.Call (.Name x p) (e :: es) [] pos) (tCallVS i f sp (WE W) t) := by
  obtain ⟨fd, F, hk, hb⟩ := O.ex
  refine ⟨fun pins s σ H Q I h => ?_⟩
  obtain ⟨hσ, h⟩ := h
  refine PyProof.Rows.Call_ (thn ((pe_var (pos := p) hN hv hdb hcd).run pins s σ H (fun y H1 => y = .ref f ∧ H1 = H) I ⟨_, hσ, rfl, rfl⟩) fun u s1 ⟨y, H1, I1, rx, ex, eh⟩ => ?_) rfl
  subst ex eh
  obtain rfl : u = Value.ref f := rx
  refine PySem.W.callWith_K (h₀ := X.base) I1.ok.mod.kin hk (thn (ha.run pos pins s1 σ H1 _ I1 h) fun us s2 ⟨vs, H2, I2, r, q⟩ => ⟨I2.kIn, ?_⟩) he hpl
  exact run_fnSD (us := us) (vs := vs) F hr hb .nil (passAt tk σ) I2 r (by rw [List.append_nil]; exact q)
end
/-! zip of two tuples -/
section
variable {K : PySem.W.Frag} {a b : Addr} {xs ys : List V}
theorem walk_zipT {n : Nat} (hn : n = min xs.length ys.length) : Walk (RZ.ItzT K a b) n (fun H => SqT K H a xs ∧ SqT K H b ys) (YPair (fun i => xs[i]?) (fun i => ys[i]?)) := by
  refine ⟨fun i _ hi q => ⟨xs, ys, xs[i]'(by omega), ys[i]'(by omega), q.1, q.2, List.getElem?_eq_getElem (by omega), List.getElem?_eq_getElem (by omega)⟩, fun _ q => ⟨xs, ys, q.1, q.2, by omega⟩, fun i H v H' _ q y => ?_⟩
  obtain ⟨T, x, y, e1, e2, e3, h1, h2⟩ := y
  exact ⟨T, x, y, e1, e2, e3, h1 xs q.1, h2 ys q.2⟩
end
/-! ranges with a step -/
section
variable {X : Cx}
def PRg3 (X : Cx) (e : Expr) (t : St → Hp → (Int → Int → Int → Hp → Prop) → Prop) : Prop :=
  ∀ (pins : List (Addr × Obj)) (s : Shared) (σ : St) (H : Hp) (Q : Int → Int → Int → Hp → Prop), Inv X pins σ H s → t σ H Q →
    wpAny (model X.prog X.w) X.A (eval e X.env) (fun x s' => ∃ r a b c t u v H', x = Value.ref r ∧ IsRange s'.heap r a b c t u v ∧ Inv X pins σ H' s' ∧ Q a b c H') X.xe s
def tRg3 (t : TA) (σ : St) (H : Hp) (Q : Int → Int → Int → Hp → Prop) : Prop := t σ H fun vs H1 => ∃ a b c, vs = [.int a, .int b, .int c] ∧ c ≠ 0 ∧ (-(2 ^ 62) ≤ a ∧ a < 2 ^ 62 ∧ -(2 ^ 62) ≤ b ∧ b < 2 ^ 62 ∧ c.natAbs < 1073741824) ∧ Q a b c H1
end
end L2

set_option Elab.async false
set_option maxRecDepth 100000
set_option maxHeartbeats 4000000
/-! comprehensions over ranges and over zip of two tuples, told by the place; what is tested and made only adds to the heap -/
namespace L2
open PySem PySem.Spec PyProof.Rows
/-- a comprehension's turns -/
abbrev LcGo (J : It) (g : TG) (tt : TT) (te : TE) (vs : List Nat) (σ : St) (H1 : Hp) (D : Addr) (Qd : Hp → Prop) : Prop :=
  ∃ W : Nat → Nat → Hp → Prop, (∃ m, W 0 m (upd H1 D (.lst []))) ∧ ∀ i m H, W i m H →
    (J.stop i H ∧ Qd H) ∨ (J.go i H ∧ ∃ Nx : Hp → Prop, (∀ H', Nx H' → ∃ m', m' < m ∧ W (i + 1) m' H') ∧ ∀ x H', J.yld i H x H' → g x (wipe σ vs) H' fun σ2 H2 => wipe σ2 vs = wipe σ vs ∧ tt σ2 H2 fun b H3 =>
      if b = true then te σ2 H3 fun y H4 => ∃ acc, H4 D = some (.lst acc) ∧ acc.length < sizeLine ∧ Nx (upd H4 D (.lst (acc ++ [y]))) else Nx H3)
theorem range_snoc (n : Nat) : List.range (n + 1) = List.range n ++ [n] := List.range_succ
section
variable {K : PySem.W.Frag} {σ : St} {H : Hp} {te : TE} {tt : TT} {vs : List Nat}
theorem lc_turn {f : Nat → V} {b : Nat → Bool} {D : Addr} {i n : Nat} {σ2 : St} {H' : Hp} (hD : H D = none) (hz : n < sizeLine) (hi : i < n) (hw : wipe σ2 vs = wipe σ vs) (e : Ext H H') (hl : H' D = some (.lst (((List.range i).filter b).map f)))
    (ht : ∀ Q : Bool → Hp → Prop, (∀ H'', Ext H' H'' → Q (b i) H'') → tt σ2 H' Q) (he : b i = true → ∀ H3, Ext H' H3 → ∀ Q : VK, (∀ H'', Ext H3 H'' → Q (f i) H'') → te σ2 H3 Q) :
    wipe σ2 vs = wipe σ vs ∧ tt σ2 H' fun b' H3 => if b' = true then te σ2 H3 fun y H4 => ∃ acc, H4 D = some (.lst acc) ∧ acc.length < sizeLine ∧ (Ext H (upd H4 D (.lst (acc ++ [y]))) ∧ upd H4 D (.lst (acc ++ [y])) D = some (.lst (((List.range (i + 1)).filter b).map f)))
      else (Ext H H3 ∧ H3 D = some (.lst (((List.range (i + 1)).filter b).map f))) := by
  refine ⟨hw, ht _ fun H3 e3 => ?_⟩
  have hl3 := e3 _ _ hl
  cases hb : b i with
  | true =>
    refine iteT (he hb H3 e3 _ fun H4 e4 => ⟨_, e4 _ _ hl3, ?_, ext_mut ((e.trans e3).trans e4) hD, ?_⟩)
    · rw [List.length_map]
      refine Nat.lt_of_le_of_lt (Nat.le_trans (List.length_filter_le _ _) ?_) hz
      rw [List.length_range]
      omega
    · rw [upd_same, range_snoc, List.filter_append, List.map_append]
      simp [hb]
  | false =>
    refine iteF ⟨e.trans e3, ?_⟩
    rw [hl3, range_snoc, List.filter_append, List.map_append]
    simp [hb]
theorem lc_rgR {Qd : Addr → Hp → Prop} {lo : Int} {n j : Nat} {f : Nat → V} {b : Nat → Bool} (hz : n < sizeLine) (hw : ∀ x, wipe ((wipe σ vs).set j (some x)) vs = wipe σ vs)
    (ht : ∀ i, i < n → ∀ H', Ext H H' → ∀ Q : Bool → Hp → Prop, (∀ H'', Ext H' H'' → Q (b i) H'') → tt ((wipe σ vs).set j (some (.int (lo + i)))) H' Q)
    (he : ∀ i, i < n → b i = true → ∀ H', Ext H H' → ∀ Q : VK, (∀ H'', Ext H' H'' → Q (f i) H'') → te ((wipe σ vs).set j (some (.int (lo + i)))) H' Q)
    (q : ∀ D H', H D = none → Ext H H' → H' D = some (.lst (((List.range n).filter b).map f)) → Qd D H') : ∀ D, H D = none → LcGo (Itr lo n) (gName j) tt te vs σ H D (Qd D) := fun D hD =>
  lc_range (fun i H' => Ext H H' ∧ H' D = some (.lst (((List.range i).filter b).map f))) ⟨Ext.upd hD, upd_same⟩ (fun i H' hi pv => lc_turn hD hz hi (hw _) pv.1 pv.2 (ht i hi H' pv.1) fun hb H3 e3 => he i hi hb H3 (pv.1.trans e3)) (fun H' pv => q D H' hD pv.1 pv.2)
theorem lc_zipR {Qd : Addr → Hp → Prop} {a b2 : Addr} {xs ys : List V} {n i1 i2 : Nat} {f : Nat → V} {b : Nat → Bool} (hx : SqT K H a xs) (hy : SqT K H b2 ys) (hn : n = min xs.length ys.length) (hz : n < sizeLine)
    (hw : ∀ x y, wipe (((wipe σ vs).set i1 (some x)).set i2 (some y)) vs = wipe σ vs)
    (ht : ∀ i x y, i < n → xs[i]? = some x → ys[i]? = some y → ∀ H', Ext H H' → ∀ Q : Bool → Hp → Prop, (∀ H'', Ext H' H'' → Q (b i) H'') → tt (((wipe σ vs).set i1 (some x)).set i2 (some y)) H' Q)
    (he : ∀ i x y, i < n → xs[i]? = some x → ys[i]? = some y → b i = true → ∀ H', Ext H H' → ∀ Q : VK, (∀ H'', Ext H' H'' → Q (f i) H'') → te (((wipe σ vs).set i1 (some x)).set i2 (some y)) H' Q)
    (q : ∀ D H', H D = none → Ext H H' → H' D = some (.lst (((List.range n).filter b).map f)) → Qd D H') : ∀ D, H D = none → LcGo (RZ.ItzT K a b2) (gTup K 2 (gCons (gName i1) (gCons (gName i2) gNil))) tt te vs σ H D (Qd D) := fun D hD => by
  refine lc_it (walk_zipT (K := K) (a := a) (b := b2) (xs := xs) (ys := ys) hn) (fun i H' => Ext H H' ∧ H' D = some (.lst (((List.range i).filter b).map f))) ⟨Ext.upd hD, upd_same⟩ (fun i H' _ pv => ⟨hx.ext pv.1, hy.ext pv.1⟩) (fun i v H' H'' hi pv y => ?_) (fun H' pv => q D H' hD pv.1 pv.2)
  obtain ⟨T, x, y, rfl, hT, rfl, h1, h2⟩ := y
  have eT := Ext.upd (o := .tup [x, y]) hT
  refine ⟨T, [x, y], rfl, SqT.of upd_same, rfl, x, [y], rfl, y, [], rfl, rfl, ?_⟩
  exact lc_turn hD hz hi (hw _ _) (pv.1.trans eT) (eT _ _ pv.2) (ht i x y hi h1 h2 _ (pv.1.trans eT)) fun hb H3 e3 => he i x y hi h1 h2 hb H3 ((pv.1.trans eT).trans e3)
end
end L2

set_option Elab.async false
set_option maxRecDepth 100000
set_option maxHeartbeats 4000000
/-! rules with the kit's own part named, for what stands within a comprehension -/
namespace L2
open PySem PySem.Spec PyProof.Rows
section
variable {X : Cx} {K : PySem.W.Frag}
theorem ix_tupK (h : X.K = K) : IxR X (rIxT K) := by
  subst h
  exact ix_tup
theorem ix_listK (h : X.K = K) : IxR X (rIxL K) := by
  subst h
  exact ix_list
theorem cr_maxK (h : X.K = K) (hc : X.calm = true) : CallR X (.builtin "max") (rMax K) := by
  subst h
  exact cr_max hc
theorem cr_minK (h : X.K = K) (hc : X.calm = true) : CallR X (.builtin "min") (rMin K) := by
  subst h
  exact cr_min hc
theorem pe_fldK {e : Expr} {ta : TE} {f : Str} {pos : Pos} (h : X.K = K) (he : PE X e ta) (hb : attributeBase e f X.env (eval e X.env) = eval e X.env := by rfl) : PE X (.Attribute e f pos) (tFld K ta f) := by
  subst h
  exact pe_fld he hb
def iListK (K : PySem.W.Frag) (tl : TE) : TI := fun σ H R => tl σ H fun x H1 => ∃ a, x = .ref a ∧ (∃ xs, SqL K H1 a xs) ∧ R (Itl K a) H1
theorem pi_listK {tg l : Expr} {tl : TE} (h : X.K = K) (hl : PE X l tl) : PI X tg l (iListK K tl) := by
  subst h
  exact pi_list hl
def rTupOfK (K : PySem.W.Frag) : List V → Hp → VK → Prop := fun xs H Q => ∃ p ys, xs = [.ref p] ∧ ((SqL K H p ys ∧ ∀ l, H l = none → Q (.ref l) (upd H l (.tup ys))) ∨ (SqT K H p ys ∧ Q (.ref p) H))
theorem call_tuple_ofK (h : X.K = K) : CallR X (.type "tuple") (rTupOfK K) := by
  subst h
  exact call_tuple_of
def rListOfK (K : PySem.W.Frag) : List V → Hp → VK → Prop := fun xs H Q => ∃ p ys, xs = [.ref p] ∧ (SqL K H p ys ∨ SqT K H p ys) ∧ ∀ l, H l = none → Q (.ref l) (upd H l (.lst ys))
theorem call_list_ofK (h : X.K = K) : CallR X (.type "list") (rListOfK K) := by
  subst h
  exact call_list_of
end
end L2

set_option Elab.async false
set_option maxRecDepth 100000
set_option maxHeartbeats 4000000
/-! list(zip(a, b)) of two lists -/
namespace PySem
theorem zip_no_len : typeLookup (Value.type "zip") (Str.ofString "__len__") = pure none := am_miss_of_fast (by decide +kernel)
theorem zip_no_hint : typeLookup (Value.type "zip") (Str.ofString "__length_hint__") = pure none := am_miss_of_fast (by decide +kernel)
/-- what has been given out -/
structure ZGiven (h : Heap) (lo : Addr) (acc : Array Value) (xs ys : Array Value) (i : Nat) (as : List Addr) : Prop where
  acc : acc.toList = as.map Value.ref
  len : as.length = i
  rise : List.Pairwise (· < ·) as
  above : ∀ a ∈ as, lo < a
  below : ∀ a ∈ as, a < h.objs.size
  pairs : ∀ (j : Nat) (a : Addr), as[j]? = some a → ∃ x y, xs[j]? = some x ∧ ys[j]? = some y ∧ IsPair h a x y
/-- how the zip stands -/
structure ZSt (h : Heap) (z TI TO i1 i2 l1 l2 : Addr) (xs ys : Array Value) (i : Nat) : Prop where
  first : i = 0 → ∃ a b, IsZip h z TI TO .none ∧ IsPair h TO a b
  later : 0 < i → ∃ T f x y, IsZipHeld h z TI TO T f ∧ IsPair h T x y
  ti : IsPair h TI (.ref i1) (.ref i2)
  it1 : h.IsListIter i1 l1 i
  it2 : h.IsListIter i2 l2 i
  li1 : h.IsList l1 xs
  li2 : h.IsList l2 ys
structure ZOff (S z TI TO i1 i2 l1 l2 : Addr) : Prop where
  z : S ≠ z
  ti : S ≠ TI
  to : S ≠ TO
  i1 : S ≠ i1
  i2 : S ≠ i2
  l1 : S ≠ l1
  l2 : S ≠ l2
section
variable {prog : Program} {w : World} {A : Around} {z TI TO i1 i2 l1 l2 S lo : Addr} {xs ys : Array Value} {i : Nat} {h h' : Heap}
theorem ZGiven.next {acc : Array Value} {as : List Addr} {T : Addr} {x y : Value} (g : ZGiven h lo acc xs ys i as) (hT : T = h.objs.size) (hlo : lo < T) (hsz : h'.objs.size = h.objs.size + 1) (hx : xs[i]? = some x) (hy : ys[i]? = some y) (hp : IsPair h' T x y)
    (hk : ∀ a ∈ as, ∀ x y, IsPair h a x y → IsPair h' a x y) : ZGiven h' lo (acc.push (.ref T)) xs ys (i + 1) (as ++ [T]) where
  acc := by rw [Array.toList_push, g.acc, List.map_append]; rfl
  len := by rw [List.length_append, g.len]; rfl
  rise := by
    rw [List.pairwise_append]
    refine ⟨g.rise, List.pairwise_singleton _ _, fun a ha b hb => ?_⟩
    rw [List.mem_singleton.mp hb, hT]
    exact g.below a ha
  above := fun a ha => by
    rcases List.mem_append.mp ha with ha | ha
    · exact g.above a ha
    · rw [List.mem_singleton.mp ha]
      exact hlo
  below := fun a ha => by
    rw [hsz]
    rcases List.mem_append.mp ha with ha | ha
    · exact Nat.lt_succ_of_lt (g.below a ha)
    · rw [List.mem_singleton.mp ha, hT]
      exact Nat.lt_succ_self _
  pairs := fun j a hj => by
    by_cases e : j < as.length
    · rw [List.getElem?_append_left e] at hj
      obtain ⟨x', y', h1, h2, h3⟩ := g.pairs j a hj
      exact ⟨x', y', h1, h2, hk a (List.mem_of_getElem? hj) _ _ h3⟩
    · have hl := (List.getElem?_eq_some_iff.mp hj).1
      rw [List.length_append] at hl
      have hl1 : [T].length = 1 := rfl
      have ej : j = as.length := by omega
      rw [List.getElem?_append_right (by omega), ej, Nat.sub_self] at hj
      cases hj
      rw [ej, g.len]
      exact ⟨x, y, hx, hy, hp⟩
theorem ZGiven.upd {acc : Array Value} {as : List Addr} {f : Obj → Obj} {oS : Obj} (g : ZGiven h lo acc xs ys i as) (hS : h.get? S = some oS) (hc : oS.cls = .type "list") : ZGiven (h.update S f) lo acc xs ys i as where
  acc := g.acc
  len := g.len
  rise := g.rise
  above := g.above
  below := fun a ha => by rw [Heap.size_update]; exact g.below a ha
  pairs := fun j a hj => by
    obtain ⟨x, y, h1, h2, h3⟩ := g.pairs j a hj
    refine ⟨x, y, h1, h2, ?_⟩
    have ne : S ≠ a := fun e => by
      subst e
      have h4 : h.get? S = some _ := h3
      rw [hS] at h4
      cases h4
      exact absurd (show Value.type "tuple" = Value.type "list" from hc) (by decide)
    show (h.update S f).get? a = _
    rw [Heap.get?_update_other h f ne]
    exact h3
theorem ZSt.upd {f : Obj → Obj} (s : ZSt h z TI TO i1 i2 l1 l2 xs ys i) (o : ZOff S z TI TO i1 i2 l1 l2) {oS : Obj} (hS : h.get? S = some oS) (hc : oS.cls = .type "list") : ZSt (h.update S f) z TI TO i1 i2 l1 l2 xs ys i where
  first := fun e => by
    obtain ⟨a, b, h1, h2⟩ := s.first e
    exact ⟨a, b, (Heap.get?_update_other h f o.z).trans h1, (Heap.get?_update_other h f o.to).trans h2⟩
  later := fun e => by
    obtain ⟨T, b, x, y, h1, h2⟩ := s.later e
    have ne : S ≠ T := fun e => by
      subst e
      have h4 : h.get? S = some _ := h2
      rw [hS] at h4
      cases h4
      exact absurd (show Value.type "tuple" = Value.type "list" from hc) (by decide)
    exact ⟨T, b, x, y, (Heap.get?_update_other h f o.z).trans h1, (Heap.get?_update_other h f ne).trans h2⟩
  ti := (Heap.get?_update_other h f o.ti).trans s.ti
  it1 := by
    obtain ⟨q, h1, h2⟩ := s.it1
    exact ⟨q, (Heap.get?_update_other h f o.i1).trans h1, h2⟩
  it2 := by
    obtain ⟨q, h1, h2⟩ := s.it2
    exact ⟨q, (Heap.get?_update_other h f o.i2).trans h1, h2⟩
  li1 := by
    obtain ⟨q, h1, h2⟩ := s.li1
    exact ⟨q, (Heap.get?_update_other h f o.l1).trans h1, h2⟩
  li2 := by
    obtain ⟨q, h1, h2⟩ := s.li2
    exact ⟨q, (Heap.get?_update_other h f o.l2).trans h1, h2⟩
theorem zip_loop (hh : A.in1.handled = none) (D : ZipApart z TI TO i1 i2 l1 l2) (o : ZOff S z TI TO i1 i2 l1 l2) (res : Value) {n : Nat} (hn : n = min xs.size ys.size) (hz : n + 1 ≤ sizeLine) {g : Array GenState} {d : _} {tk : Nat} {os : _} {R : Result → Shared → Prop} :
    ∀ (k i : Nat) (h : Heap) (acc : Array Value) (c : Nat) (as : List Addr), n - i = k → i ≤ n → ZSt h z TI TO i1 i2 l1 l2 xs ys i → h.get? S = some { cls := .type "list", data := .seq acc c } → lo < h.objs.size → ZGiven h lo acc xs ys i as →
      (∀ (h' : Heap) (acc' : Array Value) (c' : Nat) (as' : List Addr), (∀ b ob, b ≠ S → b ≠ z → b ≠ TO → b ≠ i1 → b ≠ i2 → h.get? b = some ob → h'.get? b = some ob) → h'.get? S = some { cls := .type "list", data := .seq acc' c' } → ZGiven h' lo acc' xs ys n as' → R (.ok (.ret res)) ⟨h', g, d, tk, os⟩) →
      codeAny (model prog w) A (.builtin "list.extend.loop" ⟨[.ref S, .ref z, res], []⟩) R ⟨h, g, d, tk, os⟩ := by
  intro k
  induction k with
  | zero =>
    intro i h acc c as hk hi st hS hlo gv hR
    have ei : i = n := by omega
    subst ei
    refine codeAny_builtin F.entry_extend_loop ?_
    rw [Around.under_plainId F.plain_extend_loop]
    refine wpAny_bind ?_
    have hend : xs[i]? = none ∨ ys[i]? = none := by
      rcases Nat.le_total xs.size ys.size with e | e
      · left
        exact Array.getElem?_eq_none (by omega)
      · right
        exact Array.getElem?_eq_none (by omega)
    by_cases h0 : i = 0
    · obtain ⟨a, b, hz1, hto⟩ := st.first h0
      refine wpAny_pyNext_zip_end hh D hz1 st.ti hto st.it1 st.it2 st.li1 st.li2 hend fun h' hk' => ?_
      refine wpAny_pure (hR h' acc c as (fun b ob b1 b2 b3 b4 b5 e => hk' b ob b2 b3 b4 b5 e) (hk' S _ o.z o.to o.i1 o.i2 hS) ?_)
      have has : as = [] := List.eq_nil_of_length_eq_zero (gv.len.trans h0)
      subst has
      exact ⟨gv.acc, gv.len, gv.rise, gv.above, (fun a ha => by cases ha), fun j a hj => by cases hj⟩
    · obtain ⟨T, f, tx, ty, hz1, hT⟩ := st.later (by omega)
      refine wpAny_pyNext_zip_end_held hh D hz1 hT st.ti st.it1 st.it2 st.li1 st.li2 hend fun h' hk' => ?_
      refine wpAny_pure (hR h' acc c as (fun b ob b1 b2 b3 b4 b5 e => hk' b ob b2 b4 b5 e) (hk' S _ o.z o.i1 o.i2 hS) ?_)
      have keep : ∀ a ∈ as, ∀ x y, IsPair h a x y → IsPair h' a x y := fun a ha x y hp => by
        refine hk' a _ (fun e => ?_) (fun e => ?_) (fun e => ?_) hp
        · subst e
          have q : h.get? a = some _ := hp
          rw [show h.get? a = some _ from hz1] at q
          injection q with q
          injection q with q
          exact absurd q (by decide)
        · subst e
          obtain ⟨ob, q1, q2, _⟩ := st.it1
          rw [show h.get? a = some _ from hp] at q1
          cases q1
          exact absurd (show Value.type "tuple" = Value.type "list_iterator" from q2) (by decide)
        · subst e
          obtain ⟨ob, q1, q2, _⟩ := st.it2
          rw [show h.get? a = some _ from hp] at q1
          cases q1
          exact absurd (show Value.type "tuple" = Value.type "list_iterator" from q2) (by decide)
      refine ⟨gv.acc, gv.len, gv.rise, gv.above, fun a ha => ?_, fun j a hj => ?_⟩
      · obtain ⟨j, hj⟩ := List.getElem?_of_mem ha
        obtain ⟨x, y, _, _, hp⟩ := gv.pairs j a hj
        exact Heap.lt_size (keep a ha _ _ hp)
      · obtain ⟨x, y, h1, h2, hp⟩ := gv.pairs j a hj
        exact ⟨x, y, h1, h2, keep a (List.mem_of_getElem? hj) _ _ hp⟩
  | succ k ih =>
    intro i h acc c as hk hi st hS hlo gv hR
    refine codeAny_builtin F.entry_extend_loop ?_
    rw [Around.under_plainId F.plain_extend_loop]
    refine wpAny_bind ?_
    obtain ⟨x, hx⟩ : ∃ x, xs[i]? = some x := ⟨_, Array.getElem?_eq_getElem (by omega)⟩
    obtain ⟨y, hy⟩ : ∃ y, ys[i]? = some y := ⟨_, Array.getElem?_eq_getElem (by omega)⟩
    have step : ∀ h' : Heap, ZSt h' z TI TO i1 i2 l1 l2 xs ys (i + 1) → IsPair h' h.objs.size x y → h'.objs.size = h.objs.size + 1 → (∀ b ob, b ≠ z → b ≠ TO → b ≠ i1 → b ≠ i2 → h.get? b = some ob → h'.get? b = some ob) → (∀ a ∈ as, ∀ x y, IsPair h a x y → IsPair h' a x y) →
        wpAny (model prog w) A.in1 (do
          Builtin.List.listUpdate (Value.ref S) fun q => q.push (.ref h.objs.size)
          again (Code.builtin "list.extend.loop" ⟨[.ref S, .ref z, res], []⟩)) (fun fin s' => match fin with
          | Fin.done f => R (Except.ok f) s'
          | Fin.again c' => c'.quiet = true ∧ codeAny (model prog w) A c' R s') (fun e s' => R (Except.error e) s') ⟨h', g, d, tk, os⟩ := fun h' st' hp hsz hk' hkp => by
      have hS' : h'.get? S = some { cls := .type "list", data := .seq acc c } := hk' S _ o.z o.to o.i1 o.i2 hS
      have hal : acc.size = i := by
        have e1 := congrArg List.length gv.acc
        rw [List.length_map, gv.len, Array.length_toList] at e1
        exact e1
      refine wpAny_bind (wpAny_updateSeq hS' rfl (wpAny_pure ⟨plainId_quiet F.plain_extend_loop _, ?_⟩) (by omega) (by rw [Array.size_push]; omega))
      have gv' := gv.next (h' := h') rfl hlo hsz hx hy hp hkp
      refine ih (i + 1) (h'.update S (Obj.mapSeq fun q => q.push (.ref h.objs.size))) (acc.push (.ref h.objs.size)) _ (as ++ [h.objs.size]) (by omega) (by omega) (st'.upd o hS' rfl) (Heap.get?_update_self (Obj.mapSeq fun q => q.push (.ref h.objs.size)) hS' rfl) ?_ (gv'.upd hS' rfl) fun h2 acc2 c2 as2 e1 e2 e3 => ?_
      · rw [Heap.size_update, hsz]
        exact Nat.lt_succ_of_lt hlo
      · exact hR h2 acc2 c2 as2 (fun b ob b1 b2 b3 b4 b5 e => e1 b ob b1 b2 b3 b4 b5 ((Heap.get?_update_other h' _ (Ne.symm b1)).trans (hk' b ob b2 b3 b4 b5 e))) e2 e3
    by_cases h0 : i = 0
    · obtain ⟨a, b, hz1, hto⟩ := st.first h0
      have has : as = [] := List.eq_nil_of_length_eq_zero (gv.len.trans h0)
      refine wpAny_pyNext_zip_item D hz1 st.ti hto st.it1 st.it2 st.li1 st.li2 hx hy fun h' a1 a2 a3 a4 a5 a6 a7 => step h' ⟨fun e => absurd e (Nat.succ_ne_zero _), fun _ => ⟨h.objs.size, false, x, y, a1, a5⟩, a7 TI _ D.TIz D.TITO D.TIi1 D.TIi2 st.ti, a3, a4, ?_, ?_⟩ a5 a6 a7 fun a ha => by rw [has] at ha; cases ha
      · obtain ⟨q, h1, h2⟩ := st.li1
        exact ⟨q, a7 l1 q D.l1z D.l1TO D.l1i1 D.l1i2 h1, h2⟩
      · obtain ⟨q, h1, h2⟩ := st.li2
        exact ⟨q, a7 l2 q D.l2z D.l2TO D.l2i1 D.l2i2 h1, h2⟩
    · obtain ⟨T, f, tx, ty, hz1, hT⟩ := st.later (by omega)
      have kp : ∀ (h' : Heap), (∀ b ob, b ≠ z → b ≠ i1 → b ≠ i2 → h.get? b = some ob → h'.get? b = some ob) → ∀ a x y, IsPair h a x y → IsPair h' a x y := fun h' a7 a x y hp => by
        refine a7 a _ (fun e => ?_) (fun e => ?_) (fun e => ?_) hp
        · subst e
          have q : h.get? a = some _ := hp
          rw [show h.get? a = some _ from hz1] at q
          injection q with q
          injection q with q
          exact absurd q (by decide)
        · subst e
          obtain ⟨ob, q1, q2, _⟩ := st.it1
          rw [show h.get? a = some _ from hp] at q1
          cases q1
          exact absurd (show Value.type "tuple" = Value.type "list_iterator" from q2) (by decide)
        · subst e
          obtain ⟨ob, q1, q2, _⟩ := st.it2
          rw [show h.get? a = some _ from hp] at q1
          cases q1
          exact absurd (show Value.type "tuple" = Value.type "list_iterator" from q2) (by decide)
      refine wpAny_pyNext_zip_item_held D hz1 hT st.ti st.it1 st.it2 st.li1 st.li2 hx hy fun h' a1 a3 a4 a5 a6 a7 => step h' ⟨fun e => absurd e (Nat.succ_ne_zero _), fun _ => ⟨T, true, tx, ty, a1, kp h' a7 T tx ty hT⟩, a7 TI _ D.TIz D.TIi1 D.TIi2 st.ti, a3, a4, ?_, ?_⟩ a5 a6 (fun b ob b1 b2 b3 b4 e => a7 b ob b1 b3 b4 e) fun a ha x y hp => kp h' a7 a x y hp
      · obtain ⟨q, h1, h2⟩ := st.li1
        exact ⟨q, a7 l1 q D.l1z D.l1i1 D.l1i2 h1, h2⟩
      · obtain ⟨q, h1, h2⟩ := st.li2
        exact ⟨q, a7 l2 q D.l2z D.l2i1 D.l2i2 h1, h2⟩
theorem list_init_zip (hh : A.in1.handled = none) (D : ZipApart z TI TO i1 i2 l1 l2) (o : ZOff S z TI TO i1 i2 l1 l2) {n : Nat} (hn : n = min xs.size ys.size) (hz : n + 1 ≤ sizeLine) {g : Array GenState} {d : _} {tk : Nat} {os : _} {R : Result → Shared → Prop}
    (st : ZSt h z TI TO i1 i2 l1 l2 xs ys 0) (hS : h.get? S = some { cls := .type "list", data := .seq #[] }) (hlo : lo < h.objs.size)
    (hR : ∀ (h' : Heap) (acc' : Array Value) (c' : Nat) (as' : List Addr), (∀ b ob, b ≠ S → b ≠ z → b ≠ TO → b ≠ i1 → b ≠ i2 → h.get? b = some ob → h'.get? b = some ob) → h'.get? S = some { cls := .type "list", data := .seq acc' c' } → ZGiven h' lo acc' xs ys n as' → R (.ok (.ret .none)) ⟨h', g, d, tk, os⟩) :
    wpAny (model prog w) A.in1 (Builtin.«list.__init__» ⟨[.ref S, .ref z], []⟩) (fun fin s' => match fin with
      | Fin.done f => R (Except.ok f) s'
      | Fin.again c' => c'.quiet = true ∧ codeAny (model prog w) A c' R s') (fun e s' => R (Except.error e) s') ⟨h, g, d, tk, os⟩ := by
  refine wpAny_bind ?_
  unfold Builtin.List.listItems
  refine wpAny_bind (wpAny_seqItems hS rfl (wpAny_pure ?_))
  refine wpAny_bind (wpAny_updateSeq hS rfl ?_)
  refine wpAny_bind (wpAny_letGo ?_)
  obtain ⟨a0, b0, hz0, hto0⟩ := st.first rfl
  have hS1 := Heap.get?_update_self (h := h) (Obj.mapSeq fun _ => #[]) hS rfl
  have st1 := st.upd (f := Obj.mapSeq fun _ => #[]) o hS rfl
  have sz1 : (h.update S (Obj.mapSeq fun _ => #[])).objs.size = h.objs.size := Heap.size_update _ _ _
  have off1 : ∀ b ob, b ≠ S → h.get? b = some ob → (h.update S (Obj.mapSeq fun _ => #[])).get? b = some ob := fun b ob hb e => (Heap.get?_update_other h _ (Ne.symm hb)).trans e
  generalize h.update S (Obj.mapSeq fun _ => #[]) = h1 at hS1 st1 sz1 off1 ⊢
  have hz1 : h1.get? z = some _ := off1 z _ (Ne.symm o.z) hz0
  have hT : ∀ (h2 : Heap) (g2 : _) , h2.get? z = some { cls := Value.type "zip", data := Data.fields #[Value.none, Value.bool false, Value.bool false, Value.ref TI, Value.ref TO] } → (Shared.mk h2 g2 d tk os).TypeIs (.ref z) "zip" := fun h2 g2 e => ⟨_, e, rfl⟩
  refine wpAny_bind (wpAny_typeOf (hT h1 g hz1) ?_)
  have e1 : (Builtin.List.listSameRef (Value.ref S) (Value.ref z) || Value.type "zip" == Value.type "list" || Value.type "zip" == Value.type "tuple") = false := by
    have : Builtin.List.listSameRef (Value.ref S) (Value.ref z) = false := beq_eq_false_iff_ne.mpr o.z
    rw [this]
    rfl
  rw [e1, if_neg (by decide)]
  refine wpAny_bind (wpAny_pyIter_zip hz1 ?_)
  refine wpAny_bind (wpAny_holding ?_)
  refine wpAny_bind (wpAny_specialOf (hT h1 g hz1) zip_no_len ?_)
  refine wpAny_bind (wpAny_specialOf (hT h1 g hz1) zip_no_hint (wpAny_pure ?_))
  rw [if_pos (by rfl)]
  refine wpAny_bind (wpAny_rule ?_)
  refine wpAny_bind ?_
  unfold Builtin.List.listTouch
  refine wpAny_bind (wpAny_updateSeq hS1 rfl ?_)
  have hS2 := Heap.get?_update_self (h := h1) (Obj.mapSeq fun q => q.push Value.none) hS1 rfl
  have st2 := st1.upd (f := Obj.mapSeq fun q => q.push Value.none) o hS1 rfl
  have sz2 : (h1.update S (Obj.mapSeq fun q => q.push Value.none)).objs.size = h1.objs.size := Heap.size_update _ _ _
  have off2 : ∀ b ob, b ≠ S → h1.get? b = some ob → (h1.update S (Obj.mapSeq fun q => q.push Value.none)).get? b = some ob := fun b ob hb e => (Heap.get?_update_other h1 _ (Ne.symm hb)).trans e
  generalize h1.update S (Obj.mapSeq fun q => q.push Value.none) = h2 at hS2 st2 sz2 off2 ⊢
  refine wpAny_updateSeq hS2 rfl ?_
  have hS3 := Heap.get?_update_self (h := h2) (Obj.mapSeq fun q => q.pop) hS2 rfl
  have st3 := st2.upd (f := Obj.mapSeq fun q => q.pop) o hS2 rfl
  have sz3 : (h2.update S (Obj.mapSeq fun q => q.pop)).objs.size = h2.objs.size := Heap.size_update _ _ _
  have off3 : ∀ b ob, b ≠ S → h2.get? b = some ob → (h2.update S (Obj.mapSeq fun q => q.pop)).get? b = some ob := fun b ob hb e => (Heap.get?_update_other h2 _ (Ne.symm hb)).trans e
  refine wpAny_pure ⟨plainId_quiet F.plain_extend_loop _, ?_⟩
  refine zip_loop (lo := lo) hh D o .none hn hz n 0 (h2.update S (Obj.mapSeq fun q => q.pop)) #[] _ [] (Nat.sub_zero n) (Nat.zero_le n) st3 hS3 (by rw [sz3, sz2, sz1]; exact hlo) ⟨rfl, rfl, .nil, (fun _ h => nomatch h), (fun _ h => nomatch h), (fun _ _ h => by cases h)⟩ fun h' acc' c' as' k1 k2 k3 => ?_
  exact hR h' acc' c' as' (fun b ob b1 b2 b3 b4 b5 e => k1 b ob b1 b2 b3 b4 b5 (off3 b ob b1 (off2 b ob b1 (off1 b ob b1 e)))) k2 k3
/-- list(z), z a zip of two lists as it was made -/
theorem call_list_zip {E : Value → Shared → Prop} {Q : Value → Shared → Prop} (hh : A.in1.in1.handled = none) (D : ZipApart z TI TO i1 i2 l1 l2) {n : Nat} (hn : n = min xs.size ys.size) (hz : n + 1 ≤ sizeLine) {s : Shared} (st : ZSt s.heap z TI TO i1 i2 l1 l2 xs ys 0)
    (hQ : ∀ (h' : Heap) (acc' : Array Value) (c' : Nat) (as' : List Addr), (∀ b ob, b ≠ z → b ≠ TO → b ≠ i1 → b ≠ i2 → s.heap.get? b = some ob → h'.get? b = some ob) → h'.get? s.heap.objs.size = some { cls := .type "list", data := .seq acc' c' } → ZGiven h' s.heap.objs.size acc' xs ys n as' → Q (.ref s.heap.objs.size) { s with heap := h' }) :
    wpAny (model prog w) A (call (.type "list") [.ref z]) Q E s := by
  obtain ⟨h, g, d, tk, os⟩ := s
  obtain ⟨a0, b0, hz0, hto0⟩ := st.first rfl
  refine callType_codes F.called_list (F.typeCall_list_1 _) F.entry_list_init (code_list_new (.ref z) (Q₁ := fun v s' => v = .ref h.objs.size ∧ s' = ⟨h.push { cls := .type "list", data := .seq #[] }, g, d, tk, os⟩) ⟨rfl, rfl⟩) fun obj s₁ h₁ => ?_
  obtain ⟨rfl, rfl⟩ := h₁
  have hS := Heap.get?_push_size h (o := { cls := .type "list", data := .seq #[] }) rfl
  have kp : ∀ b ob, h.get? b = some ob → (h.push { cls := Value.type "list", data := Data.seq #[] }).get? b = some ob := fun b ob e => Heap.get?_push_of_some _ e
  have lt : ∀ {b : Addr} {ob : Obj}, h.get? b = some ob → h.objs.size ≠ b := fun e => Nat.ne_of_gt (Heap.lt_size e)
  have o : ZOff h.objs.size z TI TO i1 i2 l1 l2 := ⟨lt hz0, lt st.ti, lt hto0, (by obtain ⟨_, q, _⟩ := st.it1; exact lt q), (by obtain ⟨_, q, _⟩ := st.it2; exact lt q), (by obtain ⟨_, q, _⟩ := st.li1; exact lt q), (by obtain ⟨_, q, _⟩ := st.li2; exact lt q)⟩
  have st' : ZSt (h.push { cls := Value.type "list", data := Data.seq #[] }) z TI TO i1 i2 l1 l2 xs ys 0 := ⟨fun _ => ⟨a0, b0, kp _ _ hz0, kp _ _ hto0⟩, fun e => absurd e (Nat.lt_irrefl _), kp _ _ st.ti, (by obtain ⟨q, q1, q2⟩ := st.it1; exact ⟨q, kp _ _ q1, q2⟩), (by obtain ⟨q, q1, q2⟩ := st.it2; exact ⟨q, kp _ _ q1, q2⟩), (by obtain ⟨q, q1, q2⟩ := st.li1; exact ⟨q, kp _ _ q1, q2⟩), (by obtain ⟨q, q1, q2⟩ := st.li2; exact ⟨q, kp _ _ q1, q2⟩)⟩
  refine ⟨⟨_, hS, rfl⟩, F.args_list_init_2 _ _, list_init_zip (lo := h.objs.size) hh D o hn hz st' hS (by rw [Heap.size_push]; exact Nat.lt_succ_self _) fun h' acc' c' as' k1 k2 k3 => ⟨rfl, ?_⟩⟩
  exact hQ h' acc' c' as' (fun b ob b2 b3 b4 b5 e => k1 b ob (Ne.symm (lt e)) b2 b3 b4 b5 (kp b ob e)) k2 k3
end
end PySem

set_option Elab.async false
set_option maxRecDepth 100000
set_option maxHeartbeats 4000000
/-! tuple(range(a, b, c)), list(range(a, b, c)), list(zip(x, y)) as expressions -/
namespace L2
open PySem PySem.Spec PyProof.Rows
section
variable {X : Cx}
theorem vals3 {x y z : V} {us : List Value} (r : Vals [x, y, z] us) : ∃ u v w, us = [u, v, w] ∧ RelV x u ∧ RelV y v ∧ RelV z w := by
  cases r with
  | cons h1 r =>
    obtain ⟨v, w, rfl, h2, h3⟩ := vals2 r
    exact ⟨_, v, w, rfl, h1, h2, h3⟩
theorem pylong_no {x c : Int} (h : c.natAbs < 1073741824) : Builtin.divisionGoesByPylong x c = false := by
  unfold Builtin.divisionGoesByPylong
  have hd : ¬ (if (c == 0) = true then 0 else c.natAbs.log2 / 30 + 1) > 300 := by
    split
    · omega
    · rename_i h0
      have hc : c.natAbs ≠ 0 := fun e => h0 (by rw [Int.natAbs_eq_zero.mp e]; rfl)
      have : c.natAbs.log2 < 30 := (Nat.log2_lt hc).mpr (by simpa using h)
      omega
  dsimp only
  rw [decide_eq_false hd]
  rfl
theorem prg_3 {e : Expr} {es : List Expr} {ta : TA} {p pos : Pos} (hg : Gl X "range") (hm : X.mg "range" = none) (ha : PA X (e :: es) ta) (he : starEach (e :: es) X.env = (false, eval e X.env) :: starEach es X.env := by rfl) (hpl : (backTo pos (starEach es X.env)).any (·.1) = false := by rfl) :
    PRg3 X (.Call (.Name "range" p) (e :: es) [] pos) (tRg3 ta) := by
  intro pins s σ H Q I h
  refine PyProof.Rows.Call_ (ld_blt I hg hm (u := .type "range") (by rfl) (PyProof.Rows.callWith_type1 (thn (ha.run pos pins s σ H _ I h) fun us s1 ⟨vs, H1, I1, r1, q1⟩ => ?_) he hpl)) rfl
  obtain ⟨a, b, c, rfl, hc, ⟨h1, h2, h3, h4, h5⟩, q⟩ := q1
  obtain ⟨u, v, w, rfl, ⟨t1, rfl⟩, ⟨t2, rfl⟩, ⟨t3, rfl⟩⟩ := vals3 r1
  refine call_range_3 hc ⟨s1.heap.objs.size, a, b, c, t1, t2, t3, H1, rfl, Heap.get?_push_size _ rfl, ?_, q⟩ (.inl (pylong_no h5))
  exact I1.kept (t' := s1.toks) fun b o e => Heap.get?_push_of_some _ e
def rgC (a c : Int) (n : Nat) : List V := (List.range n).map fun (i : Nat) => .int (a + (i : Int) * c)
theorem vals_rgC {a c : Int} {n : Nat} {acc : Array Value} (h : ItemsOf (fun i v => ∃ t, v = Value.int (a + (i : Int) * c) t) acc n) : Vals (rgC a c n) acc.toList := by
  refine vals_of_at ?_ fun j x u hx hu => ?_
  · show (rgC a c n).length = acc.toList.length
    rw [show acc.toList.length = acc.size from rfl, h.1]
    simp [rgC]
  · have hj : j < n := by
      have := (List.getElem?_eq_some_iff.mp hx).1
      simpa [rgC] using this
    obtain ⟨t, rfl⟩ := h.2 j u (by rw [← Array.getElem?_toList]; exact hu)
    unfold rgC at hx
    rw [List.getElem?_map, List.getElem?_range hj] at hx
    cases hx
    exact ⟨t, rfl⟩
def tTupRg3 (te : St → Hp → (Int → Int → Int → Hp → Prop) → Prop) : TE := fun σ H Q => te σ H fun a b c H1 => ∃ n, RgC a b c n ∧ n ≤ 2 ^ 24 ∧ ∀ q, H1 q = none → Q (.ref q) (upd H1 q (.tup (rgC a c n)))
def tLstRg3 (te : St → Hp → (Int → Int → Int → Hp → Prop) → Prop) : TE := fun σ H Q => te σ H fun a b c H1 => ∃ n, RgC a b c n ∧ n ≤ 2 ^ 24 ∧ ∀ q, H1 q = none → Q (.ref q) (upd H1 q (.lst (rgC a c n)))
theorem pe_tupRg3 {e : Expr} {te : St → Hp → (Int → Int → Int → Hp → Prop) → Prop} {p pos : Pos} (hc : X.calm = true) (hg : Gl X "tuple") (hm : X.mg "tuple" = none) (he : PRg3 X e te) (hs : starEach [e] X.env = (false, eval e X.env) :: starEach [] X.env := by rfl) :
    PE X (.Call (.Name "tuple" p) [e] [] pos) (tTupRg3 te) := by
  refine ⟨fun pins s σ H Q I h => ?_⟩
  refine PyProof.Rows.Call_ (ld_blt I hg hm (u := .type "tuple") (by rfl) (PyProof.Rows.callWith_type1 ?_ hs rfl)) rfl
  rw [hs]
  refine Calls.spliced_cons (thn (he pins s σ H _ I h) fun x s1 ⟨r, a, b, c, t, u, v, H1, ex, hr, I1, n, hn, hz, q⟩ => Calls.spliced_nil ?_)
  subst ex
  obtain ⟨_, _, h3, h4⟩ := hn
  refine call_tuple_range (I1.ok.hd hc) hr h3 h4 hz fun h' tk acc hk hacc => ?_
  have I2 := I1.kept (t' := tk) hk
  have hzl : (rgC a c n).length ≤ sizeLine := by
    rw [show (rgC a c n).length = n by simp [rgC]]
    exact Nat.le_trans hz (by decide)
  refine ⟨.ref h'.objs.size, upd H1 h'.objs.size (.tup (rgC a c n)), I2.laid (t' := tk) (fun b o e => Heap.get?_push_of_some _ e) (Nat.le_refl _) ⟨hzl, acc.toList, vals_rgC hacc, ⟨_, Heap.get?_push_size _ rfl, rfl, _, rfl⟩⟩, rfl, q _ (I2.hok.fresh (Nat.le_refl _))⟩
theorem pe_listRg3 {e : Expr} {te : St → Hp → (Int → Int → Int → Hp → Prop) → Prop} {p pos : Pos} (hc : X.calm = true) (hg : Gl X "list") (hm : X.mg "list" = none) (he : PRg3 X e te) (hs : starEach [e] X.env = (false, eval e X.env) :: starEach [] X.env := by rfl) :
    PE X (.Call (.Name "list" p) [e] [] pos) (tLstRg3 te) := by
  refine ⟨fun pins s σ H Q I h => ?_⟩
  refine PyProof.Rows.Call_ (ld_blt I hg hm (u := .type "list") (by rfl) (PyProof.Rows.callWith_type1 ?_ hs rfl)) rfl
  rw [hs]
  refine Calls.spliced_cons (thn (he pins s σ H _ I h) fun x s1 ⟨r, a, b, c, t, u, v, H1, ex, hr, I1, n, hn, hz, q⟩ => Calls.spliced_nil ?_)
  subst ex
  obtain ⟨_, _, h3, h4⟩ := hn
  refine call_list_range (I1.ok.hd hc) hr h3 h4 hz fun h' tk acc c' hk hS hacc => ?_
  have hzl : (rgC a c n).length ≤ sizeLine := by
    rw [show (rgC a c n).length = n by simp [rgC]]
    exact Nat.le_trans hz (by decide)
  refine ⟨.ref s1.heap.objs.size, upd H1 s1.heap.objs.size (.lst (rgC a c n)), I1.laid (t' := tk) hk (Nat.le_refl _) ⟨hzl, acc.toList, c', vals_rgC hacc, hS⟩, rfl, q _ (I1.hok.fresh (Nat.le_refl _))⟩
/-! list(zip(x, y)), two lists of ints -/
theorem zipApart {n la lb : Nat} (h1 : la < n) (h2 : lb < n) : ZipApart (n + 4) (n + 2) (n + 3) n (n + 1) la lb where
  TIz := show (n + 2 : Nat) ≠ n + 4 by omega
  TOz := show (n + 3 : Nat) ≠ n + 4 by omega
  i1z := show (n : Nat) ≠ n + 4 by omega
  i2z := show (n + 1 : Nat) ≠ n + 4 by omega
  TITO := show (n + 2 : Nat) ≠ n + 3 by omega
  TIi1 := show (n + 2 : Nat) ≠ n by omega
  TIi2 := show (n + 2 : Nat) ≠ n + 1 by omega
  TOi1 := show (n + 3 : Nat) ≠ n by omega
  TOi2 := show (n + 3 : Nat) ≠ n + 1 by omega
  i12 := show (n : Nat) ≠ n + 1 by omega
  l1z := show (la : Nat) ≠ n + 4 by omega
  l1TO := show (la : Nat) ≠ n + 3 by omega
  l1i1 := show (la : Nat) ≠ n by omega
  l1i2 := show (la : Nat) ≠ n + 1 by omega
  l2z := show (lb : Nat) ≠ n + 4 by omega
  l2TO := show (lb : Nat) ≠ n + 3 by omega
  l2i1 := show (lb : Nat) ≠ n by omega
  l2i2 := show (lb : Nat) ≠ n + 1 by omega
theorem lt_off {n b : Nat} (h : b < n) : b ≠ n + 4 ∧ b ≠ n + 3 ∧ b ≠ n ∧ b ≠ n + 1 := ⟨by omega, by omega, by omega, by omega⟩
/-- the same heap with k places more, all of them free -/
theorem padded (h : Heap) : ∀ k : Nat, ∃ h2 : Heap, h2.objs.size = h.objs.size + k ∧ (∀ b o, h.get? b = some o → h2.get? b = some o) ∧ ∀ b o, h2.get? b = some o → h.get? b = some o
  | 0 => ⟨h, rfl, fun _ _ e => e, fun _ _ e => e⟩
  | k + 1 => by
    obtain ⟨h2, e1, e2, e3⟩ := padded h k
    refine ⟨h2.push { cls := .none, data := .freed }, by rw [Heap.size_push, e1]; rfl, fun b o e => Heap.get?_push_of_some _ (e2 b o e), fun b o e => e3 b o ?_⟩
    obtain ⟨objs, life⟩ := h2
    unfold Heap.push Heap.get? at e
    dsimp only at e
    rw [Array.getElem?_push] at e
    by_cases hb : b = objs.size
    · rw [if_pos hb] at e
      cases e
    · rw [if_neg hb] at e
      exact e
theorem paired_at {α β : Type} {R : α → β → Prop} : ∀ {as : List α} {qs : List β} {j : Nat} {t : α}, Paired R as qs → as[j]? = some t → ∃ q, qs[j]? = some q ∧ R t q
  | _ :: _, _ :: _, 0, _, .cons h _, e => by
    cases e
    exact ⟨_, rfl, h⟩
  | _ :: _, _ :: _, j + 1, _, .cons _ h, e => by
    obtain ⟨q, h1, h2⟩ := paired_at (j := j) h (by simpa using e)
    exact ⟨q, by simpa using h1, h2⟩
theorem kv_zip : ∀ (xs : List Int) (ys : List Int) (us : List Value), Vals (ys.map V.int) us → KV ((xs.zip ys).map fun p => ((Sum.inl p.1 : Key), V.int p.2)) ((xs.zip us).map fun p => ((Sum.inl p.1 : Key), p.2))
  | [], _, _, _ => .nil
  | _ :: _, [], [], _ => .nil
  | x :: xs, y :: ys, u :: us, .cons h1 h2 => .cons ⟨rfl, h1⟩ (kv_zip xs ys us h2)
def tLstZip (K : PySem.W.Frag) (t : TA) : TE := fun σ H Q => t σ H fun vs H1 => ∃ (la lb : Addr) (xs ys : List Int), vs = [.ref la, .ref lb] ∧ SqL K H1 la (xs.map V.int) ∧ SqL K H1 lb (ys.map V.int) ∧ xs.length = ys.length ∧ xs.length ≤ 1000000 ∧
  ∀ (D : Addr) (as : List Addr) (H2 : Hp), Ext H1 H2 → H2 D = some (.lst (as.map V.ref)) → as.length = xs.length → (∀ (j : Nat) (t : Addr), as[j]? = some t → ∃ x y, xs[j]? = some x ∧ ys[j]? = some y ∧ H2 t = some (.tup [.int x, .int y])) → Q (.ref D) H2
theorem pe_listZip {a : Expr} {es : List Expr} {ta : TA} {p pz zpos pos : Pos} (hc : X.calm = true) (hg : Gl X "list") (hm : X.mg "list" = none) (hg2 : Gl X "zip") (hm2 : X.mg "zip" = none) (ha : PA X (a :: es) ta)
    (hs : starEach [.Call (.Name "zip" pz) (a :: es) [] zpos] X.env = (false, eval (.Call (.Name "zip" pz) (a :: es) [] zpos) X.env) :: starEach [] X.env := by rfl) (he : starEach (a :: es) X.env = (false, eval a X.env) :: starEach es X.env := by rfl) (hpl : (backTo zpos (starEach es X.env)).any (·.1) = false := by rfl) :
    PE X (.Call (.Name "list" p) [.Call (.Name "zip" pz) (a :: es) [] zpos] [] pos) (tLstZip X.K ta) := by
  refine ⟨fun pins s σ H Q I h => ?_⟩
  refine PyProof.Rows.Call_ (ld_blt I hg hm (u := .type "list") (by rfl) (PyProof.Rows.callWith_type1 ?_ hs rfl)) rfl
  rw [hs]
  refine Calls.spliced_cons (PyProof.Rows.Call_ (ld_blt I hg2 hm2 (u := .type "zip") (by rfl) (PyProof.Rows.callWith_type1 (thn (ha.run zpos pins s σ H _ I h) fun us s1 ⟨vs, H1, I1, r1, q1⟩ => ?_) he hpl)) rfl)
  obtain ⟨la, lb, xs, ys, rfl, hxs, hys, hll, hz, q⟩ := q1
  obtain ⟨u1, u2, rfl, r1a, r1b⟩ := vals2 r1
  obtain rfl : u1 = Value.ref la := r1a
  obtain rfl : u2 = Value.ref lb := r1b
  obtain ⟨its1, rv1, pl1, _⟩ := I1.list hxs
  obtain ⟨its2, rv2, pl2, _⟩ := I1.list hys
  have hl1 : its1.length = xs.length := by rw [← rv1.length, List.length_map]
  have hl2 : its2.length = ys.length := by rw [← rv2.length, List.length_map]
  have lt1 : la < s1.heap.objs.size := by obtain ⟨o, _, e, _⟩ := pl1; exact Heap.lt_size e
  have lt2 : lb < s1.heap.objs.size := by obtain ⟨o, _, e, _⟩ := pl2; exact Heap.lt_size e
  refine call_zip_2 pl1.isList pl2.isList fun h2 z1 z2 z3 z4 z5 z6 z7 => Calls.spliced_nil ?_
  have I2 := I1.kept (t' := s1.toks) z7
  have D : ZipApart (s1.heap.objs.size + 4) (s1.heap.objs.size + 2) (s1.heap.objs.size + 3) s1.heap.objs.size (s1.heap.objs.size + 1) la lb := zipApart lt1 lt2
  have st : ZSt h2 (s1.heap.objs.size + 4) (s1.heap.objs.size + 2) (s1.heap.objs.size + 3) s1.heap.objs.size (s1.heap.objs.size + 1) la lb its1.toArray its2.toArray 0 := ⟨fun _ => ⟨_, _, z1, z3⟩, fun e => absurd e (Nat.lt_irrefl _), z2, z4, z5, (by obtain ⟨o, q1, q2⟩ := pl1.isList; exact ⟨o, z7 _ _ q1, q2⟩), (by obtain ⟨o, q1, q2⟩ := pl2.isList; exact ⟨o, z7 _ _ q1, q2⟩)⟩
  refine call_list_zip (n := xs.length) (s := { s1 with heap := h2 }) (I2.ok.hd hc) D (by simp; omega) (Nat.le_trans (Nat.succ_le_succ hz) (by decide)) st fun h3 acc c as k1 k2 k3 => ?_
  obtain ⟨hp, p1, p2, p3⟩ := padded s1.heap 5
  have I3 := I1.kept (h' := hp) (t' := s1.toks) p2
  have hk : ∀ b ob, hp.get? b = some ob → h3.get? b = some ob := fun b ob e => by
    have e1 := p3 b ob e
    obtain ⟨n1, n2, n3, n4⟩ := lt_off (Heap.lt_size e1)
    exact k1 b ob n1 n2 n3 n4 (z7 b ob e1)
  have hsz : hp.objs.size = h2.objs.size := by rw [p1, z6]
  have hG : W.KdxG (mixKind X.prog X.w) ((xs.zip its2).map fun p => ((Sum.inl p.1 : Key), p.2)) hp.objs.size h3 as := by
    rw [hsz]
    refine ⟨k3.rise, k3.above, fun j a hj => ?_⟩
    obtain ⟨x, y, hx, hy, hpair⟩ := k3.pairs j a hj
    have hx' : its1[j]? = some x := by simpa using hx
    have hy' : its2[j]? = some y := by simpa using hy
    obtain ⟨n, hn⟩ : ∃ n, xs[j]? = some n := ⟨_, List.getElem?_eq_getElem (by have := (List.getElem?_eq_some_iff.mp hx').1; omega)⟩
    obtain ⟨u, hu, ru⟩ := rv1.get (i := j) (x := .int n) (by rw [List.getElem?_map, hn]; rfl)
    rw [hx'] at hu
    cases hu
    obtain ⟨t, rfl⟩ := ru
    refine ⟨_, .inl n, y, ?_, ?_, hpair⟩
    · rw [List.getElem?_map, (List.getElem?_zip_eq_some (z := (n, y))).mpr ⟨hn, hy'⟩]
      rfl
    · show (n == n) = true
      exact beq_self_eq_true n
  have hal : as.length = ((xs.zip its2).map fun p => ((Sum.inl p.1 : Key), p.2)).length := by
    rw [k3.len, List.length_map, List.length_zip]
    omega
  obtain ⟨H3, e1, e2, e3, e4, e5, e6, I4⟩ := LiI.items_laid (kvs := (xs.zip ys).map fun p => ((Sum.inl p.1 : Key), V.int p.2)) (tk := s1.toks) (s := { s1 with heap := hp, toks := s1.toks }) I3 (by rw [List.length_map, List.length_zip]; exact Nat.le_trans (Nat.min_le_left _ _) (Nat.le_trans hz (by decide))) (kv_zip xs ys its2 rv2) hk (by rw [show ({ s1 with heap := hp, toks := s1.toks } : Shared).heap.objs.size = h2.objs.size from hsz]; exact k2) hal hG k3.acc
  refine ⟨.ref h2.objs.size, H3, I4, rfl, q h2.objs.size as H3 e1 ?_ k3.len fun j t hj => ?_⟩
  · rw [← hsz]
    exact e5
  · obtain ⟨q', h1, h2'⟩ := paired_at e6 hj
    rw [List.getElem?_map] at h1
    cases hz' : (xs.zip ys)[j]? with
    | none => rw [hz'] at h1; cases h1
    | some p =>
      rw [hz'] at h1
      cases h1
      obtain ⟨h3', h4'⟩ := List.getElem?_zip_eq_some.mp hz'
      exact ⟨p.1, p.2, h3', h4', h2'⟩
end
end L2

set_option Elab.async false
set_option maxRecDepth 100000
set_option maxHeartbeats 4000000
namespace L2
open PySem PySem.Spec PyProof.Rows
section
variable {X : Cx} {K : PySem.W.Frag}
theorem op_in_seqK (h : X.K = K) : OpR X (compareOp .In) (rIn K false) := by
  subst h
  exact op_in_seq
theorem op_notIn_seqK (h : X.K = K) : OpR X (compareOp .NotIn) (rIn K true) := by
  subst h
  exact op_notIn_seq
theorem inV_ints (a : Int) : ∀ ns : List Int, inV (.int a) (ns.map V.int) = decide (a ∈ ns)
  | [] => rfl
  | n :: ns => by
    have ih := inV_ints a ns
    unfold inV at ih ⊢
    rw [List.map_cons, List.any_cons, ih]
    have e : eqV (.int n) (.int a) = decide (n = a) := rfl
    rw [e, Bool.eq_iff_iff]
    simp
    constructor
    · rintro (e | e)
      · exact .inl e.symm
      · exact .inr e
    · rintro (e | e)
      · exact .inl e.symm
      · exact .inr e
theorem flat_ints {ns : List Int} : (ns.map V.int).all flatV = true := by
  rw [List.all_eq_true]
  intro v hv
  obtain ⟨n, _, rfl⟩ := List.mem_map.mp hv
  rfl
end
end L2

set_option Elab.async false
set_option maxRecDepth 100000
set_option maxHeartbeats 4000000
namespace L2
open PySem PySem.Spec PyProof.Rows
section
variable {X : Cx} {K : PySem.W.Frag} {a : Expr} {ta : TE}
/-- a truth test with K named, for what stands within a comprehension -/
def tTruK (K : PySem.W.Frag) (ta : TE) : TT := fun σ H Q => ta σ H fun x H' => ∃ k, TruV K x H' k ∧ Q k H'
theorem pt_truthK (h : X.K = K) (ha : PE X a ta) (he : ∀ whole, isTrue a X.env whole = (do let v ← whole; standAt a.pos; holding [v] (truthy v))) :
    PT X a (tTruK K ta) := by
  subst h
  exact pt_truth ha he
end
end L2

set_option Elab.async false
set_option maxRecDepth 100000
set_option maxHeartbeats 4000000
/-! for over a list or a tuple, one walk for both; the body only adds to the heap -/
namespace L2
open PySem PySem.Spec PyProof.Rows
section
variable {K : PySem.W.Frag} {a : Addr} {xs : List V}
theorem for_sq {g : TG} {tb : TS} {D : Ends} {σ : St} {H : Hp} (hx : SqL K H a xs ∨ SqT K H a xs) (Pv : Nat → St → Hp → Prop) (h0 : Pv 0 σ H) (hE : ∀ i σ' H', Pv i σ' H' → Ext H H')
    (hs : ∀ i x σ' H', xs[i]? = some x → Pv i σ' H' → g x σ' H' fun σ2 H2 => tb { D with nx := Pv (i + 1), ct := Pv (i + 1), bk := D.nx } σ2 H2) (hd : ∀ σ' H', Pv xs.length σ' H' → D.nx σ' H') :
    ((∃ xs, SqL K H a xs) ∧ turnsOf g tb D σ (Itl K a) H) ∨ ((∃ xs, SqT K H a xs) ∧ turnsOf g tb D σ (Itt K a) H) := by
  have step : ∀ i x σ' H' H'', i < xs.length → Pv i σ' H' → YAt xs i H' x H'' → g x σ' H'' fun σ2 H2 => tb { D with nx := Pv (i + 1), ct := Pv (i + 1), bk := D.nx } σ2 H2 := by
    rintro i x σ' H' H'' _ pv ⟨rfl, hx'⟩
    exact hs i x σ' H'' hx' pv
  rcases hx with hx | hx
  · exact .inl ⟨⟨xs, hx⟩, for_it (walk_list (xs := xs)) Pv h0 (fun i σ' H' _ pv => hx.ext (hE i σ' H' pv)) step hd⟩
  · exact .inr ⟨⟨xs, hx⟩, for_it (walk_tup (xs := xs)) Pv h0 (fun i σ' H' _ pv => hx.ext (hE i σ' H' pv)) step hd⟩
end
end L2

set_option Elab.async false
set_option maxRecDepth 100000
set_option maxHeartbeats 4000000
/-! a tuple whose object is known: its methods may be called -/
namespace L2
open PySem PySem.Spec PyProof.Rows
def FrzT (H : Hp) (a : Addr) (ts : List V) : Prop := ∃ o, H a = some (.frz o (.tup ts)) ∧ o.dict = none
theorem FrzT.sqT {K : PySem.W.Frag} {H : Hp} {a : Addr} {ts : List V} (h : FrzT H a ts) : SqT K H a ts := by
  obtain ⟨o, h, _⟩ := h
  exact .inl (.inr ⟨o, h⟩)
theorem FrzT.ext {H H' : Hp} {a : Addr} {ts : List V} (h : FrzT H a ts) (e : Ext H H') : FrzT H' a ts := by
  obtain ⟨o, h, d⟩ := h
  exact ⟨o, e _ _ h, d⟩
def rTupFrz (K : PySem.W.Frag) : List V → Hp → VK → Prop := fun xs H Q => ∃ p ys, xs = [.ref p] ∧ SqL K H p ys ∧ ∀ l o, H l = none → o.dict = none → Q (.ref l) (upd H l (.frz o (.tup ys)))
section
variable {X : Cx}
theorem call_tuple_frz : CallR X (.type "tuple") (rTupFrz X.K) := by
  intro pins s σ H xs us Q I r h
  obtain ⟨p, ys, rfl, hq, q⟩ := h
  obtain ⟨u, rfl, rx⟩ := vals1 r
  cases rx
  obtain ⟨its, r', pl, hz⟩ := I.list hq
  have hlen := r'.length
  refine call_tuple_list pl.isList (fun h' kp => ?_) (by simp only [List.size_toArray] <;> omega)
  have I1 : Inv X pins σ H { s with heap := h' } := I.kept (t' := s.toks) kp
  have I2 : Inv X pins σ (upd H h'.objs.size (.frz { cls := .type "tuple", data := .seq its.toArray } (.tup ys))) { s with heap := h'.push { cls := .type "tuple", data := .seq its.toArray } } :=
    I1.laid (t' := s.toks) (fun b o e => Heap.get?_push_of_some _ e) (Nat.le_refl _) (show ObjOk X.prog X.w _ _ _ (.frz _ (.tup ys)) from ⟨Heap.get?_push_size _ rfl, hz, its, r', IsTup.new _ _⟩)
  exact ⟨.ref h'.objs.size, _, I2, rfl, q _ _ (I1.hok.fresh (Nat.le_refl _)) rfl⟩
def tTM (r : V → List V → Hp → VK → Prop) (to : TE) (t : TA) : TE := fun σ H Q => to σ H fun x H1 => ∃ a ts, x = .ref a ∧ FrzT H1 a ts ∧ t σ H1 fun xs H2 => r x xs H2 Q
variable {o e : Expr} {es : List Expr} {to : TE} {t : TA} {name : Str} {apos cpos : Pos} {id : String} {r : V → List V → Hp → VK → Prop}
theorem pe_tm (slot : Slot "tuple" name id) (hty : typeOf (.builtin id) = pure (.type "method_descriptor")) (hm : MtR X id r) (ho : PE X o to) (ha : PA X (e :: es) t)
    (hbase : attributeBase o name X.env (eval o X.env) = eval o X.env := by rfl)
    (hfew : ((backTo cpos (starEach (e :: es) X.env)).all (fun x => !x.1) && (backToKw cpos (keywordEach [] X.env)).all (fun x => x.1.isSome)
      && decide ((e :: es).length + ([] : List Keyword).length + (if ([] : List Keyword).isEmpty then 0 else 1) < 30)) = true := by rfl)
    (hline : (apos.endLine == cpos.line) = true := by rfl) (hs : starEach (e :: es) X.env = (false, eval e X.env) :: starEach es X.env := by rfl) (hplain : (backTo cpos (starEach es X.env)).any (·.1) = false := by rfl) :
    PE X (.Call (.Attribute o name apos) (e :: es) [] cpos) (tTM r to t) := by
  refine ⟨fun pins s σ H Q I h => ?_⟩
  refine wpAny_Call_method_late hbase hfew hline rfl (thn (ho.run pins s σ H _ I h) fun v s1 ⟨x, H1, I1, r1, a, ts, ex, hf, q1⟩ => ?_)
  subst ex
  obtain ⟨ob, hf, hd⟩ := hf
  obtain ⟨h0, _, its, _, ⟨ob', h0', hc, _⟩⟩ := I1.hok a _ hf
  rw [h0] at h0'
  cases h0'
  cases (show v = Value.ref a from r1)
  refine ⟨"tuple", id, PySem.F.plainAttrs_tuple, slot, hty, ⟨ob, h0, hc⟩, fun b eb => by cases eb; exact ⟨ob, h0, hd⟩, ?_⟩
  have hA := ha.run cpos pins s1 σ H1 _ I1 q1
  rw [hs] at hA ⊢
  refine Calls.callWith_builtin (by show (false || (backTo cpos (starEach es X.env)).any (·.1)) = false; rw [hplain] <;> rfl) (Calls.evalArgs_plain ?_)
  exact thn hA fun us s2 ⟨vs, H2, I2, r2, q2⟩ => hm pins s2 σ H2 (.ref a) vs (.ref a) us Q I2 rfl r2 q2
end
theorem sl_listK {X : Cx} {K : PySem.W.Frag} (h : X.K = K) : SlR X (rSlL K) := by
  subst h
  exact sl_list
section
variable {K : PySem.W.Frag} {a : Addr} {xs : List V}
/-- for over a list or a tuple that the body leaves, though it writes elsewhere -/
theorem for_sqM {g : TG} {tb : TS} {D : Ends} {σ : St} {H0 H : Hp} (hx : SqL K H0 a xs ∨ SqT K H0 a xs) (Pv : Nat → St → Hp → Prop) (h0 : Pv 0 σ H) (hE : ∀ i σ' H', Pv i σ' H' → Ext H0 H')
    (hs : ∀ i x σ' H', xs[i]? = some x → Pv i σ' H' → g x σ' H' fun σ2 H2 => tb { D with nx := Pv (i + 1), ct := Pv (i + 1), bk := D.nx } σ2 H2) (hd : ∀ σ' H', Pv xs.length σ' H' → D.nx σ' H') :
    ((∃ xs, SqL K H a xs) ∧ turnsOf g tb D σ (Itl K a) H) ∨ ((∃ xs, SqT K H a xs) ∧ turnsOf g tb D σ (Itt K a) H) := by
  have step : ∀ i x σ' H' H'', i < xs.length → Pv i σ' H' → YAt xs i H' x H'' → g x σ' H'' fun σ2 H2 => tb { D with nx := Pv (i + 1), ct := Pv (i + 1), bk := D.nx } σ2 H2 := by
    rintro i x σ' H' H'' _ pv ⟨rfl, hx'⟩
    exact hs i x σ' H'' hx' pv
  have e0 := hE 0 _ _ h0
  rcases hx with hx | hx
  · exact .inl ⟨⟨xs, hx.ext e0⟩, for_it (walk_list (xs := xs)) Pv h0 (fun i σ' H' _ pv => hx.ext (hE i σ' H' pv)) step hd⟩
  · exact .inr ⟨⟨xs, hx.ext e0⟩, for_it (walk_tup (xs := xs)) Pv h0 (fun i σ' H' _ pv => hx.ext (hE i σ' H' pv)) step hd⟩
/-- for i, x in enumerate(e), the body leaving e, though it writes elsewhere -/
theorem for_enSqM {g : TG} {tb : TS} {D : Ends} {σ : St} {H0 H : Hp} (hx : SqL K H0 a xs ∨ SqT K H0 a xs) (Pv : Nat → St → Hp → Prop) (h0 : Pv 0 σ H) (hE : ∀ i σ' H', Pv i σ' H' → Ext H0 H')
    (hs : ∀ i x σ' H' T, xs[i]? = some x → Pv i σ' H' → H' T = none → g (.ref T) σ' (upd H' T (.tup [.int (i : Nat), x])) fun σ2 H2 => tb { D with nx := Pv (i + 1), ct := Pv (i + 1), bk := D.nx } σ2 H2) (hd : ∀ σ' H', Pv xs.length σ' H' → D.nx σ' H') :
    ((∃ xs, SqL K H a xs) ∧ turnsOf g tb D σ (Ite K a) H) ∨ ((∃ xs, SqT K H a xs) ∧ turnsOf g tb D σ (Itet K a) H) := by
  have step : ∀ i x σ' H' H'', i < xs.length → Pv i σ' H' → YPair (fun i => some (V.int (i : Nat))) (fun i => xs[i]?) i H' x H'' → g x σ' H'' fun σ2 H2 => tb { D with nx := Pv (i + 1), ct := Pv (i + 1), bk := D.nx } σ2 H2 := by
    rintro i v σ' H' H'' hi pv ⟨T, x, y, rfl, hT, rfl, hx', hy⟩
    cases hx'
    exact hs i y σ' H' T hy pv hT
  have e0 := hE 0 _ _ h0
  rcases hx with hx | hx
  · exact .inl ⟨⟨xs, hx.ext e0⟩, for_it (walk_enum (xs := xs)) Pv h0 (fun i σ' H' _ pv => hx.ext (hE i σ' H' pv)) step hd⟩
  · exact .inr ⟨⟨xs, hx.ext e0⟩, for_it (walk_enT (xs := xs)) Pv h0 (fun i σ' H' _ pv => hx.ext (hE i σ' H' pv)) step hd⟩
end
end L2

set_option Elab.async false
set_option maxRecDepth 100000
set_option maxHeartbeats 4000000
/-! data beside instances within a tuple -/
namespace L2
open PySem PySem.Spec PyProof.Rows
section
variable {X : Cx}
variable {n : Nat}
/-- two things of data -/
def DDat (K : PySem.W.Frag) : EqvB := fun x y H k => ∃ a b d e, x = .ref a ∧ y = .ref b ∧ (a = b → k = true) ∧ Dp K H x d ∧ Dp K H y e ∧ SeqAt.shaped d = true ∧ SeqAt.shaped e = true ∧ k = PyData.eqv d e
theorem rcB_dat : RcB X n (DDat X.K) := by
  intro A pins s σ H x y u v k sb I rx ry d
  obtain ⟨a, b, d, e, rfl, rfl, _, hd, he, sd, se, rfl⟩ := d
  obtain ⟨as, r1⟩ := Dp.reads I d _ u hd rx
  obtain ⟨bs, r2⟩ := Dp.reads I e _ v he ry
  exact SeqAt.compareEq_shaped r1 r2 sd se sb.room.units ⟨rfl, H, I, Ext.rfl'⟩
theorem eqB_dat : EqB X n (DDat X.K) := rcB_dat.eqB fun x y H k d => by
  obtain ⟨a, b, _, _, h1, h2, h3, _⟩ := d
  exact ⟨a, b, h1, h2, h3⟩
theorem EqB.or {D D' : EqvB} (h : EqB X n D) (h' : EqB X n D') : EqB X n (fun x y H k => D x y H k ∨ D' x y H k) := by
  intro A pins s σ H x y u v k sb I rx ry d
  exact d.elim (fun d => h A pins s σ H x y u v k sb I rx ry d) (fun d => h' A pins s σ H x y u v k sb I rx ry d)
theorem MonB.or {D D' : EqvB} (h : MonB D) (h' : MonB D') : MonB (fun x y H k => D x y H k ∨ D' x y H k) := fun x y H H' k e d => d.imp (h x y H H' k e) (h' x y H H' k e)
theorem mon_dat {K : PySem.W.Frag} : MonB (DDat K) := fun x y H H' k e d => by
  obtain ⟨a, b, d, f, h1, h2, h3, hd, he, h4⟩ := d
  exact ⟨a, b, d, f, h1, h2, h3, dp_ext e _ _ hd, dp_ext e _ _ he, h4⟩
end
end L2

set_option Elab.async false
set_option maxRecDepth 100000
set_option maxHeartbeats 4000000
/-! not in, of an own __contains__ -/
namespace L2
open PySem PySem.Spec PyProof.Rows
section
variable {X : Cx} {CX : CXT} {k : Nat} {f C : Addr} {fd : FuncData} {ps : List Str} {sp : Sp}
def rNinO (C : Addr) (sp : Sp) : R2 := fun x y H Q => ∃ a dx fs, y = .ref a ∧ H a = some (.ins C dx fs) ∧ sp [y, x] H (fun v H' => ∃ b, v = .bl b ∧ Q (.bl (!b)) H') E0
theorem op_ninO (F : FnOk X.prog X.w X.K X.mg X.base CX k f fd ps sp) (hs : PySem.W.findIn X.K (.ref C) "__contains__" = some (some (.ref f))) (hf : PySem.W.isFn X.K (.ref f) = true) (hr : Room k X.A) (hb : Binds X.K fd ps []) (hx : Passes CX X E0) : OpR X (compareOp .NotIn) (rNinO C sp) := by
  intro pins s g J x y v u Q I rx ry hq
  obtain ⟨a, dx, fs, rfl, ha, q⟩ := hq
  cases (show u = Value.ref a from ry)
  obtain ⟨mA, O, _⟩ := ins_get I.hok ha
  obtain ⟨od, O, _⟩ := O.look
  show wpAny (model X.prog X.w) X.A (contains (.ref a) v >>= fun b => pure (.bool (!b))) (EP X pins g Q) X.xe s
  refine wpAny_bind (PySem.W.contains_fn I.kIn O hs hf (wpAny_mono (run_at (vs := [.ref a, x]) F hr rfl hb hx I (.cons rfl (.cons rx .nil)) q) (fun r s' z => ?_) fun _ _ e => e))
  obtain ⟨w', J', I', rv, b, rfl, q'⟩ := z
  cases rv
  exact ⟨b, rfl, wpAny_pure ⟨.bl (!b), J', I', rfl, q'⟩⟩
theorem ninO {m : Nat} (O : OwnM X.prog X.w X.K X.mg X.base CX C "__contains__" m ps sp) (hr : Room m X.A) (hx : Passes CX X E0) : OpR X (compareOp .NotIn) (rNinO C sp) := by
  obtain ⟨f, fd, F, M, hi, hb⟩ := O.ex
  exact op_ninO F M.at_ hi hr hb hx
end
end L2

set_option Elab.async false
set_option maxRecDepth 100000
set_option maxHeartbeats 4000000
/-! xs.count(y), over data -/
namespace L2
open PySem PySem.Spec PyProof.Rows
section
variable {X : Cx}
def rCntD (K : PySem.W.Frag) : V → List V → Hp → VK → Prop := fun x xs H Q => ∃ (a : Addr) (y : V) (d : PyData) (ds : List PyData), x = V.ref a ∧ xs = [y] ∧ Dp K H (V.ref a) (.list ds) ∧ Dp K H y d ∧ PyData.plainAll ds = true ∧ d.plain = true ∧ PyData.depthAll ds ≤ 60 ∧ Q (.int ((ds.countP fun z => PyData.eqv z d : Nat) : Int)) H
theorem mt_countD (hu : X.A.units + 64 < cLine) : MtR X "list.count" (rCntD X.K) := by
  intro pins s σ H x xs v us Q I rx rxs h
  obtain ⟨a, y, d, ds, rfl, rfl, hl, hy, sl, sd, hdp, q⟩ := h
  cases rx
  obtain ⟨u, rfl, ru⟩ := rxs.one
  obtain ⟨bs, r1⟩ := Dp.reads I d y u hy ru
  cases hl with
  | lst hs ha =>
    obtain ⟨its, rv, pl, _⟩ := I.list hs
    obtain ⟨as, h4⟩ := Dp.readsAll I ds _ its ha rv
    exact SeqAt.count_list_data pl.isList (by simpa using h4) r1 sl sd (by have := Nat.min_le_left (PyData.depthAll ds) d.depth; omega) ⟨.int _, H, I.tok _, ⟨_, rfl⟩, q⟩
end
end L2

set_option Elab.async false
set_option linter.all false
set_option maxRecDepth 100000
set_option maxHeartbeats 4000000
/-! a generator's for and if -/
namespace L2
open PySem PySem.Spec PyProof.Rows GenW
section
variable {M : Model} {A : Around} {R : GenEnd} {Y : Protocol} {n : Nat} {s₀ s : Shared} {c : Code} {fs : List Frame} {env : Env} {K : Flow → Sem PySem.Fin} {J : Value → Sem PySem.Fin} {gd : Bool → Bool} {lv : List Value → List Value}
/-- the row that an error leaves in a loop's code -/
abbrev marked (env : Env) (e : Value) : Sem PySem.Fin := (do noteFrame e env; theTreesLotGoes e : Sem Unit).bind fun _ => .raise e
/-- what a loop's body goes on to -/
abbrev onward (l : Code) : Flow → Sem PySem.Fin := fun f => match f with
  | .next | .cont => .pure (.again l)
  | .brk => .pure (.done .next)
  | .ret v => .pure (.done (.ret v))
theorem gseg_if {test : Expr} {body orelse : List Stmt} {pos : Pos}
    (h : wpAny M (A.over c fs) (isTrue test env (eval test env)) (fun b s' => Seg M A R Y n s₀ c ((if b = true then execs body env else execs orelse env).wrap K J gd lv) fs s') (fun x s' => Seg M A R Y n s₀ c (J x) fs s') s) :
    Seg M A R Y n s₀ c ((exec (.If test body orelse pos) env).wrap K J gd lv) fs s := by
  rw [exec_If]
  refine seg_bind_wrap (wpAny_standAt ?_)
  refine seg_bind_wrap (wpAny_mono h (fun b s' hb => ?_) fun _ _ hx => hx)
  cases b <;> exact hb
theorem gseg_for {tg iter : Expr} {body : List Stmt} {pos : Pos} (hs : ∀ x, foldedSetIterable iter env x = pure x)
    (h : wpAny M (A.over c fs) (eval iter env) (fun v s1 => wpAny M (A.over c fs) (pyIter v) (fun it s2 => ∀ p, Seg M A R Y n s₀ (.forLoop tg it body [] env) (M.den (.forLoop tg it body [] env))
      (.ret (fun r => ((match r with | .ok f => (.pure f : Sem Flow) | .error e => .raise e).onRaise (cameBack env)).wrap K J gd lv) none (gd false) (lv []) c p [] :: fs) s2) (fun x s' => Seg M A R Y n s₀ c (J x) fs s') s1) (fun x s' => Seg M A R Y n s₀ c (J x) fs s') s) :
    Seg M A R Y n s₀ c ((exec (.For tg iter body [] pos) env).wrap K J gd lv) fs s := by
  rw [exec_For]
  refine seg_bind_wrap (wpAny_standAt ?_)
  refine seg_bind_wrap (wpAny_mono h (fun v s1 h1 => ?_) fun _ _ hx => hx)
  refine seg_bind_wrap (wpAny_of_eq (hs v) ?_)
  refine seg_bind_wrap (wpAny_standAt ?_)
  refine seg_bind_wrap (wpAny_holding (wpAny_mono h1 (fun it s2 h2 => ?_) fun _ _ hx => hx))
  exact seg_call h2
end
section
variable {prog : Program} {w : World} {A : Around} {R : GenEnd} {Y : Protocol} {n : Nat} {s₀ s : Shared} {fs : List Frame} {env : Env}
theorem gseg_turn {tg : Expr} {it : Value} {body : List Stmt}
    (h : wpAny (model prog w) (A.over (.forLoop tg it body [] env) fs) (pyNext it) (fun r s1 => match r with
      | none => Seg (model prog w) A R Y n s₀ (.forLoop tg it body [] env) (.pure (.again (.block [] env))) fs s1
      | some v => wpAny (model prog w) (A.over (.forLoop tg it body [] env) fs) (letOwnedTupleGo tg it v) (fun _ s2 => wpAny (model prog w) (A.over (.forLoop tg it body [] env) fs) (assign tg env v) (fun _ s3 =>
          Seg (model prog w) A R Y n s₀ (.forLoop tg it body [] env) ((execs body env).wrap (onward (.forLoop tg it body [] env)) (marked env) id id) fs s3)
          (fun x s' => Seg (model prog w) A R Y n s₀ (.forLoop tg it body [] env) (marked env x) fs s') s2) (fun x s' => Seg (model prog w) A R Y n s₀ (.forLoop tg it body [] env) (marked env x) fs s') s1)
      (fun x s' => Seg (model prog w) A R Y n s₀ (.forLoop tg it body [] env) (marked env x) fs s') s) :
    Seg (model prog w) A R Y n s₀ (.forLoop tg it body [] env) ((model prog w).den (.forLoop tg it body [] env)) fs s := by
  show Seg _ A R Y n s₀ _ ((forTurn tg it body [] env).onRaise (fun x => do noteFrame x env; theTreesLotGoes x)) fs s
  unfold forTurn
  rw [Sem.onRaise_eq_wrap]
  refine seg_bind_wrap (wpAny_standAt ?_)
  refine seg_bind_wrap (wpAny_onRaise (wpAny_mono h (fun r s1 h1 => ?_) fun _ _ hx => wpAny_standAt hx))
  cases r with
  | none => exact h1
  | some v =>
    refine seg_bind_wrap (wpAny_mono h1 (fun _ s2 h2 => ?_) fun _ _ hx => hx)
    refine seg_bind_wrap (wpAny_mono h2 (fun _ s3 h3 => ?_) fun _ _ hx => hx)
    rw [Sem.bind_eq_wrap', Sem.wrap_wrap]
    rw [Sem.wrap_congr (execs body env) _ _ (K' := onward (.forLoop tg it body [] env)) (H' := marked env) (fun f => by cases f <;> rfl) (fun _ => by rfl)]
    exact h3
end
section
variable {X : Cx} {pos : Pos}
def tGIf (c : TT) (t u : TGn) : TGn := fun D ys σ H => c σ H fun b H1 => if b = true then t D ys σ H1 else u D ys σ H1
theorem gs_if {test : Expr} {body orelse : List Stmt} {tc : TT} {t u : TGn} (hc : PT X test tc) (hb : GSs X body t) (ho : GSs X orelse u) : GS X (.If test body orelse pos) (tGIf tc t u) := by
  refine ⟨fun A S ip R n ys s₀ c fs K J gd lv s σ H D g hn k hI ht => ?_⟩
  refine gseg_if ?_
  rw [g.over]
  obtain ⟨acc, cc, r, I⟩ := hI
  refine wpAny_mono (hc.run _ s σ H _ I ht) (fun b s' hb' => ?_) fun x s' hx => k.exc n s₀ x s' hx
  obtain ⟨H2, I2, q2⟩ := hb'
  cases b with
  | true => exact hb.run A S ip R n ys s₀ c fs K J gd lv s' σ H2 D g hn k ⟨acc, cc, r, I2⟩ q2
  | false => exact ho.run A S ip R n ys s₀ c fs K J gd lv s' σ H2 D g hn k ⟨acc, cc, r, I2⟩ q2
/-- W: what holds at turn i (a measure; what is out; the slots; the heap) -/
def tGFor (wi : TI) (g : TG) (tb : TGn) : TGn := fun D ys σ H => wi σ H fun J H1 => ∃ W : Nat → Nat → List V → St → Hp → Prop, (∃ m, W 0 m ys σ H1) ∧ ∀ i m ys σ H, W i m ys σ H →
  (J.stop i H ∧ D.nx ys σ H) ∨ (J.go i H ∧ ∃ N : List V → St → Hp → Prop, (∀ ys' σ' H', N ys' σ' H' → ∃ m', m' < m ∧ W (i + 1) m' ys' σ' H') ∧ ∀ x H', J.yld i H x H' → g x σ H' fun σ2 H2 => tb { D with nx := N, ct := N, bk := D.nx } ys σ2 H2)
theorem gs_for {tg iter : Expr} {body : List Stmt} {wi : TI} {g : TG} {tb : TGn} (hp : PassesOwn (model X.prog X.w) X.A X.env X.xe) (hc : X.calm = true) (hi : PI X tg iter wi) (hg : PG X tg g) (hb : GSs X body tb)
    (hs : ∀ x, foldedSetIterable iter X.env x = pure x := by intro _; rfl) : GS X (.For tg iter body [] pos) (tGFor wi g tb) := by
  refine ⟨fun A S ip R n ys s₀ c fs K J gd lv s σ H D g0 hn k hI ht => ?_⟩
  refine gseg_for hs ?_
  obtain ⟨acc, cc, r, I⟩ := hI
  rw [g0.over]
  refine wpAny_mono (hi.run _ s σ H _ I ht) (fun v s1 h1 => wpAny_mono h1 (fun itv s2 h2 p => ?_) fun x s' hx => k.exc n s₀ x s' hx) fun x s' hx => k.exc n s₀ x s' hx
  obtain ⟨it, fp, tn, Jt, H2, e, I2, T, st2, f2, W, ⟨m0, w0⟩, turn⟩ := h2
  subst e
  have notS : ∀ b ∈ fp, b ≠ S := fun b hb z => (f2 b hb).2.2.2.2.2 (S, lstObj acc cc) (List.mem_append_right _ List.mem_cons_self) z.symm
  have stat : ∀ {H' : Hp} {acc' : Array Value} {cc' : Nat}, (∀ b ∈ fp, H' b = none) → ∀ b ∈ fp, FpOk X ((S, lstObj acc' cc') :: ip) H' b := fun {H' acc' cc'} hn b hb => by
    obtain ⟨_, f1, f3, f4, f5, f6⟩ := f2 b hb
    refine ⟨hn b hb, f1, f3, f4, f5, fun q hq => ?_⟩
    rcases List.mem_append.mp hq with z | z
    · exact f6 q (List.mem_append_left _ z)
    · rcases List.mem_cons.mp z with z | z
      · rw [z]
        exact f6 (S, lstObj acc cc) (List.mem_append_right _ List.mem_cons_self)
      · exact f6 q (List.mem_append_right _ (List.mem_cons_of_mem _ z))
  have gl := fun (kk : Result → Sem PySem.Fin) => gc_loop (k := kk) (c' := .forLoop tg (.ref it) body [] X.env) (l := lv []) (kp := []) (p := p) g0 rfl rfl
  have gb := fun (kk : Result → Sem PySem.Fin) => gc_loop (k := kk) (c' := .block [] X.env) (l := lv []) (kp := []) (p := p) g0 rfl rfl
  have loop : ∀ (m n i : Nat) (ys : List V) (s₀ s : Shared) (σ : St) (H : Hp), n + ys.length = sizeLine → W i m ys σ H → tn i s.heap → (∀ b ∈ fp, H b = none) → GI X S ip ys σ H s →
      Seg (model X.prog X.w) A R (GY X S) n s₀ (.forLoop tg (.ref it) body [] X.env) ((model X.prog X.w).den (.forLoop tg (.ref it) body [] X.env))
        (.ret (fun r => ((match r with | .ok f => (.pure f : Sem Flow) | .error e => .raise e).onRaise (cameBack X.env)).wrap K J gd lv) none (gd false) (lv []) c p [] :: fs) s := by
    intro m
    induction m using Nat.strongRecOn with
    | ind m ih =>
      intro n i ys s₀ s3 σ3 H3 hn w3 st3 fr3 hI3
      have ee : ∀ (n : Nat) (s₀ : Shared) (x : Value) (s' : Shared), X.xe x s' → Seg (model X.prog X.w) A R (GY X S) n s₀ (.forLoop tg (.ref it) body [] X.env) (marked X.env x)
          (.ret (fun r => ((match r with | .ok f => (.pure f : Sem Flow) | .error e => .raise e).onRaise (cameBack X.env)).wrap K J gd lv) none (gd false) (lv []) c p [] :: fs) s' := fun n s₀ x s' hx => by
        unfold marked
        rw [Sem.bind_eq_wrap]
        refine seg_wrap ?_
        rw [(gl _).over]
        refine wpAny_bind (wpAny_mono (hp x s' hx) (fun _ s'' hcb => wpAny_theTreesLotGoes ?_) fun y s'' hcb => ?_)
        · exact seg_leaf (.error x) (seg_cameBack g0 k hcb)
        · exact seg_leaf (.error y) (seg_cameBack g0 k hcb)
      obtain ⟨acc3, cc3, r3, I3⟩ := hI3
      refine gseg_turn ?_
      rw [(gl _).over]
      rcases turn i m ys σ3 H3 w3 with ⟨stop, qn⟩ | ⟨go, N, hN, step⟩
      · refine wpAny_mono (T.done X rfl rfl rfl hc i _ s3 σ3 H3 X.xe I3 (stat fr3) st3 stop) (fun r s4 hr => ?_) fun x s' hx => ee n s₀ x s' hx
        obtain ⟨rfl, I4⟩ := hr
        refine seg_again rfl ?_
        show Seg _ A R _ n s₀ _ (((execs [] X.env).onRaise (fun x => do noteFrame x X.env; theTreesLotGoes x)) >>= fun f => (.pure (.done f) : Sem PySem.Fin)) _ s4
        exact seg_leaf (.ok .next) (k.ok n ys s₀ s4 .next hn ⟨σ3, H3, ⟨acc3, cc3, r3, I4⟩, qn⟩)
      · refine wpAny_mono (T.item X rfl rfl rfl hc i _ s3 σ3 H3 X.xe I3 (stat fr3) st3 go) (fun r s4 hr => ?_) fun x s' hx => ee n s₀ x s' hx
        obtain ⟨u, rfl, h4⟩ := hr
        refine wpAny_mono h4 (fun _ s5 h5 => ?_) fun x s' hx => ee n s₀ x s' hx
        obtain ⟨x, H5, I5, r5, y5, st5, fr5⟩ := h5
        have I5' := I5.pinned (stat fr5) (T.obj _ _ st5)
        refine wpAny_mono (hg.run _ s5 σ3 H5 x u _ I5' r5 (step x H5 y5)) (fun _ s6 h6 => ?_) fun x s' hx => ee n s₀ x s' hx
        obtain ⟨σ6, H6, I6, q6⟩ := h6
        have g1 := gl (fun r => ((match r with | .ok f => (.pure f : Sem Flow) | .error e => .raise e).onRaise (cameBack X.env)).wrap K J gd lv)
        have gl' : GC X S (ip ++ pinsAt fp s5.heap) A (.forLoop tg (.ref it) body [] X.env) (.ret (fun r => ((match r with | .ok f => (.pure f : Sem Flow) | .error e => .raise e).onRaise (cameBack X.env)).wrap K J gd lv) none (gd false) (lv []) c p [] :: fs) id :=
          ⟨g1.pn, fun q hq => (List.mem_append.mp hq).elim (g1.ip q) fun z => notS q.1 (of_pinsAt z).1, g1.apart, g1.over, g1.split, g1.guard, rfl⟩
        refine hb.run A S (ip ++ pinsAt fp s5.heap) R n ys s₀ _ _ _ _ id id s6 σ6 H6 { D with nx := N, ct := N, bk := D.nx } gl' hn ⟨fun n' ys' s₀' s7 f hn' hs => ?_, fun n' s₀' x s7 hx => ee n' s₀' x s7 hx⟩ ⟨acc3, cc3, r3, I6⟩ q6
        have back : ∀ {σ7 : St} {H7 : Hp}, GI X S (ip ++ pinsAt fp s5.heap) ys' σ7 H7 s7 → GI X S ip ys' σ7 H7 s7 ∧ tn (i + 1) s7.heap ∧ ∀ b ∈ fp, H7 b = none := fun {σ7 H7} h7 => by
          obtain ⟨acc7, cc7, r7, I7⟩ := h7
          have pin : ∀ b ∈ fp, ∀ o, s5.heap.get? b = some o → s7.heap.get? b = some o ∧ H7 b = none := fun b hb o e => by
            obtain ⟨e1, e2, _⟩ := I7.pin (b, o) (List.mem_append_right _ (List.mem_cons_of_mem _ (List.mem_append_right _ (mem_pinsAt hb e))))
            exact ⟨e1, e2⟩
          refine ⟨⟨acc7, cc7, r7, Inv.unpinned (pins := (S, lstObj acc7 cc7) :: ip) (pl := pinsAt fp s5.heap) I7⟩, T.keep _ _ _ st5 fun b hb o e => (pin b hb o e).1, fun b hb => ?_⟩
          obtain ⟨o, e, _⟩ := T.obj _ _ st5 b hb
          exact (pin b hb o e).2
        cases f with
        | next =>
          obtain ⟨σ7, H7, G7, n7⟩ := hs
          obtain ⟨m', hm, w7⟩ := hN ys' σ7 H7 n7
          obtain ⟨G8, st8, fr8⟩ := back G7
          exact seg_again rfl (ih m' hm n' (i + 1) ys' s₀' s7 σ7 H7 hn' w7 st8 fr8 G8)
        | cont =>
          obtain ⟨σ7, H7, G7, n7⟩ := hs
          obtain ⟨m', hm, w7⟩ := hN ys' σ7 H7 n7
          obtain ⟨G8, st8, fr8⟩ := back G7
          exact seg_again rfl (ih m' hm n' (i + 1) ys' s₀' s7 σ7 H7 hn' w7 st8 fr8 G8)
        | brk =>
          obtain ⟨σ7, H7, G7, n7⟩ := hs
          exact seg_leaf (.ok .next) (k.ok n' ys' s₀' s7 .next hn' ⟨σ7, H7, (back G7).1, n7⟩)
        | ret v =>
          obtain ⟨x7, σ7, H7, G7, r7, n7⟩ := hs
          exact seg_leaf (.ok (.ret v)) (k.ok n' ys' s₀' s7 (.ret v) hn' ⟨x7, σ7, H7, (back G7).1, r7, n7⟩)
  exact loop m0 n 0 ys s₀ s2 σ H2 hn w0 st2 (fun b hb => (f2 b hb).1) ⟨acc, cc, r, I2⟩
end
end L2

set_option Elab.async false
set_option linter.all false
set_option maxRecDepth 100000
set_option maxHeartbeats 4000000
/-! max(xs, default=d), min(xs, default=d), ints -/
namespace L2
open PySem PySem.Spec PyProof.Rows
def mxD (d : Int) : List Int → Int
  | [] => d
  | n :: ns => ns.foldl max n
def mnD (d : Int) : List Int → Int
  | [] => d
  | n :: ns => ns.foldl min n
theorem foldl_max (n : Int) : ∀ ns : List Int, (ns.foldl max n = n ∨ ns.foldl max n ∈ ns) ∧ n ≤ ns.foldl max n ∧ ∀ y ∈ ns, y ≤ ns.foldl max n
  | [] => ⟨.inl rfl, Int.le_refl _, fun _ h => nomatch h⟩
  | k :: ns => by
    obtain ⟨h1, h2, h3⟩ := foldl_max (max n k) ns
    rw [List.foldl_cons]
    refine ⟨?_, by omega, fun y hy => ?_⟩
    · rcases h1 with h1 | h1
      · rcases Int.le_total n k with h | h
        · exact .inr (by rw [h1, Int.max_eq_right h]; exact List.mem_cons_self)
        · exact .inl (by rw [h1, Int.max_eq_left h])
      · exact .inr (List.mem_cons_of_mem _ h1)
    · rcases List.mem_cons.mp hy with rfl | hy
      · omega
      · exact h3 y hy
theorem foldl_min (n : Int) : ∀ ns : List Int, (ns.foldl min n = n ∨ ns.foldl min n ∈ ns) ∧ ns.foldl min n ≤ n ∧ ∀ y ∈ ns, ns.foldl min n ≤ y
  | [] => ⟨.inl rfl, Int.le_refl _, fun _ h => nomatch h⟩
  | k :: ns => by
    obtain ⟨h1, h2, h3⟩ := foldl_min (min n k) ns
    rw [List.foldl_cons]
    refine ⟨?_, by omega, fun y hy => ?_⟩
    · rcases h1 with h1 | h1
      · rcases Int.le_total n k with h | h
        · exact .inl (by rw [h1, Int.min_eq_left h])
        · exact .inr (by rw [h1, Int.min_eq_right h]; exact List.mem_cons_self)
      · exact .inr (List.mem_cons_of_mem _ h1)
    · rcases List.mem_cons.mp hy with rfl | hy
      · omega
      · exact h3 y hy
theorem mxD_mem {d : Int} {ns : List Int} (h : ns ≠ []) : mxD d ns ∈ ns ∧ ∀ y ∈ ns, y ≤ mxD d ns := by
  cases ns with
  | nil => exact absurd rfl h
  | cons n ns =>
    obtain ⟨h1, h2, h3⟩ := foldl_max n ns
    refine ⟨?_, fun y hy => ?_⟩
    · rcases h1 with h1 | h1
      · exact List.mem_cons.mpr (.inl h1)
      · exact List.mem_cons_of_mem _ h1
    · rcases List.mem_cons.mp hy with rfl | hy
      · exact h2
      · exact h3 y hy
theorem mnD_mem {d : Int} {ns : List Int} (h : ns ≠ []) : mnD d ns ∈ ns ∧ ∀ y ∈ ns, mnD d ns ≤ y := by
  cases ns with
  | nil => exact absurd rfl h
  | cons n ns =>
    obtain ⟨h1, h2, h3⟩ := foldl_min n ns
    refine ⟨?_, fun y hy => ?_⟩
    · rcases h1 with h1 | h1
      · exact List.mem_cons.mpr (.inl h1)
      · exact List.mem_cons_of_mem _ h1
    · rcases List.mem_cons.mp hy with rfl | hy
      · exact h2
      · exact h3 y hy
section
variable {X : Cx}
def rMxD (K : PySem.W.Frag) (f : Int → List Int → Int) : List V → List V → Hp → VK → Prop := fun vs zs H Q => ∃ (a : Addr) (ns : List Int) (d : Int), vs = [V.ref a] ∧ zs = [.int d] ∧ SqL K H a (ns.map V.int) ∧ Q (.int (f d ns)) H
theorem ints_pd (ns : List Int) : (ns.map V.int).map pd = ns.map PyData.int := by
  rw [List.map_map]
  rfl
theorem ints_alike (ns : List Int) : PySem.W.AlikeAll (ns.map PyData.int) := by
  refine ⟨fun x hx y hy => ?_, fun x hx => ?_⟩
  · obtain ⟨a, _, rfl⟩ := List.mem_map.mp hx
    obtain ⟨b, _, rfl⟩ := List.mem_map.mp hy
    rfl
  · obtain ⟨a, _, rfl⟩ := List.mem_map.mp hx
    exact fun z => nomatch z
theorem ints_dep (ns : List Int) : PyData.depthAll (ns.map PyData.int) = 0 := by
  rw [← ints_pd]
  exact (lay_all fl_ints).2
theorem cr_maxD (hc : X.calm = true) (hu : X.A.units + 64 < cLine) : CallRK X (.builtin "max") [Str.ofString "default"] (rMxD X.K mxD) := by
  intro pins s σ H vs zs us ws Q I r rz h
  obtain ⟨a, ns, d, rfl, rfl, hs, q⟩ := h
  obtain rfl := Vals.ref1 r
  obtain ⟨w1, rfl, e1⟩ := vals1 rz
  obtain ⟨its, rv, hl, _⟩ := I.list hs
  have hd : DpAll X.K H (ns.map V.int) (ns.map PyData.int) := by rw [← ints_pd]; exact dp_all fl_ints
  obtain ⟨as, h4⟩ := Dp.readsAll I _ _ its hd rv
  refine PySem.W.max_list_default (xs := ns.map PyData.int) (I.ok.hd hc) hl.isList (by simpa using h4) (ints_alike ns) (by rw [ints_dep]; omega) (fun he h' tk hk => ?_) (fun y ys i v h' tk bs he hi hr hk => ?_)
  · have hn : ns = [] := List.map_eq_nil_iff.mp he
    subst hn
    exact ⟨.int d, H, I.kept hk, e1, q⟩
  · cases ns with
    | nil => cases he
    | cons n ns =>
      rw [List.map_cons] at he
      injection he with he1 he2
      subst he1 he2
      rw [PySem.W.maxD_ints] at hr
      cases hr
      exact ⟨.int _, H, I.kept hk, ⟨_, rfl⟩, q⟩
theorem cr_minD (hc : X.calm = true) (hu : X.A.units + 64 < cLine) : CallRK X (.builtin "min") [Str.ofString "default"] (rMxD X.K mnD) := by
  intro pins s σ H vs zs us ws Q I r rz h
  obtain ⟨a, ns, d, rfl, rfl, hs, q⟩ := h
  obtain rfl := Vals.ref1 r
  obtain ⟨w1, rfl, e1⟩ := vals1 rz
  obtain ⟨its, rv, hl, _⟩ := I.list hs
  have hd : DpAll X.K H (ns.map V.int) (ns.map PyData.int) := by rw [← ints_pd]; exact dp_all fl_ints
  obtain ⟨as, h4⟩ := Dp.readsAll I _ _ its hd rv
  refine PySem.W.min_list_default (xs := ns.map PyData.int) (I.ok.hd hc) hl.isList (by simpa using h4) (ints_alike ns) (by rw [ints_dep]; omega) (fun he h' tk hk => ?_) (fun y ys i v h' tk bs he hi hr hk => ?_)
  · have hn : ns = [] := List.map_eq_nil_iff.mp he
    subst hn
    exact ⟨.int d, H, I.kept hk, e1, q⟩
  · cases ns with
    | nil => cases he
    | cons n ns =>
      rw [List.map_cons] at he
      injection he with he1 he2
      subst he1 he2
      rw [PySem.W.minD_ints] at hr
      cases hr
      exact ⟨.int _, H, I.kept hk, ⟨_, rfl⟩, q⟩
end
end L2

set_option Elab.async false
set_option linter.all false
set_option maxRecDepth 100000
set_option maxHeartbeats 4000000
/-! a generator def of the top that keeps its promise; list(f(..)) of it -/
namespace L2
open PySem PySem.Spec PyProof.Rows GenW
section
variable {P : Program} {w : World} {K : PySem.W.Frag} {mg : Str → Option Value} {base : Heap}
structure OwnG (P : Program) (w : World) (K : PySem.W.Frag) (mg : Str → Option Value) (base : Heap) (x : Str) (k : Nat) (ps : List Str) (sp : SpG) : Prop where
  ex : ∃ (f : Addr) (fd : FuncData), GFn P w K mg base k f fd ps sp ∧ mg x = some (.ref f) ∧ PySem.W.keepIn K (.ref f) = true ∧ Binds K fd ps []
theorem DefAt.ownG {x : Str} {st : Stmt} {ps : List Str} {k : Nat} {sp : SpG} (D : DefAt K mg x st ps) (h : ∀ f fd, Fun K x x st f fd → GFn P w K mg base k f fd ps sp) : OwnG P w K mg base x k ps sp := by
  obtain ⟨f, fd, F, hm, hb⟩ := D.ex
  exact ⟨f, fd, h f fd F, hm, F.kp, hb⟩
/-- a generator def by its body -/
theorem gfn_fun {x qual : Str} {st : Stmt} {f : Addr} {fd : FuncData} {N ps : List Str} {k : Nat} {sp : SpG} (F : Fun K x qual st f fd) (S : GScope N ps (defScope st)) (len : ∀ vs H Q E, sp vs H Q E → vs.length = ps.length)
    (hbody : ∀ (cdv : Value) (A : Around) (outer : List Env) (s : Shared) (H : Hp) (vs : List V) (Q : List V → Hp → Prop) (E : XK) (pn : List (Addr × Obj)), Room k (A.deeper (envOfC qual (defScope st) s.heap.objs.size f cdv)) → sp vs H Q E →
      ∃ t, GSs (gcxOf P w K mg base N qual (defScope st) f cdv A outer s H E pn) (defBody st) t ∧ t { nx := fun ys _ H' => Q ys H', rt := fun ys v H' => v = .non ∧ Q ys H' } [] (start N vs) H) : GFn P w K mg base (k + 1) f fd ps sp := by
  obtain ⟨oc, od, kV, doc, pm, an, cdv, ct, osl, rfl, lk, hcd⟩ := F.ex
  exact gfn_of lk hcd S len fun A outer s H vs Q E pn hr hsp => hbody cdv A outer s H vs Q E pn hr hsp
end
section
variable {X : Cx} {x nm : Str} {k : Nat} {ps : List Str} {sp : SpG} {e : Expr} {es : List Expr} {t : TA} {p p2 pos pos2 : Pos}
theorem noStop0 {K : PySem.W.Frag} : NoStop K E0 := fun _ _ _ h => False.elim h
/-- list(f(e, ..)) -/
theorem pe_listOwnG (O : OwnG X.prog X.w X.K X.mg X.base x k ps sp) (hr : Room (k + 3) X.A) (ha : PA X (e :: es) t) (hmg : X.mg nm = none) (hgl : Gl X nm := by rfl) (hg : Gl X x := by rfl) (hv : bootBuiltins nm = some (.type "list") := by decide +kernel) (hnm : nm ≠ "__name__" := by decide) (hdb : (nm == ("__debug__" : Str)) = false := by decide) (hdb2 : (x == ("__debug__" : Str)) = false := by decide)
    (he : starEach (e :: es) X.env = (false, eval e X.env) :: starEach es X.env := by rfl) (hpl : (backTo pos (starEach es X.env)).any (·.1) = false := by rfl)
    (he2 : starEach [Expr.Call (.Name x p) (e :: es) [] pos] X.env = (false, eval (Expr.Call (.Name x p) (e :: es) [] pos) X.env) :: starEach [] X.env := by rfl) : PE X (.Call (.Name nm p2) [.Call (.Name x p) (e :: es) [] pos] [] pos2) (tListG (tCallG sp [] E0 t)) := by
  obtain ⟨f, fd, F, hm, hk, hb⟩ := O.ex
  exact pe_listG (pgen_call F (hr.mono (by omega)) hg hm hk hb .nil ha hdb2 he hpl) passL noStop0 hr hgl hmg hv hnm hdb he2
end
section
variable {K : PySem.W.Frag} {g : TG} {tb : TGn} {D : GEnds} {ys : List V} {σ : St} {H : Hp}
theorem gfor_range {lo : Int} {n : Nat} (Pv : Nat → List V → St → Hp → Prop) (h0 : Pv 0 ys σ H) (hs : ∀ i ys σ H, i < n → Pv i ys σ H → g (.int (lo + i)) σ H fun σ2 H2 => tb { D with nx := Pv (i + 1), ct := Pv (i + 1), bk := D.nx } ys σ2 H2) (hd : ∀ ys σ H, Pv n ys σ H → D.nx ys σ H) :
    ∃ W : Nat → Nat → List V → St → Hp → Prop, (∃ m, W 0 m ys σ H) ∧ ∀ i m ys σ H, W i m ys σ H →
      ((Itr lo n).stop i H ∧ D.nx ys σ H) ∨ ((Itr lo n).go i H ∧ ∃ N : List V → St → Hp → Prop, (∀ ys' σ' H', N ys' σ' H' → ∃ m', m' < m ∧ W (i + 1) m' ys' σ' H') ∧ ∀ x H', (Itr lo n).yld i H x H' → g x σ H' fun σ2 H2 => tb { D with nx := N, ct := N, bk := D.nx } ys σ2 H2) := by
  refine ⟨fun i m ys σ H => m = n - i ∧ i ≤ n ∧ Pv i ys σ H, ⟨n - 0, rfl, Nat.zero_le _, h0⟩, ?_⟩
  rintro i m ys σ H ⟨rfl, hi, pv⟩
  by_cases hlt : i < n
  · refine .inr ⟨hlt, Pv (i + 1), fun ys' σ' H' q => ⟨n - (i + 1), by omega, rfl, hlt, q⟩, fun x H' hy => ?_⟩
    obtain ⟨rfl, rfl⟩ := hy
    exact hs i ys σ _ hlt pv
  · have e : i = n := by omega
    subst e
    exact .inl ⟨Nat.le_refl _, hd ys σ H pv⟩
theorem gfor_list {a : Addr} {xs : List V} (Pv : Nat → List V → St → Hp → Prop) (h0 : Pv 0 ys σ H) (hl : ∀ i ys σ H, i ≤ xs.length → Pv i ys σ H → SqL K H a xs) (hs : ∀ i x ys σ H, xs[i]? = some x → Pv i ys σ H → g x σ H fun σ2 H2 => tb { D with nx := Pv (i + 1), ct := Pv (i + 1), bk := D.nx } ys σ2 H2) (hd : ∀ ys σ H, Pv xs.length ys σ H → D.nx ys σ H) :
    ∃ W : Nat → Nat → List V → St → Hp → Prop, (∃ m, W 0 m ys σ H) ∧ ∀ i m ys σ H, W i m ys σ H →
      ((Itl K a).stop i H ∧ D.nx ys σ H) ∨ ((Itl K a).go i H ∧ ∃ N : List V → St → Hp → Prop, (∀ ys' σ' H', N ys' σ' H' → ∃ m', m' < m ∧ W (i + 1) m' ys' σ' H') ∧ ∀ x H', (Itl K a).yld i H x H' → g x σ H' fun σ2 H2 => tb { D with nx := N, ct := N, bk := D.nx } ys σ2 H2) := by
  refine ⟨fun i m ys σ H => m = xs.length - i ∧ i ≤ xs.length ∧ Pv i ys σ H, ⟨xs.length - 0, rfl, Nat.zero_le _, h0⟩, ?_⟩
  rintro i m ys σ H ⟨rfl, hi, pv⟩
  have hq := hl i ys σ H hi pv
  by_cases hlt : i < xs.length
  · have hx : xs[i]? = some xs[i] := List.getElem?_eq_getElem hlt
    refine .inr ⟨⟨xs, xs[i], hq, hx⟩, Pv (i + 1), fun ys' σ' H' q => ⟨xs.length - (i + 1), by omega, rfl, hlt, q⟩, fun x H' hy => ?_⟩
    obtain ⟨rfl, hy⟩ := hy
    exact hs i x ys σ _ (hy xs hq) pv
  · have e : i = xs.length := by omega
    subst e
    exact .inl ⟨⟨xs, hq, Nat.le_refl _⟩, hd ys σ H pv⟩
theorem gfor_tup {a : Addr} {xs : List V} (Pv : Nat → List V → St → Hp → Prop) (h0 : Pv 0 ys σ H) (hl : ∀ i ys σ H, i ≤ xs.length → Pv i ys σ H → SqT K H a xs) (hs : ∀ i x ys σ H, xs[i]? = some x → Pv i ys σ H → g x σ H fun σ2 H2 => tb { D with nx := Pv (i + 1), ct := Pv (i + 1), bk := D.nx } ys σ2 H2) (hd : ∀ ys σ H, Pv xs.length ys σ H → D.nx ys σ H) :
    ∃ W : Nat → Nat → List V → St → Hp → Prop, (∃ m, W 0 m ys σ H) ∧ ∀ i m ys σ H, W i m ys σ H →
      ((Itt K a).stop i H ∧ D.nx ys σ H) ∨ ((Itt K a).go i H ∧ ∃ N : List V → St → Hp → Prop, (∀ ys' σ' H', N ys' σ' H' → ∃ m', m' < m ∧ W (i + 1) m' ys' σ' H') ∧ ∀ x H', (Itt K a).yld i H x H' → g x σ H' fun σ2 H2 => tb { D with nx := N, ct := N, bk := D.nx } ys σ2 H2) := by
  refine ⟨fun i m ys σ H => m = xs.length - i ∧ i ≤ xs.length ∧ Pv i ys σ H, ⟨xs.length - 0, rfl, Nat.zero_le _, h0⟩, ?_⟩
  rintro i m ys σ H ⟨rfl, hi, pv⟩
  have hq := hl i ys σ H hi pv
  by_cases hlt : i < xs.length
  · have hx : xs[i]? = some xs[i] := List.getElem?_eq_getElem hlt
    refine .inr ⟨⟨xs, xs[i], hq, hx⟩, Pv (i + 1), fun ys' σ' H' q => ⟨xs.length - (i + 1), by omega, rfl, hlt, q⟩, fun x H' hy => ?_⟩
    obtain ⟨rfl, hy⟩ := hy
    exact hs i x ys σ _ (hy xs hq) pv
  · have e : i = xs.length := by omega
    subst e
    exact .inl ⟨⟨xs, hq, Nat.le_refl _⟩, hd ys σ H pv⟩
end
end L2

set_option Elab.async false
set_option linter.all false
set_option maxRecDepth 100000
set_option maxHeartbeats 4000000
/-! ==, not in over data, the kit's own part named -/
namespace L2
open PySem PySem.Spec PyProof.Rows
section
variable {X : Cx} {K : PySem.W.Frag}
theorem op_eqDK (h : X.K = K) (hu : X.A.units + 64 < cLine) : OpR X (compareOp .Eq) (rEqD K) := by
  subst h
  exact op_eqD hu
theorem op_neDK (h : X.K = K) (hu : X.A.units + 64 < cLine) : OpR X (compareOp .NotEq) (rNeD K) := by
  subst h
  exact op_neD hu
theorem op_inDK (h : X.K = K) (hu : X.A.units + 65 < cLine) : OpR X (compareOp .In) (rInD K) := by
  subst h
  exact op_inD hu
theorem op_notInDK (h : X.K = K) (hu : X.A.units + 65 < cLine) : OpR X (compareOp .NotIn) (rNotInD K) := by
  subst h
  exact op_notInD hu
end
end L2

set_option Elab.async false
set_option linter.all false
/-! all, any within comprehensions: the kit's own part named -/
namespace L2
open PySem PySem.Spec PyProof.Rows
section
variable {X : Cx} {K : PySem.W.Frag}
theorem cr_allK (h : X.K = K) (hc : X.calm = true) : CallR X (.builtin "all") (rAll K) := by
  subst h
  exact cr_all hc
theorem cr_anyK (h : X.K = K) (hc : X.calm = true) : CallR X (.builtin "any") (rAny K) := by
  subst h
  exact cr_any hc
end
end L2

set_option Elab.async false
set_option linter.all false
set_option maxRecDepth 100000
set_option maxHeartbeats 4000000
/-! own errors with one field whose own base is OverflowError -/
namespace L2
open PySem PySem.Spec PyProof.Rows
open Builtin Builtin.ObjectAttr PySem.W PySem.HandSPX
/-- what stands behind the class itself -/
abbrev ofBack : List Value := [.type "OverflowError", .type "ArithmeticError", .type "Exception", .type "BaseException", .type "object"]
theorem of_calm (self : Value) (C : Addr) : refuseLoop self "__setattr__" (.ref C :: ofBack) = pure () := by
  rw [refuseLoop_ref]
  exact PySem.F.store_OverflowError.passes self
theorem of_has (Y : String) (C : Addr) : (Value.ref C :: ofBack).contains (.type Y) = ofBack.contains (.type Y) := by
  rw [List.contains_cons]
  rfl
section
variable {prog : Program} {w : World} {A : Around} {R : Result → Shared → Prop} {hp : Heap} {g : Array GenState} {d : Drawn} {t : Nat} {os : OsState}
/-- the first field of such an error -/
theorem of_first {K : Frag} {nm : Str} {tk : Tok} {val : Value} {a C : Addr} {parts : Array Value} {cd : ClassData}
    (inK : K.In hp) (at_a : hp.get? a = some { cls := .ref C, data := .fields parts }) (at_C : clsIn K C = some cd) (line : cd.mro = .ref C :: ofBack) (dct : cd.hasDict = true) (free : findIn K (.ref C) nm = some none)
    (goal : ∀ hp2 tk2 dx, (∀ b o, b ≠ a → hp.get? b = some o → hp2.get? b = some o) → hp.objs.size ≤ dx → dx ≠ a → hp2.get? a = some { cls := .ref C, dict := some dx, data := .fields parts } →
      hp2.Ns1 dx (fun y => if y = nm then some val else none) → R (.ok (.ret .none)) ⟨hp2, g, d, tk2, os⟩) :
    codeAny (model prog w) A (.call (.builtin "object.__setattr__") ⟨[.ref a, .str nm tk, val], []⟩) R ⟨hp, g, d, t, os⟩ := by
  have here : InstAt hp a { cls := .ref C, data := .fields parts } C none := ⟨at_a, rfl, rfl, trivial⟩
  have facts := F.store_object
  have full : cd.mro.isEmpty = false := by rw [line]; rfl
  have top : cd.mro.contains (.type "object") = true := by rw [line, of_has]; decide +kernel
  have off : a ≠ hp.objs.size := Nat.ne_of_lt (Heap.lt_size at_a)
  have isObj : Looks (model prog w) hp (isInstance (.ref a) (.type "object")) true :=
    here.type.andThen (looks_mroIn inK (by unfold mroIn; rw [at_C, Option.bind_some, if_neg (by rw [full]; decide), top]))
  refine codeAny_call_builtin facts.slot.plain facts.entry
    (@check_slot (model prog w) _ _ ⟨hp, g, d, t, os⟩ "object.__setattr__" "object" "__setattr__" (.ref a) [.str nm tk, val] [] _ facts.kind facts.split isObj (facts.args (.ref a) (.str nm tk) val) ?_)
  have mroL : Looks (model prog w) hp (mroOf (.ref C)) cd.mro := (looks_clsIn inK at_C).andThen .now
  have taker : Looks (model prog w) hp (storeTaker? none) none := .now
  have data : Looks (model prog w) hp (classData C) cd := looks_clsIn inK at_C
  rw [osa_eq, refuse_eq]
  refine wpAny_bind (wpAny_bind (here.type.at (wpAny_bind (mroL.at ?_))))
  rw [line, of_calm]
  refine wpAny_pure (wpAny_bind (here.type.at (wpAny_bind ((looks_findIn inK free).at (wpAny_bind (taker.at ?_))))))
  show wpAny _ _ (storeInOwnDict (.ref a) (.ref C) (.str nm tk) nm val false) _ _ _
  obtain ⟨c1, c2, c3, c4, c5, c6, c7, c8, c9, c10, c11⟩ := cd
  dsimp only at dct
  subst dct
  unfold storeInOwnDict ownDictForStores
  repeat (first | with_reducible refine store_in_new ?_ ?_ | with_reducible refine wpAny_loadPart_at at_a ?_ | with_reducible refine data.at ?_ | wp_step)
  · exact ⟨_, #[], _, (Heap.get?_update_ne _ _ _ _ off.symm).trans (Heap.get?_push_at rfl rfl), rfl, fun e he => absurd he (by simp), fun _ => rfl⟩
  · intro hp2 tk2 ns2 same
    have at_a2 : (hp.push { cls := .type "dict", data := .dict #[] }).get? a = some { cls := .ref C, data := .fields parts } := Heap.get?_push_of_some _ at_a
    refine goal hp2 tk2 hp.objs.size (fun b o hb ho => ?_) (Nat.le_refl _) off.symm ?_ ns2
    · exact (same.2 b (Nat.ne_of_lt (Heap.lt_size ho))).trans ((Heap.get?_update_ne _ _ _ _ hb).trans (Heap.get?_push_of_some _ ho))
    · exact (same.2 a off).trans (Heap.get?_update_self _ at_a2 rfl)
end
/-- what the top has of such a class -/
structure OofC (K : PySem.W.Frag) (C : Addr) : Prop where
  cls : ∃ nm q N bs sn sub ab col dd k0 k1 k2 k3 k5, K.lookup C = some (excClassObj nm q C N bs ofBack true sn sub ab col dd k0 k1 k2 k3 k5 "OverflowError.__new__")
  sa : findIn K (.ref C) "__setattr__" = some (some (.builtin "object.__setattr__"))
  exC : subIn K (.ref C) (.type "BaseException") = some true
  tyC : typeIn K (.ref C) = some (.type "type")
  kC : keepIn K (.ref C) = true
section
variable {X : Cx} {pins : List (Addr × Obj)} {σ : St} {H : Hp} {s : Shared} {a C : Addr} {f : Str} {y : V} {u : Value} {Q : Unit → Shared → Prop} {E : Value → Shared → Prop} {A : Around}
theorem of_store (T : OofC X.K C) (I : Inv X pins σ H s) (e : H a = some (exo a C none)) (free : findIn X.K (.ref C) f = some none) (ry : RelV y u)
    (goal : ∀ dx s', H dx = none → dx ≠ a → Inv X pins σ (upd (upd H dx (exd dx [(f, y)])) a (exo a C (some dx))) s' → Q () s') : wpAny (model X.prog X.w) A (setAttr (.ref a) f u) Q E s := by
  obtain ⟨nm, q, N, bs, sn, sub, ab, col, dd, k0, k1, k2, k3, k5, at_C⟩ := T.cls
  have data : clsIn X.K C = some { name := nm, bases := bs, mro := .ref C :: ofBack, ns := N, qualname := q, hasDict := true, slotNames := sn, subclasses := sub, abstract := ab, collection := col, hasDel := false } := by
    unfold clsIn
    rw [at_C] <;> rfl
  obtain ⟨t1, ho⟩ := exo_at I.hok e
  obtain ⟨hp, g, d, t, os⟩ := s
  refine set_plain I.kIn (ox := { cls := .ref C, dict := none, data := .fields #[.ref t1, .none, .none, .none, .bool false, .none] }) (od := none) ⟨ho, rfl, rfl, trivial⟩ T.sa ?_
  refine of_first I.kIn ho data rfl rfl free fun hp2 tk2 dx k far ne at_a ns2 => ?_
  have none_dx : H dx = none := I.hok.fresh far
  have old : ∀ {b : Addr} {o : Obj}, hp.get? b = some o → b ≠ dx := fun {b o} z => Nat.ne_of_lt (Nat.lt_of_lt_of_le (Heap.lt_size z) far)
  have other : ∀ {b : Addr}, H b = none → b ≠ a := fun {b} z w => by
    rw [w, e] at z
    cases z
  have U : Un X.fs [] H (upd (upd H dx (exd dx [(f, y)])) a (exo a C (some dx))) hp hp2 :=
    ⟨fun b o z n _ _ => k b o (other n) z, fun b o z n _ _ => ⟨o.slots, k b o (other n) z⟩, fun b o z n _ => by rw [upd_ne (other n), upd_ne (old z)]; exact n,
      fun b o z _ => by
        by_cases hb : b = a
        · rw [hb]
          exact ⟨_, at_a⟩
        · exact ⟨o, k b o hb z⟩,
      fun b xs z => by rw [upd_ne (at_ne e z exo_tup), upd_ne (ne_of_none z none_dx)]; exact z,
      fun b o v z => by rw [upd_ne (at_ne e z exo_frz), upd_ne (ne_of_none z none_dx)]; exact z,
      fun b ps z => ⟨#[], by rw [upd_ne (at_ne e z exo_tbl), upd_ne (ne_of_none z none_dx), z]; simp⟩⟩
  refine goal dx _ none_dx ne (I.un (t' := tk2) U fun b o z => ?_)
  by_cases hb : b = a
  · subst hb
    rw [upd_same] at z
    cases z
    exact exo_ok at_a
  · rw [upd_ne hb] at z
    by_cases hd : b = dx
    · subst hd
      rw [upd_same] at z
      cases z
      exact exd_ok ns2 (relO_put (fs := []) ry fun _ => True.intro)
    · rw [upd_ne hd] at z
      refine (I.hok b o z).stay (fun c v hc w => k c v ?_ w) (fun c hc => ?_) fun c xs hc => ?_
      · rcases hc with hc | hc
        · rw [hc]
          exact hb
        · exact at_ne e hc exo_own
      · rw [upd_ne (at_ne e hc exo_own), upd_ne (ne_of_none hc none_dx)]
        exact hc
      · rw [upd_ne (at_ne e hc exo_tup), upd_ne (ne_of_none hc none_dx)]
        exact hc
end
/-- self.f = e, the one field -/
def tOstO (K : PySem.W.Frag) (f : Str) (to te : TE) : TS := fun D σ H => te σ H fun y H1 => to σ H1 fun x H2 => ∃ a C : Addr, x = .ref a ∧ OofC K C ∧ findIn K (.ref C) f = some none ∧
  H2 a = some (exo a C none) ∧ ∀ dx, H2 dx = none → dx ≠ a → D.nx σ (upd (upd H2 dx (exd dx [(f, y)])) a (exo a C (some dx)))
section
variable {X : Cx} {o e : Expr} {es : List Expr} {to te : TE} {ta : TA} {f : Str} {p p' pos : Pos}
theorem ps_ostO (ho : PE X o to) (he : PE X e te) (hs : swapsWith e (some (.Attribute o f p')) pos.line X.env = pure false := by rfl) : PS X (.Assign [.Attribute o f p'] e pos) (tOstO X.K f to te) := by
  refine ⟨fun pins s σ H D I h => ?_⟩
  refine plainObj_wpAny_Assign_Attribute (thn (he.run pins s σ H _ I h) fun v s1 ⟨y, H1, I1, r1, q1⟩ => thn (ho.run pins s1 σ H1 _ I1 q1) fun u s2 ⟨x, H2, I2, r2, a, C, ex, T, free, ea, q⟩ => ?_) hs
  subst ex
  obtain rfl : u = Value.ref a := r2
  exact of_store T I2 ea free r1 fun dx s' n ne J => ⟨σ, _, J, q dx n ne⟩
/-- C(e, ..) of such a class -/
theorem pmk_oof {CX : CXT} {x : Str} {C fI : Addr} {k : Nat} {fd : FuncData} {ps : List Str} {sp : Sp} {ds : List Value} {dvs : List V} (T : OofC X.K C) (hasI : findIn X.K (.ref C) "__init__" = some (some (.ref fI))) (isF : typeIn X.K (.ref fI) = some (.type "function"))
    (G : FnOk X.prog X.w X.K X.mg X.base CX k fI fd ps sp) (room : Room (k + 1) X.A) (bind : Binds X.K fd ps ds) (dflt : Vals dvs ds) (pass : Passes CX X (fun _ _ _ => False)) (hg : Gl X x) (hm : X.mg x = some (.ref C)) (ha : PA X (e :: es) ta)
    (hdb : (x == ("__debug__" : Str)) = false := by decide) (he : starEach (e :: es) X.env = (false, eval e X.env) :: starEach es X.env := by rfl) (hpl : (backTo pos (starEach es X.env)).any (·.1) = false := by rfl) :
    PMk X (.Call (.Name x p) (e :: es) [] pos) (tMkO C sp dvs ta) := by
  intro pins s σ H Q I h
  obtain ⟨nm, q, N, bs, sn, sub, ab, col, dd, k0, k1, k2, k3, k5, at_C⟩ := T.cls
  refine wpAny_Call_Name_kw (ld_glob I hg hm ?_ hdb)
  refine callWith_K (h₀ := X.base) I.ok.mod.kin T.kC (thn (ha.run pos pins s σ H _ I h) fun us s1 ⟨vs, H1, I1, r1, hz, q1⟩ => ⟨I1.kIn, ?_⟩) he hpl
  show wpAny _ _ (call (.ref C) us) _ _ _
  obtain ⟨hp, g, dr, tk, os⟩ := s1
  have up1 : hp.objs.size ≤ hp.objs.size + 1 := Nat.le_succ _
  have free1 : H1 (hp.objs.size + 1) = none := I1.hok.fresh up1
  have want := q1 (hp.objs.size + 1) free1
  have kk : ∀ b o, hp.get? b = some o → ((hp.push (kdv_tup us)).push (excO C hp.objs.size)).get? b = some o := fun b o z => Heap.get?_push_of_some _ (Heap.get?_push_of_some _ z)
  have there : ((hp.push (kdv_tup us)).push (excO C hp.objs.size)).get? (hp.objs.size + 1) = some (excO C hp.objs.size) := by heap_get
  have I2 : Inv X pins σ (upd H1 (hp.objs.size + 1) (exo (hp.objs.size + 1) C none)) ⟨(hp.push (kdv_tup us)).push (excO C hp.objs.size), g, dr, tk, os⟩ :=
    I1.laid (t' := tk) (a := hp.objs.size + 1) (o := exo (hp.objs.size + 1) C none) (h' := (hp.push (kdv_tup us)).push (excO C hp.objs.size)) kk up1 (exo_ok there)
  have r2 : Vals (V.ref (hp.objs.size + 1) :: (vs ++ dvs)) (Value.ref (hp.objs.size + 1) :: (us ++ ds)) := .cons rfl (r1.append dflt)
  have many : (Value.ref (hp.objs.size + 1) :: us ++ ds).length = ps.length := by
    have z := r2.length
    rw [G.len _ _ _ _ want] at z
    exact z.symm
  have small : us.length ≤ sizeLine := by
    rw [← Paired.length r1, sizeLine_eq]
    omega
  refine wpAny_call (call_own F.excBase_OverflowError (fun Y => rfl) (I1.kIn _ _ at_C) (looks_findIn I1.kIn hasI) (fun self => bind_fn I1.kIn self isF) small
    (codeAny_mono (G.run _ X.stack _ _ ⟨Value.ref (hp.objs.size + 1) :: us, []⟩ (Value.ref (hp.objs.size + 1) :: (us ++ ds)) _ _ (fun _ _ _ => False) (room.make C us []) (I2.env0.make C us []) (bind _ (Value.ref (hp.objs.size + 1) :: us) I2.kIn many) r2 want) fun r s' hq' => ?_))
  cases r with
  | error er => exact pass pins σ _ _ er s' I2 hq'
  | ok fl =>
    cases fl with
    | ret u =>
      obtain ⟨v, H2, os2, bare2, un2, hok2, rv, ev, dd, fs, ea, ed, hd1, q2⟩ := hq'
      subst ev
      obtain ⟨h2, g2, d2, t2, os'⟩ := s'
      exact ⟨rv, mk_end (raises_own T.exC T.tyC) I1 up1 kk un2 hok2 os2 bare2 ea ed hd1 q2⟩
    | next => exact False.elim hq'
    | brk => exact False.elim hq'
    | cont => exact False.elim hq'
end
/-- all that is asked of the class x of such errors at C, whose field is f -/
structure OCls (P : Program) (w : World) (K : PySem.W.Frag) (mg : Str → Option Value) (base : Heap) (x f : Str) (C : Addr) : Prop where
  ox : OofC K C
  gC : mg x = some (.ref C)
  noA : findIn K (.ref C) f = some none
  ec : ExcC K C
  ini : ∃ (fI : Addr) (fd : FuncData), findIn K (.ref C) "__init__" = some (some (.ref fI)) ∧ typeIn K (.ref fI) = some (.type "function") ∧ FnOk P w K mg base CX0 1 fI fd ["self", f] (spXI C f) ∧ Binds K fd ["self", f] []
theorem OCls.xf {P : Program} {w : World} {K : PySem.W.Frag} {mg : Str → Option Value} {base : Heap} {x f : Str} {C : Addr} (T : OCls P w K mg base x f C) : XfC K C := ⟨T.ec.hg, T.ec.hk, T.ec.hs, T.ec.hd⟩
theorem pmk_O {X : Cx} {C : Addr} {x f : Str} {e : Expr} {te : TE} {p pos : Pos} (T : OCls X.prog X.w X.K X.mg X.base x f C) (room : Room 2 X.A) (he : PE X e te) (hg : Gl X x) (hdb : (x == ("__debug__" : Str)) = false := by decide)
    (hs : starEach [e] X.env = (false, eval e X.env) :: starEach [] X.env := by rfl) (hpl : (backTo pos (starEach [] X.env)).any (·.1) = false := by rfl) :
    PMk X (.Call (.Name x p) [e] [] pos) (tMkO C (spXI C f) [] (tCons te tNil)) := by
  obtain ⟨fI, fd, i1, i2, G, b⟩ := T.ini
  exact pmk_oof (dvs := []) (ds := []) T.ox i1 i2 G room b .nil pass0 hg T.gC (pa_cons he pa_nil hs) hdb hs hpl
/-- what the top has written of it -/
structure XOt (K : PySem.W.Frag) (mg : Str → Option Value) (x f : Str) (C : Addr) (st : Stmt) (qual : Str) : Prop where
  ox : OofC K C
  gC : mg x = some (.ref C)
  noA : findIn K (.ref C) f = some none
  ec : ExcC K C
  tI : ∃ fI, findIn K (.ref C) "__init__" = some (some (.ref fI)) ∧ typeIn K (.ref fI) = some (.type "function") ∧ ∃ fd, Fun K "__init__" qual st fI fd ∧ Binds K fd ["self", f] []
theorem XOt.cls {P : Program} {w : World} {K : PySem.W.Frag} {mg : Str → Option Value} {base : Heap} {x f : Str} {C : Addr} {st : Stmt} {qual : Str} (T : XOt K mg x f C st qual) (h : ∀ fI fd, Fun K "__init__" qual st fI fd → FnOk P w K mg base CX0 1 fI fd ["self", f] (spXI C f)) :
    OCls P w K mg base x f C := by
  obtain ⟨fI, i1, i2, fd, G, b⟩ := T.tI
  exact ⟨T.ox, T.gC, T.noA, T.ec, fI, fd, i1, i2, h fI fd G, b⟩
end L2

set_option Elab.async false
set_option linter.all false
set_option maxRecDepth 100000
/-! the bookkeeping of a walk over a list, whatever a turn's reading is -/
namespace L2
open PySem PySem.Spec PyProof.Rows
theorem steps_list {K : PySem.W.Frag} {a : Addr} {xs : List V} {H0 : Hp} {Qd : Hp → Prop} {step : V → Hp → (Hp → Prop) → Prop} (Pv : Nat → Hp → Prop) (h0 : Pv 0 H0) (hl : ∀ i H, i ≤ xs.length → Pv i H → SqL K H a xs)
    (hs : ∀ i x H, xs[i]? = some x → Pv i H → step x H (Pv (i + 1))) (hd : ∀ H, Pv xs.length H → Qd H) :
    ∃ W : Nat → Nat → Hp → Prop, (∃ m, W 0 m H0) ∧ ∀ i m H, W i m H →
      ((Itl K a).stop i H ∧ Qd H) ∨ ((Itl K a).go i H ∧ ∃ N : Hp → Prop, (∀ H', N H' → ∃ m', m' < m ∧ W (i + 1) m' H') ∧ ∀ x H', (Itl K a).yld i H x H' → step x H' N) := by
  refine ⟨fun i m H => m + i = xs.length ∧ Pv i H, ⟨xs.length, rfl, h0⟩, ?_⟩
  rintro i m H ⟨hm, pv⟩
  have q := hl i H (by omega) pv
  rcases Nat.lt_or_ge i xs.length with h | h
  · have hx : xs[i]? = some xs[i] := List.getElem?_eq_getElem h
    refine .inr ⟨⟨xs, xs[i], q, hx⟩, Pv (i + 1), fun H' pv' => ⟨m - 1, by omega, by omega, pv'⟩, fun x H' y => ?_⟩
    obtain ⟨y1, y2⟩ := y
    subst y1
    exact hs i x _ (y2 xs q) pv
  · obtain rfl : i = xs.length := by omega
    exact .inl ⟨⟨xs, q, Nat.le_refl _⟩, hd H pv⟩
def rLenK (K : PySem.W.Frag) : List V → Hp → VK → Prop := fun xs H Q => ∃ p ys, xs = [.ref p] ∧ (SqL K H p ys ∨ SqT K H p ys) ∧ Q (.int ys.length) H
theorem call_len_seqK {X : Cx} {K : PySem.W.Frag} (h : X.K = K) : CallR X (.builtin "len") (rLenK K) := by
  subst h
  exact call_len_seq
end L2

set_option Elab.async false
set_option linter.all false
set_option maxRecDepth 100000
set_option maxHeartbeats 4000000
/-! list(f(..)) of a generator def that may raise, in a try -/
namespace L2
open PySem PySem.Spec PyProof.Rows GenW
def tListGS (tg : XK → TGen) (E : St → XK) : TE := fun σ H Q => tg (E σ) σ H fun out H2 => ∀ p, H2 p = none → Q (.ref p) (upd H2 p (.lst out))
section
variable {X : Cx} {k : Nat} {p p2 pos pos2 : Pos} {e : Expr} {x nm : Str} {es : List Expr}
theorem pe_listGS {tg : XK → TGen} {E : St → XK} (made : ∀ E, PGen X k e (tg E) E) (pass : ∀ σ, PassesAt (CX X.prog X.w) X σ (E σ)) (nostop : ∀ σ, NoStop X.K (E σ)) (room : Room (k + 3) X.A) (hg : Gl X nm) (hmg : X.mg nm = none) (hv : bootBuiltins nm = some (.type "list"))
    (hnm : nm ≠ "__name__" := by decide) (hdb : (nm == ("__debug__" : Str)) = false := by decide) (he : starEach [e] X.env = (false, eval e X.env) :: starEach [] X.env := by rfl) : PE X (.Call (.Name nm p) [e] [] pos) (tListGS tg E) := by
  refine ⟨fun pins st σ H Q I want => ?_⟩
  refine wpAny_Call_Name_kw (ld_blt I hg hmg hv ?_ hnm hdb)
  refine PyProof.Rows.callWith_type1 ?_ he rfl
  rw [he]
  show wpAny _ _ (spliced ((false, eval e X.env) :: backTo pos (starEach [] X.env))) _ _ st
  refine Calls.spliced_cons (thn ((made (E σ)).run pins st σ H _ I want) fun u st1 ⟨H1, sc, ex, I1, exOk, gen⟩ => ?_)
  refine Calls.spliced_nil ?_
  have grown : sc.heap.objs.size ≤ st1.heap.objs.size := by
    obtain ⟨a, g, c, _, g1, g2, _⟩ := gen
    exact Nat.le_trans g1 (Nat.le_of_lt g2)
  refine call_list_new room I1.ok.frames gen (fun S st2 acc c H' ys a0 a1 a2 a3 a4 a5 a6 a7 a8 a9 => ?_) fun er st2 g left => ?_
  · exact ⟨.ref S, upd H' S (.lst ys), I1.drained (Nat.le_trans grown a0) a3 a1 a2 exOk a4 a5 a6 a7 a8, rfl, a9 S a8⟩
  · have kin : X.K.In st2.heap := by
      obtain ⟨a, B, H', cls, d, _, fl, _, ub, _⟩ := id left
      refine I1.ok.mod.kin.keeps fun b o eb => fl.1 b o (ub.keep b o (I1.bs b o eb).1 (I1.bs b o eb).2 fun hm => ?_)
      rcases List.mem_cons.mp (I1.stkSub b hm) with z | z
      · have z1 := Heap.lt_size eb
        have z2 := Nat.le_trans I1.ok.bsz I1.ok.above
        rw [z] at z1
        exact absurd (Nat.lt_of_lt_of_le z1 z2) (Nat.lt_irrefl _)
      · exact I1.ok.nofr eb z
    refine ⟨notStop_of (nostop σ) kin left, pass σ pins H1 sc er _ I1 ?_⟩
    obtain ⟨a, B, H', cls, d, z1, fl, z2, ub, z3, z4, z5, z6⟩ := left
    exact ⟨a, B, H', cls, d, z1, fl, z2, ub, z3, z4, allBare_setGen z5 rfl, z6⟩
/-- what is wished for, of errors that are no StopIteration -/
def noStopW (K : PySem.W.Frag) (W : WX) : WX := fun cls d σ H => PySem.W.subIn K cls (.type "StopIteration") = some false ∧ W cls d σ H
theorem pe_listOwnGS {ps : List Str} {sp : SpG} {t : TA} {W : WX} (O : OwnG X.prog X.w X.K X.mg X.base x k ps sp) (room : Room (k + 3) X.A) (tk : Takes X W) (ha : PA X (e :: es) t) (hmg : X.mg nm = none) (hgl : Gl X nm := by rfl) (hg : Gl X x := by rfl) (hv : bootBuiltins nm = some (.type "list") := by decide +kernel)
    (hnm : nm ≠ "__name__" := by decide) (hdb : (nm == ("__debug__" : Str)) = false := by decide) (hdb2 : (x == ("__debug__" : Str)) = false := by decide)
    (he : starEach (e :: es) X.env = (false, eval e X.env) :: starEach es X.env := by rfl) (hpl : (backTo pos (starEach es X.env)).any (·.1) = false := by rfl)
    (he2 : starEach [Expr.Call (.Name x p) (e :: es) [] pos] X.env = (false, eval (Expr.Call (.Name x p) (e :: es) [] pos) X.env) :: starEach [] X.env := by rfl) :
    PE X (.Call (.Name nm p2) [.Call (.Name x p) (e :: es) [] pos] [] pos2) (tListGS (fun E => tCallG sp [] E t) (WE (noStopW X.K W))) := by
  obtain ⟨f, fd, F, hm, hk, hb⟩ := O.ex
  exact pe_listGS (fun E => pgen_call (E := E) F (room.mono (by omega)) hg hm hk hb .nil ha hdb2 he hpl) (fun σ => passAt (tk.imp fun _ _ _ _ h => h.2) σ) (fun σ cls d H h => h.1) room hgl hmg hv hnm hdb he2
theorem pe_listOwnGSK {K : PySem.W.Frag} {ps : List Str} {sp : SpG} {t : TA} {W : WX} (hK : X.K = K) (O : OwnG X.prog X.w X.K X.mg X.base x k ps sp) (room : Room (k + 3) X.A) (tk : Takes X W) (ha : PA X (e :: es) t) (hmg : X.mg nm = none) (hgl : Gl X nm := by rfl) (hg : Gl X x := by rfl) (hv : bootBuiltins nm = some (.type "list") := by decide +kernel)
    (hnm : nm ≠ "__name__" := by decide) (hdb : (nm == ("__debug__" : Str)) = false := by decide) (hdb2 : (x == ("__debug__" : Str)) = false := by decide)
    (he : starEach (e :: es) X.env = (false, eval e X.env) :: starEach es X.env := by rfl) (hpl : (backTo pos (starEach es X.env)).any (·.1) = false := by rfl)
    (he2 : starEach [Expr.Call (.Name x p) (e :: es) [] pos] X.env = (false, eval (Expr.Call (.Name x p) (e :: es) [] pos) X.env) :: starEach [] X.env := by rfl) :
    PE X (.Call (.Name nm p2) [.Call (.Name x p) (e :: es) [] pos] [] pos2) (tListGS (fun E => tCallG sp [] E t) (WE (noStopW K W))) := by
  subst hK
  exact pe_listOwnGS O room tk ha hmg hgl hg hv hnm hdb hdb2 he hpl he2
end
section
variable {X : Cx} {K : PySem.W.Frag}
theorem op_ltTK (h : X.K = K) (hu : X.A.units < cLine) : OpR X (compareOp .Lt) (rLtT K) := by
  subst h
  exact op_ltT hu
end
end L2

set_option Elab.async false
set_option linter.all false
set_option maxRecDepth 100000
set_option maxHeartbeats 4000000
/-! set(list of ints) as a value; a tuple read backwards -/
namespace L2
open PySem PySem.Spec PyProof.Rows
section
variable {P : Program} {w : World} {A : Around} {E : Value → Shared → Prop} {s : Shared}
/-- the object that set(..) begins with -/
abbrev bareSet (w : World) : Obj := { cls := .type "set", dict := none, data := .set #[] 0 (.fresh 0 0 (!w.params.followText "set-order")) }
theorem set_of_list {l : Addr} {items : Array Value} (ns : List Int) {Q : Value → Shared → Prop} (calm : A.handled = none) (isL : s.heap.IsList l items) (areI : IntsAre items.toList ns) (few : ns.length + 1 < scanBound)
    (goal : ∀ (hp : Heap) (tk c : Nat), SetR w hp s.heap.objs.size (fun j => decide (j ∈ ns)) c → c ≤ ns.length → (∀ b o, s.heap.get? b = some o → hp.get? b = some o) → Q (.ref s.heap.objs.size) { s with heap := hp, toks := tk }) :
    wpAny (model P w) A (call (.type "set") [.ref l]) Q E s := by
  have same : items.size = ns.length := by
    have z := IntsAre.length areI
    rw [Array.length_toList] at z
    exact z
  obtain ⟨c, tl, mroS⟩ := F.called_set.mro
  have madeS := F.called_set.made
  have subS := F.called_set.sub
  refine wpAny_call (codeAny_of_tree ?_)
  show wpAny _ _ (callAny (.type "set") _) _ _ _
  refine wpAny_pure ⟨Code.quiet_builtin _ (by decide +kernel), codeAny_builtin F.entry_type_call ?_⟩
  rw [Around.under_plain (weight_type_call_type "set" [.ref l] []) rfl]
  have noT := F.called_set.notType
  have canC := F.called_set.canCreate
  have tcs := F.typeCall_set_1 (.ref l)
  repeat (any_goals (first | assumption | wp_step))
  refine codeAny_mono (code_set_led1 (.ref l) (E := E) (Q₁ := fun v st => v = .ref s.heap.objs.size ∧ st = { s with heap := s.heap.push (bareSet w) }) ⟨rfl, rfl⟩) fun r st back => ?_
  cases r with
  | error e => exact back
  | ok fl =>
    cases fl with
    | next => exact back.elim
    | brk => exact back.elim
    | cont => exact back.elim
    | ret v =>
      obtain ⟨rfl, rfl⟩ := back
      have atS : (s.heap.push (bareSet w)).get? s.heap.objs.size = some (bareSet w) := Heap.get?_push_size _ rfl
      have tyS : Shared.TypeIs { s with heap := s.heap.push (bareSet w) } (.ref s.heap.objs.size) "set" := ⟨_, atS, rfl⟩
      have iniL := F.called_set.init.lookup
      have iniB := F.called_set.init.bind (.ref s.heap.objs.size)
      repeat (any_goals (first | assumption | wp_step))
      refine codeAny_mono (codeAny_call_builtin (R := wants (fun r st2 => r = .none ∧ ∃ hp tk c, st2 = { s with heap := hp, toks := tk } ∧ SetR w hp s.heap.objs.size (fun j => decide (j ∈ ns)) c ∧ c ≤ ns.length ∧
        (∀ b o, s.heap.get? b = some o → hp.get? b = some o)) E) F.called_set.init.plain F.entry_set_init (check_set_init_1 tyS ?_)) fun r2 st2 back2 => ?_
      · obtain ⟨ol, atL, clL, nl, daL⟩ := isL
        obtain ⟨o1, o2, o3, o4⟩ := ol
        simp only at clL daL
        subst clL; subst daL
        have atL2 : (s.heap.push (bareSet w)).get? l = some { cls := .type "list", dict := o2, data := .seq items nl, slots := o4 } := Heap.get?_push_of_some _ atL
        have sub1 := F.sub_list_set
        have sub2 := F.sub_list_frozenset
        have ne1 : (Value.type "list" == Value.type "dict") = false := by decide
        have isL2 : (s.heap.push (bareSet w)).IsList l items := ⟨_, atL2, rfl, nl, rfl⟩
        unfold Builtin.«set.__init__» noKeywords Builtin.Frozenset.updateFrom
        generalize hold : pyIter = PI
        wp_walk
        subst hold
        refine wpAny_pyIter_list isL2 ?_
        refine wpAny_bind (wpAny_runValue ?_)
        have below : l < s.heap.objs.size := Heap.lt_size atL
        have calm3 : A.in1.in1.in1.handled = none := by simp [calm]
        have apart : l ≠ (s.heap.push (bareSet w)).objs.size := by
          rw [Heap.size_push]
          exact Nat.ne_of_lt (Nat.lt_succ_of_lt below)
        have outside : s.heap.objs.size ∉ [(s.heap.push (bareSet w)).objs.size, l] := by
          rw [Heap.size_push]
          simp only [List.mem_cons, List.mem_singleton, List.not_mem_nil, or_false, not_or]
          exact ⟨Nat.ne_of_lt (Nat.lt_succ_self _), Nat.ne_of_gt below⟩
        have each : ∀ (i : Nat) (v : Value), items[i]? = some v → ∃ k t, ns[i]? = some k ∧ v = .int k t := fun i v hv => by
          have hi : i < ns.length := by rw [← same]; exact (Array.getElem?_eq_some_iff.mp hv).1
          obtain ⟨t, e⟩ := PyProof.Rows.IntsAre.int_at areI i v (by rw [Array.getElem?_toList]; exact hv)
          refine ⟨ns[i], t, List.getElem?_eq_getElem hi, ?_⟩
          rw [e, List.getD_eq_getElem?_getD, List.getElem?_eq_getElem hi] <;> rfl
        refine set_update_ints ((Walks.list calm3 _ l apart items).toS) s.heap.objs.size outside ns same few each (items.size - 0) 0 _ (by omega) (Nat.zero_le _) ⟨⟨_, Heap.get?_push_size _ rfl, rfl, rfl⟩, (isL2.push _)⟩ ?begin ?done
        case begin => exact ⟨0, Nat.le_refl 0, setR_new_at (Heap.get?_push_of_some _ atS)⟩
        case done =>
          intro st3 c3 mv lec isS
          obtain ⟨hp, g3, d3, tk, os3⟩ := st3
          have eg : g3 = s.gens := mv.gens
          have ed : d3 = s.drawn := mv.drawn
          have eo : os3 = s.os := mv.os
          subst eg; subst ed; subst eo
          show wpAny _ _ _ _ _ _
          refine wpAny_pure ?_
          show wpAny _ _ (ret Value.none) _ _ _
          rw [same] at lec
          refine wpAny_pure ⟨rfl, hp, tk, c3, rfl, isS, lec, fun b o e => ?_⟩
          have b0 : b < s.heap.objs.size := Heap.lt_size e
          have b2 : b ≠ (s.heap.push (bareSet w)).objs.size := by
            rw [Heap.size_push]
            exact Nat.ne_of_lt (Nat.lt_succ_of_lt b0)
          exact mv.heap b o (by simp only [List.mem_cons, List.mem_singleton, List.not_mem_nil, or_false, not_or]; exact ⟨Nat.ne_of_lt b0, b2⟩) (Heap.get?_push_of_some _ (Heap.get?_push_of_some _ e))
      · cases r2 with
        | error e => exact back2
        | ok fl2 =>
          cases fl2 with
          | next => exact back2.elim
          | brk => exact back2.elim
          | cont => exact back2.elim
          | ret r =>
            obtain ⟨rfl, hp, tk, c3, rfl, isS, lec, keep⟩ := back2
            repeat (any_goals (first | assumption | wp_step))
            exact goal _ _ _ isS lec keep
end
def rSetLI (K : PySem.W.Frag) (w : World) : List V → Hp → VK → Prop := fun xs H Q => ∃ (l : Addr) (ns : List Int), xs = [.ref l] ∧ SqL K H l (ns.map V.int) ∧ ns.length ≤ 60 ∧ ∀ p c, H p = none → c ≤ ns.length → Q (.ref p) (upd H p (SetO w p (fun j => decide (j ∈ ns)) c))
theorem cr_setLI {X : Cx} (hc : X.calm = true) : CallR X (.type "set") (rSetLI X.K X.w) := by
  intro pins s σ H xs us Q I r h
  obtain ⟨l, ns, rfl, hq, small, q⟩ := h
  obtain ⟨u, rfl, rx⟩ := vals1 r
  cases rx
  obtain ⟨its, r2, pl, _⟩ := I.list hq
  refine set_of_list ns (I.ok.hd hc) pl.isList (by simpa using intsAre_of r2) (by unfold scanBound; omega) fun hp tk c isS lec keep => ?_
  exact ⟨.ref s.heap.objs.size, _, I.laid (t' := tk) keep (Nat.le_refl _) (setO_new isS), rfl, q _ c (I.hok.fresh (Nat.le_refl _)) lec⟩
end L2

set_option Elab.async false
set_option linter.all false
set_option maxRecDepth 100000
set_option maxHeartbeats 4000000
namespace L2
open PySem PySem.Spec PyProof.Rows
theorem back_places (n : Nat) : Builtin.Slice.slicePlaces ((n : Int) - 1) (-1) (-1) = n := by
  unfold Builtin.Slice.slicePlaces
  rw [if_neg (by omega)]
  by_cases h : ((n : Int) - 1) > -1
  · rw [if_pos h]
    have : ((n : Int) - 1 - -1 - 1) / (- -1) + 1 = (n : Int) := by
      rw [Int.neg_neg, Int.ediv_one]
      omega
    rw [this]
    exact Int.toNat_natCast n
  · rw [if_neg h]
    have : n = 0 := by omega
    rw [this]
    rfl
theorem back_pick (xs : Array Value) : ((List.range xs.size).filterMap fun (m : Nat) => xs[(((xs.size : Int) - 1) + (m : Int) * (-1)).toNat]?).toArray = xs.toList.reverse.toArray := by
  congr 1
  refine List.ext_getElem? fun i => ?_
  have hall : ∀ k, k ≤ xs.size → (List.range k).filterMap (fun (m : Nat) => xs[(((xs.size : Int) - 1) + (m : Int) * (-1)).toNat]?) = xs.toList.reverse.take k := fun k => by
    induction k with
    | zero => intro _; rfl
    | succ k ih =>
      intro hk
      rw [List.range_succ, List.filterMap_append, ih (by omega), List.take_add_one]
      congr 1
      have hi : (((xs.size : Int) - 1) + (k : Int) * (-1)).toNat = xs.size - 1 - k := by omega
      have hlt : xs.size - 1 - k < xs.size := by omega
      have hr : xs.toList.reverse[k]? = some xs[xs.size - 1 - k] := by
        rw [List.getElem?_reverse (by rw [Array.length_toList]; omega), Array.length_toList, Array.getElem?_toList]
        exact Array.getElem?_eq_getElem hlt
      rw [hr, List.filterMap_cons, hi, Array.getElem?_eq_getElem hlt]
      rfl
  rw [hall xs.size (Nat.le_refl _), List.take_of_length_le (by rw [List.length_reverse, Array.length_toList]; exact Nat.le_refl _)]
section
variable {prog : Program} {w : World} {A : Around} {E : Value → Shared → Prop} {s : Shared}
theorem slice_back {sl : Addr} {v1 v2 v3 : Value} {n : Nat} {Q : Int × Int × Nat → Shared → Prop} (isS : s.heap.IsSliceOf sl v1 v2 v3) (p1 : IsPart v1 none) (p2 : IsPart v2 none) (p3 : IsPart v3 (some (-1))) (goal : Q ((n : Int) - 1, -1, n) s) :
    wpAny (model prog w) A (Builtin.Slice.sliceApplied (.ref sl) (pure (n : Int))) Q E s := by
  obtain ⟨os, atS, clS, daS⟩ := id isS
  unfold Builtin.Slice.sliceApplied Builtin.Slice.sliceFields
  refine wpAny_bind (wpAny_bind (wpAny_field atS daS (x := v1) rfl (wpAny_bind (wpAny_field atS daS (x := v2) rfl (wpAny_bind (wpAny_field atS daS (x := v3) rfl (wpAny_pure ?_)))))))
  refine wpAny_bind (HT.slicePart_ p3 ?_)
  show wpAny _ _ (if ((-1 : Int) == 0) = true then _ else _) _ _ s
  rw [if_neg (by decide)]
  refine wpAny_bind (HT.slicePart_ p1 (wpAny_bind (HT.slicePart_ p2 (wpAny_bind (wpAny_pure ?_)))))
  show wpAny _ _ (pure ((n : Int) - 1, (-1 : Int), Builtin.Slice.slicePlaces ((n : Int) - 1) (-1) (-1))) _ _ s
  rw [back_places]
  exact wpAny_pure goal
theorem tuple_back {t sl : Addr} {items : Array Value} {v1 v2 v3 : Value} {Q : Value → Shared → Prop} (isT : IsTup s.heap t items) (isS : s.heap.IsSliceOf sl v1 v2 v3) (p1 : IsPart v1 none) (p2 : IsPart v2 none) (p3 : IsPart v3 (some (-1)))
    (goal : Q (.ref s.heap.objs.size) { s with heap := s.heap.push { cls := .type "tuple", data := .seq items.toList.reverse.toArray } }) (fits : items.size ≤ sizeLine) : wpAny (model prog w) A (getItem (.ref t) (.ref sl)) Q E s := by
  have okR : sizeOk (.seq items.toList.reverse.toArray) := by
    show items.toList.reverse.toArray.size ≤ sizeLine
    rw [List.size_toArray, List.length_reverse, Array.length_toList]
    exact fits
  obtain ⟨os, atS, clS, daS⟩ := id isS
  have tyS : s.TypeIs (.ref sl) "slice" := ⟨os, atS, clS⟩
  unfold getItem
  try with_reducible refine wpAny_holding ?_
  first | refine wpAny_bind (wpAny_pure ?_) | skip
  refine wpAny_bind (wpAny_sequenceKey isT.typeIs (by decide) ?_)
  refine wpAny_bind (wpAny_callSpecial?_slot (name := Str.ofString "__getitem__") isT.typeIs PyProof.Rows.slot_tuple_getitem (wpAny_call_entry PyProof.Rows.slot_tuple_getitem isT.typeIs entry_tuple_getitem ?_ (args_tuple_getitem _ _)))
  show wpAny _ _ (Builtin.Tuple.tupleItemsOf (.ref t) >>= _) _ _ s
  refine wpAny_bind (tupleItemsOf_ isT ?_)
  refine wpAny_bind (wpAny_typeOf tyS ?_)
  rw [if_pos (by decide)]
  refine wpAny_bind (slice_back isS p1 p2 p3 ?_)
  have no : ¬ ((((items.size : Int) - 1) == 0 && (-1 : Int) == 1 && items.size == items.size) = true) := by
    rw [show ((-1 : Int) == 1) = false by decide, Bool.and_false, Bool.false_and]
    exact Bool.false_ne_true
  show wpAny _ _ (if (((items.size : Int) - 1) == 0 && (-1 : Int) == 1 && items.size == items.size) = true then _ else _) _ _ s
  rw [if_neg no, back_pick]
  first
    | exact wpAny_bind (m := Builtin.Tuple.tupleExact _) (wpAny_newObj_type (wpAny_pure ⟨_, rfl, wpAny_pure goal⟩) okR)
    | exact wpAny_bind (m := Builtin.Tuple.tupleExact _) (wpAny_newObj_type (wpAny_bind (wpAny_pure (wpAny_pure ⟨_, rfl, wpAny_pure goal⟩))) okR)
    | exact wpAny_bind (wpAny_bind (m := Builtin.Tuple.tupleExact _) (wpAny_newObj_type (wpAny_pure (wpAny_pure ⟨_, rfl, wpAny_pure goal⟩)) okR))
    | exact wpAny_bind (wpAny_bind (m := Builtin.Tuple.tupleExact _) (wpAny_newObj_type (wpAny_pure ⟨_, rfl, wpAny_pure goal⟩) okR))
end
/-- t[::-1] -/
def tRevT (K : PySem.W.Frag) (te : TE) : TE := fun σ H Q => te σ H fun x H1 => ∃ a xs, x = .ref a ∧ SqT K H1 a xs ∧ ∀ p, H1 p = none → Q (.ref p) (upd H1 p (.tup xs.reverse))
theorem pe_revT {X : Cx} {e : Expr} {te : TE} {k : Nat} {p1 p2 p3 pos : Pos} (he : PE X e te) : PE X (.Subscript e (.Slice none none (some (.UnaryOp .USub (.Constant (.int 1) k p1) p2)) p3) pos) (tRevT X.K te) := by
  refine ⟨fun pins st σ H Q I want => ?_⟩
  refine Subscript_ (thn (he.run pins st σ H _ I want) fun v s1 ⟨x, H1, I1, r1, q1⟩ => ?_)
  obtain ⟨a, xs, ex, isT, q⟩ := q1
  subst ex
  cases r1
  have step : PO X (some (.UnaryOp .USub (.Constant (.int 1) k p1) p2)) (tPart (tUn (rU fun i => .int (-i)) (tC (.int 1)))) := po_some (pe_un un_neg pe_int)
  refine wpAny_Slice (thn (po_none.run pins s1 σ H1 (fun o H2 => o = none ∧ H2 = H1) I1 ⟨rfl, rfl⟩) fun vl s2 ⟨l, H2, I2, pl, el, e2⟩ => ?_)
  subst el e2
  refine thn (po_none.run pins s2 σ H2 (fun o H3 => o = none ∧ H3 = H2) I2 ⟨rfl, rfl⟩) fun vu s3 ⟨u, H3, I3, pu, eu, e3⟩ => ?_
  subst eu e3
  refine thn (step.run pins s3 σ H3 (fun o H4 => o = some (-1) ∧ H4 = H3) I3 ⟨1, rfl, -1, rfl, rfl, rfl⟩) fun vs s4 ⟨o, H4, I4, ps, eo, e4⟩ => ?_
  subst eo e4
  have I5 : Inv X pins σ H4 { s4 with heap := s4.heap.push { cls := .type "slice", data := .fields #[vl, vu, vs] } } := I4.kept (t' := s4.toks) fun b ob z => Heap.get?_push_of_some _ z
  obtain ⟨its, r, ht, hz⟩ := I5.tuple isT
  have many := r.length
  show wpAny (model X.prog X.w) X.A (subscriptTail e (.Slice none none (some (.UnaryOp .USub (.Constant (.int 1) k p1) p2)) p3) (.ref a) (.ref s4.heap.objs.size)) (EP X pins σ Q) X.xe { s4 with heap := s4.heap.push { cls := .type "slice", data := .fields #[vl, vu, vs] } }
  refine tail_any (ops := [.ref a, .ref s4.heap.objs.size]) ht.typeIs (PyProof.Rows.slot_tuple_getitem.lookup) ?_ (by with_unfolding_all rfl)
  refine tuple_back ht (Heap.IsSliceOf.new _ vl vu vs) pl pu ps ?_ (by rw [List.size_toArray]; omega)
  refine ⟨.ref _, _, I5.laid (t' := s4.toks) (o := .tup xs.reverse) (fun b ob z => Heap.get?_push_of_some _ z) (Nat.le_refl _) ?_, rfl, q _ (I5.hok.fresh (Nat.le_refl _))⟩
  exact ⟨by rw [List.length_reverse]; exact hz, _, r.reverse, IsTup.new _ _⟩
end L2

set_option Elab.async false
set_option linter.all false
set_option maxRecDepth 100000
/-! len of a set of ints: as many as its members -/
namespace L2
open PySem PySem.Spec PyProof.Rows
def rLenSetO (w : World) : List V → Hp → VK → Prop := fun xs H Q => ∃ (a : Addr) (S : Int → Bool) (n : Nat), xs = [.ref a] ∧ H a = some (SetO w a S n) ∧ n ≤ 1000 ∧ ((∃ l : List Int, l.Nodup ∧ l.length = n ∧ ∀ k, k ∈ l ↔ S k = true) → Q (.int n) H)
theorem cr_lenSetO {X : Cx} : CallR X (.builtin "len") (rLenSetO X.w) := by
  intro pins s σ H xs us Q I r h
  obtain ⟨a, S, n, rfl, ha, h64, q⟩ := h
  have R := setO_get I ha
  rw [Vals.ref1 r]
  obtain ⟨o, es, ep, t, ho, hex, hd, g, nd, hm, hb, hf, hn, hr, hl⟩ := R
  refine call_len_set ho hex hd hf (by rw [hn]; omega) ⟨.int n, H, I.tok _, ⟨_, by rw [hn]⟩, q ⟨es.toList.map keyOf, nd, ?_, fun k => (hm k).symm⟩⟩
  rw [List.length_map, Array.length_toList]
  exact hn
/-- the bookkeeping of a walk over a range, whatever a turn's reading is -/
theorem steps_range {lo : Int} {n : Nat} {H0 : Hp} {Qd : Hp → Prop} {step : V → Hp → (Hp → Prop) → Prop} (Pv : Nat → Hp → Prop) (h0 : Pv 0 H0)
    (hs : ∀ i H, i < n → Pv i H → step (.int (lo + i)) H (Pv (i + 1))) (hd : ∀ H, Pv n H → Qd H) :
    ∃ W : Nat → Nat → Hp → Prop, (∃ m, W 0 m H0) ∧ ∀ i m H, W i m H →
      ((Itr lo n).stop i H ∧ Qd H) ∨ ((Itr lo n).go i H ∧ ∃ N : Hp → Prop, (∀ H', N H' → ∃ m', m' < m ∧ W (i + 1) m' H') ∧ ∀ x H', (Itr lo n).yld i H x H' → step x H' N) := by
  refine ⟨fun i m H => m = n - i ∧ i ≤ n ∧ Pv i H, ⟨n, by simp, Nat.zero_le _, h0⟩, ?_⟩
  rintro i m H ⟨rfl, hi, p⟩
  by_cases hlt : i < n
  · refine .inr ⟨hlt, Pv (i + 1), fun H' p' => ⟨n - (i + 1), by omega, rfl, hlt, p'⟩, fun x H' y => ?_⟩
    obtain ⟨e, y⟩ := y
    subst e y
    exact hs i _ hlt p
  · obtain rfl : i = n := by omega
    exact .inl ⟨Nat.le_refl _, hd H p⟩
end L2

set_option Elab.async false
set_option linter.all false
set_option maxRecDepth 100000
set_option maxHeartbeats 4000000
/-! zip of two things, each a list or a tuple -/
namespace L2
open PySem PySem.Spec PyProof.Rows
def SqB (K : PySem.W.Frag) (t : Bool) (H : Hp) (a : Addr) (xs : List V) : Prop := match t with | true => SqT K H a xs | false => SqL K H a xs
def SeqB (h : Heap) (t : Bool) (a : Addr) (items : Array Value) : Prop := match t with | true => h.IsTuple a items | false => h.IsList a items
def IterB (h : Heap) (t : Bool) (it a : Addr) (i : Nat) : Prop := match t with | true => h.IsTupleIter it a i | false => h.IsListIter it a i
def obB (t : Bool) (a : Addr) : Obj := match t with | true => { cls := .type "tuple_iterator", data := .fields #[.ref a, .int 0 0] } | false => { cls := .type "list_iterator", data := .fields #[.ref a, .int 0 0] }
theorem drawsB {prog : Program} {w : World} {A : Around} (t : Bool) (hh : A.handled = none) (it l : Addr) (hne : l ≠ it) (items : Array Value) :
    Draws prog w A it [it, l] items.size (fun i v => items[i]? = some v) (fun i h => IterB h t it l i ∧ SeqB h t l items) := by
  cases t with
  | true => exact Draws.tuple hh it l hne items
  | false => exact Draws.list hh it l hne items
theorem beginsB (t : Bool) (l : Addr) (items : Array Value) : Begins (.ref l) (obB t l) (fun h => SeqB h t l items) := by
  cases t with
  | true => exact begins_tuple l items
  | false => exact begins_list l items
theorem iterB_new {h : Heap} {t : Bool} {it l : Addr} (e : h.get? it = some (obB t l)) : IterB h t it l 0 := by
  cases t with
  | true => exact ⟨_, e, rfl, rfl⟩
  | false => exact ⟨_, e, rfl, rfl⟩
theorem IterB.live {h : Heap} {t : Bool} {it a : Addr} {i : Nat} (q : IterB h t it a i) : ∃ o, h.get? it = some o ∧ ∀ v, o.data ≠ .cell v := by
  cases t with
  | true =>
    obtain ⟨o, e, _, d⟩ := q
    exact ⟨o, e, fun v q => by rw [d] at q; cases q⟩
  | false =>
    obtain ⟨o, e, _, d⟩ := q
    exact ⟨o, e, fun v q => by rw [d] at q; cases q⟩
theorem IterB.at {h h' : Heap} {t : Bool} {it a : Addr} {i : Nat} (q : IterB h t it a i) (k : ∀ o, h.get? it = some o → h'.get? it = some o) : IterB h' t it a i := by
  cases t with
  | true => exact Heap.IsTupleIter.at q k
  | false => exact Heap.IsListIter.at q k
theorem SeqB.lt {h : Heap} {t : Bool} {a : Addr} {items : Array Value} (q : SeqB h t a items) : a < h.objs.size := by
  cases t with
  | true =>
    obtain ⟨o, e, _⟩ := q
    exact Heap.lt_size e
  | false =>
    obtain ⟨o, e, _⟩ := q
    exact Heap.lt_size e
section
variable {X : Cx} {pins : List (Addr × Obj)} {σ : St} {H : Hp} {s : Shared}
theorem inv_seqB {t : Bool} {a : Addr} {xs : List V} (I : Inv X pins σ H s) (q : SqB X.K t H a xs) : ∃ its : List Value, Vals xs its ∧ SeqB s.heap t a its.toArray := by
  cases t with
  | true =>
    obtain ⟨its, rv, p, _⟩ := I.tuple q
    exact ⟨its, rv, p⟩
  | false =>
    obtain ⟨its, rv, p, _⟩ := I.list q
    exact ⟨its, rv, p.isList⟩
theorem inv_injB {t : Bool} {a : Addr} {xs ys : List V} (I : Inv X pins σ H s) (q : SqB X.K t H a xs) (q' : SqB X.K t H a ys) : xs = ys := by
  cases t with
  | true => exact I.tuple_inj q q'
  | false => exact I.list_inj q q'
end
theorem SqB.ext {K : PySem.W.Frag} {t : Bool} {H H' : Hp} {a : Addr} {xs : List V} (q : SqB K t H a xs) (e : Ext H H') : SqB K t H' a xs := by
  cases t with
  | true => exact SqT.ext q e
  | false => exact SqL.ext q e
/-- the two things as they stand at each turn, the items in new pairs -/
def ItzB (K : PySem.W.Frag) (t1 t2 : Bool) (a b : Addr) : It :=
  ⟨fun i H => ∃ (xs ys : List V), SqB K t1 H a xs ∧ SqB K t2 H b ys ∧ i < xs.length ∧ i < ys.length,
    fun i H v H' => ∃ T x y, v = .ref T ∧ H T = none ∧ H' = upd H T (.tup [x, y]) ∧ (∀ xs, SqB K t1 H a xs → xs[i]? = some x) ∧ ∀ ys, SqB K t2 H b ys → ys[i]? = some y,
    fun i H => ∃ xs ys : List V, SqB K t1 H a xs ∧ SqB K t2 H b ys ∧ i = min xs.length ys.length⟩
theorem turn_zipB {P : Program} {w : World} {K : PySem.W.Frag} {elts : List Expr} {kk : Nat} {tpos : Pos} {t1 t2 : Bool} {a b z TI TO i1 i2 : Addr} (D : ZipApart z TI TO i1 i2 a b) :
    Turn P w K (.Tuple elts kk tpos) (ItzB K t1 t2 a b) [z, TI, TO, i1, i2] z (fun i h => IsZip h z TI TO .none ∧ IsTupOf2 h TI (.ref i1) (.ref i2) ∧ (∃ x y, IsTupOf2 h TO x y) ∧ IterB h t1 i1 a i ∧ IterB h t2 i2 b i) where
  mem := by simp
  obj := fun i h st c hc => by
    obtain ⟨hz, hTI, ⟨x, y, hTO⟩, h1, h2⟩ := st
    have e' : c = z ∨ c = TI ∨ c = TO ∨ c = i1 ∨ c = i2 := by simpa using hc
    rcases e' with q | q | q | q | q
    · rw [q]; exact ⟨_, hz, fun v q => nomatch q⟩
    · rw [q]; exact ⟨_, hTI, fun v q => nomatch q⟩
    · rw [q]; exact ⟨_, hTO, fun v q => nomatch q⟩
    · rw [q]; exact h1.live
    · rw [q]; exact h2.live
  keep := fun i h h' st k => by
    obtain ⟨hz, hTI, ⟨x, y, hTO⟩, h1, h2⟩ := st
    exact ⟨k z (by simp) _ hz, k TI (by simp) _ hTI, ⟨x, y, k TO (by simp) _ hTO⟩, h1.at fun o q => k i1 (by simp) o q, h2.at fun o q => k i2 (by simp) o q⟩
  item := by
    intro X hP hw hK hc i pins s σ H E I hf st hg
    subst hP hw hK
    obtain ⟨hz, hTI, ⟨x0, y0, hTO⟩, h1, h2⟩ := st
    obtain ⟨xs, ys, hqx, hqy, hx, hy⟩ := hg
    obtain ⟨its, rv, p⟩ := inv_seqB I hqx
    obtain ⟨its2, rv2, p2⟩ := inv_seqB I hqy
    have l1 := rv.length
    have l2 := rv2.length
    have hzl : z < s.heap.objs.size := Heap.lt_size hz
    have Sp : ZipSep2 z TI TO i1 i2 [i1, a] [i2, b] := ⟨D.TIz, D.TOz, D.TITO, D.TIi1, by simp, by simp [Ne.symm D.i1z, Ne.symm D.l1z], by simp [D.TOi1, Ne.symm D.l1TO], D.TIi2, by simp, by simp [Ne.symm D.i2z, Ne.symm D.l2z], by simp [D.TOi2, Ne.symm D.l2TO], by simp [D.i12, Ne.symm D.l2i1], by simp [Ne.symm D.i12, Ne.symm D.l1i2]⟩
    have D1 := drawsB (prog := X.prog) (w := X.w) (A := X.A.in1) t1 (show X.A.in1.handled = none from I.ok.hd hc) i1 a D.l1i1 its.toArray
    have D2 := drawsB (prog := X.prog) (w := X.w) (A := X.A.in1) t2 (show X.A.in1.handled = none from I.ok.hd hc) i2 b D.l2i2 its2.toArray
    refine wpAny_pyNext_zipD2_item Sp D1 D2 hz hTI hTO ⟨h1, p⟩ ⟨h2, p2⟩ (by simp; omega) (by simp; omega) fun u u2 h' tk hP1 hP2 z' TO' h1' h2' hT hsz hk => ?_
    have hu : its[i]? = some u := by simpa using hP1
    have hu2 : its2[i]? = some u2 := by simpa using hP2
    obtain ⟨x, hxx⟩ : ∃ x, xs[i]? = some x := ⟨_, List.getElem?_eq_getElem hx⟩
    obtain ⟨y, hyy⟩ : ∃ y, ys[i]? = some y := ⟨_, List.getElem?_eq_getElem hy⟩
    obtain ⟨u', hu', ru⟩ := rv.get hxx
    obtain ⟨u2', hu2', ru2⟩ := rv2.get hyy
    obtain rfl : u' = u := Option.some.inj (hu'.symm.trans hu)
    obtain rfl : u2' = u2 := Option.some.inj (hu2'.symm.trans hu2)
    refine ⟨_, rfl, wpAny_letOwnedTupleGo_zip (s := { s with heap := h', toks := tk }) z' fun h'' z'' sb => ?_⟩
    have hT2 : h''.get? s.heap.objs.size = some { cls := .type "tuple", data := .seq #[u', u2'] } := (sb.2 _ (Nat.ne_of_gt hzl)).trans hT
    have new : ObjOk X.prog X.w (upd H s.heap.objs.size (.tup [x, y])) h'' s.heap.objs.size (.tup [x, y]) :=
      ⟨by show 2 ≤ sizeLine; decide, [u', u2'], .cons ru (.cons ru2 .nil), ⟨_, hT2, rfl, _, rfl⟩⟩
    have I1 : Inv X pins σ (upd H s.heap.objs.size (.tup [x, y])) { s with heap := h'', toks := tk } :=
      I.turnedNew (ch := [z, TI, TO, i1, i2]) (fun c o hb q => (sb.2 c (fun q' => hb (by simp [q']))).trans (hk c o (fun q' => hb (by simp [q'])) (fun q' => hb (by simp [q'])) (fun q' => hb (by simp [q'])) (fun q' => hb (by simp [q'])) q)) hf (Nat.le_refl _) new
    refine ⟨.ref s.heap.objs.size, _, I1, rfl, ⟨_, x, y, rfl, I.hok.fresh (Nat.le_refl _), rfl, fun l hl => by rw [inv_injB I hl hqx]; exact hxx, fun l hl => by rw [inv_injB I hl hqy]; exact hyy⟩, ⟨z'', ?_, ⟨u', u2', ?_⟩, ?_, ?_⟩, fun c hcm => ?_⟩
    · exact (sb.2 _ D.TIz).trans (hk _ _ D.TIz D.TITO D.TIi1 D.TIi2 hTI)
    · exact (sb.2 _ D.TOz).trans TO'
    · exact h1'.1.at fun o q => (sb.2 _ D.i1z).trans q
    · exact h2'.1.at fun o q => (sb.2 _ D.i2z).trans q
    · have hlt : c < s.heap.objs.size := by
        have e' : c = z ∨ c = TI ∨ c = TO ∨ c = i1 ∨ c = i2 := by simpa using hcm
        rcases e' with q | q | q | q | q
        · rw [q]; exact hzl
        · rw [q]; exact Heap.lt_size hTI
        · rw [q]; exact Heap.lt_size hTO
        · rw [q]; obtain ⟨_, e1, _⟩ := h1.live; exact Heap.lt_size e1
        · rw [q]; obtain ⟨_, e2, _⟩ := h2.live; exact Heap.lt_size e2
      rw [upd_ne (Nat.ne_of_lt hlt)]
      exact (hf c hcm).1
  done := by
    intro X hP hw hK hc i pins s σ H E I hf st hg
    subst hP hw hK
    obtain ⟨hz, hTI, ⟨x0, y0, hTO⟩, h1, h2⟩ := st
    obtain ⟨xs, ys, hqx, hqy, hend⟩ := hg
    obtain ⟨its, rv, p⟩ := inv_seqB I hqx
    obtain ⟨its2, rv2, p2⟩ := inv_seqB I hqy
    have l1 := rv.length
    have l2 := rv2.length
    have Sp : ZipSep2 z TI TO i1 i2 [i1, a] [i2, b] := ⟨D.TIz, D.TOz, D.TITO, D.TIi1, by simp, by simp [Ne.symm D.i1z, Ne.symm D.l1z], by simp [D.TOi1, Ne.symm D.l1TO], D.TIi2, by simp, by simp [Ne.symm D.i2z, Ne.symm D.l2z], by simp [D.TOi2, Ne.symm D.l2TO], by simp [D.i12, Ne.symm D.l2i1], by simp [Ne.symm D.i12, Ne.symm D.l1i2]⟩
    have D1 := drawsB (prog := X.prog) (w := X.w) (A := X.A.in1) t1 (show X.A.in1.handled = none from I.ok.hd hc) i1 a D.l1i1 its.toArray
    have D2 := drawsB (prog := X.prog) (w := X.w) (A := X.A.in1) t2 (show X.A.in1.handled = none from I.ok.hd hc) i2 b D.l2i2 its2.toArray
    refine wpAny_pyNext_zipD2_end Sp D1 D2 hz hTI hTO ⟨h1, p⟩ ⟨h2, p2⟩ (by simp; omega) (by simp; omega) (by simp; omega) fun h' tk hk => ⟨rfl, I.turnedL (t' := tk) (ch := [z, TI, TO, i1, i2]) (fun c o hb q =>
      hk c o (fun q' => hb (by simp [q'])) (fun q' => hb (by simp [q'])) (fun q' => hb (by simp [q'])) (fun q' => hb (by simp [q'])) q) hf⟩
  self := fun A i s Q E st h => wpAny_pyIter_zip st.1 h
def iZipB (K : PySem.W.Frag) (t1 t2 : Bool) (ta : TA) : TI := fun σ H R => ta σ H fun vs H1 => ∃ a b xs ys, vs = [.ref a, .ref b] ∧ SqB K t1 H1 a xs ∧ SqB K t2 H1 b ys ∧ R (ItzB K t1 t2 a b) H1
theorem pi_zipB {X : Cx} (t1 t2 : Bool) {e e2 : Expr} {ta : TA} {p pos tpos : Pos} {elts : List Expr} {kk : Nat} (hg : Gl X "zip") (hm : X.mg "zip" = none) (ha : PA X [e, e2] ta)
    (hs : starEach [e, e2] X.env = (false, eval e X.env) :: starEach [e2] X.env := by rfl) (hpl : (backTo pos (starEach [e2] X.env)).any (·.1) = false := by rfl) :
    PI X (.Tuple elts kk tpos) (.Call (.Name "zip" p) [e, e2] [] pos) (iZipB X.K t1 t2 ta) := by
  refine ⟨fun pins s σ H R I h => ?_⟩
  refine Call_ (ld_blt I hg hm PyProof.Rows.boot_zip (PyProof.Rows.callWith_type1 (thn (ha.run pos pins s σ H _ I h) fun us s1 ⟨vs, H1, I1, r1, q1⟩ => ?_) hs hpl))
  obtain ⟨a, b, xs, ys, ex, hqx, hqy, q⟩ := q1
  subst ex
  cases r1 with
  | cons r rr =>
    cases rr with
    | cons r' rr =>
      cases rr
      cases r
      cases r'
      have fresh5 : ∀ c, c ∈ [s1.heap.objs.size + 4, s1.heap.objs.size + 2, s1.heap.objs.size + 3, s1.heap.objs.size, s1.heap.objs.size + 1] → FpOk X pins H1 c := fun c hcm => by
        have e' : c = s1.heap.objs.size + 4 ∨ c = s1.heap.objs.size + 2 ∨ c = s1.heap.objs.size + 3 ∨ c = s1.heap.objs.size ∨ c = s1.heap.objs.size + 1 := by simpa using hcm
        have hle : s1.heap.objs.size ≤ c := by
          rcases e' with z | z | z | z | z
          · rw [z]; exact Nat.le_add_right _ _
          · rw [z]; exact Nat.le_add_right _ _
          · rw [z]; exact Nat.le_add_right _ _
          · rw [z]; exact Nat.le_refl _
          · rw [z]; exact Nat.le_add_right _ _
        exact I1.fpOk hle (I1.hok.fresh hle)
      obtain ⟨its, rv, p1⟩ := inv_seqB I1 hqx
      obtain ⟨its2, rv2, p2⟩ := inv_seqB I1 hqy
      refine zip_begins2 (beginsB t1 a its.toArray) (beginsB t2 b its2.toArray) p1 p2 fun h' hz hTI hTO h1 h2 hsz hk => wpAny_pyIter_zip hz ?_
      have I2 : Inv X pins σ H1 { s1 with heap := h' } := I1.kept (t' := s1.toks) hk
      exact ⟨s1.heap.objs.size + 4, [s1.heap.objs.size + 4, s1.heap.objs.size + 2, s1.heap.objs.size + 3, s1.heap.objs.size, s1.heap.objs.size + 1], _, _, H1, rfl, I2, turn_zipB (PySem.W.ktu_apart s1.heap.objs.size a b p1.lt p2.lt), ⟨hz, hTI, ⟨_, _, hTO⟩, iterB_new h1, iterB_new h2⟩, fresh5, q⟩
theorem walk_zipB {K : PySem.W.Frag} {t1 t2 : Bool} {a b : Addr} {xs ys : List V} {n : Nat} (hn : n = min xs.length ys.length) : Walk (ItzB K t1 t2 a b) n (fun H => SqB K t1 H a xs ∧ SqB K t2 H b ys) (YPair (fun i => xs[i]?) (fun i => ys[i]?)) := by
  subst hn
  refine ⟨fun i _ hi q => ⟨xs, ys, q.1, q.2, by omega, by omega⟩, fun _ q => ⟨xs, ys, q.1, q.2, rfl⟩, fun i H v H' _ q y => ?_⟩
  obtain ⟨T, x, y, e1, e2, e3, e4, e5⟩ := y
  exact ⟨T, x, y, e1, e2, e3, e4 xs q.1, e5 ys q.2⟩
end L2

set_option Elab.async false
set_option maxRecDepth 100000
set_option maxHeartbeats 4000000
namespace K18
open PySem PySem.Spec PyProof.Rows L2
def top (i : Nat) : Stmt := PySem.Challenge.pw_wholeline_k21_whole_best_begins.main.body.getD i (.Pass ⟨0, 0, 0, 0⟩)
abbrev s_BadPart_init : Stmt := inClass (top 3) 0
abbrev nm_BadPart_init : List Str := ["self", "part"]
abbrev pm_BadPart_init : List Str := ["self", "part"]
theorem sc_BadPart_init : FnScope nm_BadPart_init pm_BadPart_init (defScope s_BadPart_init) := ⟨rfl, rfl, rfl, by decide +kernel, rfl, by decide +kernel, by decide +kernel⟩

abbrev s_BadBox_init : Stmt := inClass (top 4) 0
abbrev nm_BadBox_init : List Str := ["self", "index"]
abbrev pm_BadBox_init : List Str := ["self", "index"]
theorem sc_BadBox_init : FnScope nm_BadBox_init pm_BadBox_init (defScope s_BadBox_init) := ⟨rfl, rfl, rfl, by decide +kernel, rfl, by decide +kernel, by decide +kernel⟩

abbrev s_is_integer : Stmt := top 6
abbrev nm_is_integer : List Str := ["value"]
abbrev pm_is_integer : List Str := ["value"]
theorem sc_is_integer : FnScope nm_is_integer pm_is_integer (defScope s_is_integer) := ⟨rfl, rfl, rfl, by decide +kernel, rfl, by decide +kernel, by decide +kernel⟩

abbrev s_is_between : Stmt := top 7
abbrev nm_is_between : List Str := ["value", "low", "high"]
abbrev pm_is_between : List Str := ["value", "low", "high"]
theorem sc_is_between : FnScope nm_is_between pm_is_between (defScope s_is_between) := ⟨rfl, rfl, rfl, by decide +kernel, rfl, by decide +kernel, by decide +kernel⟩

abbrev s_is_index : Stmt := top 8
abbrev nm_is_index : List Str := ["value", "many"]
abbrev pm_is_index : List Str := ["value", "many"]
theorem sc_is_index : FnScope nm_is_index pm_is_index (defScope s_is_index) := ⟨rfl, rfl, rfl, by decide +kernel, rfl, by decide +kernel, by decide +kernel⟩

abbrev s_is_list : Stmt := top 9
abbrev nm_is_list : List Str := ["value"]
abbrev pm_is_list : List Str := ["value"]
theorem sc_is_list : FnScope nm_is_list pm_is_list (defScope s_is_list) := ⟨rfl, rfl, rfl, by decide +kernel, rfl, by decide +kernel, by decide +kernel⟩

abbrev s_is_list_of : Stmt := top 10
abbrev nm_is_list_of : List Str := ["value", "low", "high"]
abbrev pm_is_list_of : List Str := ["value", "low", "high"]
theorem sc_is_list_of : FnScope nm_is_list_of pm_is_list_of (defScope s_is_list_of) := ⟨rfl, rfl, rfl, by decide +kernel, rfl, by decide +kernel, by decide +kernel⟩

abbrev s_is_tuple_of : Stmt := top 11
abbrev nm_is_tuple_of : List Str := ["value", "many"]
abbrev pm_is_tuple_of : List Str := ["value", "many"]
theorem sc_is_tuple_of : FnScope nm_is_tuple_of pm_is_tuple_of (defScope s_is_tuple_of) := ⟨rfl, rfl, rfl, by decide +kernel, rfl, by decide +kernel, by decide +kernel⟩

abbrev s_are_rising_indexes : Stmt := top 12
abbrev nm_are_rising_indexes : List Str := ["values", "many", "value", "one", "other"]
abbrev pm_are_rising_indexes : List Str := ["values", "many"]
theorem sc_are_rising_indexes : FnScope nm_are_rising_indexes pm_are_rising_indexes (defScope s_are_rising_indexes) := ⟨rfl, rfl, rfl, by decide +kernel, rfl, by decide +kernel, by decide +kernel⟩

abbrev s_is_lot : Stmt := top 13
abbrev nm_is_lot : List Str := ["value", "many"]
abbrev pm_is_lot : List Str := ["value", "many"]
theorem sc_is_lot : FnScope nm_is_lot pm_is_lot (defScope s_is_lot) := ⟨rfl, rfl, rfl, by decide +kernel, rfl, by decide +kernel, by decide +kernel⟩

abbrev s_is_begin : Stmt := top 19
abbrev nm_is_begin : List Str := ["value"]
abbrev pm_is_begin : List Str := ["value"]
theorem sc_is_begin : FnScope nm_is_begin pm_is_begin (defScope s_is_begin) := ⟨rfl, rfl, rfl, by decide +kernel, rfl, by decide +kernel, by decide +kernel⟩

abbrev s_are_delays : Stmt := top 20
abbrev nm_are_delays : List Str := ["least", "most"]
abbrev pm_are_delays : List Str := ["least", "most"]
theorem sc_are_delays : FnScope nm_are_delays pm_are_delays (defScope s_are_delays) := ⟨rfl, rfl, rfl, by decide +kernel, rfl, by decide +kernel, by decide +kernel⟩

abbrev s_is_box : Stmt := top 21
abbrev nm_is_box : List Str := ["value", "least", "most", "near", "far", "shortest", "longest"]
abbrev pm_is_box : List Str := ["value", "least", "most"]
theorem sc_is_box : FnScope nm_is_box pm_is_box (defScope s_is_box) := ⟨rfl, rfl, rfl, by decide +kernel, rfl, by decide +kernel, by decide +kernel⟩

abbrev s_Way_init : Stmt := inClass (top 22) 0
abbrev nm_Way_init : List Str := ["self", "begin", "least", "most", "boxes", "index", "box"]
abbrev pm_Way_init : List Str := ["self", "begin", "least", "most", "boxes"]
theorem sc_Way_init : FnScope nm_Way_init pm_Way_init (defScope s_Way_init) := ⟨rfl, rfl, rfl, by decide +kernel, rfl, by decide +kernel, by decide +kernel⟩

abbrev s_check_ways : Stmt := top 26
abbrev nm_check_ways : List Str := ["ways", "way"]
abbrev pm_check_ways : List Str := ["ways"]
theorem sc_check_ways : FnScope nm_check_ways pm_check_ways (defScope s_check_ways) := ⟨rfl, rfl, rfl, by decide +kernel, rfl, by decide +kernel, by decide +kernel⟩

abbrev s_check_silent : Stmt := top 27
abbrev nm_check_silent : List Str := ["silent"]
abbrev pm_check_silent : List Str := ["silent"]
theorem sc_check_silent : FnScope nm_check_silent pm_check_silent (defScope s_check_silent) := ⟨rfl, rfl, rfl, by decide +kernel, rfl, by decide +kernel, by decide +kernel⟩

abbrev s_check_begins : Stmt := top 30
abbrev nm_check_begins : List Str := ["ways", "allowed", "silent", "gap"]
abbrev pm_check_begins : List Str := ["ways", "allowed", "silent", "gap"]
theorem sc_check_begins : FnScope nm_check_begins pm_check_begins (defScope s_check_begins) := ⟨rfl, rfl, rfl, by decide +kernel, rfl, by decide +kernel, by decide +kernel⟩

abbrev s_are_unlike_ways : Stmt := top 31
abbrev nm_are_unlike_ways : List Str := ["value", "many", "way"]
abbrev pm_are_unlike_ways : List Str := ["value", "many"]
theorem sc_are_unlike_ways : FnScope nm_are_unlike_ways pm_are_unlike_ways (defScope s_are_unlike_ways) := ⟨rfl, rfl, rfl, by decide +kernel, rfl, by decide +kernel, by decide +kernel⟩

abbrev s_by_delay : Stmt := top 32
abbrev nm_by_delay : List Str := ["ways", "allowed", "lot", "way", "delay"]
abbrev pm_by_delay : List Str := ["ways", "allowed"]
theorem sc_by_delay : FnScope nm_by_delay pm_by_delay (defScope s_by_delay) := ⟨rfl, rfl, rfl, by decide +kernel, rfl, by decide +kernel, by decide +kernel⟩

abbrev s_best_begins : Stmt := top 33
abbrev nm_best_begins : List Str := ["ways", "allowed", "silent", "gap", "order", "falling", "ends", "begins", "index", "way", "end", "lot", "told"]
abbrev pm_best_begins : List Str := ["ways", "allowed", "silent", "gap"]
theorem sc_best_begins : FnScope nm_best_begins pm_best_begins (defScope s_best_begins) := ⟨rfl, rfl, rfl, by decide +kernel, rfl, by decide +kernel, by decide +kernel⟩

abbrev s_shows_begins : Stmt := top 34
abbrev nm_shows_begins : List Str := ["ways", "allowed", "silent", "gap", "end", "begins", "paper"]
abbrev pm_shows_begins : List Str := ["ways", "allowed", "silent", "gap", "end", "begins", "paper"]
theorem sc_shows_begins : FnScope nm_shows_begins pm_shows_begins (defScope s_shows_begins) := ⟨rfl, rfl, rfl, by decide +kernel, rfl, by decide +kernel, by decide +kernel⟩

abbrev s_is_plan : Stmt := top 35
abbrev nm_is_plan : List Str := ["ways", "allowed", "silent", "gap", "value", "begun", "moments", "way", "sooner", "later"]
abbrev pm_is_plan : List Str := ["ways", "allowed", "silent", "gap", "value"]
theorem sc_is_plan : FnScope nm_is_plan pm_is_plan (defScope s_is_plan) := ⟨rfl, rfl, rfl, by decide +kernel, rfl, by decide +kernel, by decide +kernel⟩

abbrev s_latest_of : Stmt := top 36
abbrev nm_latest_of : List Str := ["ways", "silent", "begins", "ends", "way", "begin", "end"]
abbrev pm_latest_of : List Str := ["ways", "silent", "begins"]
theorem sc_latest_of : FnScope nm_latest_of pm_latest_of (defScope s_latest_of) := ⟨rfl, rfl, rfl, by decide +kernel, rfl, by decide +kernel, by decide +kernel⟩

abbrev s_bars_ahead : Stmt := top 37
abbrev nm_bars_ahead : List Str := ["ways", "allowed", "silent", "gap", "end", "value", "index", "lot", "way"]
abbrev pm_bars_ahead : List Str := ["ways", "allowed", "silent", "gap", "end", "value"]
theorem sc_bars_ahead : FnScope nm_bars_ahead pm_bars_ahead (defScope s_bars_ahead) := ⟨rfl, rfl, rfl, by decide +kernel, rfl, by decide +kernel, by decide +kernel⟩

abbrev s__law_draw : Stmt := top 39
abbrev nm__law_draw : List Str := ["_law_state", "_law_limit", "_law_cells", "_law_at", "_law_cell", "_law_mixed"]
abbrev pm__law_draw : List Str := ["_law_state", "_law_limit"]
theorem sc__law_draw : FnScope nm__law_draw pm__law_draw (defScope s__law_draw) := ⟨rfl, rfl, rfl, by decide +kernel, rfl, by decide +kernel, by decide +kernel⟩

abbrev s__law_least : Stmt := top 40
abbrev nm__law_least : List Str := ["_law_mosts", "_law_allowed", "_law_silent", "_law_gap", "_law_kept", "_law_k", "_law_i"]
abbrev pm__law_least : List Str := ["_law_mosts", "_law_allowed", "_law_silent", "_law_gap"]
theorem sc__law_least : FnScope nm__law_least pm__law_least (defScope s__law_least) := ⟨rfl, rfl, rfl, by decide +kernel, rfl, by decide +kernel, by decide +kernel⟩

abbrev s__law_plan_fits : Stmt := top 41
abbrev nm__law_plan_fits : List Str := ["_law_mosts", "_law_allowed", "_law_silent", "_law_gap", "_law_begins", "_law_k", "_law_told", "_law_begin"]
abbrev pm__law_plan_fits : List Str := ["_law_mosts", "_law_allowed", "_law_silent", "_law_gap", "_law_begins"]
theorem sc__law_plan_fits : FnScope nm__law_plan_fits pm__law_plan_fits (defScope s__law_plan_fits) := ⟨rfl, rfl, rfl, by decide +kernel, rfl, by decide +kernel, by decide +kernel⟩

abbrev s__law_end : Stmt := top 42
abbrev nm__law_end : List Str := ["_law_mosts", "_law_silent", "_law_begins", "_law_ends", "_law_k"]
abbrev pm__law_end : List Str := ["_law_mosts", "_law_silent", "_law_begins"]
theorem sc__law_end : FnScope nm__law_end pm__law_end (defScope s__law_end) := ⟨rfl, rfl, rfl, by decide +kernel, rfl, by decide +kernel, by decide +kernel⟩

abbrev s__law_paper_fits : Stmt := top 43
abbrev nm__law_paper_fits : List Str := ["_law_mosts", "_law_allowed", "_law_silent", "_law_gap", "_law_end_here", "_law_paper_here", "_law_i", "_law_lot", "_law_k"]
abbrev pm__law_paper_fits : List Str := ["_law_mosts", "_law_allowed", "_law_silent", "_law_gap", "_law_end_here", "_law_paper_here"]
theorem sc__law_paper_fits : FnScope nm__law_paper_fits pm__law_paper_fits (defScope s__law_paper_fits) := ⟨rfl, rfl, rfl, by decide +kernel, rfl, by decide +kernel, by decide +kernel⟩

abbrev s__law_plan : Stmt := top 44
abbrev nm__law_plan : List Str := ["_law_state", "_law_count", "_law_allowed", "_law_begins", "_law_moment", "_law_turn", "_law_k", "_law_wrong"]
abbrev pm__law_plan : List Str := ["_law_state", "_law_count", "_law_allowed"]
theorem sc__law_plan : FnScope nm__law_plan pm__law_plan (defScope s__law_plan) := ⟨rfl, rfl, rfl, by decide +kernel, rfl, by decide +kernel, by decide +kernel⟩

abbrev s__law_paper : Stmt := top 45
abbrev nm__law_paper : List Str := ["_law_state", "_law_silent", "_law_allowed", "_law_lot", "_law_wrong", "_law_k", "_law_one"]
abbrev pm__law_paper : List Str := ["_law_state", "_law_silent", "_law_allowed"]
theorem sc__law_paper : FnScope nm__law_paper pm__law_paper (defScope s__law_paper) := ⟨rfl, rfl, rfl, by decide +kernel, rfl, by decide +kernel, by decide +kernel⟩

abbrev s__law_refused : Stmt := top 46
abbrev nm__law_refused : List Str := ["_law_ways", "_law_allowed", "_law_silent", "_law_gap", "_law_found", "e"]
abbrev pm__law_refused : List Str := ["_law_ways", "_law_allowed", "_law_silent", "_law_gap"]
theorem sc__law_refused : FnScope nm__law_refused pm__law_refused (defScope s__law_refused) := ⟨rfl, rfl, rfl, by decide +kernel, rfl, by decide +kernel, by decide +kernel⟩

abbrev s_law : Stmt := top 47
abbrev nm_law : List Str := ["_law_script", "_law_state", "_law_mosts", "_law_ways", "_law_allowed", "_law_silent", "_law_gap", "_law_told", "_law_end_here", "_law_plan_here", "_law_kept", "_law_k", "_law_begins", "_law_paper_here", "_law_moment", "_law_fits", "_law_due", "_law_most"]
abbrev pm_law : List Str := ["_law_script"]
theorem sc_law : FnScope nm_law pm_law (defScope s_law) := ⟨rfl, rfl, rfl, by decide +kernel, rfl, by decide +kernel, by decide +kernel⟩

structure Ad where
  (BadPart BadBox WholeError Way T0 : Addr)
structure Txt (K : PySem.W.Frag) (mg : Str → Option Value) (A : Ad) : Prop where
  n_isinstance : mg "isinstance" = none
  n_int : mg "int" = none
  n_bool : mg "bool" = none
  n_list : mg "list" = none
  n_tuple : mg "tuple" = none
  n_len : mg "len" = none
  n_range : mg "range" = none
  n_max : mg "max" = none
  n_min : mg "min" = none
  n_zip : mg "zip" = none
  n_set : mg "set" = none
  n_enumerate : mg "enumerate" = none
  n_all : mg "all" = none
  n_sorted : mg "sorted" = none
  g_MOST_BEGIN : ∃ t, mg "MOST_BEGIN" = some (.int 1000 t)
  g_MOST_DELAY : ∃ t, mg "MOST_DELAY" = some (.int 50 t)
  g_MOST_BOXES : ∃ t, mg "MOST_BOXES" = some (.int 3 t)
  g_MOST_KEEP : ∃ t, mg "MOST_KEEP" = some (.int 10000 t)
  g_MOST_WAYS : ∃ t, mg "MOST_WAYS" = some (.int 4 t)
  g_MOST_SILENT : ∃ t, mg "MOST_SILENT" = some (.int 3 t)
  Way : ClsX K mg "Way" A.Way
  w_begin : NoAttr K A.Way "begin"
  w_least : NoAttr K A.Way "least"
  w_most : NoAttr K A.Way "most"
  w_boxes : NoAttr K A.Way "boxes"
  BadPart : XAt K mg "BadPart" "part" A.BadPart s_BadPart_init "BadPart.__init__"
  BadBox : XAt K mg "BadBox" "index" A.BadBox s_BadBox_init "BadBox.__init__"
  g_MOST_GAP : ∃ t, mg "MOST_GAP" = some (.int 500 t)
  x_pp : PySem.W.exmOne K (.ref A.BadPart) (.ref A.BadPart) = some true
  g_WholeError : mg "WholeError" = some (.ref A.WholeError)
  t0 : ∀ H, SqT K H A.T0 []
section
variable {P : Program} {w : World} {K : PySem.W.Frag} {mg : Str → Option Value} {base : Heap} {A : Ad}
theorem ok_xp {f : Addr} {fd : FuncData} (F : Fun K "__init__" "BadPart.__init__" s_BadPart_init f fd) (T : Txt K mg A) : FnOk P w K mg base CX0 1 f fd ["self", "part"] (spXI A.BadPart "part") := by
  refine F.ok sc_BadPart_init (fun vs H Q E h => ?_) (fun cdv A' outer s H vs Q E hr h => ?_)
  · obtain ⟨a, y, rfl, _⟩ := h
    rfl
  · obtain ⟨a, y, rfl, ha, q⟩ := h
    refine ⟨_, pss_one (ps_ost (pv 0) (pv 1)), ?_⟩
    exact ⟨_, rfl, _, rfl, a, A.BadPart, rfl, T.BadPart.ox, T.BadPart.noA, .inl ⟨ha, fun dx h1 h2 => q dx h1 h2⟩⟩
theorem ok_xb {f : Addr} {fd : FuncData} (F : Fun K "__init__" "BadBox.__init__" s_BadBox_init f fd) (T : Txt K mg A) : FnOk P w K mg base CX0 1 f fd ["self", "index"] (spXI A.BadBox "index") := by
  refine F.ok sc_BadBox_init (fun vs H Q E h => ?_) (fun cdv A' outer s H vs Q E hr h => ?_)
  · obtain ⟨a, y, rfl, _⟩ := h
    rfl
  · obtain ⟨a, y, rfl, ha, q⟩ := h
    refine ⟨_, pss_one (ps_ost (pv 0) (pv 1)), ?_⟩
    exact ⟨_, rfl, _, rfl, a, A.BadBox, rfl, T.BadBox.ox, T.BadBox.noA, .inl ⟨ha, fun dx h1 h2 => q dx h1 h2⟩⟩
def spInteger (K : PySem.W.Frag) : Sp := fun vs H Q _ => ∃ v d, vs = [v] ∧ Dp K H v d ∧ Q (.bl (isIntD d && !isBoolD d)) H
theorem ok_integer {f : Addr} {fd : FuncData} (F : Fun K "is_integer" "is_integer" s_is_integer f fd) (T : Txt K mg A) : FnOk P w K mg base CX0 1 f fd pm_is_integer (spInteger K) := by
  refine F.ok sc_is_integer (fun vs H Q E h => ?_) (fun cdv A' outer s H vs Q E hr h => ?_)
  · obtain ⟨v, k, rfl, _⟩ := h
    rfl
  · obtain ⟨v, d, rfl, hk, q⟩ := h
    refine ⟨_, pss_one (ps_ret (pe_and (pe_callB call_isi (by rfl) T.n_isinstance (by decide +kernel) (pa_cons (pv 0) (pa_cons (pe_bltn (v := .ty "int") (by rfl) T.n_int (by decide +kernel) rfl) pa_nil))) (pe_one (pe_not (pe_callB call_isi (by rfl) T.n_isinstance (by decide +kernel) (pa_cons (pv 0) (pa_cons (pe_bltn (v := .ty "bool") (by rfl) T.n_bool (by decide +kernel) rfl) pa_nil))))))), ?_⟩
    refine ⟨v, rfl, v, .ty "int", .type (tnD d), .type "int", isIntD d, rfl, .ty _, dp_ty hk, kd_int, _, rfl, ?_⟩
    cases h1 : isIntD d with
    | true =>
      rw [h1] at q
      exact iteT ⟨v, rfl, v, .ty "bool", .type (tnD d), .type "bool", isBoolD d, rfl, .ty _, dp_ty hk, kd_bool, _, rfl, q⟩
    | false =>
      rw [h1] at q
      exact iteF q
def spBetween (K : PySem.W.Frag) : Sp := fun vs H Q _ => ∃ v d a b, vs = [v, .int a, .int b] ∧ Dp K H v d ∧ Q (.bl (betD d a b)) H
theorem ok_between {f : Addr} {fd : FuncData} (F : Fun K "is_between" "is_between" s_is_between f fd) (O_is_integer : Own P w K mg base CX0 "is_integer" 1 pm_is_integer (spInteger K)) : FnOk P w K mg base CX0 2 f fd pm_is_between (spBetween K) := by
  refine F.ok sc_is_between (fun vs H Q E h => ?_) (fun cdv A' outer s H vs Q E hr h => ?_)
  · obtain ⟨v, k, a, b, rfl, _⟩ := h
    rfl
  · obtain ⟨v, d, a, b, rfl, hk, q⟩ := h
    refine ⟨_, pss_one (ps_ret (pe_and (pe_own O_is_integer (hr.mono (by decide)) pass0 (pa_cons (pv 0) pa_nil)) (pe_one (pe_chain op_le op_le (pv 1) (pv 0) (pv 2))))), ?_⟩
    refine ⟨v, rfl, v, d, rfl, hk, _, rfl, ?_⟩
    cases h1 : (isIntD d && !isBoolD d) with
    | true =>
      obtain ⟨n, rfl⟩ := int_yes h1
      obtain rfl := dp_int hk
      refine iteT ⟨_, rfl, _, rfl, _, _, rfl, rfl, _, rfl, ?_⟩
      rw [bet_int] at q
      cases h2 : decide (a ≤ n) with
      | true =>
        rw [h2] at q
        exact iteT ⟨_, rfl, _, _, rfl, rfl, q⟩
      | false =>
        rw [h2] at q
        exact iteF q
    | false =>
      rw [bet_not h1] at q
      exact iteF q
def spIsList (K : PySem.W.Frag) : Sp := fun vs H Q _ => ∃ v t k, vs = [v] ∧ (∀ H', Ext H H' → TyX K H' v t) ∧ PySem.W.kitAny K t [.type "list", .type "tuple"] = some k ∧ ∀ H', Ext H H' → Q (.bl k) H'
theorem ok_isList {f : Addr} {fd : FuncData} (F : Fun K "is_list" "is_list" s_is_list f fd) (T : Txt K mg A) : FnOk P w K mg base CX0 1 f fd pm_is_list (spIsList K) := by
  refine F.ok sc_is_list (fun vs H Q E h => ?_) (fun cdv A' outer s H vs Q E hr h => ?_)
  · obtain ⟨v, t, k, rfl, _⟩ := h
    rfl
  · obtain ⟨v, t, k, rfl, hk, hs, q⟩ := h
    refine ⟨_, pss_one (ps_ret (pe_callB call_isiT (by rfl) T.n_isinstance (by decide +kernel) (pa_cons (pv 0) (pa_cons (pe_tup (pa_cons (pe_bltn (v := .ty "list") (by rfl) T.n_list (by decide +kernel) rfl) (pa_cons (pe_bltn (v := .ty "tuple") (by rfl) T.n_tuple (by decide +kernel) rfl) pa_nil))) pa_nil)))), ?_⟩
    refine ⟨v, rfl, by show 2 ≤ sizeLine; decide, fun p hp => ?_⟩
    exact ⟨v, p, [.ty "list", .ty "tuple"], t, [.type "list", .type "tuple"], k, rfl, upd_same, .cons (.ty _) (.cons (.ty _) .nil), hk _ (Ext.upd hp), hs, q _ (Ext.upd hp)⟩
def spListOf (K : PySem.W.Frag) : Sp := fun vs H Q _ => ∃ v t k a b xs, vs = [v, .int a, .int b] ∧ (∀ H', Ext H H' → TyX K H' v t) ∧ PySem.W.kitAny K t [.type "list", .type "tuple"] = some k ∧ (k = true → ∃ p, v = .ref p ∧ (SqL K H p xs ∨ SqT K H p xs)) ∧
  ∀ H', Ext H H' → Q (.bl (k && (decide (a ≤ (xs.length : Int)) && decide ((xs.length : Int) ≤ b)))) H'
theorem dp_lenD {H : Hp} {xs : List V} {ds : List PyData} {d : PyData} (ha : DpAll K H xs ds) (h : d = .list ds ∨ d = .tuple ds) : lenD d = xs.length := by
  rw [dps_len ha]
  rcases h with rfl | rfl <;> rfl
theorem ok_listOf {f : Addr} {fd : FuncData} (F : Fun K "is_list_of" "is_list_of" s_is_list_of f fd) (T : Txt K mg A) (O_is_list : Own P w K mg base CX0 "is_list" 1 pm_is_list (spIsList K)) : FnOk P w K mg base CX0 2 f fd pm_is_list_of (spListOf K) := by
  refine F.ok sc_is_list_of (fun vs H Q E h => ?_) (fun cdv A' outer s H vs Q E hr h => ?_)
  · obtain ⟨v, t, k, a, b, xs, rfl, _⟩ := h
    rfl
  · obtain ⟨v, t, k, a, b, xs, rfl, hk, hs, hq, q⟩ := h
    refine ⟨_, pss_one (ps_ret (pe_and (pe_own O_is_list (hr.mono (by decide)) pass0 (pa_cons (pv 0) pa_nil)) (pe_one (pe_chain op_le op_le (pv 1) (pe_callB call_len_seq (by rfl) T.n_len (by decide +kernel) (pa_cons (pv 0) pa_nil)) (pv 2))))), ?_⟩
    refine ⟨v, rfl, v, t, k, rfl, hk, hs, fun H1 e1 => ⟨_, rfl, ?_⟩⟩
    have q1 := q H1 e1
    cases k with
    | false => exact iteF q1
    | true =>
      obtain ⟨p, rfl, hx⟩ := hq rfl
      refine iteT ⟨_, rfl, _, rfl, p, xs, rfl, hx.imp (fun h => h.ext e1) (fun h => h.ext e1), _, _, rfl, rfl, _, rfl, ?_⟩
      cases h2 : decide (a ≤ (xs.length : Int)) with
      | true =>
        rw [h2] at q1
        exact iteT ⟨_, rfl, _, _, rfl, rfl, q1⟩
      | false =>
        rw [h2] at q1
        exact iteF q1
/-- from the data -/
theorem listOf_key {H : Hp} {v : V} {d : PyData} (h : Dp K H v d) : ∃ t xs, (∀ H', Ext H H' → TyX K H' v t) ∧ PySem.W.kitAny K t [.type "list", .type "tuple"] = some (isSeqD d) ∧ (isSeqD d = true → ∃ p, v = .ref p ∧ (SqL K H p xs ∨ SqT K H p xs)) ∧
    ∀ a b : Int, (isSeqD d && (decide (a ≤ (xs.length : Int)) && decide ((xs.length : Int) ≤ b))) = (isSeqD d && (decide (a ≤ (lenD d : Int)) && decide ((lenD d : Int) ≤ b))) := by
  cases hs : isSeqD d with
  | false => exact ⟨_, [], fun H' e => dp_ty (dp_ext e _ _ h), by rw [kd_seq, hs], (fun z => nomatch z), fun a b => rfl⟩
  | true =>
    obtain ⟨p, xs, ds, rfl, hx, ha, hd⟩ := dp_seq h hs
    exact ⟨_, xs, fun H' e => dp_ty (dp_ext e _ _ h), by rw [kd_seq, hs], fun _ => ⟨p, rfl, hx⟩, fun a b => by rw [dp_lenD ha hd]⟩
def spTupleOf (K : PySem.W.Frag) : Sp := fun vs H Q _ => ∃ v d a, vs = [v, .int a] ∧ Dp K H v d ∧ Q (.bl (isTupD d && decide ((lenD d : Int) = a))) H
theorem dvi {a b : Int} : decide (V.int a = V.int b) = decide (a = b) := by simp
theorem ok_tupleOf {f : Addr} {fd : FuncData} (F : Fun K "is_tuple_of" "is_tuple_of" s_is_tuple_of f fd) (T : Txt K mg A) : FnOk P w K mg base CX0 1 f fd pm_is_tuple_of (spTupleOf K) := by
  refine F.ok sc_is_tuple_of (fun vs H Q E h => ?_) (fun cdv A' outer s H vs Q E hr h => ?_)
  · obtain ⟨v, d, a, rfl, _⟩ := h
    rfl
  · obtain ⟨v, d, a, rfl, hk, q⟩ := h
    refine ⟨_, pss_one (ps_ret (pe_and (pe_callB call_isi (by rfl) T.n_isinstance (by decide +kernel) (pa_cons (pv 0) (pa_cons (pe_bltn (v := .ty "tuple") (by rfl) T.n_tuple (by decide +kernel) rfl) pa_nil))) (pe_one (pe_cmpR op_eq (pe_callB call_len_seq (by rfl) T.n_len (by decide +kernel) (pa_cons (pv 0) pa_nil)) (pv 1) (nomark _))))), ?_⟩
    refine ⟨v, rfl, v, .ty "tuple", .type (tnD d), .type "tuple", isTupD d, rfl, .ty _, dp_ty hk, kd_tup, _, rfl, ?_⟩
    cases h1 : isTupD d with
    | true =>
      rw [h1] at q
      obtain ⟨p, xs, ds, rfl, hx, ha, hd⟩ := dp_tup hk h1
      rw [dp_lenD ha (.inr hd)] at q
      refine iteT ⟨_, rfl, p, xs, rfl, .inr hx, _, rfl, rfl, ?_⟩
      show Q (.bl (decide (V.int (xs.length : Int) = V.int a))) H
      rw [dvi]
      exact q
    | false =>
      rw [h1] at q
      exact iteF q
/-! what a way is made of -/
def beginD (d : PyData) : Bool := isNoneD d || betD d 0 1000
def spBegin (K : PySem.W.Frag) : Sp := fun vs H Q _ => ∃ v d, vs = [v] ∧ Dp K H v d ∧ Q (.bl (beginD d)) H
theorem ok_begin {f : Addr} {fd : FuncData} (F : Fun K "is_begin" "is_begin" s_is_begin f fd) (T : Txt K mg A) (O_is_between : Own P w K mg base CX0 "is_between" 2 pm_is_between (spBetween K)) : FnOk P w K mg base CX0 3 f fd pm_is_begin (spBegin K) := by
  refine F.ok sc_is_begin (fun vs H Q E h => ?_) (fun cdv A' outer s H vs Q E hr h => ?_)
  · obtain ⟨v, d, rfl, _⟩ := h
    rfl
  · obtain ⟨v, d, rfl, hk, q⟩ := h
    refine ⟨_, pss_one (ps_ret (pe_or (pe_cmpR op_isN (pv 0) (pe_non) (nomark _)) (pe_one (pe_own O_is_between (hr.mono (by decide)) pass0 (pa_cons (pv 0) (pa_cons (pe_int) (pa_cons (pe_gint T.g_MOST_BEGIN) pa_nil))))))), ?_⟩
    cases hk with
    | non => exact ⟨_, rfl, rfl, _, rfl, iteT q⟩
    | bl b => exact ⟨_, rfl, rfl, _, rfl, iteF ⟨_, rfl, _, _, 0, 1000, rfl, .bl b, q⟩⟩
    | int i => exact ⟨_, rfl, rfl, _, rfl, iteF ⟨_, rfl, _, _, 0, 1000, rfl, .int i, q⟩⟩
    | str b => exact ⟨_, rfl, rfl, _, rfl, iteF ⟨_, rfl, _, _, 0, 1000, rfl, .str b, q⟩⟩
    | lst a b => exact ⟨_, rfl, rfl, _, rfl, iteF ⟨_, rfl, _, _, 0, 1000, rfl, .lst a b, q⟩⟩
    | tup a b => exact ⟨_, rfl, rfl, _, rfl, iteF ⟨_, rfl, _, _, 0, 1000, rfl, .tup a b, q⟩⟩
def delaysD : PyData → PyData → Bool
  | .int l, .int m => decide (1 ≤ l) && decide (l ≤ m) && decide (m ≤ 50)
  | _, _ => false
def spDelays (K : PySem.W.Frag) : Sp := fun vs H Q _ => ∃ v u d e, vs = [v, u] ∧ Dp K H v d ∧ Dp K H u e ∧ Q (.bl (delaysD d e)) H
theorem delays_m {d e : PyData} (h : betD e 1 50 = false) : delaysD d e = false := by
  cases e <;> first | (cases d <;> rfl) | skip
  rename_i m
  cases d <;> first | rfl | skip
  rename_i l
  rw [bet_int] at h
  simp only [delaysD]
  simp at h ⊢
  omega
theorem delays_l {d : PyData} {m : Int} (h1 : 1 ≤ m ∧ m ≤ 50) : delaysD d (.int m) = betD d 1 m := by
  cases d <;> first | rfl | skip
  rename_i l
  rw [bet_int]
  simp only [delaysD]
  rw [decide_eq_true h1.2, Bool.and_true]
theorem ok_delays {f : Addr} {fd : FuncData} (F : Fun K "are_delays" "are_delays" s_are_delays f fd) (T : Txt K mg A) (O_is_between : Own P w K mg base CX0 "is_between" 2 pm_is_between (spBetween K)) : FnOk P w K mg base CX0 3 f fd pm_are_delays (spDelays K) := by
  refine F.ok sc_are_delays (fun vs H Q E h => ?_) (fun cdv A' outer s H vs Q E hr h => ?_)
  · obtain ⟨v, u, d, e, rfl, _⟩ := h
    rfl
  · obtain ⟨v, u, d, e, rfl, hk, hu, q⟩ := h
    refine ⟨_, pss_one (ps_ret (pe_and (pe_own O_is_between (hr.mono (by decide)) pass0 (pa_cons (pv 1) (pa_cons (pe_int) (pa_cons (pe_gint T.g_MOST_DELAY) pa_nil)))) (pe_one (pe_own O_is_between (hr.mono (by decide)) pass0 (pa_cons (pv 0) (pa_cons (pe_int) (pa_cons (pv 1) pa_nil))))))), ?_⟩
    refine ⟨u, rfl, u, e, 1, 50, rfl, hu, _, rfl, ?_⟩
    cases h1 : betD e 1 50 with
    | false =>
      rw [delays_m h1] at q
      exact iteF q
    | true =>
      obtain ⟨m, rfl, m1, m2⟩ := bet_yes h1
      obtain rfl := dp_int hu
      rw [delays_l ⟨m1, m2⟩] at q
      exact iteT ⟨v, rfl, _, rfl, v, d, 1, m, rfl, hk, q⟩
end
end K18

set_option Elab.async false
set_option maxRecDepth 100000
set_option maxHeartbeats 4000000
namespace K18
open PySem PySem.Spec PyProof.Rows L2
section
variable {P : Program} {w : World} {K : PySem.W.Frag} {mg : Str → Option Value} {base : Heap} {A : Ad}
def boxD (d : PyData) (l m : Int) : Bool := match d with
  | .tuple [.int n, .int f, .int s, .int g] => decide (0 ≤ n ∧ n ≤ f ∧ f ≤ m ∧ n ≤ l ∧ 1 ≤ s ∧ s ≤ g ∧ g ≤ 10000)
  | _ => false
theorem box_f {a b c d : PyData} {l m : Int} (h : betD b 0 m = false) : boxD (.tuple [a, b, c, d]) l m = false := by
  cases a <;> first | rfl | skip
  cases b <;> first | rfl | skip
  cases c <;> first | rfl | skip
  cases d <;> first | rfl | skip
  rw [bet_int] at h
  simp at h
  simp only [boxD]
  rw [decide_eq_false (by omega)]
theorem box_n {a c d : PyData} {f l m : Int} (h : betD a 0 f = false) : boxD (.tuple [a, .int f, c, d]) l m = false := by
  cases a <;> first | rfl | skip
  cases c <;> first | rfl | skip
  cases d <;> first | rfl | skip
  rw [bet_int] at h
  simp at h
  simp only [boxD]
  rw [decide_eq_false (by omega)]
theorem box_l {c d : PyData} {n f l m : Int} (h : l < n) : boxD (.tuple [.int n, .int f, c, d]) l m = false := by
  cases c <;> first | rfl | skip
  cases d <;> first | rfl | skip
  simp only [boxD]
  rw [decide_eq_false (by omega)]
theorem box_g {c d : PyData} {n f l m : Int} (h : betD d 1 10000 = false) : boxD (.tuple [.int n, .int f, c, d]) l m = false := by
  cases c <;> first | rfl | skip
  cases d <;> first | rfl | skip
  rw [bet_int] at h
  simp at h
  simp only [boxD]
  rw [decide_eq_false (by omega)]
theorem box_s {c : PyData} {n f g l m : Int} (h : 0 ≤ n ∧ n ≤ f ∧ f ≤ m ∧ n ≤ l ∧ g ≤ 10000) : boxD (.tuple [.int n, .int f, c, .int g]) l m = betD c 1 g := by
  cases c <;> first | rfl | skip
  simp only [boxD]
  rw [bet_int, Bool.eq_iff_iff]
  simp
  omega
theorem box_t {d : PyData} {l m : Int} (h : (isTupD d && decide ((lenD d : Int) = 4)) = false) : boxD d l m = false := by
  unfold boxD
  split
  · exact absurd h (by simp [isTupD, lenD])
  · rfl
def spBoxOk (K : PySem.W.Frag) : Sp := fun vs H Q _ => ∃ v d l m, vs = [v, .int l, .int m] ∧ Dp K H v d ∧ Q (.bl (boxD d l m)) H
theorem ok_box {f : Addr} {fd : FuncData} (F : Fun K "is_box" "is_box" s_is_box f fd) (T : Txt K mg A) (O_is_between : Own P w K mg base CX0 "is_between" 2 pm_is_between (spBetween K)) (O_is_tuple_of : Own P w K mg base CX0 "is_tuple_of" 1 pm_is_tuple_of (spTupleOf K)) : FnOk P w K mg base CX0 3 f fd pm_is_box (spBoxOk K) := by
  refine F.ok sc_is_box (fun vs H Q E h => ?_) (fun cdv A' outer s H vs Q E hr h => ?_)
  · obtain ⟨v, d, l, m, rfl, _⟩ := h
    rfl
  · obtain ⟨v, d, l, m, rfl, hk, q⟩ := h
    refine ⟨_, pss_cons (ps_if (pt_not (pt_val (pe_own O_is_tuple_of (hr.mono (by decide)) pass0 (pa_cons (pv 0) (pa_cons (pe_int) pa_nil))))) (pss_one (ps_ret (pe_bl))) (pss_nil))
      (pss_cons (ps_asg (pv 0) (pg_tup rfl (pgs_cons (pg_name (i := 3) sc_is_box.nd rfl (Or.inl rfl)) (pgs_cons (pg_name (i := 4) sc_is_box.nd rfl (Or.inl rfl)) (pgs_cons (pg_name (i := 5) sc_is_box.nd rfl (Or.inl rfl)) (pgs_cons (pg_name (i := 6) sc_is_box.nd rfl (Or.inl rfl)) (pgs_nil)))))))
      (pss_cons (ps_if (PW.pt (pw_or (pt_not (pt_val (pe_own O_is_between (hr.mono (by decide)) pass0 (pa_cons (pv 4) (pa_cons (pe_int) (pa_cons (pv 2) pa_nil)))))) (pw_or (pt_not (pt_val (pe_own O_is_between (hr.mono (by decide)) pass0 (pa_cons (pv 3) (pa_cons (pe_int) (pa_cons (pv 4) pa_nil)))))) (pw_or1 (pt_cmpR op_gt (pv 3) (pv 1) (nomark _)))))) (pss_one (ps_ret (pe_bl))) (pss_nil))
      (pss_one (ps_ret (pe_and (pe_own O_is_between (hr.mono (by decide)) pass0 (pa_cons (pv 6) (pa_cons (pe_int) (pa_cons (pe_gint T.g_MOST_KEEP) pa_nil)))) (pe_one (pe_own O_is_between (hr.mono (by decide)) pass0 (pa_cons (pv 5) (pa_cons (pe_int) (pa_cons (pv 6) pa_nil)))))))))), ?_⟩
    refine ⟨v, rfl, v, d, 4, rfl, hk, _, rfl, ?_⟩
    cases h1 : (isTupD d && decide ((lenD d : Int) = 4)) with
    | false =>
      rw [box_t h1] at q
      exact iteT q
    | true =>
      refine iteF ?_
      rw [Bool.and_eq_true, decide_eq_true_eq] at h1
      obtain ⟨p, xs, ds, rfl, hx, ha, rfl⟩ := dp_tup hk h1.1
      have hl : ds.length = 4 := by
        have z : ((ds.length : Nat) : Int) = 4 := h1.2
        omega
      match ds, hl, ha, q with
      | [da, db, dc, dd], _, ha, q =>
        cases ha with
        | @cons va _ _ _ ha1 ha =>
          cases ha with
          | @cons vb _ _ _ hb1 ha =>
            cases ha with
            | @cons vc _ _ _ hc1 ha =>
              cases ha with
              | @cons vd _ _ _ hd1 ha =>
                cases ha
                refine ⟨_, rfl, p, _, rfl, hx, rfl, ?_⟩
                refine ⟨_, _, rfl, _, _, rfl, _, _, rfl, _, _, rfl, rfl, ?_⟩
                refine ⟨vb, rfl, _, rfl, vb, db, 0, m, rfl, hb1, _, rfl, ?_⟩
                cases h2 : betD db 0 m with
                | false =>
                  rw [box_f h2] at q
                  exact iteT q
                | true =>
                  refine iteF ?_
                  obtain ⟨f, rfl, f0, fm⟩ := bet_yes h2
                  obtain rfl := dp_int hb1
                  refine ⟨va, rfl, _, rfl, va, da, 0, f, rfl, ha1, _, rfl, ?_⟩
                  cases h3 : betD da 0 f with
                  | false =>
                    rw [box_n h3] at q
                    exact iteT q
                  | true =>
                    refine iteF ?_
                    obtain ⟨n, rfl, n0, nf⟩ := bet_yes h3
                    obtain rfl := dp_int ha1
                    refine ⟨_, rfl, _, rfl, _, _, rfl, rfl, _, rfl, ?_⟩
                    by_cases h4 : n > l
                    · rw [decide_eq_true h4]
                      rw [box_l h4] at q
                      exact iteT q
                    · rw [decide_eq_false h4]
                      refine iteF ?_
                      refine ⟨vd, rfl, vd, dd, 1, 10000, rfl, hd1, _, rfl, ?_⟩
                      cases h5 : betD dd 1 10000 with
                      | false =>
                        rw [box_g h5] at q
                        exact iteF q
                      | true =>
                        obtain ⟨g, rfl, g1, g2⟩ := bet_yes h5
                        obtain rfl := dp_int hd1
                        rw [box_s ⟨n0, nf, fm, by omega, g2⟩] at q
                        exact iteT ⟨vc, rfl, _, rfl, vc, dc, 1, g, rfl, hc1, q⟩
/-! ### Way -/
def itemsD : PyData → Option (List PyData) | .list ds => some ds | .tuple ds => some ds | _ => none
/-- what is wrong first: a part's word or a box's place -/
def wayDue (b l m x : PyData) : Option (Str ⊕ Nat) :=
  if beginD b = false then some (.inl "begin") else if delaysD l m = false then some (.inl "delays") else
    if (isSeqD x && (decide ((0 : Int) ≤ (lenD x : Int)) && decide ((lenD x : Int) ≤ 3))) = false then some (.inl "boxes") else
    match l, m, itemsD x with
    | .int l, .int m, some ds => (ds.findIdx? fun d => !boxD d l m).map .inr
    | _, _, _ => none
def wF (b l m x : V) : List (Str × V) := [("begin", b), ("least", l), ("most", m), ("boxes", x)]
/-- a way at p: its begin, delays, and the data of its boxes -/
def WayAt (K : PySem.W.Frag) (A : Ad) (H : Hp) (p : Addr) (b l m : V) (ds : List PyData) : Prop := ∃ dx T xs, H p = some (.ins A.Way dx (wF b l m (.ref T))) ∧ SqT K H T xs ∧ DpAll K H xs ds
def spWayInit (K : PySem.W.Frag) (A : Ad) : Sp := fun vs H Q E => ∃ (p dx : Addr) (vb vl vm vx : V) (b l m x : PyData), vs = [.ref p, vb, vl, vm, vx] ∧ H p = some (.ins A.Way dx []) ∧ Dp K H vb b ∧ Dp K H vl l ∧ Dp K H vm m ∧ Dp K H vx x ∧
  (∀ s, wayDue b l m x = some (.inl s) → ∀ H', Ext H H' → ∀ e, H' e = none → E (.ref A.BadPart) (some e) (upd H' e (.xd [("part", .str s)]))) ∧
  (∀ i, wayDue b l m x = some (.inr i) → ∀ H', Ext H H' → ∀ e, H' e = none → E (.ref A.BadBox) (some e) (upd H' e (.xd [("index", .int (i : Nat))]))) ∧
  (wayDue b l m x = none → ∀ ds H', itemsD x = some ds → (∃ T xs, H' p = some (.ins A.Way dx (wF vb vl vm (.ref T))) ∧ SqT K H' T xs ∧ DpAll K H' xs ds) → (∀ x o, x ≠ p → H x = some o → H' x = some o) → Q .non H')
theorem find_at {ds : List PyData} {f : PyData → Bool} {i : Nat} {d : PyData} (h0 : ∀ (j : Nat) (d : PyData), j < i → ds[j]? = some d → f d = false) (hd : ds[i]? = some d) (h : f d = true) : ds.findIdx? f = some i := by
  induction ds generalizing i with
  | nil => cases hd
  | cons x xs ih =>
    rw [List.findIdx?_cons]
    cases i with
    | zero =>
      cases hd
      rw [h]
      rfl
    | succ i =>
      rw [h0 0 x (Nat.succ_pos _) rfl]
      have z := ih (i := i) (fun j d hj hd => h0 (j + 1) d (Nat.succ_lt_succ hj) hd) hd
      rw [z]
      rfl
theorem find_no {ds : List PyData} {f : PyData → Bool} (h0 : ∀ (j : Nat) (d : PyData), ds[j]? = some d → f d = false) : ds.findIdx? f = none := by
  rw [List.findIdx?_eq_none_iff]
  intro x hx
  obtain ⟨j, hj⟩ := List.mem_iff_getElem?.mp hx
  exact h0 j x hj
theorem delays_yes {d e : PyData} (h : delaysD d e = true) : ∃ l m, d = .int l ∧ e = .int m ∧ 1 ≤ l ∧ l ≤ m ∧ m ≤ 50 := by
  cases d <;> first | cases h | skip
  cases e <;> first | cases h | skip
  simp only [delaysD, Bool.and_eq_true, decide_eq_true_eq] at h
  exact ⟨_, _, rfl, rfl, h.1.1, h.1.2, h.2⟩
section
variable {H H' : Hp} {p a C dx : Addr} {fs : List (Str × V)} {xs : List V}
theorem sqL_mut (hp : H p = some (.ins C dx fs)) (e : ∀ x o, x ≠ p → H x = some o → H' x = some o) (h : SqL K H a xs) : SqL K H' a xs := by
  rcases h with (h | ⟨o, h⟩) | h
  · exact .inl (.inl (e a _ (fun z => by rw [z, hp] at h; cases h) h))
  · exact .inl (.inr ⟨o, e a _ (fun z => by rw [z, hp] at h; cases h) h⟩)
  · exact .inr h
theorem sqT_mut (hp : H p = some (.ins C dx fs)) (e : ∀ x o, x ≠ p → H x = some o → H' x = some o) (h : SqT K H a xs) : SqT K H' a xs := by
  rcases h with (h | ⟨o, h⟩) | h
  · exact .inl (.inl (e a _ (fun z => by rw [z, hp] at h; cases h) h))
  · exact .inl (.inr ⟨o, e a _ (fun z => by rw [z, hp] at h; cases h) h⟩)
  · exact .inr h
mutual
theorem dp_mut (hp : H p = some (.ins C dx fs)) (e : ∀ x o, x ≠ p → H x = some o → H' x = some o) : ∀ (d : PyData) (v : V), Dp K H v d → Dp K H' v d
  | .none, _, h => by cases h; exact .non
  | .bool _, _, h => by cases h; exact .bl _
  | .int _, _, h => by cases h; exact .int _
  | .str _, _, h => by cases h; exact .str _
  | .list ds, _, h => by
    cases h with
    | lst hs ha => exact .lst (sqL_mut hp e hs) (dps_mut hp e ds _ ha)
  | .tuple ds, _, h => by
    cases h with
    | tup hs ha => exact .tup (sqT_mut hp e hs) (dps_mut hp e ds _ ha)
  | .dict _, _, h => by cases h
theorem dps_mut (hp : H p = some (.ins C dx fs)) (e : ∀ x o, x ≠ p → H x = some o → H' x = some o) : ∀ (ds : List PyData) (vs : List V), DpAll K H vs ds → DpAll K H' vs ds
  | [], _, h => by cases h; exact .nil
  | d :: ds, _, h => by
    cases h with
    | cons h1 h2 => exact .cons (dp_mut hp e d _ h1) (dps_mut hp e ds _ h2)
end
end
theorem ok_wayInit {f : Addr} {fd : FuncData} (F : FunD K "__init__" "Way.__init__" (defArgs s_Way_init) (defBody s_Way_init) (defScope s_Way_init) [.ref A.T0] [] f fd) (T : Txt K mg A)
    (O_is_begin : Own P w K mg base CX0 "is_begin" 3 pm_is_begin (spBegin K)) (O_are_delays : Own P w K mg base CX0 "are_delays" 3 pm_are_delays (spDelays K)) (O_is_list_of : Own P w K mg base CX0 "is_list_of" 2 pm_is_list_of (spListOf K))
    (O_is_box : Own P w K mg base CX0 "is_box" 3 pm_is_box (spBoxOk K)) (X_BadPart : XCls P w K mg base "BadPart" "part" A.BadPart) (X_BadBox : XCls P w K mg base "BadBox" "index" A.BadBox) : FnOk P w K mg base (L2.CX P w) 5 f fd pm_Way_init (spWayInit K A) := by
  refine F.ok sc_Way_init (fun vs H Q E h => ?_) (fun cdv A' outer s H vs Q E hr h => ?_)
  · obtain ⟨_, _, _, _, _, _, _, _, _, _, rfl, _⟩ := h
    rfl
  · obtain ⟨p, dx, vb, vl, vm, vx, b, l, m, x, rfl, hp, hb, hl, hm, hx, hEp, hEb, hQ⟩ := h
    refine ⟨_, pss_cons (ps_if (pt_not (pt_val (pe_own O_is_begin (hr.mono (by decide)) pass0 (pa_cons (pv 1) pa_nil)))) (pss_one (ps_raise rfl (takes_of rfl rfl rfl rfl) (pmk_X X_BadPart (hr.mono (by decide)) (pe_str) rfl))) (pss_nil))
      (pss_cons (ps_if (pt_not (pt_val (pe_own O_are_delays (hr.mono (by decide)) pass0 (pa_cons (pv 2) (pa_cons (pv 3) pa_nil))))) (pss_one (ps_raise rfl (takes_of rfl rfl rfl rfl) (pmk_X X_BadPart (hr.mono (by decide)) (pe_str) rfl))) (pss_nil))
      (pss_cons (ps_if (pt_not (pt_val (pe_own O_is_list_of (hr.mono (by decide)) pass0 (pa_cons (pv 4) (pa_cons (pe_int) (pa_cons (pe_gint T.g_MOST_BOXES) pa_nil)))))) (pss_one (ps_raise rfl (takes_of rfl rfl rfl rfl) (pmk_X X_BadPart (hr.mono (by decide)) (pe_str) rfl))) (pss_nil))
      (pss_cons (ps_for (passes_of rfl) rfl (pi_enSq rfl T.n_enumerate (pa_cons (pv 4) pa_nil)) (pg_tup rfl (pgs_cons (pg_name (i := 5) sc_Way_init.nd rfl (Or.inl rfl)) (pgs_cons (pg_name (i := 6) sc_Way_init.nd rfl (Or.inl rfl)) (pgs_nil)))) (pss_one (ps_if (pt_not (pt_val (pe_own O_is_box (hr.mono (by decide)) pass0 (pa_cons (pv 6) (pa_cons (pv 2) (pa_cons (pv 3) pa_nil)))))) (pss_one (ps_raise rfl (takes_of rfl rfl rfl rfl) (pmk_X X_BadBox (hr.mono (by decide)) (pv 5) rfl))) (pss_nil))))
      (pss_cons (ps_fld (pv 0) (pv 1) rfl)
      (pss_cons (ps_fld (pv 0) (pv 2) rfl)
      (pss_cons (ps_fld (pv 0) (pv 3) rfl)
      (pss_one (ps_fld (pv 0) (pe_callTy call_tuple_of (by rfl) T.n_tuple (by decide +kernel) (pa_cons (pv 4) pa_nil)) rfl)))))))), ?_⟩
    refine ⟨vb, rfl, vb, b, rfl, hb, _, rfl, ?_⟩
    cases h1 : beginD b with
    | false => exact iteT (mkX_fin fun e he => hEp _ (by unfold wayDue; rw [if_pos h1]) _ Ext.rfl' e he)
    | true =>
      refine iteF ?_
      refine ⟨vl, rfl, vm, rfl, vl, vm, l, m, rfl, hl, hm, _, rfl, ?_⟩
      cases h2 : delaysD l m with
      | false => exact iteT (mkX_fin fun e he => hEp _ (by unfold wayDue; rw [h1, if_neg (by decide), if_pos h2]) _ Ext.rfl' e he)
      | true =>
        refine iteF ?_
        obtain ⟨li, mi, rfl, rfl, l1, lm, m50⟩ := delays_yes h2
        obtain rfl := dp_int hl
        obtain rfl := dp_int hm
        obtain ⟨tx, ix, k1, k2, k3, k4⟩ := listOf_key hx
        refine ⟨vx, rfl, vx, tx, isSeqD x, 0, 3, ix, rfl, k1, k2, k3, fun H1 e1 => ⟨_, rfl, ?_⟩⟩
        rw [k4]
        cases h3 : (isSeqD x && (decide ((0 : Int) ≤ (lenD x : Int)) && decide ((lenD x : Int) ≤ 3))) with
        | false => exact iteT (mkX_fin fun e he => hEp _ (by unfold wayDue; rw [h1, if_neg (by decide), h2, if_neg (by decide), if_pos h3]) _ e1 e he)
        | true =>
          refine iteF ?_
          have h3' := (Bool.and_eq_true_iff.mp h3).1
          obtain ⟨a, xs, ds, rfl, hsq, ha, hd⟩ := dp_seq (dp_ext e1 _ _ hx) h3'
          have hit : itemsD x = some ds := by rcases hd with rfl | rfl <;> rfl
          have due : wayDue b (.int li) (.int mi) x = (ds.findIdx? fun d => !boxD d li mi).map .inr := by
            unfold wayDue
            rw [h1, if_neg (by decide), h2, if_neg (by decide), h3, if_neg (by decide), hit]
          rw [due] at hEp hEb hQ
          have small : xs.length ≤ 3 := by
            have z := (Bool.and_eq_true_iff.mp (Bool.and_eq_true_iff.mp h3).2).2
            rw [dp_lenD ha hd, decide_eq_true_eq] at z
            omega
          refine ⟨_, rfl, a, rfl, ?_⟩
          refine for_enSq (xs := xs) hsq (fun i σ' H' => Ext H1 H' ∧ (∃ o5 o6, σ' = [some (.ref p), some vb, some (.int li), some (.int mi), some (.ref a), o5, o6]) ∧ ∀ j d, j < i → ds[j]? = some d → boxD d li mi = true)
            ⟨Ext.rfl', ⟨_, _, rfl⟩, fun j d hj _ => absurd hj (Nat.not_lt_zero _)⟩ (fun i σ' H' pv => pv.1) (fun i v σ' H' T' hi pv hT => ?_) (fun σ' H' pv => ?_)
          · obtain ⟨e2, ⟨o5, o6, rfl⟩, hok⟩ := pv
            refine ⟨T', _, rfl, SqT.of upd_same, rfl, ?_⟩
            have e3 := e2.upd' (o := .tup [.int (i : Nat), v]) hT
            obtain ⟨d, hdi, hdv⟩ := dps_get (dps_ext e3 _ _ ha) hi
            refine ⟨_, _, rfl, _, _, rfl, rfl, ?_⟩
            refine ⟨v, rfl, _, rfl, _, rfl, v, d, li, mi, rfl, hdv, _, rfl, ?_⟩
            cases h4 : boxD d li mi with
            | false =>
              refine iteT ⟨_, rfl, mkX_fin fun e he => hEb i ?_ _ (e1.trans e3) e he⟩
              rw [find_at (f := fun d => !boxD d li mi) (fun j d hj hd => by rw [hok j d hj hd]; rfl) hdi (by rw [h4]; rfl)]
              rfl
            | true =>
              refine iteF ⟨e3, ⟨_, _, rfl⟩, fun j d' hj hd' => ?_⟩
              rcases Nat.lt_succ_iff_lt_or_eq.mp hj with hj | rfl
              · exact hok j d' hj hd'
              · rw [hdi] at hd'
                cases hd'
                exact h4
          · obtain ⟨e2, ⟨o5, o6, rfl⟩, hok⟩ := pv
            have hnone : ((ds.findIdx? fun d => !boxD d li mi).map Sum.inr : Option (Str ⊕ Nat)) = none := by
              rw [find_no (f := fun d => !boxD d li mi) fun j d hd => ?_]
              · rfl
              · have hj : j < xs.length := by
                  rw [dps_len ha]
                  exact (List.getElem?_eq_some_iff.mp hd).1
                rw [hok j d hj hd]
                rfl
            have e12 := e1.trans e2
            have hp2 := e12 _ _ hp
            refine ⟨_, rfl, _, rfl, p, A.Way, dx, _, rfl, hp2, T.Way.cl, T.w_begin, (by show 0 < 1000; decide), ?_⟩
            refine ⟨_, rfl, _, rfl, p, A.Way, dx, _, rfl, upd_same, T.Way.cl, T.w_least, (by show 1 < 1000; decide), ?_⟩
            refine ⟨_, rfl, _, rfl, p, A.Way, dx, _, rfl, upd_same, T.Way.cl, T.w_most, (by show 2 < 1000; decide), ?_⟩
            have hm3 : ∀ o y, y ≠ p → H' y = some o → (upd (upd (upd H' p (.ins A.Way dx (putF "begin" vb []))) p (.ins A.Way dx (putF "least" (.int li) (putF "begin" vb [])))) p (.ins A.Way dx (putF "most" (.int mi) (putF "least" (.int li) (putF "begin" vb []))))) y = some o := fun o y hy h => by
              rw [upd_ne hy, upd_ne hy, upd_ne hy]
              exact h
            have hp3 : (upd (upd (upd H' p (.ins A.Way dx (putF "begin" vb []))) p (.ins A.Way dx (putF "least" (.int li) (putF "begin" vb [])))) p (.ins A.Way dx (putF "most" (.int mi) (putF "least" (.int li) (putF "begin" vb []))))) p = some (.ins A.Way dx (putF "most" (.int mi) (putF "least" (.int li) (putF "begin" vb [])))) := upd_same
            have hda : DpAll K H' xs ds := dps_ext e2 _ _ ha
            generalize upd (upd (upd H' p (.ins A.Way dx (putF "begin" vb []))) p (.ins A.Way dx (putF "least" (.int li) (putF "begin" vb [])))) p (.ins A.Way dx (putF "most" (.int mi) (putF "least" (.int li) (putF "begin" vb [])))) = H3 at hm3 hp3 ⊢
            refine ⟨_, rfl, a, xs, rfl, ?_⟩
            rcases hsq with hsq | hsq
            · refine .inl ⟨sqL_mut hp2 (fun y o => hm3 o y) (hsq.ext e2), fun t ht => ⟨_, rfl, p, A.Way, dx, _, rfl, Ext.upd ht _ _ hp3, T.Way.cl, T.w_boxes, (by show 3 < 1000; decide), ?_⟩⟩
              have ntp : t ≠ p := fun z => by rw [z, hp3] at ht; cases ht
              refine hQ hnone ds _ hit ⟨t, xs, upd_same, SqT.of (by rw [upd_ne ntp]; exact upd_same), ?_⟩ fun y o hy h => ?_
              · exact dps_mut hp2 (fun y o hy h => by rw [upd_ne hy]; exact Ext.upd ht _ _ (hm3 o y hy h)) _ _ hda
              · rw [upd_ne hy]
                exact Ext.upd ht _ _ (hm3 o y hy (e12 _ _ h))
            · refine .inr ⟨sqT_mut hp2 (fun y o => hm3 o y) (hsq.ext e2), _, rfl, p, A.Way, dx, _, rfl, hp3, T.Way.cl, T.w_boxes, (by show 3 < 1000; decide), ?_⟩
              refine hQ hnone ds _ hit ⟨a, xs, upd_same, sqT_mut hp2 (fun y o hy h => by rw [upd_ne hy]; exact hm3 o y hy h) (hsq.ext e2), ?_⟩ fun y o hy h => ?_
              · exact dps_mut hp2 (fun y o hy h => by rw [upd_ne hy]; exact hm3 o y hy h) _ _ hda
              · rw [upd_ne hy]
                exact hm3 o y hy (e12 _ _ h)
end
end K18

set_option Elab.async false
namespace K18
/-! runs as the law makes them -/
def rowE (l m a : Int) : List En := (List.range (m + 1 - l).toNat).map fun b : Nat => some (a, l + (b : Int))
def pairs (l m : Int) (n : Nat) : List En := (List.range n).flatMap fun a : Nat => rowE l m (l + (a : Int))
def ents (d : Wd) : List En := none :: (if d.1.isSome = true then pairs d.2.1 d.2.2 (d.2.2 + 1 - d.2.1).toNat else [])
theorem pairs_succ (l m : Int) (n : Nat) : pairs l m (n + 1) = pairs l m n ++ rowE l m (l + (n : Int)) := by
  unfold pairs
  rw [List.range_succ, List.flatMap_append]
  simp
theorem mem_pairs {l m : Int} {n : Nat} {e : En} : e ∈ pairs l m n ↔ ∃ a b : Int, e = some (a, b) ∧ l ≤ a ∧ a < l + (n : Int) ∧ l ≤ b ∧ b ≤ m := by
  unfold pairs rowE
  rw [List.mem_flatMap]
  constructor
  · rintro ⟨a, ha, hb⟩
    obtain ⟨b, hb2, rfl⟩ := List.mem_map.mp hb
    have h1 := List.mem_range.mp ha
    have h2 := List.mem_range.mp hb2
    exact ⟨_, _, rfl, by omega, by omega, by omega, by omega⟩
  · rintro ⟨a, b, rfl, h1, h2, h3, h4⟩
    refine ⟨(a - l).toNat, List.mem_range.mpr (by omega), List.mem_map.mpr ⟨(b - l).toNat, List.mem_range.mpr (by omega), ?_⟩⟩
    rw [Int.toNat_of_nonneg (by omega), Int.toNat_of_nonneg (by omega)]
    congr 2 <;> omega
theorem mem_ents {d : Wd} {e : En} : e ∈ ents d ↔ ∀ a b, e = some (a, b) → d.1.isSome = true ∧ d.2.1 ≤ a ∧ a ≤ d.2.2 ∧ d.2.1 ≤ b ∧ b ≤ d.2.2 := by
  unfold ents
  rw [List.mem_cons]
  constructor
  · rintro (rfl | h) a b he
    · cases he
    · cases hs : d.1.isSome with
      | false => rw [hs, if_neg (by decide)] at h; cases h
      | true =>
        rw [hs, if_pos rfl, mem_pairs] at h
        obtain ⟨a', b', rfl, h1, h2, h3, h4⟩ := h
        cases he
        exact ⟨rfl, by omega, by omega, by omega, by omega⟩
  · intro h
    cases e with
    | none => exact .inl rfl
    | some p =>
      obtain ⟨a, b⟩ := p
      obtain ⟨h0, h1, h2, h3, h4⟩ := h a b rfl
      rw [h0, if_pos rfl, mem_pairs]
      exact .inr ⟨a, b, rfl, by omega, by omega, by omega, by omega⟩
theorem rowE_len (l m a : Int) : (rowE l m a).length = (m + 1 - l).toNat := by unfold rowE; rw [List.length_map, List.length_range]
theorem pairs_len (l m : Int) : ∀ n, (pairs l m n).length = n * (m + 1 - l).toNat
  | 0 => by unfold pairs; simp
  | n + 1 => by rw [pairs_succ, List.length_append, pairs_len l m n, rowE_len, Nat.succ_mul]
theorem ents_len {d : Wd} (h : d.2.2 - d.2.1 ≤ 9) : (ents d).length ≤ 101 := by
  unfold ents
  rw [List.length_cons]
  cases hs : d.1.isSome with
  | false => rw [if_neg (by decide)]; decide
  | true =>
    rw [if_pos rfl, pairs_len]
    have h10 : (d.2.2 + 1 - d.2.1).toNat ≤ 10 := by omega
    have := Nat.mul_le_mul h10 h10
    omega
/-- one way more -/
def more (rs : List (List En)) (d : Wd) : List (List En) := rs.flatMap fun es => (ents d).map fun e => es ++ [e]
def rns (ds : List Wd) : Nat → List (List En)
  | 0 => [[]]
  | j + 1 => match ds[j]? with | some d => more (rns ds j) d | none => rns ds j
theorem more_len {rs : List (List En)} {d : Wd} : (more rs d).length = rs.length * (ents d).length := by
  unfold more
  induction rs with
  | nil => simp
  | cons r rs ih =>
    rw [List.flatMap_cons, List.length_append, ih, List.length_map, List.length_cons, Nat.succ_mul, Nat.add_comm]
theorem ent_snoc {es : List En} {e : En} {i : Nat} : ent (es ++ [e]) i = if i < es.length then ent es i else if i = es.length then e else none := by
  unfold ent
  by_cases h : i < es.length
  · rw [if_pos h, List.getElem?_append_left h]
  · rw [if_neg h, List.getElem?_append_right (by omega)]
    by_cases h2 : i = es.length
    · rw [if_pos h2, h2, Nat.sub_self]
      rfl
    · rw [if_neg h2]
      have : i - es.length ≥ 1 := by omega
      cases hk : i - es.length with
      | zero => omega
      | succ k => rfl
theorem mem_rns {ds : List Wd} : ∀ {j : Nat} {es : List En}, j ≤ ds.length → (es ∈ rns ds j ↔ es.length = j ∧ ∀ i d, i < j → ds[i]? = some d → ent es i ∈ ents d)
  | 0, es, _ => by
    unfold rns
    rw [List.mem_singleton]
    constructor
    · rintro rfl
      exact ⟨rfl, fun i d h => absurd h (Nat.not_lt_zero _)⟩
    · rintro ⟨h, _⟩
      exact List.length_eq_zero_iff.mp h
  | j + 1, es, hj => by
    have hjl : j < ds.length := hj
    obtain ⟨d, hd⟩ : ∃ d, ds[j]? = some d := ⟨_, List.getElem?_eq_getElem hjl⟩
    have e : rns ds (j + 1) = more (rns ds j) d := by
      show (match ds[j]? with | some d => more (rns ds j) d | none => rns ds j) = _
      rw [hd]
    rw [e]
    unfold more
    rw [List.mem_flatMap]
    constructor
    · rintro ⟨es', h1, h2⟩
      obtain ⟨x, hx, rfl⟩ := List.mem_map.mp h2
      obtain ⟨l1, l2⟩ := (mem_rns (Nat.le_of_lt hjl)).mp h1
      refine ⟨by rw [List.length_append, l1]; rfl, fun i d' hi hd' => ?_⟩
      rw [ent_snoc, l1]
      by_cases q : i < j
      · rw [if_pos q]
        exact l2 i d' q hd'
      · have : i = j := by omega
        subst this
        rw [if_neg q, if_pos rfl]
        rw [hd] at hd'
        cases hd'
        exact hx
    · rintro ⟨l1, l2⟩
      have hne : es ≠ [] := fun z => by rw [z] at l1; cases l1
      have hs := List.dropLast_concat_getLast hne
      have hl : es.dropLast.length = j := by rw [List.length_dropLast, l1]; rfl
      refine ⟨es.dropLast, (mem_rns (Nat.le_of_lt hjl)).mpr ⟨hl, fun i d' hi hd' => ?_⟩, List.mem_map.mpr ⟨es.getLast hne, ?_, hs⟩⟩
      · have := l2 i d' (by omega) hd'
        rw [← hs, ent_snoc, if_pos (by omega)] at this
        exact this
      · have := l2 j d (by omega) hd
        rw [← hs, ent_snoc, if_neg (by omega), if_pos (by omega)] at this
        exact this
theorem run_rns {ds : List Wd} {es : List En} : es ∈ rns ds ds.length ↔ Run ds es := by
  rw [mem_rns (Nat.le_refl _)]
  constructor
  · rintro ⟨h1, h2⟩
    refine ⟨h1, fun j a b he => ?_⟩
    have hj : j < ds.length := by
      by_cases q : j < ds.length
      · exact q
      · rw [ent_none (by omega)] at he
        cases he
    obtain ⟨d, hd⟩ : ∃ d, ds[j]? = some d := ⟨_, List.getElem?_eq_getElem hj⟩
    have := mem_ents.mp (h2 j d hj hd) a b he
    unfold has ls ms
    rw [hd]
    exact this
  · rintro ⟨h1, h2⟩
    refine ⟨h1, fun i d hi hd => mem_ents.mpr fun a b he => ?_⟩
    have := h2 i a b he
    unfold has ls ms at this
    rw [hd] at this
    exact this
def lim (z : Int) (ds : List Wd) : List (List En) := (rns ds ds.length).filter fun es => decide ((qn ds es : Int) ≤ z)
def outs (z : Int) (ds : List Wd) : List (Option (Nat × Int)) := (lim z ds).map (out ds)
theorem mem_lim {z : Int} {ds : List Wd} {es : List En} : es ∈ lim z ds ↔ Run ds es ∧ (qn ds es : Int) ≤ z := by
  unfold lim
  rw [List.mem_filter, run_rns, decide_eq_true_eq]
theorem mem_outs {z t : Int} {ds : List Wd} {w : Nat} (hf : Fit ds) : some (w, t) ∈ outs z ds ↔ can ds z w t = true := by
  unfold outs
  rw [List.mem_map]
  constructor
  · rintro ⟨es, h1, h2⟩
    obtain ⟨h3, h4⟩ := mem_lim.mp h1
    exact can_of_run h3 h4 h2
  · intro h
    obtain ⟨h1, h2, h3⟩ := run_of_can hf h
    exact ⟨_, mem_lim.mpr ⟨h1, h2⟩, h3⟩
theorem none_outs {z : Int} {ds : List Wd} : none ∈ outs z ds ↔ ((plan ds).length : Int) ≤ z := by
  unfold outs
  rw [List.mem_map]
  constructor
  · rintro ⟨es, h1, h2⟩
    obtain ⟨h3, h4⟩ := mem_lim.mp h1
    rw [none_of_run h3 h2] at h4
    exact h4
  · intro h
    obtain ⟨h1, h2, h3⟩ := still_run (ds := ds)
    exact ⟨_, mem_lim.mpr ⟨h1, by rw [h2]; exact h⟩, h3⟩
/-- the moments at which w answers first -/
def mom1 (w : Nat) (acc : List Int) (o : Option (Nat × Int)) : List Int := match o with
  | some (k, m) => if k = w ∧ m ∉ acc then acc ++ [m] else acc
  | none => acc
def momL (w : Nat) (os : List (Option (Nat × Int))) : List Int := os.foldl (mom1 w) []
theorem momL_snoc {w : Nat} {os : List (Option (Nat × Int))} {o : Option (Nat × Int)} : momL w (os ++ [o]) = mom1 w (momL w os) o := by
  unfold momL
  rw [List.foldl_append]
  rfl
theorem mom1_facts {w : Nat} {acc : List Int} {o : Option (Nat × Int)} (hn : acc.Nodup) : (mom1 w acc o).Nodup ∧ ∀ x, x ∈ mom1 w acc o ↔ x ∈ acc ∨ o = some (w, x) := by
  unfold mom1
  cases o with
  | none => exact ⟨hn, fun x => by simp⟩
  | some p =>
    obtain ⟨k, m⟩ := p
    dsimp only
    by_cases h : k = w ∧ m ∉ acc
    · rw [if_pos h]
      refine ⟨?_, fun x => ?_⟩
      · rw [List.nodup_append]
        refine ⟨hn, by simp, fun a ha b hb => ?_⟩
        rw [List.mem_singleton.mp hb]
        rintro rfl
        exact h.2 ha
      · rw [List.mem_append, List.mem_singleton, h.1]
        simp [eq_comm]
    · rw [if_neg h]
      refine ⟨hn, fun x => ⟨.inl, ?_⟩⟩
      rintro (h1 | h1)
      · exact h1
      · obtain ⟨h2, h3⟩ : k = w ∧ m = x := by cases h1; exact ⟨rfl, rfl⟩
        by_cases q : x ∈ acc
        · exact q
        · exact absurd ⟨h2, by rw [h3]; exact q⟩ h
theorem fold_facts {w : Nat} : ∀ {os : List (Option (Nat × Int))} {acc : List Int}, acc.Nodup → (os.foldl (mom1 w) acc).Nodup ∧ ∀ x, x ∈ os.foldl (mom1 w) acc ↔ x ∈ acc ∨ some (w, x) ∈ os
  | [], acc, h => ⟨h, fun x => by simp⟩
  | o :: os, acc, h => by
    obtain ⟨h1, h2⟩ := mom1_facts (w := w) (o := o) h
    obtain ⟨h3, h4⟩ := fold_facts (os := os) h1
    refine ⟨h3, fun x => ?_⟩
    rw [List.foldl_cons, h4, h2, List.mem_cons]
    constructor
    · rintro ((h | h) | h)
      · exact .inl h
      · exact .inr (.inl h.symm)
      · exact .inr (.inr h)
    · rintro (h | h | h)
      · exact .inl (.inl h)
      · exact .inl (.inr h.symm)
      · exact .inr h
theorem momL_facts {w : Nat} {os : List (Option (Nat × Int))} : (momL w os).Nodup ∧ ∀ x, x ∈ momL w os ↔ some (w, x) ∈ os := by
  obtain ⟨h1, h2⟩ := fold_facts (w := w) (os := os) (acc := []) List.nodup_nil
  exact ⟨h1, fun x => by rw [show momL w os = os.foldl (mom1 w) [] from rfl, h2]; simp⟩
theorem momL_len {w : Nat} : ∀ {os : List (Option (Nat × Int))}, (momL w os).length ≤ os.length := by
  intro os
  have key : ∀ (os : List (Option (Nat × Int))) (acc : List Int), (os.foldl (mom1 w) acc).length ≤ acc.length + os.length := by
    intro os
    induction os with
    | nil => intro acc; exact Nat.le_refl _
    | cons o os ih =>
      intro acc
      have h := ih (mom1 w acc o)
      have h2 : (mom1 w acc o).length ≤ acc.length + 1 := by
        unfold mom1
        cases o with
        | none => exact Nat.le_succ _
        | some p =>
          obtain ⟨k, m⟩ := p
          dsimp only
          split
          · rw [List.length_append]; exact Nat.le_refl _
          · exact Nat.le_succ _
      rw [List.foldl_cons, List.length_cons]
      omega
  have := key os []
  rw [List.length_nil, Nat.zero_add] at this
  exact this
/-- two lists of the same things, each thing once, in order -/
theorem same_of {l m : List Int} (hl : l.Nodup) (hm : m.Nodup) (h : ∀ x, x ∈ l ↔ x ∈ m) (sl : l.Pairwise (· ≤ ·)) (sm : m.Pairwise (· ≤ ·)) : l = m :=
  ((List.perm_ext_iff_of_nodup hl hm).mpr h).eq_of_pairwise (fun _ _ _ _ h1 h2 => Int.le_antisymm h1 h2) sl sm
theorem cans_range {ds : List Wd} {z : Int} {w : Nat} {l : List Int} (hn : l.Nodup) (hs : l.Pairwise (· ≤ ·)) (hm : ∀ x, x ∈ l ↔ can ds z w x = true) {last : Int} (hl : l.getLast? = some last) : l = (List.range (last + 1 - opn ds w).toNat).map fun m : Nat => opn ds w + (m : Int) := by
  have hlast : can ds z w last = true := (hm _).mp (List.mem_of_getLast? hl)
  have hle : ∀ x ∈ l, x ≤ last := fun x hx => by
    obtain ⟨ys, rfl⟩ := List.getLast?_eq_some_iff.mp hl
    rcases List.mem_append.mp hx with h | h
    · exact (List.pairwise_append.mp hs).2.2 x h last (by simp)
    · rw [List.mem_singleton.mp h]
      exact Int.le_refl _
  refine same_of hn ?_ (fun x => ?_) hs ?_
  · rw [List.nodup_iff_pairwise_ne, List.pairwise_map]
    exact List.nodup_range.imp fun h e => h (by omega)
  · rw [List.mem_map]
    constructor
    · intro hx
      have h1 := hle x hx
      have h2 := (can_iff.mp ((hm x).mp hx)).2.1.1
      exact ⟨(x - opn ds w).toNat, List.mem_range.mpr (by omega), by omega⟩
    · rintro ⟨m, h1, rfl⟩
      have := List.mem_range.mp h1
      exact (hm _).mpr (can_mono hlast (by omega) (by omega))
  · rw [List.pairwise_map]
    exact List.pairwise_lt_range.imp fun h => by omega
end K18

set_option Elab.async false
set_option linter.unusedSectionVars false
namespace K18
/-! who is silent behind an outcome; outcomes; milder races: plain mathematics -/
variable {ds : List Wd} {es : List En} {w : Nat} {t z : Int}
theorem early_shut (hr : Run ds es) (ho : out ds es = some (w, t)) {j : Nat} (he : early ds w t j = true) : shut ds es j = true := by
  have sp := outN_spec (ds := ds) (es := es) ds.length
  have ho' : outN ds es ds.length = some (w, t) := ho
  rw [ho'] at sp
  obtain ⟨h1, ⟨a, b, h2, rfl⟩, h3⟩ := sp
  obtain ⟨e1, e2, e3⟩ := early_iff.mp he
  unfold shut
  rw [e1, Bool.true_and]
  cases hE : ent es j with
  | none => rfl
  | some p =>
    obtain ⟨a', b'⟩ := p
    exfalso
    obtain ⟨_, q2, q3, q4, q5⟩ := hr.2 j a' b' hE
    have f : fin ds j = bg ds j + 2 * ms ds j := rfl
    rcases h3 j a' b' (has_lt e1) hE with h | ⟨h, h'⟩
    · rcases e3 with e | ⟨e, _⟩ <;> omega
    · rcases e3 with e | ⟨e, e'⟩ <;> omega
theorem shut_run {k : Nat} (hk : k < ds.length) : shut ds (run ds w t) k = early ds w t k := by
  unfold shut
  rw [ent_run hk]
  by_cases e : k = w
  · rw [if_pos e]
    have h0 : early ds w t k = false := by
      cases h : early ds w t k with
      | false => rfl
      | true => exact absurd e (early_iff.mp h).2.1
    rw [h0]
    by_cases e2 : t - bg ds w - ls ds w ≤ ms ds w
    · rw [if_pos e2]
      exact Bool.and_false _
    · rw [if_neg e2]
      exact Bool.and_false _
  · rw [if_neg e]
    cases h : early ds w t k with
    | true =>
      rw [if_pos rfl, (early_iff.mp h).1]
      rfl
    | false =>
      rw [if_neg (by decide)]
      cases h2 : has ds k with
      | true => rw [if_pos rfl]; rfl
      | false => rfl
theorem out_of (hw : w < ds.length) (h1 : ∃ a b, ent es w = some (a, b) ∧ t = bg ds w + a + b) (h2 : ∀ j a b, j < ds.length → ent es j = some (a, b) → t < bg ds j + a + b ∨ (t = bg ds j + a + b ∧ w ≤ j)) : out ds es = some (w, t) := by
  obtain ⟨a, b, e1, e2⟩ := h1
  have sp := outN_spec (ds := ds) (es := es) ds.length
  unfold out
  cases ho : outN ds es ds.length with
  | none =>
    rw [ho] at sp
    rw [sp w hw] at e1
    cases e1
  | some r =>
    obtain ⟨w', t'⟩ := r
    rw [ho] at sp
    obtain ⟨s1, ⟨a', b', s2, s2'⟩, s3⟩ := sp
    have q1 := h2 w' a' b' s1 s2
    have q2 := s3 w a b hw e1
    have ht : t = t' := by omega
    have hww : w = w' := by omega
    rw [ht, hww]
theorem shut_w (ho : out ds es = some (w, t)) : shut ds es w = false := by
  have sp := outN_spec (ds := ds) (es := es) ds.length
  have ho' : outN ds es ds.length = some (w, t) := ho
  rw [ho'] at sp
  obtain ⟨_, ⟨a, b, h2, _⟩, _⟩ := sp
  unfold shut
  rw [h2]
  exact Bool.and_false _
theorem filter_same {α : Type} : ∀ {l : List α} {p q : α → Bool}, (∀ x ∈ l, p x = true → q x = true) → (l.filter q).length ≤ (l.filter p).length → ∀ x ∈ l, q x = p x
  | [], _, _, _, _, _, hx => nomatch hx
  | y :: l, p, q, h, hl, x, hx => by
    have hm := filter_mono (l := l) fun x hx => h x (List.mem_cons_of_mem _ hx)
    rw [List.filter_cons, List.filter_cons] at hl
    have hy := h y List.mem_cons_self
    cases hp : p y with
    | true =>
      rw [hp, hy hp, if_pos rfl, if_pos rfl] at hl
      rcases List.mem_cons.mp hx with rfl | hx
      · rw [hp, hy hp]
      · exact filter_same (fun x hx => h x (List.mem_cons_of_mem _ hx)) (Nat.le_of_succ_le_succ hl) x hx
    | false =>
      cases hq : q y with
      | true =>
        rw [hp, hq, if_pos rfl, if_neg (by decide)] at hl
        have hl' : (l.filter q).length + 1 ≤ (l.filter p).length := hl
        omega
      | false =>
        rw [hp, hq, if_neg (by decide), if_neg (by decide)] at hl
        rcases List.mem_cons.mp hx with rfl | hx
        · rw [hp, hq]
        · exact filter_same (fun x hx => h x (List.mem_cons_of_mem _ hx)) hl x hx
/-- the run that leaves k silent, too -/
theorem run_less (hf : Fit ds) (hc : can ds z w t = true) (hlt : ((hurs ds w t).length : Int) < z) {k : Nat} (hk : has ds k = true) (hkw : k ≠ w) : ∃ es, es ∈ lim z ds ∧ out ds es = some (w, t) ∧ shut ds es k = true := by
  obtain ⟨r1, r2, r3⟩ := run_of_can hf hc
  have hkl := has_lt hk
  have len : (run ds w t).length = ds.length := r1.1
  have he : ∀ j, ent ((run ds w t).set k none) j = if j = k then none else ent (run ds w t) j := fun j => by
    unfold ent
    by_cases e : j = k
    · subst e
      rw [if_pos rfl, List.getElem?_set_self (by omega)]
      rfl
    · rw [if_neg e, List.getElem?_set_ne (fun z => e z.symm)]
  have sp := outN_spec (ds := ds) (es := run ds w t) ds.length
  have ho' : outN ds (run ds w t) ds.length = some (w, t) := r3
  rw [ho'] at sp
  obtain ⟨s1, ⟨a, b, s2, s2'⟩, s3⟩ := sp
  refine ⟨(run ds w t).set k none, mem_lim.mpr ⟨⟨by rw [List.length_set]; exact len, fun j a b h => ?_⟩, ?_⟩, out_of s1 ⟨a, b, by rw [he, if_neg (fun z => hkw z.symm)]; exact s2, s2'⟩ fun j a b hj h => ?_, ?_⟩
  · rw [he] at h
    by_cases e : j = k
    · rw [if_pos e] at h
      cases h
    · rw [if_neg e] at h
      exact r1.2 j a b h
  · have h1 : qn ds ((run ds w t).set k none) ≤ (hurs ds w t).length + 1 := by
      unfold qn hurs
      have key : ∀ l : List Nat, l.Nodup → (∀ j ∈ l, j < ds.length) → (l.filter (shut ds ((run ds w t).set k none))).length ≤ (l.filter (early ds w t)).length + (if k ∈ l then 1 else 0) := by
        intro l
        induction l with
        | nil => intro _ _; exact Nat.zero_le _
        | cons x l ih =>
          intro hd hl
          have hd' := List.nodup_cons.mp hd
          have ih' := ih hd'.2 fun j hj => hl j (List.mem_cons_of_mem _ hj)
          rw [List.filter_cons, List.filter_cons]
          by_cases e : x = k
          · subst e
            rw [if_neg hd'.1] at ih'
            rw [if_pos List.mem_cons_self]
            have h1 : (if shut ds ((run ds w t).set x none) x = true then x :: List.filter (shut ds ((run ds w t).set x none)) l else List.filter (shut ds ((run ds w t).set x none)) l).length ≤ (List.filter (shut ds ((run ds w t).set x none)) l).length + 1 := by
              split
              · exact Nat.le_refl _
              · exact Nat.le_succ _
            have h2 : (List.filter (early ds w t) l).length ≤ (if early ds w t x = true then x :: List.filter (early ds w t) l else List.filter (early ds w t) l).length := by
              split
              · exact Nat.le_succ _
              · exact Nat.le_refl _
            omega
          · have hs : shut ds ((run ds w t).set k none) x = early ds w t x := by
              rw [← shut_run (w := w) (t := t) (hl x List.mem_cons_self)]
              unfold shut
              rw [he, if_neg e]
            have hm : (if k ∈ x :: l then 1 else 0) = if k ∈ l then 1 else 0 := by
              by_cases h : k ∈ l
              · rw [if_pos h, if_pos (List.mem_cons_of_mem _ h)]
              · rw [if_neg h, if_neg (fun z => (List.mem_cons.mp z).elim (fun q => e q.symm) h)]
            rw [hs, hm]
            split
            · show List.length _ + 1 ≤ List.length _ + 1 + _
              omega
            · exact ih'
      have := key (List.range ds.length) List.nodup_range fun j hj => List.mem_range.mp hj
      rw [if_pos (List.mem_range.mpr hkl)] at this
      exact this
    omega
  · rw [he] at h
    by_cases e : j = k
    · rw [if_pos e] at h
      cases h
    · rw [if_neg e] at h
      exact s3 j a b hj h
  · unfold shut
    rw [he, if_pos rfl, hk]
    rfl
/-- the runs with one outcome -/
def rowsO (ds : List Wd) (z : Int) (w : Nat) (t : Int) : List (List En) := (lim z ds).filter fun es => decide (out ds es = some (w, t))
theorem rows_ne (hf : Fit ds) : rowsO ds z w t ≠ [] ↔ can ds z w t = true := by
  constructor
  · intro h
    cases hr : rowsO ds z w t with
    | nil => exact absurd hr h
    | cons es l =>
      have hm : es ∈ rowsO ds z w t := by rw [hr]; exact List.mem_cons_self
      obtain ⟨h1, h2⟩ := List.mem_filter.mp hm
      obtain ⟨h3, h4⟩ := mem_lim.mp h1
      exact can_of_run h3 h4 (of_decide_eq_true h2)
  · intro h he
    obtain ⟨r1, r2, r3⟩ := run_of_can hf h
    have hm : run ds w t ∈ rowsO ds z w t := List.mem_filter.mpr ⟨mem_lim.mpr ⟨r1, r2⟩, decide_eq_true r3⟩
    rw [he] at hm
    cases hm
def lot (ds : List Wd) (es : List En) : List Nat := (List.range ds.length).filter (shut ds es)
def sureL (ds : List Wd) (rs : List (List En)) : List Nat := (List.range ds.length).filter fun k => decide ((rs.filter fun es => decide (k ∉ lot ds es)) = [])
def someL (ds : List Wd) (rs : List (List En)) : List Nat := (List.range ds.length).filter fun k => decide ((rs.filter fun es => decide (k ∈ lot ds es)) ≠ [])
def after (ds : List Wd) (z : Int) (w : Nat) (t : Int) : List Nat := if ((hurs ds w t).length : Int) = z then hurs ds w t else (plan ds).filter fun j => decide (j ≠ w)
theorem mem_lot {k : Nat} (hk : k < ds.length) : k ∈ lot ds es ↔ shut ds es k = true := by
  unfold lot
  rw [List.mem_filter, List.mem_range]
  exact ⟨fun h => h.2, fun h => ⟨hk, h⟩⟩
theorem sure_is (hf : Fit ds) (hc : can ds z w t = true) : sureL ds (rowsO ds z w t) = hurs ds w t := by
  unfold sureL hurs
  refine List.filter_congr fun k hk => ?_
  have hkl := List.mem_range.mp hk
  rw [Bool.eq_iff_iff, decide_eq_true_eq, List.filter_eq_nil_iff]
  constructor
  · intro h
    obtain ⟨r1, r2, r3⟩ := run_of_can hf hc
    have hm : run ds w t ∈ rowsO ds z w t := List.mem_filter.mpr ⟨mem_lim.mpr ⟨r1, r2⟩, decide_eq_true r3⟩
    have q := h _ hm
    rw [decide_eq_true_eq, Decidable.not_not, mem_lot hkl, shut_run hkl] at q
    exact q
  · intro h es hes
    obtain ⟨h1, h2⟩ := List.mem_filter.mp hes
    rw [decide_eq_true_eq, Decidable.not_not, mem_lot hkl]
    exact early_shut (mem_lim.mp h1).1 (of_decide_eq_true h2) h
theorem some_is (hf : Fit ds) (hc : can ds z w t = true) : someL ds (rowsO ds z w t) = after ds z w t := by
  have hle := (can_iff.mp hc).2.2
  have mem : ∀ k, k < ds.length → (decide ((rowsO ds z w t).filter (fun es => decide (k ∈ lot ds es)) ≠ []) = true ↔ ∃ es, es ∈ lim z ds ∧ out ds es = some (w, t) ∧ shut ds es k = true) := fun k hk => by
    rw [decide_eq_true_eq]
    constructor
    · intro h
      cases hr : (rowsO ds z w t).filter (fun es => decide (k ∈ lot ds es)) with
      | nil => exact absurd hr h
      | cons es l =>
        have hm : es ∈ (rowsO ds z w t).filter (fun es => decide (k ∈ lot ds es)) := by rw [hr]; exact List.mem_cons_self
        obtain ⟨h1, h2⟩ := List.mem_filter.mp hm
        obtain ⟨h3, h4⟩ := List.mem_filter.mp h1
        exact ⟨es, h3, of_decide_eq_true h4, (mem_lot hk).mp (of_decide_eq_true h2)⟩
    · rintro ⟨es, h1, h2, h3⟩ he
      have hm : es ∈ (rowsO ds z w t).filter (fun es => decide (k ∈ lot ds es)) := List.mem_filter.mpr ⟨List.mem_filter.mpr ⟨h1, decide_eq_true h2⟩, decide_eq_true ((mem_lot hk).mpr h3)⟩
      rw [he] at hm
      cases hm
  unfold someL after
  by_cases hz : ((hurs ds w t).length : Int) = z
  · rw [if_pos hz]
    unfold hurs
    refine List.filter_congr fun k hk => ?_
    have hkl := List.mem_range.mp hk
    rw [Bool.eq_iff_iff, mem k hkl]
    constructor
    · rintro ⟨es, h1, h2, h3⟩
      obtain ⟨h4, h5⟩ := mem_lim.mp h1
      have hq : ((List.range ds.length).filter (shut ds es)).length ≤ ((List.range ds.length).filter (early ds w t)).length := by
        have : (qn ds es : Int) ≤ ((hurs ds w t).length : Int) := by omega
        exact Int.ofNat_le.mp this
      rw [← filter_same (fun x _ hx => early_shut h4 h2 hx) hq k hk]
      exact h3
    · intro he
      obtain ⟨r1, r2, r3⟩ := run_of_can hf hc
      exact ⟨_, mem_lim.mpr ⟨r1, r2⟩, r3, by rw [shut_run hkl]; exact he⟩
  · rw [if_neg hz]
    unfold plan
    rw [List.filter_filter]
    refine List.filter_congr fun k hk => ?_
    have hkl := List.mem_range.mp hk
    rw [Bool.eq_iff_iff, mem k hkl, Bool.and_eq_true, decide_eq_true_eq]
    constructor
    · rintro ⟨es, h1, h2, h3⟩
      refine ⟨fun e => ?_, ?_⟩
      · subst e
        rw [shut_w h2] at h3
        cases h3
      · unfold shut at h3
        rw [Bool.and_eq_true] at h3
        exact h3.1
    · rintro ⟨h1, h2⟩
      exact run_less hf hc (by omega) h2 h1
/-! milder races -/
theorem late_mono {ds' : List Wd} {E E' : List Int} {n n' : Nat} {L' : Int} (hp : E.Perm (ends ds)) (hs : E.Pairwise (· ≤ ·)) (hp' : E'.Perm (ends ds')) (hs' : E'.Pairwise (· ≤ ·)) (hl : ds'.length = ds.length) (hn : n ≤ n')
    (h : ∀ j, has ds' j = true → has ds j = true ∧ fin ds j ≤ fin ds' j) (hL : E'[n']? = some L') : ∃ L, E[n]? = some L ∧ L ≤ L' := by
  have k1 := count_le hs' hL
  rw [perm_count hp', ends_count, hl] at k1
  have k2 : ((List.range ds.length).filter fun j => has ds' j && decide (fin ds' j ≤ L')).length ≤ ((List.range ds.length).filter fun j => has ds j && decide (fin ds j ≤ L')).length := filter_mono fun j _ hj => by
    rw [Bool.and_eq_true, decide_eq_true_eq] at hj ⊢
    obtain ⟨h1, h2⟩ := h j hj.1
    exact ⟨h1, by omega⟩
  rw [← ends_count (ds := ds) (fun x => decide (x ≤ L')), ← perm_count hp] at k2
  have k3 := List.length_filter_le (fun x => decide (x ≤ L')) E
  have hlt : n < E.length := by omega
  refine ⟨E[n], List.getElem?_eq_getElem hlt, ?_⟩
  by_cases q : E[n] ≤ L'
  · exact q
  · have k4 := count_lt hs (List.getElem?_eq_getElem hlt)
    have k5 : (E.filter fun x => decide (x ≤ L')).length ≤ (E.filter fun x => decide (x < E[n])).length := filter_mono fun x _ hx => by
      rw [decide_eq_true_eq] at hx ⊢
      omega
    omega
/-! outcomes -/
abbrev Wn := Nat × Int × Int
def hit (m : Int) (q : Wn) : Bool := decide (q.2.1 ≤ m) && decide (m ≤ q.2.2)
def ocN (W : List Wn) (lo : Int) (n : Nat) : List (Int × Nat) := (List.range n).flatMap fun i : Nat => (W.filter (hit (lo + (i : Int)))).map fun q => (lo + (i : Int), q.1)
theorem ocN_succ (W : List Wn) (lo : Int) (n : Nat) : ocN W lo (n + 1) = ocN W lo n ++ (W.filter (hit (lo + (n : Int)))).map fun q => (lo + (n : Int), q.1) := by
  unfold ocN
  rw [List.range_succ, List.flatMap_append]
  simp
def loW (W : List Wn) : Int := L2.mnD 0 (W.map fun q => q.2.1)
def hiW (W : List Wn) : Int := L2.mxD (-1) (W.map fun q => q.2.2)
def ocs (W : List Wn) : List (Int × Nat) := ocN W (loW W) (hiW W + 1 - loW W).toNat
theorem mem_ocs {W : List Wn} {m : Int} {w : Nat} : (m, w) ∈ ocs W ↔ ∃ q ∈ W, q.1 = w ∧ q.2.1 ≤ m ∧ m ≤ q.2.2 := by
  unfold ocs ocN
  rw [List.mem_flatMap]
  constructor
  · rintro ⟨i, hi, h⟩
    obtain ⟨q, hq, e⟩ := List.mem_map.mp h
    obtain ⟨h1, h2⟩ := List.mem_filter.mp hq
    unfold hit at h2
    rw [Bool.and_eq_true, decide_eq_true_eq, decide_eq_true_eq] at h2
    injection e with e1 e2
    subst e1 e2
    exact ⟨q, h1, rfl, h2⟩
  · rintro ⟨q, hq, rfl, h1, h2⟩
    have hne : W ≠ [] := fun z => by rw [z] at hq; cases hq
    have a := (L2.mnD_mem (d := 0) (ns := W.map fun q => q.2.1) (fun z => hne (List.map_eq_nil_iff.mp z))).2 _ (List.mem_map.mpr ⟨q, hq, rfl⟩)
    have b := (L2.mxD_mem (d := -1) (ns := W.map fun q => q.2.2) (fun z => hne (List.map_eq_nil_iff.mp z))).2 _ (List.mem_map.mpr ⟨q, hq, rfl⟩)
    have a' : loW W ≤ q.2.1 := a
    have b' : q.2.2 ≤ hiW W := b
    have e : loW W + (((m - loW W).toNat : Nat) : Int) = m := by omega
    refine ⟨(m - loW W).toNat, List.mem_range.mpr (by omega), List.mem_map.mpr ⟨q, List.mem_filter.mpr ⟨hq, ?_⟩, by rw [e]⟩⟩
    rw [e]
    unfold hit
    rw [decide_eq_true h1, decide_eq_true h2]
    rfl
end K18

set_option Elab.async false
namespace K18
/-! how many runs -/
def qp (ds : List Wd) (es : List En) (i : Nat) : Nat := ((List.range i).filter (shut ds es)).length
def cnt (p : List En → Bool) (l : List (List En)) : Nat := (l.filter p).length
theorem shut_snoc {ds : List Wd} {es : List En} {e : En} {j : Nat} : shut ds (es ++ [e]) j = (has ds j && (if j < es.length then ent es j else if j = es.length then e else none).isNone) := by
  unfold shut
  rw [ent_snoc]
theorem qp_snoc {ds : List Wd} {es : List En} {e : En} : qp ds (es ++ [e]) (es.length + 1) = qp ds es es.length + (if has ds es.length = true ∧ e = none then 1 else 0) := by
  unfold qp
  rw [List.range_succ, List.filter_append, List.length_append]
  congr 1
  · congr 1
    refine List.filter_congr fun j hj => ?_
    rw [shut_snoc, if_pos (List.mem_range.mp hj)]
    rfl
  · rw [List.filter_cons, shut_snoc, if_neg (Nat.lt_irrefl _), if_pos rfl]
    cases has ds es.length <;> cases e <;> simp
theorem cnt_map {f : En → List En} {p : List En → Bool} (l : List En) : cnt p (l.map f) = (l.filter fun e => p (f e)).length := by
  unfold cnt
  rw [List.filter_map, List.length_map]
  rfl
theorem cnt_app {p : List En → Bool} {a b : List (List En)} : cnt p (a ++ b) = cnt p a + cnt p b := by
  unfold cnt
  rw [List.filter_append, List.length_append]
theorem pairs_some {l m : Int} {n : Nat} {e : En} (h : e ∈ pairs l m n) : e ≠ none := by
  obtain ⟨a, b, rfl, _⟩ := mem_pairs.mp h
  exact fun z => nomatch z
theorem cnt_more {ds : List Wd} {d : Wd} {i q : Nat} (hd : ds[i]? = some d) : ∀ {rs : List (List En)}, (∀ es ∈ rs, es.length = i) →
    cnt (fun es => decide (qp ds es (i + 1) = q)) (more rs d) = (if d.1.isSome = true then cnt (fun es => decide (qp ds es i = q)) rs * ((d.2.2 + 1 - d.2.1).toNat * (d.2.2 + 1 - d.2.1).toNat) + cnt (fun es => decide (qp ds es i + 1 = q)) rs else cnt (fun es => decide (qp ds es i = q)) rs)
  | [], _ => by
    unfold more cnt
    cases d.1.isSome <;> simp
  | es :: rs, h => by
    have ih := cnt_more (q := q) hd (rs := rs) fun e he => h e (List.mem_cons_of_mem _ he)
    have hl := h es List.mem_cons_self
    have e1 : more (es :: rs) d = ((ents d).map fun e => es ++ [e]) ++ more rs d := by
      unfold more
      rw [List.flatMap_cons]
    have hh : has ds i = d.1.isSome := by
      unfold has
      rw [hd]
    rw [e1, cnt_app, ih, cnt_map]
    have e2 : ∀ e, qp ds (es ++ [e]) (i + 1) = qp ds es i + (if d.1.isSome = true ∧ e = none then 1 else 0) := fun e => by
      have := qp_snoc (ds := ds) (es := es) (e := e)
      rw [hl, hh] at this
      exact this
    have e3 : ∀ r : Nat, cnt (fun es => decide (qp ds es i = r)) (es :: rs) = (if qp ds es i = r then 1 else 0) + cnt (fun es => decide (qp ds es i = r)) rs := fun r => by
      unfold cnt
      rw [List.filter_cons]
      by_cases hq : qp ds es i = r
      · simp [hq]; omega
      · simp [hq]
    have e4 : cnt (fun es => decide (qp ds es i + 1 = q)) (es :: rs) = (if qp ds es i + 1 = q then 1 else 0) + cnt (fun es => decide (qp ds es i + 1 = q)) rs := by
      unfold cnt
      rw [List.filter_cons]
      by_cases hq : qp ds es i + 1 = q
      · simp [hq]; omega
      · simp [hq]
    rw [e3, e4]
    cases hs : d.1.isSome with
    | false =>
      rw [if_neg (by decide), if_neg (by decide)]
      have : ((ents d).filter fun e => decide (qp ds (es ++ [e]) (i + 1) = q)).length = if qp ds es i = q then 1 else 0 := by
        unfold ents
        rw [hs, if_neg (by decide), List.filter_cons, e2, hs]
        by_cases hq : qp ds es i = q <;> simp [hq]
      rw [this]
    | true =>
      rw [if_pos rfl, if_pos rfl]
      have : ((ents d).filter fun e => decide (qp ds (es ++ [e]) (i + 1) = q)).length = (if qp ds es i + 1 = q then 1 else 0) + (if qp ds es i = q then (d.2.2 + 1 - d.2.1).toNat * (d.2.2 + 1 - d.2.1).toNat else 0) := by
        unfold ents
        rw [hs, if_pos rfl, List.filter_cons, e2, hs]
        have e5 : ((pairs d.2.1 d.2.2 (d.2.2 + 1 - d.2.1).toNat).filter fun e => decide (qp ds (es ++ [e]) (i + 1) = q)) = (pairs d.2.1 d.2.2 (d.2.2 + 1 - d.2.1).toNat).filter fun _ => decide (qp ds es i = q) := List.filter_congr fun e he => by
          rw [e2, if_neg (fun z => pairs_some he z.2)]
          rfl
        rw [e5]
        have e6 : ((pairs d.2.1 d.2.2 (d.2.2 + 1 - d.2.1).toNat).filter fun _ => decide (qp ds es i = q)).length = if qp ds es i = q then (d.2.2 + 1 - d.2.1).toNat * (d.2.2 + 1 - d.2.1).toNat else 0 := by
          by_cases hq : qp ds es i = q
          · rw [decide_eq_true hq, if_pos hq, List.filter_eq_self.mpr (fun _ _ => rfl), pairs_len]
          · rw [decide_eq_false hq, if_neg hq]
            simp
        rw [show (if (true = true ∧ (none : En) = none) then 1 else 0) = 1 from if_pos ⟨rfl, rfl⟩]
        by_cases hq : qp ds es i + 1 = q
        · rw [decide_eq_true hq, if_pos rfl, List.length_cons, e6, if_pos hq]
          omega
        · rw [decide_eq_false hq, if_neg (by decide), e6, if_neg hq]
          omega
      rw [this, Nat.add_mul]
      by_cases hq : qp ds es i = q
      · rw [if_pos hq, if_pos hq, Nat.one_mul]
        omega
      · rw [if_neg hq, if_neg hq, Nat.zero_mul]
        omega
def nq (ds : List Wd) (i q : Nat) : Nat := cnt (fun es => decide (qp ds es i = q)) (rns ds i)
theorem nq_zero (ds : List Wd) (q : Nat) : nq ds 0 q = if q = 0 then 1 else 0 := by
  show cnt (fun es => decide (qp ds es 0 = q)) [[]] = _
  unfold cnt
  rw [List.filter_cons]
  by_cases h : q = 0
  · subst h
    rw [if_pos rfl, if_pos (show decide (qp ds [] 0 = 0) = true from rfl)]
    rfl
  · rw [if_neg h, if_neg (fun z => h (of_decide_eq_true z).symm)]
    rfl
def wid (ds : List Wd) (i : Nat) : Int := ms ds i - ls ds i + 1
theorem nq_succ {ds : List Wd} {i q : Nat} (hf : Fit ds) (hi : i < ds.length) : (nq ds (i + 1) q : Int) = if has ds i = true then (nq ds i q : Int) * wid ds i * wid ds i + (if q = 0 then 0 else (nq ds i (q - 1) : Int)) else (nq ds i q : Int) := by
  obtain ⟨d, hd⟩ : ∃ d, ds[i]? = some d := ⟨_, List.getElem?_eq_getElem hi⟩
  have e : rns ds (i + 1) = more (rns ds i) d := by
    show (match ds[i]? with | some d => more (rns ds i) d | none => rns ds i) = _
    rw [hd]
  have hh : has ds i = d.1.isSome := by
    unfold has
    rw [hd]
  have hm : ms ds i = d.2.2 := by
    unfold ms
    rw [hd]
  have hl : ls ds i = d.2.1 := by
    unfold ls
    rw [hd]
  unfold nq
  rw [e, cnt_more hd fun es hes => ((mem_rns (Nat.le_of_lt hi)).mp hes).1, hh]
  cases hs : d.1.isSome with
  | false => rw [if_neg (by decide), if_neg (by decide)]
  | true =>
    rw [if_pos rfl, if_pos rfl]
    have h1 := hf i (by rw [hh, hs])
    rw [hm, hl] at h1
    have hw : ((d.2.2 + 1 - d.2.1).toNat : Int) = wid ds i := by
      unfold wid
      rw [hm, hl]
      omega
    rw [Int.natCast_add, Int.natCast_mul, Int.natCast_mul, hw, Int.mul_assoc]
    congr 1
    by_cases hq : q = 0
    · rw [if_pos hq]
      have : cnt (fun es => decide (qp ds es i + 1 = q)) (rns ds i) = 0 := by
        unfold cnt
        rw [List.filter_eq_nil_iff.mpr fun es _ => by rw [decide_eq_true_eq]; omega]
        rfl
      rw [this]
      rfl
    · rw [if_neg hq]
      congr 2
      funext es
      exact decide_eq_decide.mpr ⟨fun z => by omega, fun z => by omega⟩
/-- the row of counts, as the program keeps it -/
def cts (ds : List Wd) (z i : Nat) : List Int := (List.range (z + 1)).map fun q => (nq ds i q : Int)
def stepC (c : Int) (cs : List Int) : List Int := List.zipWith (fun h s => h * c * c + s) cs (0 :: cs.dropLast)
theorem cts_zero (ds : List Wd) (z : Nat) : cts ds z 0 = 1 :: List.replicate z 0 := by
  unfold cts
  rw [List.range_succ_eq_map, List.map_cons, nq_zero, if_pos rfl, List.map_map]
  congr 1
  refine List.eq_replicate_iff.mpr ⟨by rw [List.length_map, List.length_range], fun x hx => ?_⟩
  obtain ⟨q, _, rfl⟩ := List.mem_map.mp hx
  show (nq ds 0 (q + 1) : Int) = 0
  rw [nq_zero, if_neg (by omega)]
  rfl
theorem cts_get {ds : List Wd} {z i q : Nat} (h : q ≤ z) : (cts ds z i)[q]? = some (nq ds i q : Int) := by
  unfold cts
  rw [List.getElem?_map, List.getElem?_range (by omega)]
  rfl
theorem cts_succ {ds : List Wd} {z i : Nat} (hf : Fit ds) (hi : i < ds.length) : cts ds z (i + 1) = if has ds i = true then stepC (wid ds i) (cts ds z i) else cts ds z i := by
  cases hs : has ds i with
  | false =>
    rw [if_neg (by decide)]
    unfold cts
    refine List.map_congr_left fun q _ => ?_
    rw [nq_succ hf hi, hs, if_neg (by decide)]
  | true =>
    rw [if_pos rfl]
    have hlen : (cts ds z i).length = z + 1 := by
      unfold cts
      rw [List.length_map, List.length_range]
    refine List.ext_getElem? fun q => ?_
    by_cases hq : q ≤ z
    · rw [cts_get hq]
      unfold stepC
      rw [List.getElem?_zipWith, cts_get hq]
      cases q with
      | zero =>
        rw [List.getElem?_cons_zero, nq_succ hf hi, hs, if_pos rfl, if_pos rfl]
      | succ q =>
        rw [List.getElem?_cons_succ, List.getElem?_dropLast, hlen, if_pos (by omega), cts_get (by omega), nq_succ hf hi, hs, if_pos rfl, if_neg (by omega)]
        rfl
    · rw [List.getElem?_eq_none (by unfold cts; rw [List.length_map, List.length_range]; omega), List.getElem?_eq_none]
      unfold stepC
      rw [List.length_zipWith, hlen]
      omega
theorem foldl_plan {α : Type} (ds : List Wd) (f : α → Nat → α) (a : α) (g : Nat → α) (h0 : g 0 = a) (h : ∀ i, i < ds.length → g (i + 1) = if has ds i = true then f (g i) i else g i) : (plan ds).foldl f a = g ds.length := by
  unfold plan
  have : ∀ n, n ≤ ds.length → ((List.range n).filter (has ds)).foldl f a = g n := fun n => by
    induction n with
    | zero => exact fun _ => h0.symm
    | succ n ih =>
      intro hn
      rw [List.range_succ, List.filter_append, List.foldl_append, ih (by omega), h n (by omega), List.filter_cons]
      cases has ds n <;> rfl
  exact this _ (Nat.le_refl _)
theorem cts_plan {ds : List Wd} {z : Nat} (hf : Fit ds) : (plan ds).foldl (fun cs j => stepC (wid ds j) cs) (1 :: List.replicate z 0) = cts ds z ds.length :=
  foldl_plan ds _ _ (cts ds z) (cts_zero ds z) fun _ hi => cts_succ hf hi
theorem out_plan {ds : List Wd} {es : List En} (hr : Run ds es) : (plan ds).foldl (step ds es) none = out ds es :=
  foldl_plan ds _ _ (outN ds es) rfl fun i _ => by
    cases hs : has ds i with
    | true => rfl
    | false =>
      rw [if_neg (by decide)]
      show step ds es (outN ds es i) i = _
      unfold step
      cases he : ent es i with
      | none => rfl
      | some p =>
        obtain ⟨a, b⟩ := p
        have := (hr.2 i a b he).1
        rw [hs] at this
        cases this
theorem sum_cts {ds : List Wd} : ∀ z : Nat, (cts ds z ds.length).sum = ((lim (z : Int) ds).length : Int) := by
  have h1 : ∀ z : Nat, (cts ds z ds.length).sum = (cnt (fun es => decide (qp ds es ds.length ≤ z)) (rns ds ds.length) : Int) := fun z => by
    induction z with
    | zero =>
      show (nq ds ds.length 0 : Int) + (0 : Int) = _
      rw [Int.add_zero]
      unfold nq
      congr 2
      funext es
      exact decide_eq_decide.mpr ⟨fun h => by omega, fun h => by omega⟩
    | succ z ih =>
      have : cts ds (z + 1) ds.length = cts ds z ds.length ++ [(nq ds ds.length (z + 1) : Int)] := by
        unfold cts
        rw [List.range_succ (n := z + 1), List.map_append]
        rfl
      rw [this, List.sum_append, ih]
      show (cnt _ _ : Int) + ((nq ds ds.length (z + 1) : Int) + 0) = _
      rw [Int.add_zero]
      rw [← Int.natCast_add]
      congr 1
      unfold nq cnt
      induction rns ds ds.length with
      | nil => rfl
      | cons es l ih =>
        simp only [List.filter_cons]
        by_cases a1 : qp ds es ds.length ≤ z
        · rw [decide_eq_true a1, decide_eq_false (show ¬ qp ds es ds.length = z + 1 by omega), decide_eq_true (show qp ds es ds.length ≤ z + 1 by omega)]
          simp only [if_true, if_false, List.length_cons]
          simp
          omega
        · by_cases a2 : qp ds es ds.length = z + 1
          · rw [decide_eq_false a1, decide_eq_true a2, decide_eq_true (show qp ds es ds.length ≤ z + 1 by omega)]
            simp only [if_true, List.length_cons]
            simp
            omega
          · rw [decide_eq_false a1, decide_eq_false a2, decide_eq_false (show ¬ qp ds es ds.length ≤ z + 1 by omega)]
            simpa using ih
  intro z
  rw [h1]
  unfold lim cnt
  congr 2
  refine List.filter_congr fun es _ => ?_
  show decide (qn ds es ≤ z) = _
  exact decide_eq_decide.mpr ⟨fun h => by omega, fun h => by omega⟩
end K18

set_option Elab.async false
namespace K18
/-! the race played moment by moment -/
abbrev Sm := List (Int × Nat) × List Nat
def simStep (ds : List Wd) (es : List En) (m : Int) (s : Sm) (w : Nat) : Sm :=
  if (has ds w && decide (bg ds w = m)) = true ∧ (s.1.any fun p => decide (p.1 ≤ m)) = false then (match ent es w with | none => s.1 | some (a, b) => s.1 ++ [(m + (a + b), w)], s.2 ++ [w]) else s
def simW (ds : List Wd) (es : List En) (m : Int) (s : Sm) (n : Nat) : Sm := (List.range n).foldl (simStep ds es m) s
def sim (ds : List Wd) (es : List En) (n : Nat) : Sm := (List.range n).foldl (fun (s : Sm) (m : Nat) => simW ds es (m : Int) s ds.length) ([], [])
theorem simW_succ {ds : List Wd} {es : List En} {m : Int} {s : Sm} {n : Nat} : simW ds es m s (n + 1) = simStep ds es m (simW ds es m s n) n := by
  unfold simW
  rw [List.range_succ, List.foldl_append]
  rfl
theorem sim_succ {ds : List Wd} {es : List En} {n : Nat} : sim ds es (n + 1) = simW ds es (n : Int) (sim ds es n) ds.length := by
  unfold sim
  rw [List.range_succ, List.foldl_append]
  rfl
def bef (o : Option (Nat × Int)) (m : Int) : Bool := match o with | none => true | some (_, t) => decide (m < t)
def sentL (ds : List Wd) (es : List En) : List Nat := (plan ds).filter fun v => bef (out ds es) (bg ds v)
structure Inv (ds : List Wd) (es : List En) (m : Int) (w : Nat) (s : Sm) : Prop where
  gone : ∀ v, v ∈ s.2 ↔ has ds v = true ∧ bef (out ds es) (bg ds v) = true ∧ (bg ds v < m ∨ (bg ds v = m ∧ v < w))
  ans : ∀ p, p ∈ s.1 ↔ ∃ v a b, v ∈ s.2 ∧ ent es v = some (a, b) ∧ p = (bg ds v + (a + b), v)
  len : s.1.length ≤ s.2.length
def Pos (ds : List Wd) : Prop := ∀ j, has ds j = true → 0 ≤ bg ds j ∧ bg ds j ≤ 4 ∧ 1 ≤ ls ds j
theorem out_none {ds : List Wd} {es : List En} (hr : Run ds es) (h : out ds es = none) (j : Nat) : ent es j = none := by
  by_cases q : j < ds.length
  · have sp := outN_spec (ds := ds) (es := es) ds.length
    have ho' : outN ds es ds.length = none := h
    rw [ho'] at sp
    exact sp j q
  · exact ent_none (by rw [hr.1]; omega)
theorem out_some {ds : List Wd} {es : List En} {k : Nat} {t : Int} (hr : Run ds es) (h : out ds es = some (k, t)) : (∃ a b, ent es k = some (a, b) ∧ t = bg ds k + (a + b)) ∧ ∀ j a b, ent es j = some (a, b) → t < bg ds j + (a + b) ∨ (t = bg ds j + (a + b) ∧ k ≤ j) := by
  have sp := outN_spec (ds := ds) (es := es) ds.length
  have ho' : outN ds es ds.length = some (k, t) := h
  rw [ho'] at sp
  obtain ⟨_, ⟨a, b, h1, h2⟩, h3⟩ := sp
  refine ⟨⟨a, b, h1, by omega⟩, fun j a b he => ?_⟩
  have hj : j < ds.length := has_lt (hr.2 j a b he).1
  have := h3 j a b hj he
  omega
theorem any_bef {ds : List Wd} {es : List En} {m : Int} {w : Nat} {s : Sm} (hr : Run ds es) (hp : Pos ds) (i : Inv ds es m w s) : (s.1.any fun p => decide (p.1 ≤ m)) = !bef (out ds es) m := by
  rw [Bool.eq_iff_iff, List.any_eq_true]
  cases ho : out ds es with
  | none =>
    refine ⟨fun ⟨p, h, _⟩ => ?_, fun h => by cases h⟩
    obtain ⟨v, a, b, _, he, _⟩ := (i.ans p).mp h
    rw [out_none hr ho v] at he
    cases he
  | some km =>
    obtain ⟨k, t⟩ := km
    obtain ⟨⟨a, b, h1, h2⟩, h3⟩ := out_some hr ho
    show _ ↔ (!decide (m < t)) = true
    rw [Bool.not_eq_true', decide_eq_false_iff_not]
    constructor
    · rintro ⟨p, h, hm⟩
      obtain ⟨v, a', b', _, he, rfl⟩ := (i.ans p).mp h
      have := h3 v a' b' he
      have hm := of_decide_eq_true hm
      dsimp only at hm
      omega
    · intro h
      obtain ⟨g1, g2, g3, g4, g5⟩ := hr.2 k a b h1
      obtain ⟨p1, p2, p3⟩ := hp k g1
      refine ⟨(bg ds k + (a + b), k), (i.ans _).mpr ⟨k, a, b, (i.gone k).mpr ⟨g1, ?_, .inl (by omega)⟩, h1, rfl⟩, decide_eq_true (by dsimp only; omega)⟩
      rw [ho]
      exact decide_eq_true (by omega)
theorem inv_step {ds : List Wd} {es : List En} {m : Int} {w : Nat} {s : Sm} (hr : Run ds es) (hp : Pos ds) (i : Inv ds es m w s) : Inv ds es m (w + 1) (simStep ds es m s w) := by
  unfold simStep
  by_cases hc : (has ds w && decide (bg ds w = m)) = true ∧ (s.1.any fun p => decide (p.1 ≤ m)) = false
  · rw [if_pos hc]
    obtain ⟨c1, c2⟩ := hc
    rw [any_bef hr hp i] at c2
    rw [Bool.and_eq_true, decide_eq_true_eq] at c1
    obtain ⟨c1, c3⟩ := c1
    have hb : bef (out ds es) (bg ds w) = true := by
      rw [c3]
      cases hq : bef (out ds es) m with
      | true => rfl
      | false => rw [hq] at c2; cases c2
    have hg : ∀ v, v ∈ s.2 ++ [w] ↔ has ds v = true ∧ bef (out ds es) (bg ds v) = true ∧ (bg ds v < m ∨ (bg ds v = m ∧ v < w + 1)) := fun v => by
      rw [List.mem_append, List.mem_singleton, i.gone]
      constructor
      · rintro (⟨h1, h2, h3⟩ | rfl)
        · exact ⟨h1, h2, by omega⟩
        · exact ⟨c1, hb, by omega⟩
      · rintro ⟨h1, h2, h3⟩
        by_cases e : v = w
        · exact .inr e
        · exact .inl ⟨h1, h2, by omega⟩
    cases he : ent es w with
    | none =>
      refine ⟨hg, fun p => ?_, ?_⟩
      · show p ∈ s.1 ↔ _
        rw [i.ans]
        constructor
        · rintro ⟨v, a, b, h1, h2, h3⟩
          exact ⟨v, a, b, List.mem_append_left _ h1, h2, h3⟩
        · rintro ⟨v, a, b, h1, h2, h3⟩
          rcases List.mem_append.mp h1 with h | h
          · exact ⟨v, a, b, h, h2, h3⟩
          · rw [List.mem_singleton.mp h, he] at h2
            cases h2
      · show s.1.length ≤ (s.2 ++ [w]).length
        rw [List.length_append]
        have := i.len
        omega
    | some q =>
      obtain ⟨a, b⟩ := q
      refine ⟨hg, fun p => ?_, ?_⟩
      · show p ∈ s.1 ++ [(m + (a + b), w)] ↔ _
        rw [List.mem_append, List.mem_singleton, i.ans]
        constructor
        · rintro (⟨v, a, b, h1, h2, h3⟩ | rfl)
          · exact ⟨v, a, b, List.mem_append_left _ h1, h2, h3⟩
          · exact ⟨w, a, b, List.mem_append_right _ (List.mem_singleton.mpr rfl), he, by rw [c3]⟩
        · rintro ⟨v, a', b', h1, h2, h3⟩
          rcases List.mem_append.mp h1 with h | h
          · exact .inl ⟨v, a', b', h, h2, h3⟩
          · rw [List.mem_singleton.mp h] at h2 h3
            rw [he] at h2
            cases h2
            exact .inr (by rw [h3, c3])
      · show (s.1 ++ [(m + (a + b), w)]).length ≤ (s.2 ++ [w]).length
        rw [List.length_append, List.length_append]
        have := i.len
        simp
        omega
  · rw [if_neg hc]
    refine ⟨fun v => ?_, i.ans, i.len⟩
    rw [i.gone]
    constructor
    · rintro ⟨h1, h2, h3⟩
      exact ⟨h1, h2, by omega⟩
    · rintro ⟨h1, h2, h3⟩
      refine ⟨h1, h2, ?_⟩
      by_cases e : v = w ∧ bg ds v = m
      · obtain ⟨rfl, e⟩ := e
        refine absurd ⟨?_, ?_⟩ hc
        · rw [h1, decide_eq_true e]
          rfl
        · rw [any_bef hr hp i, ← e, h2]
          rfl
      · omega
theorem inv_w {ds : List Wd} {es : List En} {m : Int} {s : Sm} (hr : Run ds es) (hp : Pos ds) (i : Inv ds es m 0 s) : ∀ n, Inv ds es m n (simW ds es m s n)
  | 0 => i
  | n + 1 => by
    rw [simW_succ]
    exact inv_step hr hp (inv_w hr hp i n)
theorem inv_next {ds : List Wd} {es : List En} {m : Int} {s : Sm} (i : Inv ds es m ds.length s) : Inv ds es (m + 1) 0 s := by
  refine ⟨fun v => ?_, i.ans, i.len⟩
  rw [i.gone]
  constructor
  · rintro ⟨h1, h2, h3⟩
    exact ⟨h1, h2, by omega⟩
  · rintro ⟨h1, h2, h3⟩
    have := has_lt h1
    exact ⟨h1, h2, by omega⟩
theorem inv_sim {ds : List Wd} {es : List En} (hr : Run ds es) (hp : Pos ds) : ∀ n : Nat, Inv ds es (n : Int) 0 (sim ds es n)
  | 0 => ⟨fun v => ⟨fun h => (nomatch h), fun ⟨h1, h2, h3⟩ => by
      have := hp v h1
      omega⟩, fun p => ⟨fun h => (nomatch h), fun ⟨v, a, b, h, _⟩ => nomatch h⟩, Nat.le_refl _⟩
  | n + 1 => by
    rw [sim_succ]
    have := inv_next (inv_w hr hp (inv_sim hr hp n) ds.length)
    rw [show ((n + 1 : Nat) : Int) = (n : Int) + 1 from rfl]
    exact this
theorem simS_len {ds : List Wd} {es : List En} {m : Int} {s : Sm} {w : Nat} : (simStep ds es m s w).2.length ≤ s.2.length + 1 := by
  unfold simStep
  by_cases hc : (has ds w && decide (bg ds w = m)) = true ∧ (s.1.any fun p => decide (p.1 ≤ m)) = false
  · rw [if_pos hc, List.length_append]
    exact Nat.le_refl _
  · rw [if_neg hc]
    omega
theorem simW_len {ds : List Wd} {es : List En} {m : Int} {s : Sm} : ∀ n, (simW ds es m s n).2.length ≤ s.2.length + n
  | 0 => Nat.le_refl _
  | n + 1 => by
    rw [simW_succ]
    have h1 := simS_len (ds := ds) (es := es) (m := m) (s := simW ds es m s n) (w := n)
    have h2 := simW_len (ds := ds) (es := es) (m := m) (s := s) n
    omega
theorem sim_len {ds : List Wd} {es : List En} : ∀ n, (sim ds es n).2.length ≤ n * ds.length
  | 0 => Nat.zero_le _
  | n + 1 => by
    rw [sim_succ, Nat.succ_mul]
    exact Nat.le_trans (simW_len _) (Nat.add_le_add_right (sim_len n) _)
theorem gone_is {ds : List Wd} {es : List En} (hr : Run ds es) (hp : Pos ds) : (List.range ds.length).filter (fun v => decide (v ∈ (sim ds es 5).2)) = sentL ds es := by
  unfold sentL plan
  rw [List.filter_filter]
  refine List.filter_congr fun v hv => ?_
  rw [Bool.eq_iff_iff, decide_eq_true_eq, (inv_sim hr hp 5).gone, Bool.and_eq_true]
  constructor
  · rintro ⟨h1, h2, _⟩
    exact ⟨h2, h1⟩
  · rintro ⟨h1, h2⟩
    have := hp v h2
    exact ⟨h2, h1, .inl (by omega)⟩
theorem ans_nil {ds : List Wd} {es : List En} (hr : Run ds es) (hp : Pos ds) : (sim ds es 5).1 = [] ↔ out ds es = none := by
  constructor
  · intro h
    cases ho : out ds es with
    | none => rfl
    | some km =>
      obtain ⟨k, t⟩ := km
      obtain ⟨⟨a, b, h1, h2⟩, h3⟩ := out_some hr ho
      obtain ⟨g1, g2, g3, g4, g5⟩ := hr.2 k a b h1
      obtain ⟨p1, p2, p3⟩ := hp k g1
      have : (bg ds k + (a + b), k) ∈ (sim ds es 5).1 := ((inv_sim hr hp 5).ans _).mpr ⟨k, a, b, ((inv_sim hr hp 5).gone k).mpr ⟨g1, by rw [ho]; exact decide_eq_true (by omega), .inl (by omega)⟩, h1, rfl⟩
      rw [h] at this
      cases this
  · intro ho
    refine List.eq_nil_iff_forall_not_mem.mpr fun p h => ?_
    obtain ⟨v, a, b, _, he, _⟩ := ((inv_sim hr hp 5).ans p).mp h
    rw [out_none hr ho v] at he
    cases he
def lt2 (p q : Int × Nat) : Bool := decide (p.1 < q.1 ∨ (p.1 = q.1 ∧ p.2 < q.2))
theorem ans_min {ds : List Wd} {es : List En} {k : Nat} {t : Int} (hr : Run ds es) (hp : Pos ds) (ho : out ds es = some (k, t)) : (t, k) ∈ (sim ds es 5).1 ∧ ∀ p ∈ (sim ds es 5).1, lt2 p (t, k) = false := by
  obtain ⟨⟨a, b, h1, h2⟩, h3⟩ := out_some hr ho
  obtain ⟨g1, g2, g3, g4, g5⟩ := hr.2 k a b h1
  obtain ⟨p1, p2, p3⟩ := hp k g1
  refine ⟨((inv_sim hr hp 5).ans _).mpr ⟨k, a, b, ((inv_sim hr hp 5).gone k).mpr ⟨g1, by rw [ho]; exact decide_eq_true (by omega), .inl (by omega)⟩, h1, by rw [h2]⟩, fun p h => ?_⟩
  obtain ⟨v, a', b', _, he, rfl⟩ := ((inv_sim hr hp 5).ans p).mp h
  have := h3 v a' b' he
  unfold lt2
  rw [decide_eq_false_iff_not]
  dsimp only
  omega
def minF (l : List (Int × Nat)) (f : Int × Nat) : Int × Nat := l.foldl (fun f p => if lt2 p f = true then p else f) f
theorem min_is {q : Int × Nat} : ∀ {l : List (Int × Nat)} {f : Int × Nat}, (∀ p ∈ l, lt2 p q = false) → (f = q ∨ (q ∈ l ∧ lt2 f q = false)) → minF l f = q
  | [], f, _, h => by
    rcases h with h | h
    · exact h
    · cases h.1
  | p :: l, f, h, hf => by
    show minF l (if lt2 p f = true then p else f) = q
    have hp := h p List.mem_cons_self
    refine min_is (fun x hx => h x (List.mem_cons_of_mem _ hx)) ?_
    rcases hf with rfl | ⟨h1, h2⟩
    · rw [hp]
      exact .inl rfl
    · rcases List.mem_cons.mp h1 with rfl | h1
      · by_cases e : lt2 q f = true
        · rw [if_pos e]
          exact .inl rfl
        · rw [if_neg e]
          left
          unfold lt2 at e h2
          rw [decide_eq_true_eq] at e
          rw [decide_eq_false_iff_not] at h2
          obtain ⟨q1, q2⟩ := q
          obtain ⟨f1, f2⟩ := f
          dsimp only at e h2
          rw [show f1 = q1 by omega, show f2 = q2 by omega]
      · refine .inr ⟨h1, ?_⟩
        by_cases e : lt2 p f = true
        · rw [if_pos e]
          exact hp
        · rw [if_neg e]
          exact h2
/-! the outcomes rise -/
theorem ocN_lt {W : List Wn} {lo : Int} (hw : W.Pairwise fun a b => a.1 < b.1) : ∀ n, (ocN W lo n).Pairwise (fun p q => lt2 p q = true) ∧ ∀ p ∈ ocN W lo n, p.1 < lo + (n : Int)
  | 0 => ⟨List.Pairwise.nil, fun p h => nomatch h⟩
  | n + 1 => by
    obtain ⟨h1, h2⟩ := ocN_lt hw n
    rw [ocN_succ]
    refine ⟨List.pairwise_append.mpr ⟨h1, ?_, fun p hp q hq => ?_⟩, fun p hp => ?_⟩
    · rw [List.pairwise_map]
      refine (hw.filter _).imp fun h => ?_
      exact decide_eq_true (.inr ⟨rfl, h⟩)
    · obtain ⟨x, _, rfl⟩ := List.mem_map.mp hq
      exact decide_eq_true (.inl (h2 p hp))
    · rcases List.mem_append.mp hp with h | h
      · have := h2 p h
        omega
      · obtain ⟨x, _, rfl⟩ := List.mem_map.mp h
        dsimp only
        omega
theorem lt2_irr (p : Int × Nat) : lt2 p p = false := by
  unfold lt2
  rw [decide_eq_false_iff_not]
  omega
theorem ocs_lt {W : List Wn} (hw : W.Pairwise fun a b => a.1 < b.1) : (ocs W).Pairwise (fun p q => lt2 p q = true) ∧ (ocs W).Nodup := by
  have h := (ocN_lt (lo := loW W) hw (hiW W + 1 - loW W).toNat).1
  refine ⟨h, ?_⟩
  rw [List.nodup_iff_pairwise_ne]
  exact h.imp fun h e => by
    rw [e, lt2_irr] at h
    cases h
/-! what came, each once -/
def came1 (acc : List (Int × Nat)) (o : Option (Nat × Int)) : List (Int × Nat) := match o with
  | none => acc
  | some (w, t) => if (t, w) ∈ acc then acc else acc ++ [(t, w)]
def cameL (os : List (Option (Nat × Int))) : List (Int × Nat) := os.foldl came1 []
theorem cameL_snoc {os : List (Option (Nat × Int))} {o : Option (Nat × Int)} : cameL (os ++ [o]) = came1 (cameL os) o := by
  unfold cameL
  rw [List.foldl_append]
  rfl
theorem came_facts : ∀ {os : List (Option (Nat × Int))} {acc : List (Int × Nat)}, acc.Nodup → (os.foldl came1 acc).Nodup ∧ ∀ t w, (t, w) ∈ os.foldl came1 acc ↔ (t, w) ∈ acc ∨ some (w, t) ∈ os
  | [], acc, h => ⟨h, fun t w => ⟨.inl, fun q => q.elim id fun z => nomatch z⟩⟩
  | o :: os, acc, h => by
    have hs : (came1 acc o).Nodup ∧ ∀ t w, (t, w) ∈ came1 acc o ↔ (t, w) ∈ acc ∨ o = some (w, t) := by
      cases o with
      | none => exact ⟨h, fun t w => ⟨.inl, fun q => q.elim id fun z => nomatch z⟩⟩
      | some km =>
        obtain ⟨k, m⟩ := km
        unfold came1
        by_cases hm : (m, k) ∈ acc
        · dsimp only
          rw [if_pos hm]
          refine ⟨h, fun t w => ⟨.inl, fun q => q.elim id fun z => ?_⟩⟩
          cases z
          exact hm
        · dsimp only
          rw [if_neg hm]
          refine ⟨List.nodup_append.mpr ⟨h, List.nodup_cons.mpr ⟨(fun z => nomatch z), List.nodup_nil⟩, fun a ha b hb e => hm (by rw [← List.mem_singleton.mp hb, ← e]; exact ha)⟩, fun t w => ?_⟩
          rw [List.mem_append, List.mem_singleton]
          constructor
          · rintro (q | q)
            · exact .inl q
            · cases q
              exact .inr rfl
          · rintro (q | q)
            · exact .inl q
            · cases q
              exact .inr rfl
    obtain ⟨h1, h2⟩ := came_facts (os := os) hs.1
    refine ⟨h1, fun t w => ?_⟩
    show (t, w) ∈ os.foldl came1 (came1 acc o) ↔ _
    rw [h2, hs.2, List.mem_cons]
    constructor
    · rintro ((q | q) | q)
      · exact .inl q
      · exact .inr (.inl q.symm)
      · exact .inr (.inr q)
    · rintro (q | q | q)
      · exact .inl (.inl q)
      · exact .inl (.inr q.symm)
      · exact .inr q
theorem mem_came {os : List (Option (Nat × Int))} {t : Int} {w : Nat} : (t, w) ∈ cameL os ↔ some (w, t) ∈ os := by
  unfold cameL
  rw [(came_facts List.nodup_nil).2]
  exact ⟨fun q => q.elim (fun z => nomatch z) id, .inr⟩
theorem came_nodup {os : List (Option (Nat × Int))} : (cameL os).Nodup := (came_facts List.nodup_nil).1
theorem came_len : ∀ {os : List (Option (Nat × Int))} {acc : List (Int × Nat)}, (os.foldl came1 acc).length ≤ acc.length + os.length
  | [], _ => Nat.le_refl _
  | o :: os, acc => by
    have h : (came1 acc o).length ≤ acc.length + 1 := by
      unfold came1
      cases o with
      | none => exact Nat.le_succ _
      | some km =>
        dsimp only
        split
        · exact Nat.le_succ _
        · rw [List.length_append]
          exact Nat.le_refl _
    have := came_len (os := os) (acc := came1 acc o)
    show (os.foldl came1 (came1 acc o)).length ≤ _
    rw [List.length_cons]
    omega
end K18

set_option Elab.async false
namespace K18
/-! the program's own run for an outcome; ways by their ends: plain mathematics -/
theorem nodup_le {α : Type} [DecidableEq α] : ∀ {l m : List α}, l.Nodup → (∀ x ∈ l, x ∈ m) → l.length ≤ m.length
  | [], _, _, _ => Nat.zero_le _
  | x :: l, m, hn, hs => by
    rw [List.nodup_cons] at hn
    have hx := hs x List.mem_cons_self
    have ih := nodup_le (l := l) (m := m.erase x) hn.2 fun y hy => (List.mem_erase_of_ne fun e => hn.1 (by rw [← e]; exact hy)).mpr (hs y (List.mem_cons_of_mem _ hy))
    rw [List.length_erase_of_mem hx] at ih
    have := List.length_pos_of_mem hx
    rw [List.length_cons]
    omega
variable {ds : List Wd} {w : Nat} {t z : Int}
def thr (ds : List Wd) (w : Nat) (t : Int) : Int := if t - bg ds w - ms ds w > ls ds w then t - bg ds w - ms ds w else ls ds w
def wrun (ds : List Wd) (w : Nat) (t : Int) : List En := (List.range ds.length).map fun j => if j = w then some (thr ds w t, t - bg ds w - thr ds w t)
  else if early ds w t j = true then none else if has ds j = true then some (ms ds j, ms ds j) else none
theorem ent_wrun {j : Nat} (h : j < ds.length) : ent (wrun ds w t) j = if j = w then some (thr ds w t, t - bg ds w - thr ds w t)
  else if early ds w t j = true then none else if has ds j = true then some (ms ds j, ms ds j) else none := by
  unfold ent wrun
  rw [List.getElem?_map, List.getElem?_range h]
  rfl
theorem wrun_of_can (hf : Fit ds) (h : can ds z w t = true) : Run ds (wrun ds w t) ∧ (qn ds (wrun ds w t) : Int) ≤ z ∧ out ds (wrun ds w t) = some (w, t) := by
  obtain ⟨c1, ⟨c2, c3⟩, c4⟩ := can_iff.mp h
  have hw := has_lt c1
  have hlm := hf w c1
  unfold opn at c2
  unfold fin at c3
  have len : (wrun ds w t).length = ds.length := by unfold wrun; rw [List.length_map, List.length_range]
  have hth : ls ds w ≤ thr ds w t ∧ thr ds w t ≤ ms ds w ∧ ls ds w ≤ t - bg ds w - thr ds w t ∧ t - bg ds w - thr ds w t ≤ ms ds w := by
    unfold thr
    split <;> omega
  have hrun : Run ds (wrun ds w t) := by
    refine ⟨len, fun j a b he => ?_⟩
    have hj : j < ds.length := by
      by_cases q : j < ds.length
      · exact q
      · rw [ent_none (by omega)] at he
        cases he
    rw [ent_wrun hj] at he
    by_cases hjw : j = w
    · rw [if_pos hjw] at he
      cases he
      subst hjw
      exact ⟨c1, hth.1, hth.2.1, hth.2.2.1, hth.2.2.2⟩
    · rw [if_neg hjw] at he
      by_cases he2 : early ds w t j = true
      · rw [if_pos he2] at he; cases he
      · rw [if_neg he2] at he
        by_cases hh : has ds j = true
        · rw [if_pos hh] at he
          cases he
          have := hf j hh
          exact ⟨hh, this, Int.le_refl _, this, Int.le_refl _⟩
        · rw [if_neg hh] at he; cases he
  refine ⟨hrun, ?_, ?_⟩
  · have : qn ds (wrun ds w t) = (hurs ds w t).length := by
      unfold qn hurs
      congr 1
      refine List.filter_congr fun k hk => ?_
      have hk' := List.mem_range.mp hk
      unfold shut
      rw [ent_wrun hk']
      by_cases hkw : k = w
      · rw [if_pos hkw]
        have : early ds w t k = false := by
          rw [Bool.eq_false_iff]
          intro he
          exact (early_iff.mp he).2.1 hkw
        rw [this]
        simp
      · rw [if_neg hkw]
        by_cases he : early ds w t k = true
        · rw [if_pos he, he, (early_iff.mp he).1]
          rfl
        · rw [if_neg he]
          rw [Bool.not_eq_true] at he
          rw [he]
          by_cases hh : has ds k = true
          · rw [if_pos hh]; simp
          · rw [Bool.not_eq_true] at hh
            rw [hh]
            rfl
    rw [this]
    exact c4
  · refine out_of hw ⟨thr ds w t, t - bg ds w - thr ds w t, by rw [ent_wrun hw, if_pos rfl], by omega⟩ fun j a b hj he => ?_
    rw [ent_wrun hj] at he
    by_cases hjw : j = w
    · rw [if_pos hjw] at he
      cases he
      subst hjw
      first
        | exact .inr ⟨by omega, Nat.le_refl _⟩
        | omega
    · rw [if_neg hjw] at he
      by_cases he2 : early ds w t j = true
      · rw [if_pos he2] at he; cases he
      · rw [if_neg he2] at he
        by_cases hh : has ds j = true
        · rw [if_pos hh] at he
          cases he
          have hne : ¬ (has ds j = true ∧ j ≠ w ∧ (fin ds j < t ∨ (fin ds j = t ∧ j < w))) := fun q => he2 (early_iff.mpr q)
          unfold fin at hne
          by_cases h1 : bg ds j + 2 * ms ds j < t
          · exact absurd ⟨hh, hjw, .inl h1⟩ hne
          · by_cases h2 : bg ds j + 2 * ms ds j = t
            · have h3 : ¬ j < w := fun q => hne ⟨hh, hjw, .inr ⟨h2, q⟩⟩
              first
                | exact .inr ⟨by omega, by omega⟩
                | omega
            · first
                | exact .inl (by omega)
                | omega
        · rw [if_neg hh] at he; cases he
/-! ways by their ends -/
def bE (ds : List Wd) (order : List Int) : List Nat := order.flatMap fun e => (plan ds).filter fun j => decide (fin ds j = e)
def ltE (ds : List Wd) (a b : Nat) : Prop := fin ds a < fin ds b ∨ (fin ds a = fin ds b ∧ a < b)
theorem plan_up : (plan ds).Pairwise (· < ·) := List.pairwise_lt_range.filter _
theorem mem_plan {j : Nat} : j ∈ plan ds ↔ has ds j = true := by
  unfold plan
  rw [List.mem_filter, List.mem_range]
  exact ⟨fun h => h.2, fun h => ⟨has_lt h, h⟩⟩
theorem bE_up {order : List Int} (ho : order.Pairwise (· < ·)) : (bE ds order).Pairwise (ltE ds) := by
  unfold bE
  rw [List.pairwise_flatMap]
  refine ⟨fun e _ => ?_, ho.imp fun {a b} h x hx y hy => ?_⟩
  · have h1 : ((plan ds).filter fun j => decide (fin ds j = e)).Pairwise (· < ·) := plan_up.filter _
    refine List.Pairwise.imp_of_mem (fun {x y} hx hy h => ?_) h1
    rw [List.mem_filter, decide_eq_true_eq] at hx hy
    exact .inr ⟨by rw [hx.2, hy.2], h⟩
  · rw [List.mem_filter, decide_eq_true_eq] at hx hy
    exact .inl (by rw [hx.2, hy.2]; exact h)
theorem mem_bE {order : List Int} (hm : ∀ j ∈ plan ds, fin ds j ∈ order) {j : Nat} : j ∈ bE ds order ↔ j ∈ plan ds := by
  unfold bE
  rw [List.mem_flatMap]
  constructor
  · rintro ⟨e, _, h⟩
    exact (List.mem_filter.mp h).1
  · intro h
    exact ⟨fin ds j, hm j h, List.mem_filter.mpr ⟨h, decide_eq_true rfl⟩⟩
theorem ltE_irr {a : Nat} : ¬ ltE ds a a := by
  unfold ltE
  omega
theorem bE_nodup {order : List Int} (ho : order.Pairwise (· < ·)) : (bE ds order).Nodup := by
  rw [List.nodup_iff_pairwise_ne]
  exact (bE_up ho).imp fun {a b} h e => by
    rw [e] at h
    exact ltE_irr h
theorem bE_len {order : List Int} (ho : order.Pairwise (· < ·)) (hm : ∀ j ∈ plan ds, fin ds j ∈ order) : (bE ds order).length = (plan ds).length :=
  Nat.le_antisymm (nodup_le (bE_nodup ho) fun x hx => (mem_bE hm).mp hx) (nodup_le (by rw [List.nodup_iff_pairwise_ne]; exact (plan_up (ds := ds)).imp fun h => by omega) fun x hx => (mem_bE hm).mpr hx)
theorem bE_at {order : List Int} (ho : order.Pairwise (· < ·)) (hm : ∀ j ∈ plan ds, fin ds j ∈ order) {i : Nat} (hw : (bE ds order)[i]? = some w) : (hurs ds w (fin ds w)).length = i ∧ has ds w = true ∧ ∀ j ∈ (bE ds order).take (i + 1), has ds j = true ∧ fin ds j ≤ fin ds w := by
  have hil := (List.getElem?_eq_some_iff.mp hw).1
  have hup := List.pairwise_iff_getElem.mp (bE_up (ds := ds) ho)
  have hwe : (bE ds order)[i] = w := (List.getElem?_eq_some_iff.mp hw).2
  have hbef : ∀ j ∈ (bE ds order).take i, ltE ds j w ∧ has ds j = true := fun j hj => by
    obtain ⟨k, hk, e⟩ := List.getElem_of_mem hj
    rw [List.length_take] at hk
    rw [List.getElem_take] at e
    have h := hup k i (by omega) hil (by omega)
    rw [e, hwe] at h
    exact ⟨h, mem_plan.mp ((mem_bE hm).mp (List.mem_of_mem_take hj))⟩
  have haft : ∀ j ∈ plan ds, ltE ds j w → j ∈ (bE ds order).take i := fun j hj hlt => by
    obtain ⟨k, hk, e⟩ := List.getElem_of_mem ((mem_bE hm).mpr hj)
    by_cases hki : k < i
    · have : ((bE ds order).take i)[k]? = some j := by
        rw [List.getElem?_take_of_lt hki, List.getElem?_eq_getElem hk, e]
      exact List.mem_of_getElem? this
    · exfalso
      by_cases hke : k = i
      · subst hke
        rw [hwe] at e
        rw [e] at hlt
        exact ltE_irr hlt
      · have h := hup i k hil hk (by omega)
        rw [e, hwe] at h
        unfold ltE at h hlt
        omega
  have hnd : ((bE ds order).take i).Nodup := (bE_nodup ho).sublist (List.take_sublist _ _)
  have hhn : (hurs ds w (fin ds w)).Nodup := List.nodup_range.filter _
  have hmem : ∀ j, j ∈ hurs ds w (fin ds w) ↔ has ds j = true ∧ ltE ds j w := fun j => by
    unfold hurs ltE
    rw [List.mem_filter, List.mem_range, early_iff]
    constructor
    · rintro ⟨_, h1, h2, h3⟩
      exact ⟨h1, h3⟩
    · rintro ⟨h1, h3⟩
      exact ⟨has_lt h1, h1, (fun e => by rw [e] at h3; omega), h3⟩
  refine ⟨?_, mem_plan.mp ((mem_bE hm).mp (List.mem_of_getElem? hw)), fun j hj => ?_⟩
  · have hl : ((bE ds order).take i).length = i := by rw [List.length_take]; omega
    have h1 := nodup_le hhn (m := (bE ds order).take i) fun j hj => haft j (mem_plan.mpr ((hmem j).mp hj).1) ((hmem j).mp hj).2
    have h2 := nodup_le hnd (m := hurs ds w (fin ds w)) fun j hj => (hmem j).mpr ⟨(hbef j hj).2, (hbef j hj).1⟩
    omega
  · rw [List.take_add_one, hw, List.mem_append] at hj
    rcases hj with hj | hj
    · obtain ⟨h1, h2⟩ := hbef j hj
      unfold ltE at h1
      exact ⟨h2, by omega⟩
    · have : j = w := by simpa using hj
      rw [this]
      exact ⟨mem_plan.mp ((mem_bE hm).mp (List.mem_of_getElem? hw)), Int.le_refl _⟩
theorem bE_latest (hf : Fit ds) {order E : List Int} {n : Nat} {L : Int} (ho : order.Pairwise (· < ·)) (hm : ∀ j ∈ plan ds, fin ds j ∈ order) (hp : E.Perm (ends ds)) (hs : E.Pairwise (· ≤ ·)) (hL : E[n]? = some L) (hz : z = (n : Int)) (hw : (bE ds order)[n]? = some w) :
    fin ds w = L ∧ can ds z w L = true ∧ ∀ j ∈ (bE ds order).take (n + 1), has ds j = true ∧ fin ds j ≤ L := by
  obtain ⟨h1, h2, h3⟩ := bE_at ho hm hw
  have hcan : can ds z w (fin ds w) = true := by
    refine can_iff.mpr ⟨h2, ⟨?_, Int.le_refl _⟩, by omega⟩
    have := hf w h2
    unfold opn fin
    omega
  have hle := latest_hi hp hs hL hz hcan
  have hge : L ≤ fin ds w := by
    by_cases q : L ≤ fin ds w
    · exact q
    · exfalso
      have hc := count_lt hs hL
      have hc2 := perm_count hp fun x => decide (x < L)
      rw [hc2, ends_count] at hc
      have hnd : ((bE ds order).take (n + 1)).Nodup := (bE_nodup ho).sublist (List.take_sublist _ _)
      have hl : ((bE ds order).take (n + 1)).length = n + 1 := by
        rw [List.length_take]
        have := (List.getElem?_eq_some_iff.mp hw).1
        omega
      have := nodup_le hnd (m := (List.range ds.length).filter fun j => has ds j && decide (fin ds j < L)) fun j hj => by
        obtain ⟨a, b⟩ := h3 j hj
        rw [List.mem_filter, List.mem_range, a, decide_eq_true (by omega)]
        exact ⟨has_lt a, rfl⟩
      omega
  have e : fin ds w = L := by omega
  rw [e] at hcan h3
  exact ⟨e, hcan, h3⟩
end K18

set_option Elab.async false
namespace K18
/-! the best begins: plain mathematics -/
/-- ways by what f says of them -/
def byF (f : Nat → Int) (A : List Nat) (order : List Int) : List Nat := order.flatMap fun e => A.filter fun j => decide (f j = e)
theorem byF_up {f : Nat → Int} {A : List Nat} {order : List Int} (ho : order.Pairwise (· < ·)) (hA : A.Pairwise (· < ·)) : (byF f A order).Pairwise fun a b => f a < f b ∨ (f a = f b ∧ a < b) := by
  unfold byF
  rw [List.pairwise_flatMap]
  refine ⟨fun e _ => ?_, ho.imp fun {a b} h x hx y hy => ?_⟩
  · have h1 : (A.filter fun j => decide (f j = e)).Pairwise (· < ·) := hA.filter _
    refine List.Pairwise.imp_of_mem (fun {x y} hx hy h => ?_) h1
    rw [List.mem_filter, decide_eq_true_eq] at hx hy
    exact .inr ⟨by rw [hx.2, hy.2], h⟩
  · rw [List.mem_filter, decide_eq_true_eq] at hx hy
    exact .inl (by rw [hx.2, hy.2]; exact h)
theorem mem_byF {f : Nat → Int} {A : List Nat} {order : List Int} (hm : ∀ j ∈ A, f j ∈ order) {j : Nat} : j ∈ byF f A order ↔ j ∈ A := by
  unfold byF
  rw [List.mem_flatMap]
  constructor
  · rintro ⟨e, _, h⟩
    exact (List.mem_filter.mp h).1
  · intro h
    exact ⟨f j, hm j h, List.mem_filter.mpr ⟨h, decide_eq_true rfl⟩⟩
theorem byF_nodup {f : Nat → Int} {A : List Nat} {order : List Int} (ho : order.Pairwise (· < ·)) (hA : A.Pairwise (· < ·)) : (byF f A order).Nodup := by
  rw [List.nodup_iff_pairwise_ne]
  exact (byF_up ho hA).imp fun {a b} h e => by
    rw [e] at h
    omega
theorem up_nodup {A : List Nat} (hA : A.Pairwise (· < ·)) : A.Nodup := by
  rw [List.nodup_iff_pairwise_ne]
  exact hA.imp fun h => by omega
theorem byF_perm {f : Nat → Int} {A : List Nat} {order : List Int} (ho : order.Pairwise (· < ·)) (hA : A.Pairwise (· < ·)) (hm : ∀ j ∈ A, f j ∈ order) : (byF f A order).Perm A :=
  (List.perm_ext_iff_of_nodup (byF_nodup ho hA) (up_nodup hA)).mpr fun _ => mem_byF hm
theorem byF_le {f : Nat → Int} {A : List Nat} {order : List Int} (ho : order.Pairwise (· < ·)) (hA : A.Pairwise (· < ·)) : ((byF f A order).map f).Pairwise (· ≤ ·) := by
  rw [List.pairwise_map]
  exact (byF_up ho hA).imp fun h => by omega
/-- moments that lie g apart -/
theorem told_ge {Tl : List Int} {g : Int} (h0 : ∀ x ∈ Tl, 0 ≤ x) (hgap : ∀ j, j + 1 < Tl.length → Tl.getD j 0 + g ≤ Tl.getD (j + 1) 0) : ∀ j, j < Tl.length → (j : Int) * g ≤ Tl.getD j 0
  | 0, h => by
    have := h0 _ (List.getElem_mem h)
    rw [List.getD_eq_getElem?_getD, List.getElem?_eq_getElem h]
    show (0 : Int) * g ≤ _
    rw [Int.zero_mul]
    exact this
  | j + 1, h => by
    have ih := told_ge h0 hgap j (by omega)
    have := hgap j h
    have e : ((j + 1 : Nat) : Int) * g = (j : Int) * g + g := by
      rw [Int.natCast_add, Int.add_mul]
      simp
    rw [e]
    omega
theorem low_few {Tl : List Int} {g : Int} {i : Nat} (hs : Tl.Pairwise (· ≤ ·)) (h0 : ∀ x ∈ Tl, 0 ≤ x) (hgap : ∀ j, j + 1 < Tl.length → Tl.getD j 0 + g ≤ Tl.getD (j + 1) 0) : (Tl.filter fun x => decide (x < (i : Int) * g)).length ≤ i := by
  by_cases hi : i < Tl.length
  · have h1 := told_ge h0 hgap i hi
    rw [List.getD_eq_getElem?_getD, List.getElem?_eq_getElem hi] at h1
    have h1' : (i : Int) * g ≤ Tl[i] := h1
    have h2 := count_lt hs (List.getElem?_eq_getElem hi)
    refine Nat.le_trans ?_ h2
    exact filter_mono fun x _ hx => by
      rw [decide_eq_true_eq] at hx ⊢
      omega
  · exact Nat.le_trans (List.length_filter_le _ _) (by omega)
theorem split_len {α : Type} {p : α → Bool} : ∀ l : List α, l.length = (l.filter p).length + (l.filter fun x => !p x).length
  | [] => rfl
  | x :: l => by
    rw [List.length_cons, split_len (p := p) l, List.filter_cons, List.filter_cons]
    cases p x <;> simp <;> omega
/-- no plan ends before -/
theorem lower {f bg : Nat → Int} {A O B : List Nat} {g E : Int} {z : Nat} {Tl En : List Int} (hO : O.Perm A) (hs : (O.map f).Pairwise (· ≤ ·)) (hB : B.Nodup) (hBA : ∀ k ∈ B, k ∈ A) (hz : z < O.length)
    (hT : Tl.Perm (B.map bg)) (hTs : Tl.Pairwise (· ≤ ·)) (h0 : ∀ k ∈ B, 0 ≤ bg k) (hgap : ∀ j, j + 1 < Tl.length → Tl.getD j 0 + g ≤ Tl.getD (j + 1) 0)
    (hE : En.Perm (B.map fun k => bg k + 2 * f k)) (hEs : En.Pairwise (· ≤ ·)) (hEz : En[z]? = some E) {i : Nat} (hi : i ≤ z) : (i : Int) * g + 2 * f (O.getD (z - i) 0) ≤ E := by
  have hT0 : ∀ x ∈ Tl, 0 ≤ x := fun x hx => by
    obtain ⟨k, hk, rfl⟩ := List.mem_map.mp (hT.mem_iff.mp hx)
    exact h0 k hk
  have hlow := low_few (i := i) hTs hT0 hgap
  rw [perm_count hT, List.filter_map, List.length_map] at hlow
  have hS := count_le hEs hEz
  rw [perm_count hE, List.filter_map, List.length_map] at hS
  have hlow' : (B.filter fun k => decide (bg k < (i : Int) * g)).length ≤ i := hlow
  have hS' : z + 1 ≤ (B.filter fun k => decide (bg k + 2 * f k ≤ E)).length := hS
  have h1 := split_len (p := fun k => decide (bg k < (i : Int) * g)) (B.filter fun k => decide (bg k + 2 * f k ≤ E))
  have h2 : ((B.filter fun k => decide (bg k + 2 * f k ≤ E)).filter fun k => decide (bg k < (i : Int) * g)).length ≤ (B.filter fun k => decide (bg k < (i : Int) * g)).length := (List.filter_sublist.filter _).length_le
  have hx : z - i < O.length := by omega
  have hc : (O.map f)[z - i]? = some (f (O.getD (z - i) 0)) := by
    rw [List.getElem?_map, List.getElem?_eq_getElem hx, List.getD_eq_getElem?_getD, List.getElem?_eq_getElem hx]
    rfl
  generalize f (O.getD (z - i) 0) = c at hc
  have h3 := count_lt hs hc
  rw [List.filter_map, List.length_map] at h3
  have h3' : (A.filter fun k => decide (f k < c)).length ≤ z - i := by
    rw [← (hO.filter _).length_eq]
    exact h3
  by_cases hex : ∃ k ∈ (B.filter fun k => decide (bg k + 2 * f k ≤ E)).filter (fun k => !decide (bg k < (i : Int) * g)), c ≤ f k
  · obtain ⟨k, hk, hck⟩ := hex
    rw [List.mem_filter, List.mem_filter, decide_eq_true_eq, Bool.not_eq_true', decide_eq_false_iff_not] at hk
    obtain ⟨⟨_, ha⟩, hb⟩ := hk
    omega
  · exfalso
    have h4 := nodup_le (l := (B.filter fun k => decide (bg k + 2 * f k ≤ E)).filter fun k => !decide (bg k < (i : Int) * g)) (m := A.filter fun k => decide (f k < c)) ((hB.filter _).filter _) fun k hk => by
      have hck : f k < c := by
        by_cases q : f k < c
        · exact q
        · exact absurd ⟨k, hk, by omega⟩ hex
      rw [List.mem_filter, List.mem_filter] at hk
      exact List.mem_filter.mpr ⟨hBA k hk.1.1, decide_eq_true hck⟩
    omega
end K18

set_option Elab.async false
set_option maxRecDepth 100000
set_option maxHeartbeats 4000000
namespace K18
open PySem PySem.Spec PyProof.Rows L2
abbrev Bx := Int × Int × Int × Int
def bxD (q : Bx) : PyData := .tuple [.int q.1, .int q.2.1, .int q.2.2.1, .int q.2.2.2]
def bxOk (q : Bx) (l m : Int) : Prop := 0 ≤ q.1 ∧ q.1 ≤ q.2.1 ∧ q.2.1 ≤ m ∧ q.1 ≤ l ∧ 1 ≤ q.2.2.1 ∧ q.2.2.1 ≤ q.2.2.2 ∧ q.2.2.2 ≤ 10000
theorem box_yes {d : PyData} {l m : Int} (h : boxD d l m = true) : ∃ q, d = bxD q ∧ bxOk q l m := by
  unfold boxD at h
  split at h
  · rename_i n f s g
    rw [decide_eq_true_eq] at h
    exact ⟨(n, f, s, g), rfl, h⟩
  · cases h
theorem box_ok {q : Bx} {l m : Int} (h : bxOk q l m) : boxD (bxD q) l m = true := decide_eq_true h
theorem boxes_yes {l m : Int} : ∀ {ds : List PyData}, (∀ d ∈ ds, boxD d l m = true) → ∃ bs : List Bx, ds = bs.map bxD ∧ ∀ q ∈ bs, bxOk q l m
  | [], _ => ⟨[], rfl, fun _ h => nomatch h⟩
  | d :: ds, h => by
    obtain ⟨q, rfl, hq⟩ := box_yes (h d List.mem_cons_self)
    obtain ⟨bs, rfl, hb⟩ := boxes_yes (ds := ds) fun d hd => h d (List.mem_cons_of_mem _ hd)
    refine ⟨q :: bs, rfl, fun r hr => ?_⟩
    rcases List.mem_cons.mp hr with rfl | hr
    · exact hq
    · exact hb r hr
def bD : Option Int → PyData | some n => .int n | none => .none
def bV : Option Int → V | some n => .int n | none => .non
def bOk (b : Option Int) : Prop := ∀ n, b = some n → 0 ≤ n ∧ n ≤ 1000
theorem begin_yes {d : PyData} (h : beginD d = true) : ∃ b, d = bD b ∧ bOk b := by
  cases d with
  | none => exact ⟨none, rfl, fun n h => nomatch h⟩
  | int n =>
    have h' : betD (.int n) 0 1000 = true := h
    obtain ⟨m, e, h1, h2⟩ := bet_yes h'
    cases e
    exact ⟨some n, rfl, fun k e => by cases e; exact ⟨h1, h2⟩⟩
  | _ => cases h
theorem begin_ok {b : Option Int} (h : bOk b) : beginD (bD b) = true := by
  cases b with
  | none => rfl
  | some n =>
    obtain ⟨h1, h2⟩ := h n rfl
    show betD (.int n) 0 1000 = true
    rw [bet_int, decide_eq_true h1, decide_eq_true h2]
    rfl
theorem due_begin {b l m x : PyData} (h : beginD b = false) : wayDue b l m x = some (.inl "begin") := by
  unfold wayDue
  rw [if_pos h]
theorem due_none {b l m x : PyData} (h : wayDue b l m x = none) : ∃ (bo : Option Int) (li mi : Int) (bs : List Bx), b = bD bo ∧ bOk bo ∧ l = .int li ∧ m = .int mi ∧ (1 ≤ li ∧ li ≤ mi ∧ mi ≤ 50) ∧ itemsD x = some (bs.map bxD) ∧ bs.length ≤ 3 ∧ ∀ q ∈ bs, bxOk q li mi := by
  unfold wayDue at h
  cases h1 : beginD b with
  | false => rw [h1, if_pos rfl] at h; cases h
  | true =>
    rw [h1, if_neg (by decide)] at h
    cases h2 : delaysD l m with
    | false => rw [h2, if_pos rfl] at h; cases h
    | true =>
      rw [h2, if_neg (by decide)] at h
      obtain ⟨li, mi, rfl, rfl, d1, d2, d3⟩ := delays_yes h2
      cases h3 : (isSeqD x && (decide ((0 : Int) ≤ (lenD x : Int)) && decide ((lenD x : Int) ≤ 3))) with
      | false => rw [h3, if_pos rfl] at h; cases h
      | true =>
        rw [h3, if_neg (by decide)] at h
        obtain ⟨bo, rfl, hb⟩ := begin_yes h1
        have h4 := (Bool.and_eq_true_iff.mp (Bool.and_eq_true_iff.mp h3).2).2
        rw [decide_eq_true_eq] at h4
        have fin : ∀ ds : List PyData, itemsD x = some ds → lenD x = ds.length → (ds.findIdx? fun d => !boxD d li mi) = none → ∃ (bo' : Option Int) (li' mi' : Int) (bs : List Bx), bD bo = bD bo' ∧ bOk bo' ∧ PyData.int li = .int li' ∧ PyData.int mi = .int mi' ∧ (1 ≤ li' ∧ li' ≤ mi' ∧ mi' ≤ 50) ∧ itemsD x = some (bs.map bxD) ∧ bs.length ≤ 3 ∧ ∀ q ∈ bs, bxOk q li' mi' := by
          intro ds hi hl hf
          rw [List.findIdx?_eq_none_iff] at hf
          obtain ⟨bs, rfl, hbs⟩ := boxes_yes (ds := ds) (l := li) (m := mi) fun d hd => by
            have z := hf d hd
            cases hz : boxD d li mi with
            | true => rfl
            | false => rw [hz] at z; cases z
          refine ⟨bo, li, mi, bs, rfl, hb, rfl, rfl, ⟨d1, d2, d3⟩, hi, ?_, hbs⟩
          rw [hl, List.length_map] at h4
          omega
        cases x with
        | list ds =>
          refine fin ds rfl rfl ?_
          have h' : (ds.findIdx? fun d => !boxD d li mi).map (Sum.inr (α := Str)) = none := h
          rwa [Option.map_eq_none_iff] at h'
        | tuple ds =>
          refine fin ds rfl rfl ?_
          have h' : (ds.findIdx? fun d => !boxD d li mi).map (Sum.inr (α := Str)) = none := h
          rwa [Option.map_eq_none_iff] at h'
        | _ => cases h3
theorem due_ok {bo : Option Int} {li mi : Int} {bs : List Bx} {x : PyData} (hb : bOk bo) (hd : 1 ≤ li ∧ li ≤ mi ∧ mi ≤ 50) (hx : x = .list (bs.map bxD) ∨ x = .tuple (bs.map bxD)) (hl : bs.length ≤ 3) (hbs : ∀ q ∈ bs, bxOk q li mi) : wayDue (bD bo) (.int li) (.int mi) x = none := by
  have h2 : delaysD (.int li) (.int mi) = true := by
    simp only [delaysD]
    rw [decide_eq_true hd.1, decide_eq_true hd.2.1, decide_eq_true hd.2.2]
    rfl
  have hf : ((bs.map bxD).findIdx? fun d => !boxD d li mi) = none := by
    rw [List.findIdx?_eq_none_iff]
    intro d hd
    obtain ⟨q, hq, rfl⟩ := List.mem_map.mp hd
    rw [box_ok (hbs q hq)]
    rfl
  have h4 : decide (((bs.map bxD).length : Int) ≤ 3) = true := by
    rw [List.length_map]
    exact decide_eq_true (by omega)
  have h5 : decide ((0 : Int) ≤ ((bs.map bxD).length : Int)) = true := decide_eq_true (by omega)
  unfold wayDue
  rw [begin_ok hb, if_neg (by decide), h2, if_neg (by decide)]
  rcases hx with rfl | rfl
  · have h3 : (isSeqD (.list (bs.map bxD)) && (decide ((0 : Int) ≤ (lenD (.list (bs.map bxD)) : Int)) && decide ((lenD (.list (bs.map bxD)) : Int) ≤ 3))) = true := by
      show (true && (decide ((0 : Int) ≤ ((bs.map bxD).length : Int)) && decide (((bs.map bxD).length : Int) ≤ 3))) = true
      rw [h4, h5]
      rfl
    rw [h3, if_neg (by decide)]
    show ((bs.map bxD).findIdx? fun d => !boxD d li mi).map (Sum.inr (α := Str)) = none
    rw [hf]
    rfl
  · have h3 : (isSeqD (.tuple (bs.map bxD)) && (decide ((0 : Int) ≤ (lenD (.tuple (bs.map bxD)) : Int)) && decide ((lenD (.tuple (bs.map bxD)) : Int) ≤ 3))) = true := by
      show (true && (decide ((0 : Int) ≤ ((bs.map bxD).length : Int)) && decide (((bs.map bxD).length : Int) ≤ 3))) = true
      rw [h4, h5]
      rfl
    rw [h3, if_neg (by decide)]
    show ((bs.map bxD).findIdx? fun d => !boxD d li mi).map (Sum.inr (α := Str)) = none
    rw [hf]
    rfl
section
variable {P : Program} {w : World} {K : PySem.W.Frag} {mg : Str → Option Value} {base : Heap} {A : Ad}
theorem bV_dp {H : Hp} (b : Option Int) : Dp K H (bV b) (bD b) := by cases b <;> first | exact .non | exact .int _
def MyWay (K : PySem.W.Frag) (A : Ad) (H : Hp) (p : Addr) (b : Option Int) (l m : Int) (bs : List Bx) : Prop := WayAt K A H p (bV b) (.int l) (.int m) (bs.map bxD)
theorem MyWay.ext {H H' : Hp} {p : Addr} {b : Option Int} {l m : Int} {bs : List Bx} (h : MyWay K A H p b l m bs) (e : Ext H H') : MyWay K A H' p b l m bs := by
  obtain ⟨dx, T', xs, h1, h2, h3⟩ := h
  exact ⟨dx, T', xs, e _ _ h1, h2.ext e, dps_ext e _ _ h3⟩
theorem all_map {xs : List V} {f : V → Bool} : xs.map (fun x => V.bl (f x)) = (xs.map f).map V.bl := by
  rw [List.map_map]
  rfl
theorem all_id {xs : List V} {f : V → Bool} : (xs.map f).all id = xs.all f := by
  rw [List.all_map]
  rfl
def spCheckWays (K : PySem.W.Frag) (A : Ad) : Sp := fun vs H Q E => ∃ (v : V) (t : Value) (k : Bool) (xs : List V) (g : V → Bool), vs = [v] ∧ (∀ H', Ext H H' → TyX K H' v t) ∧ PySem.W.kitAny K t [.type "list", .type "tuple"] = some k ∧ (k = true → ∃ p, v = .ref p ∧ (SqL K H p xs ∨ SqT K H p xs)) ∧ xs.length ≤ 1000 ∧
  (∀ x ∈ xs, ∃ tx, (∀ H', Ext H H' → TyX K H' x tx) ∧ PySem.W.kitOne K tx (.ref A.Way) = some (g x)) ∧
  ((k && (decide ((1 : Int) ≤ (xs.length : Int)) && decide ((xs.length : Int) ≤ 4)) && xs.all g) = false → ∀ H', Ext H H' → ∀ e, H' e = none → E (.ref A.BadPart) (some e) (upd H' e (.xd [("part", .str "ways")]))) ∧
  ((k && (decide ((1 : Int) ≤ (xs.length : Int)) && decide ((xs.length : Int) ≤ 4)) && xs.all g) = true → ∀ H', Ext H H' → Q .non H')
theorem ok_checkWays {f : Addr} {fd : FuncData} (F : Fun K "check_ways" "check_ways" s_check_ways f fd) (T : Txt K mg A) (O_is_list_of : Own P w K mg base CX0 "is_list_of" 2 pm_is_list_of (spListOf K)) (X_BadPart : XCls P w K mg base "BadPart" "part" A.BadPart) : FnOk P w K mg base (L2.CX P w) 4 f fd pm_check_ways (spCheckWays K A) := by
  refine F.okX sc_check_ways (fun vs H Q E h => ?_) (fun cdv A' outer s H vs Q E hr h => ?_)
  · obtain ⟨_, _, _, _, _, rfl, _⟩ := h
    rfl
  · obtain ⟨v, t, k, xs, g, rfl, hv, hk, hp, hsm, hx, qE, qQ⟩ := h
    have hIsi : ∀ s1 H1 sc ce fp, CallR ((cxOf (L2.CX P w) P w K mg base nm_check_ways "check_ways" (defScope s_check_ways) f cdv A' outer s H E).blk s1 H1 sc ce fp) (.builtin "isinstance") (rIsi K) := fun s1 H1 sc ce fp =>
      call_isi (X := (cxOf (L2.CX P w) P w K mg base nm_check_ways "check_ways" (defScope s_check_ways) f cdv A' outer s H E).blk s1 H1 sc ce fp)
    refine ⟨_, pss_one (ps_if (PW.pt (pw_or (pt_not (pt_val (pe_own O_is_list_of (hr.mono (by decide)) pass0 (pa_cons (pv 0) (pa_cons (pe_int) (pa_cons (pe_gint T.g_MOST_WAYS) pa_nil)))))) (pw_or1 (pt_not (pt_val (pe_callB (cr_all rfl) (by rfl) T.n_all (by decide +kernel) (pa_cons (pe_lc (own := [("way", 1)]) (g := gName 1) (by rfl) sc_check_ways.nd (pi_sq (pv 0)) (blkOk_by (own := [("way", 1)]) (N := nm_check_ways) (sc := defScope s_check_ways) (by decide +kernel)) (fun _ _ _ _ _ => pg_name (i := 1) sc_check_ways.nd rfl (Or.inl rfl)) (fun s1 H1 C1 cl fp => pts_nil) (fun s1 H1 C1 cl fp => pe_callB (hIsi _ _ _ _ _) (by rfl) T.n_isinstance (by decide +kernel) (pa_cons (pv 1) (pa_cons (pe_gcls T.Way.gC) pa_nil)))) pa_nil))))))) (pss_one (ps_raise rfl (takes_of rfl rfl rfl rfl) (pmk_X X_BadPart (hr.mono (by decide)) (pe_str) rfl))) (pss_nil)), ?_⟩
    refine ⟨v, rfl, v, t, k, 1, 4, xs, rfl, hv, hk, hp, fun H1 e1 => ⟨_, rfl, ?_⟩⟩
    cases h1 : (k && (decide ((1 : Int) ≤ (xs.length : Int)) && decide ((xs.length : Int) ≤ 4))) with
    | false =>
      rw [h1] at qE
      exact iteT (mkX_fin fun e he => qE rfl _ e1 e he)
    | true =>
      rw [h1] at qE qQ
      refine iteF ?_
      have hkt : k = true := (Bool.and_eq_true_iff.mp h1).1
      obtain ⟨p, rfl, hseq⟩ := hp hkt
      refine ⟨_, rfl, p, rfl, lc_sqG (f := fun x => .bl (g x)) (b := fun _ => true) (hseq.imp (fun h => h.ext e1) (fun h => h.ext e1)) (small1000 hsm) (fun x => rfl) (fun x hm H' e' Q' q' => q' _ Ext.rfl') (fun x hm _ H' e' Q' q' => ?_) (fun D H2 hD e2 hl => ?_)⟩
      · obtain ⟨tx, t1, t2⟩ := hx x hm
        exact ⟨x, rfl, x, .ref A.Way, tx, .ref A.Way, g x, rfl, .own _, t1 _ (e1.trans e'), t2, q' _ Ext.rfl'⟩
      · rw [L2.filter_all, all_map] at hl
        refine ⟨D, xs.map g, rfl, SqL.of hl, _, rfl, ?_⟩
        rw [all_id]
        cases h2 : xs.all g with
        | false =>
          rw [h2] at qE
          exact iteT (mkX_fin fun e he => qE rfl _ (e1.trans e2) e he)
        | true =>
          rw [h2] at qQ
          exact iteF (qQ rfl _ (e1.trans e2))
def spCheckSilent (K : PySem.W.Frag) (A : Ad) : Sp := fun vs H Q E => ∃ (v : V) (d : PyData), vs = [v] ∧ Dp K H v d ∧ (betD d 0 3 = false → ∀ H', Ext H H' → ∀ e, H' e = none → E (.ref A.BadPart) (some e) (upd H' e (.xd [("part", .str "silent")]))) ∧ (betD d 0 3 = true → Q .non H)
theorem ok_checkSilent {f : Addr} {fd : FuncData} (F : Fun K "check_silent" "check_silent" s_check_silent f fd) (T : Txt K mg A) (O_is_between : Own P w K mg base CX0 "is_between" 2 pm_is_between (spBetween K)) (X_BadPart : XCls P w K mg base "BadPart" "part" A.BadPart) : FnOk P w K mg base (L2.CX P w) 4 f fd pm_check_silent (spCheckSilent K A) := by
  refine F.okX sc_check_silent (fun vs H Q E h => ?_) (fun cdv A' outer s H vs Q E hr h => ?_)
  · obtain ⟨_, _, rfl, _⟩ := h
    rfl
  · obtain ⟨v, d, rfl, hd, qE, qQ⟩ := h
    refine ⟨_, pss_one (ps_if (pt_not (pt_val (pe_own O_is_between (hr.mono (by decide)) pass0 (pa_cons (pv 0) (pa_cons (pe_int) (pa_cons (pe_gint T.g_MOST_SILENT) pa_nil)))))) (pss_one (ps_raise rfl (takes_of rfl rfl rfl rfl) (pmk_X X_BadPart (hr.mono (by decide)) (pe_str) rfl))) (pss_nil)), ?_⟩
    refine ⟨v, rfl, v, d, 0, 3, rfl, hd, _, rfl, ?_⟩
    cases h1 : betD d 0 3 with
    | false => exact iteT (mkX_fin fun e he => qE h1 _ Ext.rfl' e he)
    | true => exact iteF (qQ h1)
def spIndex (K : PySem.W.Frag) : Sp := fun vs H Q _ => ∃ v d n, vs = [v, .int n] ∧ Dp K H v d ∧ Q (.bl (betD d 0 (n - 1))) H
theorem ok_index {f : Addr} {fd : FuncData} (F : Fun K "is_index" "is_index" s_is_index f fd) (O_is_between : Own P w K mg base CX0 "is_between" 2 pm_is_between (spBetween K)) : FnOk P w K mg base CX0 3 f fd pm_is_index (spIndex K) := by
  refine F.ok sc_is_index (fun vs H Q E h => ?_) (fun cdv A' outer s H vs Q E hr h => ?_)
  · obtain ⟨_, _, _, rfl, _⟩ := h
    rfl
  · obtain ⟨v, d, n, rfl, hd, q⟩ := h
    refine ⟨_, pss_one (ps_ret (pe_own O_is_between (hr.mono (by decide)) pass0 (pa_cons (pv 0) (pa_cons (pe_int) (pa_cons (pe_op op_sub (pv 1) (pe_int)) pa_nil))))), ?_⟩
    exact ⟨v, rfl, _, rfl, _, _, rfl, rfl, v, d, 0, n - 1, rfl, hd, q⟩
def WayD (K : PySem.W.Frag) (A : Ad) (H : Hp) (p : Addr) (d : Wd) : Prop := MyWay K A H p d.1 d.2.1 d.2.2 []
def Ways (K : PySem.W.Frag) (A : Ad) (H : Hp) (ws : List V) (ds : List Wd) : Prop := ws.length = ds.length ∧ ∀ (i : Nat) (x : V) (d : Wd), ws[i]? = some x → ds[i]? = some d → ∃ q, x = .ref q ∧ WayD K A H q d
theorem Ways.ext {H H' : Hp} {ws : List V} {ds : List Wd} (h : Ways K A H ws ds) (e : Ext H H') : Ways K A H' ws ds := ⟨h.1, fun i x d h1 h2 => by
  obtain ⟨q, e1, w⟩ := h.2 i x d h1 h2
  exact ⟨q, e1, w.ext e⟩⟩
def StAt (H : Hp) (b s : Addr) (N : Nat) : Prop := ∃ (ns : List Int) (i : Int), H b = some (.lst [.ref s, .int i]) ∧ H s = some (.lst (ns.map V.int)) ∧ ns.length ≤ 63 ∧ 0 ≤ i ∧ i ≤ N
def ExtS (b s : Addr) (H H' : Hp) : Prop := ∀ x o, x ≠ b → x ≠ s → H x = some o → H' x = some o
theorem ExtS.rfl' {b s : Addr} {H : Hp} : ExtS b s H H := fun _ _ _ _ h => h
theorem ExtS.trans {b s : Addr} {H H1 H2 : Hp} (a : ExtS b s H H1) (c : ExtS b s H1 H2) : ExtS b s H H2 := fun x o h1 h2 e => c x o h1 h2 (a x o h1 h2 e)
theorem Ext.s {b s : Addr} {H H' : Hp} (h : Ext H H') : ExtS b s H H' := fun x o _ _ e => h x o e
theorem StAt.ext {b s : Addr} {H H' : Hp} {N : Nat} (h : StAt H b s N) (e : Ext H H') : StAt H' b s N := by
  obtain ⟨ns, i, hb, hs, h⟩ := h
  exact ⟨ns, i, e _ _ hb, e _ _ hs, h⟩
theorem StAt.le {b s : Addr} {H : Hp} {N M : Nat} (h : StAt H b s N) (e : N ≤ M) : StAt H b s M := by
  obtain ⟨ns, i, hb, hs, h1, h2, h3⟩ := h
  exact ⟨ns, i, hb, hs, h1, h2, by omega⟩
theorem StAt.new {b s l : Addr} {H : Hp} {N : Nat} (h : StAt H b s N) (hl : H l = none) : l ≠ b ∧ l ≠ s := by
  obtain ⟨ns, i, hb, hs, _⟩ := h
  exact ⟨(ne_of_none hb hl).symm, (ne_of_none hs hl).symm⟩
theorem StAt.upd {b s l : Addr} {H : Hp} {N : Nat} {o : HO} (h : StAt H b s N) (hb : l ≠ b) (hs : l ≠ s) : StAt (L2.upd H l o) b s N := by
  obtain ⟨ns, i, h1, h2, h⟩ := h
  exact ⟨ns, i, by rw [upd_ne hb.symm]; exact h1, by rw [upd_ne hs.symm]; exact h2, h⟩
theorem ExtS.mut {b s l : Addr} {H H' : Hp} {o : HO} (e : ExtS b s H H') (hl : H l = none) : ExtS b s H (L2.upd H' l o) := fun x u h1 h2 h => by
  rw [upd_ne (ne_of_none h hl)]
  exact e x u h1 h2 h
theorem ExtS.none {b s t : Addr} {H H' : Hp} (e : ExtS b s H H') (h1 : t ≠ b) (h2 : t ≠ s) (h : H' t = none) : H t = none := by
  cases z : H t with
  | none => rfl
  | some o =>
    rw [e t o h1 h2 z] at h
    cases h
def spDraw : Sp := fun vs H Q _ => ∃ (b s : Addr) (N : Nat) (L : Int), vs = [.ref b, .int L] ∧ StAt H b s N ∧ N ≤ 1000000 ∧ 1 ≤ L ∧ L ≤ 100000 ∧
  ∀ n H', 0 ≤ n → n < L → StAt H' b s (N + 1) → ExtS b s H H' → Q (.int n) H'
theorem ok_draw {f : Addr} {fd : FuncData} (F : Fun K "_law_draw" "_law_draw" s__law_draw f fd) (T : Txt K mg A) : FnOk P w K mg base CX0 1 f fd pm__law_draw spDraw := by
  refine F.ok sc__law_draw (fun vs H Q E h => ?_) (fun cdv A' outer sh H vs Q E hr h => ?_)
  · obtain ⟨_, _, _, _, rfl, _⟩ := h
    rfl
  · obtain ⟨b, s, N, L, rfl, ⟨ns, i, hb, hs, n63, i0, iN⟩, hN, hL, hL2, k⟩ := h
    have nsb : s ≠ b := ne_of hs hb (by intro z; injection z with z; cases ns <;> simp at z)
    refine ⟨_, pss_cons (ps_set (i := 2) sc__law_draw.nd rfl (Or.inl rfl) (pe_ix ix_list (pv 0) (pe_int) (fun _ _ => rfl)))
      (pss_cons (ps_if (pt_not (pt_truth (pv 2) (by intro _; rfl))) (pss_one (ps_ret (pe_int))) (pss_nil))
      (pss_cons (ps_set (i := 3) sc__law_draw.nd rfl (Or.inl rfl) (pe_op op_modN (pe_callTy call_int1 (by rfl) T.n_int (by decide +kernel) (pa_cons (pe_ix ix_list (pv 0) (pe_int) (fun _ _ => rfl)) pa_nil)) (pe_callB call_len_seq (by rfl) T.n_len (by decide +kernel) (pa_cons (pv 2) pa_nil))))
      (pss_cons (ps_set (i := 4) sc__law_draw.nd rfl (Or.inl rfl) (pe_ix ix_list (pv 2) (pv 3) (fun _ _ => rfl)))
      (pss_cons (ps_asg (pe_op op_add (pe_ix ix_list (pv 0) (pe_int) (fun _ _ => rfl)) (pe_int)) (pg_sub (pv 0) (pe_int) set_list))
      (pss_cons (ps_if (pt_cmpR op_ge (pv 4) (pe_op op_pow (pe_int) (pe_int)) (nomark _)) (pss_cons (ps_asg (pe_op op_fdivN (pv 4) (pv 1)) (pg_sub (pv 2) (pv 3) set_list))
      (pss_one (ps_ret (pe_op op_modN (pe_callTy call_int1 (by rfl) T.n_int (by decide +kernel) (pa_cons (pv 4) pa_nil)) (pv 1))))) (pss_nil))
      (pss_cons (ps_set (i := 5) sc__law_draw.nd rfl (Or.inl rfl) (pe_op op_mod (pe_callTy call_int1 (by rfl) T.n_int (by decide +kernel) (pa_cons (pe_op op_add (pe_op op_add (pe_op op_mul (pv 4) (pe_int)) (pe_op op_mul (pe_ix ix_list (pv 0) (pe_int) (fun _ _ => rfl)) (pe_int))) (pe_int)) pa_nil)) (pe_int)))
      (pss_one (ps_ret (pe_op op_modN (pe_op op_mod (pe_callTy call_int1 (by rfl) T.n_int (by decide +kernel) (pa_cons (pe_op op_add (pe_op op_mul (pv 5) (pe_int)) (pe_op op_mul (pe_ix ix_list (pv 0) (pe_int) (fun _ _ => rfl)) (pe_int))) pa_nil)) (pe_int)) (pv 1)))))))))), ?_⟩
    refine ⟨_, rfl, b, _, 0, .ref s, rfl, rfl, SqL.of hb, rfl, ?_⟩
    refine ⟨_, rfl, _, .inl ⟨_, SqL.of hs, rfl⟩, ?_⟩
    by_cases hl0 : ns.length = 0
    · have hns := List.length_eq_zero_iff.mp hl0
      subst hns
      exact iteT (k 0 H (Int.le_refl _) (by omega) ⟨[], i, hb, hs, n63, i0, by omega⟩ ExtS.rfl')
    · have hne : (!(!(ns.map V.int).isEmpty)) = false := by
        cases ns with
        | nil => exact absurd rfl hl0
        | cons _ _ => rfl
      show if (!(!(ns.map V.int).isEmpty)) = true then _ else _
      rw [hne]
      refine iteF ?_
      have hlp : (0 : Int) < (ns.length : Int) := by omega
      obtain ⟨j, hj⟩ : ∃ j : Nat, i.fmod (ns.length : Int) = (j : Int) := ⟨(i.fmod (ns.length : Int)).toNat, (Int.toNat_of_nonneg (Int.fmod_nonneg_of_pos _ hlp)).symm⟩
      have hjl : j < ns.length := by
        have z := Int.fmod_lt_of_pos i hlp
        omega
      refine ⟨_, rfl, b, _, 1, .int i, rfl, rfl, SqL.of hb, rfl, .inl ⟨_, rfl, _, rfl, s, _, rfl, .inl (SqL.of hs), _, _, rfl, rfl, (by show ((ns.map V.int).length : Int) ≠ 0; rw [List.length_map]; omega), ?_⟩⟩
      have hj' : i.fmod ((ns.map V.int).length : Int) = (j : Int) := by rw [List.length_map]; exact hj
      have hjv : (ns.map V.int)[j]? = some (.int ns[j]) := by rw [List.getElem?_map, List.getElem?_eq_getElem hjl] <;> rfl
      refine ⟨_, rfl, _, rfl, s, _, _, .int ns[j], rfl, rfl, SqL.of hs, by rw [hj']; exact atI_nat hjv, ?_⟩
      generalize ns[j] = c
      refine ⟨_, rfl, b, _, 1, .int i, rfl, rfl, SqL.of hb, rfl, _, _, rfl, rfl, _, rfl, b, _, 1, 1, rfl, rfl, hb, rfl, ?_⟩
      have hb1 : upd H b (.lst ([V.ref s, .int i].set 1 (.int (i + 1)))) b = some (.lst [.ref s, .int (i + 1)]) := upd_same
      have hs1 : upd H b (.lst ([V.ref s, .int i].set 1 (.int (i + 1)))) s = some (.lst (ns.map V.int)) := by
        rw [upd_ne nsb]
        exact hs
      have x1 : ExtS b s H (upd H b (.lst ([V.ref s, .int i].set 1 (.int (i + 1))))) := fun x o h1 _ h => by
        rw [upd_ne h1]
        exact h
      generalize upd H b (.lst ([V.ref s, .int i].set 1 (.int (i + 1)))) = H1 at hb1 hs1 x1 ⊢
      refine ⟨_, rfl, _, _, rfl, rfl, ⟨by decide, by decide, by decide⟩, _, _, rfl, rfl, _, rfl, ?_⟩
      by_cases hc : c ≥ 10 ^ (18 : Int).toNat
      · rw [decide_eq_true hc]
        refine iteT ⟨_, rfl, _, rfl, _, _, rfl, rfl, ⟨by omega, by omega⟩, _, rfl, _, rfl, s, _, _, j, rfl, rfl, hs1, (by rw [hj']; exact Evl.ixN_nat (by rw [List.length_map]; exact hjl)), ?_⟩
        refine ⟨_, rfl, .inl ⟨_, rfl, _, rfl, _, _, rfl, rfl, (by show L ≠ 0; omega), ?_⟩⟩
        refine k _ _ (Int.fmod_nonneg_of_pos _ (by omega)) (Int.fmod_lt_of_pos _ (by omega)) ⟨ns.set j (c.fdiv L), i + 1, by rw [upd_ne nsb.symm]; exact hb1, ?_, by rw [List.length_set]; exact n63, by omega, by omega⟩ fun x o h1 h2 h => ?_
        · rw [upd_same, List.map_set]
        · rw [upd_ne h2]
          exact x1 x o h1 h2 h
      · rw [decide_eq_false hc]
        refine iteF ?_
        refine ⟨_, rfl, _, _, rfl, rfl, .inr ⟨by decide, by decide⟩, _, rfl, b, _, 1, .int (i + 1), rfl, rfl, SqL.of hb1, rfl, _, _, rfl, rfl, .inr ⟨by decide, by decide⟩, _, _, rfl, rfl, _, _, rfl, rfl, .inl ⟨_, rfl, _, _, rfl, rfl, (by show (0 : Int) < 2147483647; decide), ?_⟩⟩
        refine ⟨_, rfl, _, _, rfl, rfl, .inr ⟨by decide, by decide⟩, _, rfl, b, _, 1, .int (i + 1), rfl, rfl, SqL.of hb1, rfl, _, _, rfl, rfl, .inr ⟨by decide, by decide⟩, _, _, rfl, rfl, .inl ⟨_, rfl, _, _, rfl, rfl, (by show (0 : Int) < 2147483629; decide), _, rfl, _, _, rfl, rfl, (by show L ≠ 0; omega), ?_⟩⟩
        exact k _ _ (Int.fmod_nonneg_of_pos _ (by omega)) (Int.fmod_lt_of_pos _ (by omega)) ⟨ns, i + 1, hb1, hs1, n63, by omega, by omega⟩ x1
theorem mk_way0 {H1 : Hp} {d : Wd} {R : VK} {E : XK} {x0 dx : Addr} (T : Txt K mg A) (hx0 : H1 x0 = none) (hdx : H1 dx = none) (hne : dx ≠ x0) (hb : bOk d.1) (hd : 1 ≤ d.2.1 ∧ d.2.1 ≤ d.2.2 ∧ d.2.2 ≤ 50)
    (q : ∀ H', Ext H1 H' → WayD K A H' x0 d → R .non H') : spWayInit K A (.ref x0 :: [bV d.1, .int d.2.1, .int d.2.2, .ref A.T0]) (upd (upd H1 dx (.own x0)) x0 (.ins A.Way dx [])) R E := by
  have e0 := (Ext.upd (o := .own x0) hdx).upd' (o := .ins A.Way dx []) (by rw [upd_ne hne.symm]; exact hx0)
  have due := due_ok (bs := []) (x := .tuple []) hb hd (.inr rfl) (Nat.zero_le _) (fun q h => nomatch h)
  refine ⟨x0, dx, bV d.1, .int d.2.1, .int d.2.2, .ref A.T0, bD d.1, .int d.2.1, .int d.2.2, .tuple [], rfl, upd_same, bV_dp _, .int _, .int _, .tup (T.t0 _) .nil, fun s hs => (by rw [due] at hs; cases hs), fun i hi => (by rw [due] at hi; cases hi), fun _ ds H' hds hw hB => ?_⟩
  cases hds
  obtain ⟨T2, ys, h1, h2, h3⟩ := hw
  exact q H' (fun a o h => hB a o (ne_of_none h hx0) (e0 a o h)) ⟨dx, T2, ys, h1, h2, h3⟩
theorem sqT_mutL {H H' : Hp} {D a : Addr} {ys xs : List V} (hD : H D = some (.lst ys)) (e : ∀ x o, x ≠ D → H x = some o → H' x = some o) (h : SqT K H a xs) : SqT K H' a xs := by
  rcases h with (h | ⟨o, h⟩) | h
  · exact .inl (.inl (e a _ (fun z => by rw [z, hD] at h; cases h) h))
  · exact .inl (.inr ⟨o, e a _ (fun z => by rw [z, hD] at h; cases h) h⟩)
  · exact .inr h
theorem wd_mut {H H' : Hp} {D p : Addr} {ys : List V} {d : Wd} (hD : H D = some (.lst ys)) (e : ∀ x o, x ≠ D → H x = some o → H' x = some o) (h : WayD K A H p d) : WayD K A H' p d := by
  obtain ⟨dx, T, xs, h1, h2, h3⟩ := h
  have h3' : DpAll K H xs [] := h3
  cases h3'
  exact ⟨dx, T, _, e _ _ (fun z => by rw [z, hD] at h1; cases h1) h1, sqT_mutL hD e h2, .nil⟩
theorem Ways.mut {H H' : Hp} {D : Addr} {ys ws : List V} {ds : List Wd} (hD : H D = some (.lst ys)) (e : ∀ x o, x ≠ D → H x = some o → H' x = some o) (h : Ways K A H ws ds) : Ways K A H' ws ds := ⟨h.1, fun i x d h1 h2 => by
  obtain ⟨q, e1, w⟩ := h.2 i x d h1 h2
  exact ⟨q, e1, wd_mut hD e w⟩⟩
theorem Ways.snoc {H : Hp} {ws : List V} {ds : List Wd} {q : Addr} {d : Wd} (h : Ways K A H ws ds) (w : WayD K A H q d) : Ways K A H (ws ++ [.ref q]) (ds ++ [d]) := by
  refine ⟨by rw [List.length_append, List.length_append, h.1]; rfl, fun i x e h1 h2 => ?_⟩
  by_cases hi : i < ws.length
  · rw [List.getElem?_append_left hi] at h1
    rw [List.getElem?_append_left (by rw [← h.1]; exact hi)] at h2
    exact h.2 i x e h1 h2
  · rw [List.getElem?_append_right (by omega)] at h1
    rw [List.getElem?_append_right (by rw [← h.1]; omega), ← h.1] at h2
    cases z : i - ws.length with
    | zero =>
      rw [z] at h1 h2
      cases h1
      cases h2
      exact ⟨q, rfl, w⟩
    | succ j =>
      rw [z] at h1
      cases h1
end
end K18

set_option Elab.async false
set_option maxRecDepth 100000
set_option maxHeartbeats 4000000
namespace K18
open PySem PySem.Spec PyProof.Rows L2
def nI (j : Nat) : V := .int (j : Int)
theorem small_sz {n : Nat} (h : n ≤ 2000) : n < sizeLine := Nat.lt_of_le_of_lt h (by decide)
theorem inV_nI (k : Nat) : ∀ ns : List Nat, inV (nI k) (ns.map nI) = decide (k ∈ ns) := fun ns => by
  have : ns.map nI = (ns.map fun (i : Nat) => (i : Int)).map V.int := by
    rw [List.map_map]
    rfl
  rw [this]
  have z := inV_ints (k : Int) (ns.map fun (i : Nat) => (i : Int))
  rw [show inV (nI k) ((ns.map fun (i : Nat) => (i : Int)).map V.int) = _ from z]
  refine decide_eq_decide.mpr ⟨fun h => ?_, fun h => List.mem_map.mpr ⟨k, h, rfl⟩⟩
  obtain ⟨i, hi, e⟩ := List.mem_map.mp h
  have : i = k := by omega
  rw [← this]
  exact hi
theorem flat_nI (ns : List Nat) : (ns.map nI).all flatV = true := by
  rw [List.all_eq_true]
  intro v hv
  obtain ⟨n, _, rfl⟩ := List.mem_map.mp hv
  rfl
def natsD (ns : List Nat) : List PyData := ns.map fun (n : Nat) => PyData.int (n : Int)
theorem nats_lay : ∀ ns : List Nat, PyData.canLayAll0 (natsD ns) = true ∧ PyData.depthAll (natsD ns) = 0
  | [] => ⟨rfl, rfl⟩
  | n :: ns => by
    obtain ⟨h1, h2⟩ := nats_lay ns
    refine ⟨?_, ?_⟩
    · show (true && PyData.canLayAll0 (natsD ns)) = true
      rw [h1]
      rfl
    · show max 0 (PyData.depthAll (natsD ns)) = 0
      rw [h2]
      rfl
abbrev Lo := Nat × List Nat
def LoAt (H : Hp) (v : V) (lo : Lo) : Prop := match lo.1 with
  | 0 => ∃ t, v = .ref t ∧ H t = some (.tup (lo.2.map nI))
  | 1 => ∃ t, v = .ref t ∧ H t = some (.lst (lo.2.map nI))
  | 2 => ∃ t, v = .ref t ∧ H t = some (.tup (lo.2.map nI ++ [.bl true]))
  | _ => v = .non
theorem LoAt.ext {H H' : Hp} {v : V} {lo : Lo} (h : LoAt H v lo) (e : Ext H H') : LoAt H' v lo := by
  obtain ⟨k, ns⟩ := lo
  rcases k with _ | _ | _ | k
  · obtain ⟨t, h1, h2⟩ := h; exact ⟨t, h1, e _ _ h2⟩
  · obtain ⟨t, h1, h2⟩ := h; exact ⟨t, h1, e _ _ h2⟩
  · obtain ⟨t, h1, h2⟩ := h; exact ⟨t, h1, e _ _ h2⟩
  · exact h
def loD (lo : Lo) : PyData := match lo.1 with
  | 0 => .tuple (natsD lo.2)
  | 1 => .list (natsD lo.2)
  | 2 => .tuple (natsD lo.2 ++ [.bool true])
  | _ => .none
def upB (ns : List Nat) : Bool := (List.range (ns.length - 1)).all fun i => decide (ns.getD i 0 < ns.getD (i + 1) 0)
def inB (n : Nat) (ns : List Nat) : Bool := ns.all fun x => decide (x < n)
def lotV (n : Nat) (lo : Lo) : Bool := decide (lo.1 = 0) && (inB n lo.2 && upB lo.2)
theorem bet_nat {x n : Nat} : betD (.int (x : Int)) 0 ((n : Int) - 1) = decide (x < n) := by
  rw [bet_int, decide_eq_true (show (0 : Int) ≤ (x : Int) by omega), Bool.true_and]
  exact decide_eq_decide.mpr ⟨fun h => by omega, fun h => by omega⟩
section
variable {P : Program} {w : World} {K : PySem.W.Frag} {mg : Str → Option Value} {base : Heap} {A : Ad}
theorem nats_dp {H : Hp} : ∀ ns : List Nat, DpAll K H (ns.map nI) (natsD ns)
  | [] => .nil
  | _ :: ns => .cons (.int _) (nats_dp ns)
theorem lo_dp {H : Hp} {v : V} {lo : Lo} (h : LoAt H v lo) : Dp K H v (loD lo) := by
  obtain ⟨k, ns⟩ := lo
  rcases k with _ | _ | _ | k
  · obtain ⟨t, rfl, h2⟩ := h; exact .tup (SqT.of h2) (nats_dp ns)
  · obtain ⟨t, rfl, h2⟩ := h; exact .lst (SqL.of h2) (nats_dp ns)
  · obtain ⟨t, rfl, h2⟩ := h
    refine .tup (SqT.of h2) ?_
    show DpAll K H (ns.map nI ++ [.bl true]) (natsD ns ++ [.bool true])
    clear h2
    induction ns with
    | nil => exact .cons (.bl _) .nil
    | cons n ns ih => exact .cons (.int _) ih
  · cases h; exact .non
def spRise (K : PySem.W.Frag) : Sp := fun vs H Q _ => ∃ (t : Addr) (ns : List Nat) (b : Bool) (n : Nat), vs = [.ref t, .int (n : Int)] ∧ H t = some (.tup (ns.map nI ++ (if b = true then [.bl true] else []))) ∧ ns.length ≤ 1000 ∧ ∀ H', Ext H H' → Q (.bl (!b && (inB n ns && upB ns))) H'
theorem ok_rise {f : Addr} {fd : FuncData} (F : Fun K "are_rising_indexes" "are_rising_indexes" s_are_rising_indexes f fd) (T : Txt K mg A) (O_is_index : Own P w K mg base CX0 "is_index" 3 pm_is_index (spIndex K)) : FnOk P w K mg base CX0 4 f fd pm_are_rising_indexes (spRise K) := by
  refine F.ok sc_are_rising_indexes (fun vs H Q E h => ?_) (fun cdv A' outer s H vs Q E hr h => ?_)
  · obtain ⟨_, _, _, _, rfl, _⟩ := h
    rfl
  · obtain ⟨t, ns, b, n, rfl, ht, hsm, k⟩ := h
    refine ⟨_, pss_cons (ps_if (pt_not (pt_val (pe_callB (cr_all rfl) (by rfl) T.n_all (by decide +kernel) (pa_cons (pe_lc (own := [("value", 2)]) (g := gName 2) (by rfl) sc_are_rising_indexes.nd (pi_tup (pv 0)) (blkOk_by (own := [("value", 2)]) (N := nm_are_rising_indexes) (sc := defScope s_are_rising_indexes) (by decide +kernel)) (fun _ _ _ _ _ => pg_name (i := 2) sc_are_rising_indexes.nd rfl (Or.inl rfl)) (fun s1 H1 C1 cl fp => pts_nil) (fun s1 H1 C1 cl fp => pe_own O_is_index (hr.mono (by decide)) pass0 (pa_cons (pv 2) (pa_cons (pv 1) pa_nil)))) pa_nil)))) (pss_one (ps_ret (pe_bl))) (pss_nil))
      (pss_one (ps_ret (pe_callB (cr_all rfl) (by rfl) T.n_all (by decide +kernel) (pa_cons (pe_lc (own := [("one", 3), ("other", 4)]) (g := gTup K 2 (gCons (gName 3) (gCons (gName 4) (gNil)))) (by rfl) sc_are_rising_indexes.nd (RZ.pi_zipA (by rfl) T.n_zip (pa_cons (pv 0) (pa_cons (pe_slice sl_tupE (pv 0) (po_some (pe_int)) po_none) pa_nil))) (blkOk_by (own := [("one", 3), ("other", 4)]) (N := nm_are_rising_indexes) (sc := defScope s_are_rising_indexes) (by decide +kernel)) (fun _ _ _ _ _ => pg_tup rfl (pgs_cons (pg_name (i := 3) sc_are_rising_indexes.nd rfl (Or.inl rfl)) (pgs_cons (pg_name (i := 4) sc_are_rising_indexes.nd rfl (Or.inl rfl)) (pgs_nil)))) (fun s1 H1 C1 cl fp => pts_nil) (fun s1 H1 C1 cl fp => pe_cmpR op_lt (pv 3) (pv 4) (nomark _))) pa_nil)))), ?_⟩
    have hall : ∀ (i : Nat) (x : V), (ns.map nI ++ (if b = true then [V.bl true] else []))[i]? = some x → ∃ y, Dp K H x y ∧ (List.map (fun m => decide (m < n)) ns ++ (if b = true then [false] else []))[i]? = some (betD y 0 ((n : Int) - 1)) := fun i x hx => by
      by_cases hi : i < ns.length
      · rw [List.getElem?_append_left (by rw [List.length_map]; exact hi), List.getElem?_map] at hx
        obtain ⟨m, hm, rfl⟩ := Option.map_eq_some_iff.mp hx
        refine ⟨.int (m : Int), .int _, ?_⟩
        rw [List.getElem?_append_left (by rw [List.length_map]; exact hi), List.getElem?_map, hm, bet_nat]
        rfl
      · rw [List.getElem?_append_right (by rw [List.length_map]; omega), List.length_map] at hx
        cases b with
        | false =>
          rw [if_neg (by decide)] at hx
          cases hx
        | true =>
          rw [if_pos rfl] at hx
          rw [List.getElem?_append_right (by rw [List.length_map]; omega), List.length_map, if_pos rfl]
          rcases hj : i - ns.length with _ | j
          · rw [hj] at hx
            cases hx
            exact ⟨.bool true, .bl _, rfl⟩
          · rw [hj] at hx
            cases hx
    have hlen : (ns.map nI ++ (if b = true then [V.bl true] else [])).length = (List.map (fun m => decide (m < n)) ns ++ (if b = true then [false] else [])).length := by
      cases b <;> simp
    have hl2 : (ns.map nI ++ (if b = true then [V.bl true] else [])).length ≤ 1001 := by
      cases b <;> simp <;> omega
    have hval : (List.map (fun m => decide (m < n)) ns ++ (if b = true then [false] else [])).all id = (!b && inB n ns) := by
      cases b <;> simp [inB, List.all_map]
    refine ⟨_, rfl, t, rfl, ⟨_, SqT.of ht⟩, fun C hC => ?_⟩
    refine lc_it (walk_tup (xs := ns.map nI ++ (if b = true then [V.bl true] else []))) (fun i H' => Ext H H' ∧ H' C = some (.lst (((List.map (fun m => decide (m < n)) ns ++ (if b = true then [false] else [])).take i).map V.bl))) ⟨Ext.upd hC, upd_same⟩ (fun i H' _ pv => SqT.of (pv.1 _ _ ht)) (fun i x H' H2 hi pv hy => ?_) (fun H' pv => ?_)
    · obtain ⟨e2, hC2⟩ := pv
      obtain ⟨rfl, hx⟩ := hy
      obtain ⟨y, hdy, hb⟩ := hall i x hx
      refine ⟨rfl, _, rfl, _, rfl, x, y, (n : Int), rfl, dp_ext e2 _ _ hdy, _, hC2, small_sz ?_, ext_mut e2 hC, ?_⟩
      · rw [List.length_map, List.length_take]
        omega
      · rw [upd_same, take_snoc hb, List.map_append]
        rfl
    · obtain ⟨e2, hC2⟩ := pv
      rw [hlen, List.take_length] at hC2
      refine ⟨C, _, rfl, SqL.of hC2, _, rfl, ?_⟩
      rw [hval]
      cases b with
      | true =>
        have z := k H' e2
        rw [Bool.not_true, Bool.false_and] at z
        rw [Bool.not_true, Bool.false_and]
        exact iteT z
      | false =>
        have z := k H' e2
        rw [Bool.not_false, Bool.true_and] at z
        rw [Bool.not_false, Bool.true_and]
        have ht2 : H' t = some (.tup (ns.map nI)) := by
          have := e2 _ _ ht
          rw [if_neg (by decide), List.append_nil] at this
          exact this
        cases hin : inB n ns with
        | false =>
          rw [hin] at z
          exact iteT z
        | true =>
          rw [hin, Bool.true_and] at z
          refine iteF ⟨_, rfl, _, rfl, 1, rfl, t, _, rfl, ht2, fun p H3 e3 hp => ?_⟩
          have hcut : cutV (ns.map nI) (some ((1 : Nat) : Int)) none = (ns.map nI).drop 1 := by
            show ((ns.map nI).drop (if ((1 : Nat) : Int) < 0 then (((1 : Nat) : Int) + ((ns.map nI).length : Int)).toNat else min (((1 : Nat) : Int).toNat) (ns.map nI).length)).take ((ns.map nI).length - (if ((1 : Nat) : Int) < 0 then (((1 : Nat) : Int) + ((ns.map nI).length : Int)).toNat else min (((1 : Nat) : Int).toNat) (ns.map nI).length)) = _
            rw [if_neg (by omega)]
            rcases ns with _ | ⟨m, ns⟩
            · rfl
            · rw [show min ((1 : Nat) : Int).toNat (List.map nI (m :: ns)).length = 1 by simp]
              exact List.take_of_length_le (by simp)
          rw [show (1 : Int) = ((1 : Nat) : Int) from rfl, hcut] at hp
          have hml : ns.length - 1 = min (ns.map nI).length ((ns.map nI).drop 1).length := by
            rw [List.length_drop, List.length_map]
            omega
          refine ⟨t, p, _, _, rfl, .inr ⟨SqT.of (e3 _ _ ht2), SqT.of hp, ?_⟩⟩
          refine lc_zipR (n := ns.length - 1) (b := fun _ => true) (f := fun i => V.bl (decide (ns.getD i 0 < ns.getD (i + 1) 0))) (SqT.of (e3 _ _ ht2)) (SqT.of hp) hml (small_sz (by omega)) (fun x y => rfl) (fun i x y hi hx hy H' e' Q' q' => q' H' Ext.rfl') (fun i x y hi hx hy _ H' e' Q' q' => ?_) (fun B H7 hB e7 hlB => ?_)
          · have hi1 : i + 1 < ns.length := by omega
            rw [List.getElem?_map, List.getElem?_eq_getElem (by omega)] at hx
            rw [List.getElem?_drop, List.getElem?_map, List.getElem?_eq_getElem (by omega)] at hy
            cases hx
            cases hy
            refine ⟨_, rfl, _, rfl, _, _, rfl, rfl, ?_⟩
            have g1 : ns.getD i 0 = ns[i] := by rw [List.getD_eq_getElem?_getD, List.getElem?_eq_getElem (by omega)]; rfl
            have g2 : ns.getD (i + 1) 0 = ns[1 + i] := by rw [List.getD_eq_getElem?_getD, List.getElem?_eq_getElem (by omega)]; simp [Nat.add_comm]
            have hz := q' H' Ext.rfl'
            rw [g1, g2] at hz
            have : decide ((ns[i] : Int) < (ns[1 + i] : Int)) = decide (ns[i] < ns[1 + i]) := decide_eq_decide.mpr ⟨fun h => by omega, fun h => by omega⟩
            show Q' (V.bl (decide ((ns[i] : Int) < (ns[1 + i] : Int)))) H'
            rw [this]
            exact hz
          · rw [List.filter_eq_self.mpr (fun _ _ => rfl), show (List.range (ns.length - 1)).map (fun i => V.bl (decide (ns.getD i 0 < ns.getD (i + 1) 0))) = ((List.range (ns.length - 1)).map fun i => decide (ns.getD i 0 < ns.getD (i + 1) 0)).map V.bl by rw [List.map_map]; rfl] at hlB
            refine ⟨B, _, rfl, SqL.of hlB, ?_⟩
            have : ((List.range (ns.length - 1)).map fun i => decide (ns.getD i 0 < ns.getD (i + 1) 0)).all id = upB ns := by
              rw [List.all_map]
              rfl
            rw [this]
            have z2 := k H7 ((e2.trans e3).trans e7)
            rw [Bool.not_false, Bool.true_and, hin, Bool.true_and] at z2
            exact z2
def spLot (K : PySem.W.Frag) : Sp := fun vs H Q _ => ∃ (v : V) (lo : Lo) (n : Nat), vs = [v, .int (n : Int)] ∧ LoAt H v lo ∧ lo.2.length ≤ 1000 ∧ ∀ H', Ext H H' → Q (.bl (lotV n lo)) H'
theorem ok_lot {f : Addr} {fd : FuncData} (F : Fun K "is_lot" "is_lot" s_is_lot f fd) (T : Txt K mg A) (O_are_rising_indexes : Own P w K mg base CX0 "are_rising_indexes" 4 pm_are_rising_indexes (spRise K)) : FnOk P w K mg base CX0 5 f fd pm_is_lot (spLot K) := by
  refine F.ok sc_is_lot (fun vs H Q E h => ?_) (fun cdv A' outer s H vs Q E hr h => ?_)
  · obtain ⟨_, _, _, rfl, _⟩ := h
    rfl
  · obtain ⟨v, lo, n, rfl, hlo, hsm, k⟩ := h
    refine ⟨_, pss_one (ps_ret (pe_and (pe_callB call_isi (by rfl) T.n_isinstance (by decide +kernel) (pa_cons (pv 0) (pa_cons (pe_bltn (v := .ty "tuple") (by rfl) T.n_tuple (by decide +kernel) rfl) pa_nil))) (pe_one (pe_own O_are_rising_indexes (hr.mono (by decide)) pass0 (pa_cons (pv 0) (pa_cons (pv 1) pa_nil)))))), ?_⟩
    refine ⟨v, rfl, v, .ty "tuple", .type (tnD (loD lo)), .type "tuple", isTupD (loD lo), rfl, .ty _, dp_ty (lo_dp hlo), kd_tup, _, rfl, ?_⟩
    obtain ⟨kk, ns⟩ := lo
    rcases kk with _ | _ | _ | kk
    · obtain ⟨t, rfl, ht⟩ := hlo
      refine iteT ⟨_, rfl, _, rfl, t, ns, false, n, rfl, ?_, hsm, fun H1 e1 => k H1 e1⟩
      rw [if_neg (by decide), List.append_nil]
      exact ht
    · exact iteF (k H Ext.rfl')
    · obtain ⟨t, rfl, ht⟩ := hlo
      refine iteT ⟨_, rfl, _, rfl, t, ns, true, n, rfl, ?_, hsm, fun H1 e1 => k H1 e1⟩
      rw [if_pos rfl]
      exact ht
    · exact iteF (k H Ext.rfl')
end
end K18

set_option Elab.async false
set_option maxRecDepth 100000
set_option maxHeartbeats 4000000
namespace K18
open PySem PySem.Spec PyProof.Rows L2
theorem at_d {ds : List Wd} {j : Nat} {d : Wd} (h : ds[j]? = some d) : has ds j = d.1.isSome ∧ bg ds j = d.1.getD 0 ∧ ls ds j = d.2.1 ∧ ms ds j = d.2.2 := by
  unfold has bg ls ms
  rw [h]
  exact ⟨rfl, rfl, rfl, rfl⟩
theorem nat_nodup {ns : List Nat} {l : List Int} (hl : l.Nodup) (hm : ∀ k, k ∈ l ↔ k ∈ ns.map fun n : Nat => (n : Int)) : decide (l.length = ns.length) = decide ns.Nodup := by
  have inj : ∀ {ms : List Nat}, ms.Nodup → (ms.map fun n : Nat => (n : Int)).Nodup := fun {ms} h => by
    rw [List.nodup_iff_pairwise_ne, List.pairwise_map]
    rw [List.nodup_iff_pairwise_ne] at h
    exact h.imp fun h e => h (by omega)
  refine decide_eq_decide.mpr ⟨fun h => ?_, fun h => ?_⟩
  · -- as many members as entries: none twice
    have h1 : ∀ {ms : List Nat}, ¬ ms.Nodup → ∃ ks : List Nat, ks.length < ms.length ∧ ∀ k ∈ ms, k ∈ ks := fun {ms} => by
      induction ms with
      | nil => intro h; exact absurd List.nodup_nil h
      | cons a ms ih =>
        intro h
        rw [List.nodup_cons] at h
        by_cases ha : a ∈ ms
        · exact ⟨ms, by simp, fun k hk => by
            rcases List.mem_cons.mp hk with e | e
            · rw [e]; exact ha
            · exact e⟩
        · obtain ⟨ks, h2, h3⟩ := ih fun z => h ⟨ha, z⟩
          exact ⟨a :: ks, by simp; omega, fun k hk => by
            rcases List.mem_cons.mp hk with e | e
            · rw [e]; exact List.mem_cons_self
            · exact List.mem_cons_of_mem _ (h3 k e)⟩
    by_cases hn : ns.Nodup
    · exact hn
    · exfalso
      obtain ⟨ks, h2, h3⟩ := h1 hn
      have := nodup_le hl (m := ks.map fun n : Nat => (n : Int)) fun x hx => by
        obtain ⟨k, hk, rfl⟩ := List.mem_map.mp ((hm x).mp hx)
        exact List.mem_map.mpr ⟨k, h3 k hk, rfl⟩
      rw [List.length_map] at this
      omega
  · have h1 := nodup_le hl (m := ns.map fun n : Nat => (n : Int)) fun x hx => (hm x).mp hx
    have h2 := nodup_le (inj h) (m := l) fun x hx => (hm x).mpr hx
    rw [List.length_map] at h1 h2
    omega
section
variable {P : Program} {w : World} {K : PySem.W.Frag} {mg : Str → Option Value} {base : Heap} {A : Ad}
def unlikeV (n : Nat) (ns : List Nat) : Bool := inB n ns && decide ns.Nodup
def spUnlike : Sp := fun vs H Q _ => ∃ (L : Addr) (ns : List Nat) (n : Nat), vs = [.ref L, .int (n : Int)] ∧ H L = some (.lst (ns.map nI)) ∧ ns.length ≤ 60 ∧ ∀ H', Ext H H' → Q (.bl (unlikeV n ns)) H'
theorem ok_unlike {f : Addr} {fd : FuncData} (F : Fun K "are_unlike_ways" "are_unlike_ways" s_are_unlike_ways f fd) (T : Txt K mg A) (O_is_list : Own P w K mg base CX0 "is_list" 1 pm_is_list (spIsList K)) (O_is_index : Own P w K mg base CX0 "is_index" 3 pm_is_index (spIndex K)) : FnOk P w K mg base CX0 4 f fd pm_are_unlike_ways spUnlike := by
  refine F.ok sc_are_unlike_ways (fun vs H Q E h => ?_) (fun cdv A' outer s H vs Q E hr h => ?_)
  · obtain ⟨_, _, _, rfl, _⟩ := h
    rfl
  · obtain ⟨L, ns, n, rfl, hL, hsm, k⟩ := h
    refine ⟨_, pss_cons (ps_if (PW.pt (pw_or (pt_not (pt_val (pe_own O_is_list (hr.mono (by decide)) pass0 (pa_cons (pv 0) pa_nil)))) (pw_or1 (pt_not (pt_val (pe_callB (cr_all rfl) (by rfl) T.n_all (by decide +kernel) (pa_cons (pe_lc (own := [("way", 2)]) (g := gName 2) (by rfl) sc_are_unlike_ways.nd (pi_list (pv 0)) (blkOk_by (own := [("way", 2)]) (N := nm_are_unlike_ways) (sc := defScope s_are_unlike_ways) (by decide +kernel)) (fun _ _ _ _ _ => pg_name (i := 2) sc_are_unlike_ways.nd rfl (Or.inl rfl)) (fun s1 H1 C1 cl fp => pts_nil) (fun s1 H1 C1 cl fp => pe_own O_is_index (hr.mono (by decide)) pass0 (pa_cons (pv 2) (pa_cons (pv 1) pa_nil)))) pa_nil))))))) (pss_one (ps_ret (pe_bl))) (pss_nil))
      (pss_one (ps_ret (pe_cmpR op_eq (pe_callB cr_lenSetO (by rfl) T.n_len (by decide +kernel) (pa_cons (pe_callTy (cr_setLI rfl) (by rfl) T.n_set (by decide +kernel) (pa_cons (pv 0) pa_nil)) pa_nil)) (pe_callB call_len_seq (by rfl) T.n_len (by decide +kernel) (pa_cons (pv 0) pa_nil)) (nomark _)))), ?_⟩
    have hdp : Dp K H (.ref L) (.list (natsD ns)) := .lst (SqL.of hL) (nats_dp ns)
    have hat : ∀ (i : Nat) (x : V), (ns.map nI)[i]? = some x → ∃ m, ns[i]? = some m ∧ x = nI m := fun i x hx => by
      rw [List.getElem?_map] at hx
      obtain ⟨m, hm, rfl⟩ := Option.map_eq_some_iff.mp hx
      exact ⟨m, hm, rfl⟩
    refine ⟨_, rfl, .ref L, _, true, rfl, fun H' e => dp_ty (dp_ext e _ _ hdp), by rw [kd_seq]; rfl, fun H1 e1 => ⟨_, rfl, iteF ?_⟩⟩
    have hL1 := e1 _ _ hL
    refine ⟨_, rfl, L, rfl, ⟨_, SqL.of hL1⟩, fun C hC => ?_⟩
    refine lc_list (xs := ns.map nI) (fun i H2 => Ext H1 H2 ∧ H2 C = some (.lst (((ns.take i).map fun m => decide (m < n)).map V.bl))) ⟨Ext.upd hC, upd_same⟩ (fun i H2 _ pv => SqL.of (pv.1 _ _ hL1)) (fun i x H2 hx pv => ?_) (fun H2 pv => ?_)
    · obtain ⟨e2, hC2⟩ := pv
      obtain ⟨m, hm, rfl⟩ := hat i x hx
      refine ⟨rfl, _, rfl, _, rfl, nI m, .int (m : Int), _, rfl, .int _, _, hC2, small_sz ?_, ext_mut e2 hC, ?_⟩
      · rw [List.length_map, List.length_map, List.length_take]
        omega
      · rw [upd_same, take_snoc hm, List.map_append, List.map_append, bet_nat]
        rfl
    · obtain ⟨e2, hC2⟩ := pv
      rw [List.length_map, List.take_length] at hC2
      refine ⟨C, _, rfl, SqL.of hC2, _, rfl, ?_⟩
      have hv : (ns.map fun m => decide (m < n)).all id = inB n ns := by
        rw [List.all_map]
        rfl
      rw [hv]
      have e12 := e1.trans e2
      unfold unlikeV at k
      cases hin : inB n ns with
      | false =>
        rw [hin] at k
        exact iteT (k H2 e12)
      | true =>
        rw [hin] at k
        simp only [Bool.true_and] at k
        have hL2 := e12 _ _ hL
        have hints : (ns.map nI) = (ns.map fun m : Nat => (m : Int)).map V.int := by
          rw [List.map_map]
          rfl
        refine iteF ⟨_, rfl, L, ns.map fun m : Nat => (m : Int), rfl, ?_, by rw [List.length_map]; exact hsm, fun p c hp hc => ?_⟩
        · rw [← hints]
          exact SqL.of hL2
        · rw [List.length_map] at hc
          refine ⟨p, _, c, rfl, upd_same, by omega, fun hl => ?_⟩
          obtain ⟨l, l1, l2, l3⟩ := hl
          have e3 := Ext.upd (o := SetO w p (fun j => decide (j ∈ ns.map fun m : Nat => (m : Int))) c) hp
          refine ⟨_, rfl, L, _, rfl, .inl (SqL.of (e3 _ _ hL2)), rfl, ?_⟩
          rw [List.length_map, dvi]
          have h4 := nat_nodup l1 (ns := ns) fun k => (l3 k).trans decide_eq_true_iff
          rw [l2] at h4
          rw [show decide ((c : Int) = (ns.length : Int)) = decide (c = ns.length) from decide_eq_decide.mpr ⟨fun h => by omega, fun h => by omega⟩, h4]
          exact k _ (e12.trans e3)
def spByDelay (K : PySem.W.Frag) (A : Ad) : Sp := fun vs H Q _ => ∃ (W L : Addr) (ws : List V) (ds : List Wd) (ns : List Nat), vs = [.ref W, .ref L] ∧ H W = some (.lst ws) ∧ Ways K A H ws ds ∧ ds.length ≤ 60 ∧ H L = some (.lst (ns.map nI)) ∧ ns.length ≤ 60 ∧ ∀ D H', Ext H H' → H D = none → H' D = some (.lst ((byF (ms ds) ((List.range ds.length).filter fun j => decide (j ∈ ns)) ((List.range 50).map fun d : Nat => (1 : Int) + (d : Int))).map nI)) → Q (.ref D) H'
theorem ok_byDelay {f : Addr} {fd : FuncData} (F : Fun K "by_delay" "by_delay" s_by_delay f fd) (T : Txt K mg A) : FnOk P w K mg base CX0 1 f fd pm_by_delay (spByDelay K A) := by
  refine F.ok sc_by_delay (fun vs H Q E h => ?_) (fun cdv A' outer s H vs Q E hr h => ?_)
  · obtain ⟨_, _, _, _, _, rfl, _⟩ := h
    rfl
  · obtain ⟨W, L, ws, ds, ns, rfl, hW, hws, hsm, hL, hsl, k⟩ := h
    refine ⟨_, pss_cons (ps_set (i := 2) sc_by_delay.nd rfl (Or.inr rfl) (pe_lc (own := [("way", 3)]) (g := gName 3) (by rfl) sc_by_delay.nd (pi_range1 rfl T.n_range (pa_cons (pe_callB call_len_seq (by rfl) T.n_len (by decide +kernel) (pa_cons (pv 0) pa_nil)) pa_nil)) (blkOk_by (own := [("way", 3)]) (N := nm_by_delay) (sc := defScope s_by_delay) (by decide +kernel)) (fun _ _ _ _ _ => pg_name (i := 3) sc_by_delay.nd rfl (Or.inl rfl)) (fun s1 H1 C1 cl fp => pts_one (pt_cmpR (op_in_seqK (K := K) rfl) (pv 3) (pv 1) (by with_unfolding_all rfl))) (fun s1 H1 C1 cl fp => pv 3)))
      (pss_one (ps_ret (pe_lc2 (own := [("delay", 4), ("way", 3)]) (vs1 := [3]) (g := gName 4) (g1 := gName 3) (by rfl) sc_by_delay.nd (pi_range2 rfl T.n_range (pa_cons (pe_int) (pa_cons (pe_op op_add (pe_gint T.g_MOST_DELAY) (pe_int)) pa_nil))) (blkOk_by (own := [("delay", 4), ("way", 3)]) (N := nm_by_delay) (sc := defScope s_by_delay) (by decide +kernel)) (by decide) (fun s1 H1 C1 cl fp => pg_name (i := 4) sc_by_delay.nd rfl (Or.inl rfl)) (fun s1 H1 C1 cl fp => pts_nil) (fun s1 H1 C1 cl fp => pi_listK (K := K) rfl (pv 2)) (fun s1 H1 C1 cl fp => pg_name (i := 3) sc_by_delay.nd rfl (Or.inl rfl)) (fun s1 H1 C1 cl fp => pts_one (pt_cmpR op_eq (pe_fldK (K := K) rfl (pe_ix (ix_listK (K := K) rfl) (pv 0) (pv 3) (fun _ _ => rfl)) rfl) (pv 4) (nomark _))) (fun s1 H1 C1 cl fp => pv 3)))), ?_⟩
    refine ⟨_, rfl, W, ws, rfl, .inl (SqL.of hW), _, rfl, by omega, by rw [hws.1]; omega, fun C hC => ?_⟩
    rw [hws.1, Int.toNat_natCast]
    refine lc_range (fun i H2 => Ext H H2 ∧ H2 C = some (.lst (((List.range i).filter fun j => decide (j ∈ ns)).map nI))) ⟨Ext.upd hC, upd_same⟩ (fun i H2 hi pv => ?_) (fun H2 pv => ?_)
    · obtain ⟨e2, hC2⟩ := pv
      rw [Int.zero_add]
      refine ⟨rfl, _, rfl, _, rfl, L, _, rfl, .inl (SqL.of (e2 _ _ hL)), rfl, flat_nI _, _, rfl, ?_⟩
      rw [show inV (V.int (i : Int)) (ns.map nI) = decide (i ∈ ns) from inV_nI i _, List.range_succ, List.filter_append, List.filter_cons, List.filter_nil]
      cases hi : decide (i ∈ ns) with
      | false =>
        refine iteF ⟨e2, ?_⟩
        rw [if_neg (by decide), List.append_nil]
        exact hC2
      | true =>
        refine iteT ⟨_, rfl, _, hC2, small_sz ?_, ext_mut e2 hC, ?_⟩
        · rw [List.length_map]
          refine Nat.le_trans (List.length_filter_le _ _) ?_
          rw [List.length_range]
          omega
        · rw [upd_same, if_pos rfl, List.map_append]
          rfl
    · obtain ⟨e2, hC2⟩ := pv
      generalize hlot : (List.range ds.length).filter (fun j => decide (j ∈ ns)) = lot at hC2 k
      have hup : lot.Pairwise (· < ·) := by
        rw [← hlot]
        exact List.pairwise_lt_range.filter _
      have hin : ∀ j ∈ lot, j < ds.length := fun j hj => by
        rw [← hlot] at hj
        exact List.mem_range.mp (List.mem_filter.mp hj).1
      have hll : lot.length ≤ 60 := by
        rw [← hlot]
        refine Nat.le_trans (List.length_filter_le _ _) ?_
        rw [List.length_range]
        exact hsm
      refine ⟨_, _, rfl, rfl, 1, 51, rfl, ⟨by omega, by omega, by omega, by omega⟩, fun D hD => ?_⟩
      have hW2 := e2 _ _ hW
      have hb : ∀ (a b : Nat) (e : Int), ((byF (ms ds) lot ((List.range a).map fun d : Nat => (1 : Int) + (d : Int)) ++ ((lot.take b).filter fun j => decide (ms ds j = e))).length ≤ 2000) := fun a b e => by
        have h1 : ((List.range a).map fun d : Nat => (1 : Int) + (d : Int)).Pairwise (· < ·) := by
          rw [List.pairwise_map]
          exact List.pairwise_lt_range.imp fun h => by omega
        have h2 := nodup_le (byF_nodup (f := ms ds) h1 hup) (m := lot) fun x hx => by
          unfold byF at hx
          obtain ⟨e, _, h⟩ := List.mem_flatMap.mp hx
          exact (List.mem_filter.mp h).1
        have h3 := List.length_filter_le (fun j => decide (ms ds j = e)) (lot.take b)
        rw [List.length_take] at h3
        rw [List.length_append]
        omega
      refine steps_range (lo := 1) (n := 50) (fun a H6 => Ext H2 H6 ∧ H6 D = some (.lst ((byF (ms ds) lot ((List.range a).map fun d : Nat => (1 : Int) + (d : Int))).map nI))) ⟨Ext.upd hD, upd_same⟩ (fun a H6 ha pv => ?_) (fun H6 pv => ?_)
      · obtain ⟨e6, hD6⟩ := pv
        refine ⟨rfl, _, rfl, C, rfl, ⟨_, SqL.of (e6 _ _ hC2)⟩, ?_⟩
        refine steps_list (xs := lot.map nI) (fun b H7 => Ext H2 H7 ∧ H7 D = some (.lst ((byF (ms ds) lot ((List.range a).map fun d : Nat => (1 : Int) + (d : Int)) ++ ((lot.take b).filter fun j => decide (ms ds j = 1 + (a : Int)))).map nI))) ⟨e6, by rw [List.take_zero, List.filter_nil, List.append_nil]; exact hD6⟩ (fun b H7 _ pv => SqL.of (pv.1 _ _ hC2)) (fun b x H7 hx pv => ?_) (fun H7 pv => ?_)
        · obtain ⟨e7, hD7⟩ := pv
          rw [List.getElem?_map] at hx
          obtain ⟨j, hj, rfl⟩ := Option.map_eq_some_iff.mp hx
          have hjn := hin j (List.mem_of_getElem? hj)
          obtain ⟨d, hd⟩ : ∃ d, ds[j]? = some d := ⟨_, List.getElem?_eq_getElem hjn⟩
          obtain ⟨x, hxw⟩ : ∃ x, ws[j]? = some x := ⟨_, List.getElem?_eq_getElem (by rw [hws.1]; exact hjn)⟩
          obtain ⟨q, rfl, hwq⟩ := hws.2 j x d hxw hd
          have e07 := e2.trans e7
          obtain ⟨dq, Tq, xq, hq, _, _⟩ := id (hwq.ext e07)
          refine ⟨rfl, _, rfl, _, rfl, W, ws, (j : Int), .ref q, rfl, rfl, SqL.of (e07 _ _ hW), atI_nat hxw, q, A.Way, dq, _, _, rfl, hq, T.Way.cl, T.w_most, rfl, _, rfl, rfl, _, rfl, ?_⟩
          rw [dvi, ← (at_d hd).2.2.2, take_snoc hj, List.filter_append, List.filter_cons, List.filter_nil]
          cases hme : decide (ms ds j = 1 + (a : Int)) with
          | false =>
            refine iteF ⟨e7, ?_⟩
            rw [if_neg (by decide), List.append_nil]
            exact hD7
          | true =>
            refine iteT ⟨_, rfl, _, hD7, small_sz ?_, ext_mut e7 hD, ?_⟩
            · rw [List.length_map]
              exact hb a b _
            · rw [upd_same, if_pos rfl, ← List.append_assoc, List.map_append (l₂ := [j])]
              rfl
        · obtain ⟨e7, hD7⟩ := pv
          rw [List.length_map, List.take_length] at hD7
          refine ⟨e7, ?_⟩
          rw [List.range_succ, List.map_append]
          unfold byF at hD7 ⊢
          rw [List.flatMap_append]
          simpa using hD7
      · obtain ⟨e6, hD6⟩ := pv
        exact k D H6 (e2.trans e6) (ext_none e2 hD) hD6
end
end K18

set_option Elab.async false
set_option maxRecDepth 100000
set_option maxHeartbeats 4000000
namespace K18
open PySem PySem.Spec PyProof.Rows L2
/-- what check_begins refuses -/
def dueB (m : Nat) (ns : List Nat) (z g : Int) : Option Str :=
  if ¬ (1 ≤ m ∧ m ≤ 4) then some "ways" else if unlikeV m ns = false then some "allowed" else if ¬ (0 ≤ z ∧ z ≤ 3) then some "silent" else if ¬ (0 ≤ g ∧ g ≤ 500) then some "gap" else if (ns.length : Int) ≤ z then some "allowed" else none
section
variable {P : Program} {w : World} {K : PySem.W.Frag} {mg : Str → Option Value} {base : Heap} {A : Ad}
theorem wd_ins {H : Hp} {a : Addr} {d : Wd} (h : WayD K A H a d) : ∃ dx fs, H a = some (.ins A.Way dx fs) := by
  obtain ⟨dx, T, xs, h1, _⟩ := h
  exact ⟨dx, _, h1⟩
def Giv (K : PySem.W.Frag) (A : Ad) (H : Hp) (v : V) (t : Value) (k : Bool) (xs : List V) (g : V → Bool) : Prop := (∀ H', Ext H H' → TyX K H' v t) ∧ PySem.W.kitAny K t [.type "list", .type "tuple"] = some k ∧ (k = true → ∃ p, v = .ref p ∧ (SqL K H p xs ∨ SqT K H p xs)) ∧ xs.length ≤ 1000 ∧
  (∀ x ∈ xs, ∃ tx, (∀ H', Ext H H' → TyX K H' x tx) ∧ PySem.W.kitOne K tx (.ref A.Way) = some (g x))
theorem giv_lst {H : Hp} {a : Addr} {xs : List V} {g : V → Bool} (h : H a = some (.lst xs)) (hz : xs.length ≤ 1000) (hx : ∀ x ∈ xs, ∃ tx, (∀ H', Ext H H' → TyX K H' x tx) ∧ PySem.W.kitOne K tx (.ref A.Way) = some (g x)) : ∃ t, Giv K A H (.ref a) t true xs g := ⟨.type "list", fun H' e => .base (.lst (e _ _ h)), by
    have z := kd_seq (K := K) (d := .list [])
    exact z, fun _ => ⟨a, rfl, .inl (SqL.of h)⟩, hz, hx⟩
theorem ways_kit {H : Hp} {ps : List V} {ds : List Wd} (T : Txt K mg A) (h : Ways K A H ps ds) : ∀ x ∈ ps, ∃ q dx fs, x = .ref q ∧ H q = some (.ins A.Way dx fs) := fun x hx => by
  obtain ⟨i, hi⟩ := List.mem_iff_getElem?.mp hx
  have hl : i < ds.length := by rw [← h.1]; exact (List.getElem?_eq_some_iff.mp hi).1
  obtain ⟨q, e, w⟩ := h.2 i x _ hi (List.getElem?_eq_getElem hl)
  obtain ⟨dx, fs, e0⟩ := wd_ins w
  exact ⟨q, dx, fs, e, e0⟩
theorem ways_id {H : Hp} {ps : List V} {ds : List Wd} (T : Txt K mg A) (h : Ways K A H ps ds) : ∀ x ∈ ps, ∃ tx, (∀ H', Ext H H' → TyX K H' x tx) ∧ PySem.W.kitOne K tx (.ref A.Way) = some (decide (x ∈ ps)) := fun x hm => by
  obtain ⟨q, dx, fs, rfl, e0⟩ := ways_kit T h x hm
  rw [decide_eq_true hm]
  exact ⟨.ref A.Way, fun H' e => T.Way.tyOf (e _ _ e0), T.Way.me⟩
theorem all_mem {ps : List V} : (ps.all fun x => decide (x ∈ ps)) = true := by
  rw [List.all_eq_true]
  intro x hx
  exact decide_eq_true hx
theorem Giv.ext {H H' : Hp} {v : V} {t : Value} {k : Bool} {xs : List V} {g : V → Bool} (h : Giv K A H v t k xs g) (e : Ext H H') : Giv K A H' v t k xs g := by
  obtain ⟨h1, h2, h3, h4, h5⟩ := h
  refine ⟨fun H2 e2 => h1 H2 (e.trans e2), h2, fun z => ?_, h4, fun x hx => ?_⟩
  · obtain ⟨p, r, q⟩ := h3 z
    exact ⟨p, r, q.imp (fun h => h.ext e) (fun h => h.ext e)⟩
  · obtain ⟨tx, t1, t2⟩ := h5 x hx
    exact ⟨tx, fun H2 e2 => t1 H2 (e.trans e2), t2⟩
def BpE (A : Ad) (E : XK) (H : Hp) (v : Str) : Prop := ∀ H', Ext H H' → ∀ e, H' e = none → E (.ref A.BadPart) (some e) (upd H' e (.xd [("part", .str v)]))
def spCheckB (K : PySem.W.Frag) (A : Ad) : Sp := fun vs H Q E => ∃ (W L : Addr) (ws : List V) (ds : List Wd) (ns : List Nat) (z g : Int), vs = [.ref W, .ref L, .int z, .int g] ∧ H W = some (.lst ws) ∧ Ways K A H ws ds ∧ ds.length ≤ 60 ∧ H L = some (.lst (ns.map nI)) ∧ ns.length ≤ 60 ∧ (∀ s, dueB ds.length ns z g = some s → BpE A E H s) ∧ (dueB ds.length ns z g = none → ∀ H', Ext H H' → Q .non H')
theorem ok_checkB {f : Addr} {fd : FuncData} (F : Fun K "check_begins" "check_begins" s_check_begins f fd) (T : Txt K mg A) (O_check_ways : Own P w K mg base (L2.CX P w) "check_ways" 4 pm_check_ways (spCheckWays K A)) (O_are_unlike_ways : Own P w K mg base CX0 "are_unlike_ways" 4 pm_are_unlike_ways spUnlike) (O_check_silent : Own P w K mg base (L2.CX P w) "check_silent" 4 pm_check_silent (spCheckSilent K A)) (O_is_between : Own P w K mg base CX0 "is_between" 2 pm_is_between (spBetween K)) (X_BadPart : XCls P w K mg base "BadPart" "part" A.BadPart) : FnOk P w K mg base (L2.CX P w) 6 f fd pm_check_begins (spCheckB K A) := by
  refine F.okX sc_check_begins (fun vs H Q E h => ?_) (fun cdv A' outer s H vs Q E hr h => ?_)
  · obtain ⟨_, _, _, _, _, _, _, rfl, _⟩ := h
    rfl
  · obtain ⟨W, L, ws, ds, ns, z, g, rfl, hW, hws, hsm, hL, hsl, kE, k⟩ := h
    refine ⟨_, pss_cons (ps_expr (pe_ownS O_check_ways (hr.mono (by decide)) (takes_of rfl rfl rfl rfl) (pa_cons (pv 0) pa_nil)))
      (pss_cons (ps_if (pt_not (pt_val (pe_own O_are_unlike_ways (hr.mono (by decide)) pass0 (pa_cons (pv 1) (pa_cons (pe_callB call_len_seq (by rfl) T.n_len (by decide +kernel) (pa_cons (pv 0) pa_nil)) pa_nil))))) (pss_one (ps_raise rfl (takes_of rfl rfl rfl rfl) (pmk_X X_BadPart (hr.mono (by decide)) (pe_str) rfl))) (pss_nil))
      (pss_cons (ps_expr (pe_ownS O_check_silent (hr.mono (by decide)) (takes_of rfl rfl rfl rfl) (pa_cons (pv 2) pa_nil)))
      (pss_cons (ps_if (pt_not (pt_val (pe_own O_is_between (hr.mono (by decide)) pass0 (pa_cons (pv 3) (pa_cons (pe_int) (pa_cons (pe_gint T.g_MOST_GAP) pa_nil)))))) (pss_one (ps_raise rfl (takes_of rfl rfl rfl rfl) (pmk_X X_BadPart (hr.mono (by decide)) (pe_str) rfl))) (pss_nil))
      (pss_one (ps_if (pt_cmpR op_le (pe_callB call_len_seq (by rfl) T.n_len (by decide +kernel) (pa_cons (pv 1) pa_nil)) (pv 2) (nomark _)) (pss_one (ps_raise rfl (takes_of rfl rfl rfl rfl) (pmk_X X_BadPart (hr.mono (by decide)) (pe_str) rfl))) (pss_nil)))))), ?_⟩
    obtain ⟨t, g1, g2, g3, g4, g5⟩ := giv_lst hW (by rw [hws.1]; omega) (ways_id T hws)
    have hv : (true && (decide ((1 : Int) ≤ (ws.length : Int)) && decide ((ws.length : Int) ≤ 4)) && (ws.all fun x => decide (x ∈ ws))) = decide (1 ≤ ds.length ∧ ds.length ≤ 4) := by
      rw [all_mem, Bool.and_true, Bool.true_and, hws.1, Bool.eq_iff_iff, Bool.and_eq_true, decide_eq_true_eq, decide_eq_true_eq, decide_eq_true_eq]
      omega
    refine ⟨_, rfl, .ref W, t, true, ws, _, rfl, g1, g2, g3, g4, g5, fun hc H1 e1 e he => ?_, fun hc H1 e1 => ?_⟩
    · rw [hv, decide_eq_false_iff_not] at hc
      exact kE _ (if_pos hc) H1 e1 e he
    · rw [hv, decide_eq_true_eq] at hc
      have hW1 := e1 _ _ hW
      have hL1 := e1 _ _ hL
      have hn1 : ¬ ¬ (1 ≤ ds.length ∧ ds.length ≤ 4) := fun h => h hc
      refine ⟨_, rfl, _, rfl, W, ws, rfl, .inl (SqL.of hW1), ?_⟩
      rw [hws.1]
      refine ⟨L, ns, ds.length, rfl, hL1, hsl, fun H2 e2 => ⟨_, rfl, ?_⟩⟩
      have e12 := e1.trans e2
      cases hu : unlikeV ds.length ns with
      | false =>
        exact iteT (mkX_fin fun e he => kE _ (by unfold dueB; rw [if_neg hn1, if_pos hu]) H2 e12 e he)
      | true =>
        have hn2 : ¬ unlikeV ds.length ns = false := by rw [hu]; decide
        refine iteF ⟨_, rfl, .int z, .int z, rfl, .int z, fun hb H3 e3 e he => ?_, fun hb => ?_⟩
        · have hz : ¬ (0 ≤ z ∧ z ≤ 3) := fun h => by
            rw [bet_int, decide_eq_true h.1, decide_eq_true h.2] at hb
            cases hb
          exact kE _ (by unfold dueB; rw [if_neg hn1, if_neg hn2, if_pos hz]) H3 (e12.trans e3) e he
        · have hz : 0 ≤ z ∧ z ≤ 3 := by
            rw [bet_int, Bool.and_eq_true, decide_eq_true_eq, decide_eq_true_eq] at hb
            exact hb
          have hn3 : ¬ ¬ (0 ≤ z ∧ z ≤ 3) := fun h => h hz
          refine ⟨_, rfl, .int g, .int g, 0, 500, rfl, .int g, _, rfl, ?_⟩
          rw [bet_int]
          by_cases hg : 0 ≤ g ∧ g ≤ 500
          · have hn4 : ¬ ¬ (0 ≤ g ∧ g ≤ 500) := fun h => h hg
            rw [decide_eq_true hg.1, decide_eq_true hg.2]
            refine iteF ⟨_, rfl, L, _, rfl, .inl (SqL.of (e12 _ _ hL)), _, rfl, _, _, rfl, rfl, _, rfl, ?_⟩
            rw [List.length_map]
            by_cases hz2 : (ns.length : Int) ≤ z
            · rw [decide_eq_true hz2]
              exact iteT (mkX_fin fun e he => kE _ (by unfold dueB; rw [if_neg hn1, if_neg hn2, if_neg hn3, if_neg hn4, if_pos hz2]) H2 e12 e he)
            · rw [decide_eq_false hz2]
              exact iteF (k (by unfold dueB; rw [if_neg hn1, if_neg hn2, if_neg hn3, if_neg hn4, if_neg hz2]) H2 e12)
          · have hb : (decide (0 ≤ g) && decide (g ≤ 500)) = false := by
              rw [Bool.eq_false_iff, Ne, Bool.and_eq_true, decide_eq_true_eq, decide_eq_true_eq]
              exact hg
            rw [hb]
            exact iteT (mkX_fin fun e he => kE _ (by unfold dueB; rw [if_neg hn1, if_neg hn2, if_neg hn3, if_pos hg]) H2 e12 e he)
end
end K18

set_option Elab.async false
set_option maxRecDepth 100000
set_option maxHeartbeats 4000000
namespace K18
open PySem PySem.Spec PyProof.Rows L2
/-- the ways by their delay -/
def ordB (ds : List Wd) (ns : List Nat) : List Nat := byF (ms ds) ((List.range ds.length).filter fun j => decide (j ∈ ns)) ((List.range 50).map fun d : Nat => (1 : Int) + (d : Int))
def falB (ds : List Wd) (ns : List Nat) (z : Nat) : List Nat := ((ordB ds ns).take (z + 1)).reverse
/-- the begins as they are put, one way after another -/
def PutB (F : List Nat) (g : Int) (m i : Nat) (bl : List V) : Prop := bl.length = m ∧ (∀ p w, p < i → F[p]? = some w → bl[w]? = some (.int ((p : Int) * g))) ∧ ∀ j, j < m → j ∉ F.take i → bl[j]? = some .non
theorem PutB.zero {F : List Nat} {g : Int} {m : Nat} : PutB F g m 0 (List.replicate m .non) := ⟨List.length_replicate, fun p w h => absurd h (Nat.not_lt_zero _), fun j hj _ => by rw [List.getElem?_replicate, if_pos hj]⟩
theorem PutB.step {F : List Nat} {g : Int} {m i w : Nat} {bl : List V} (h : PutB F g m i bl) (hn : F.Nodup) (hw : F[i]? = some w) (hm : w < m) : PutB F g m (i + 1) (bl.set w (.int ((i : Int) * g))) := by
  obtain ⟨h1, h2, h3⟩ := h
  refine ⟨by rw [List.length_set]; exact h1, fun p v hp hv => ?_, fun j hj hn2 => ?_⟩
  · rw [List.getElem?_set]
    by_cases hpi : p = i
    · subst hpi
      rw [hw] at hv
      cases hv
      rw [if_pos rfl, if_pos (by omega)]
    · have hne : w ≠ v := fun e => by
        rw [← e] at hv
        obtain ⟨a1, a2⟩ := List.getElem?_eq_some_iff.mp hw
        obtain ⟨b1, b2⟩ := List.getElem?_eq_some_iff.mp hv
        exact hpi ((List.getElem_inj hn).mp (b2.trans a2.symm))
      rw [if_neg hne]
      exact h2 p v (by omega) hv
  · rw [take_snoc hw, List.mem_append, List.mem_singleton] at hn2
    rw [List.getElem?_set, if_neg (fun e => hn2 (.inr e.symm))]
    exact h3 j hj fun z => hn2 (.inl z)
theorem ordB_facts {ds : List Wd} {ns : List Nat} (hm : ∀ j, j < ds.length → 1 ≤ ms ds j ∧ ms ds j ≤ 50) (hu : unlikeV ds.length ns = true) : (ordB ds ns).Nodup ∧ (∀ j, j ∈ ordB ds ns ↔ j ∈ ns) ∧ (ordB ds ns).length = ns.length ∧ ((ordB ds ns).map (ms ds)).Pairwise (· ≤ ·) ∧ ∀ j ∈ ns, j < ds.length := by
  unfold unlikeV inB at hu
  rw [Bool.and_eq_true, List.all_eq_true, decide_eq_true_eq] at hu
  obtain ⟨hin, hnd⟩ := hu
  have hin' : ∀ j ∈ ns, j < ds.length := fun j hj => of_decide_eq_true (hin j hj)
  have ho : ((List.range 50).map fun d : Nat => (1 : Int) + (d : Int)).Pairwise (· < ·) := by
    rw [List.pairwise_map]
    exact List.pairwise_lt_range.imp fun h => by omega
  have hup : ((List.range ds.length).filter fun j => decide (j ∈ ns)).Pairwise (· < ·) := List.pairwise_lt_range.filter _
  have hmem : ∀ j, j ∈ (List.range ds.length).filter (fun j => decide (j ∈ ns)) ↔ j ∈ ns := fun j => by
    rw [List.mem_filter, List.mem_range, decide_eq_true_eq]
    exact ⟨fun h => h.2, fun h => ⟨hin' j h, h⟩⟩
  have hall : ∀ j ∈ (List.range ds.length).filter (fun j => decide (j ∈ ns)), ms ds j ∈ (List.range 50).map fun d : Nat => (1 : Int) + (d : Int) := fun j hj => by
    obtain ⟨h1, h2⟩ := hm j (hin' j ((hmem j).mp hj))
    exact List.mem_map.mpr ⟨(ms ds j - 1).toNat, List.mem_range.mpr (by omega), by omega⟩
  have n1 : (ordB ds ns).Nodup := byF_nodup ho hup
  have m1 : ∀ j, j ∈ ordB ds ns ↔ j ∈ ns := fun j => (mem_byF hall).trans (hmem j)
  exact ⟨n1, m1, Nat.le_antisymm (nodup_le n1 fun x hx => (m1 x).mp hx) (nodup_le hnd fun x hx => (m1 x).mpr hx), byF_le ho hup, hin'⟩
theorem nat_perm {m : List Nat} {ns : List Int} (h : ns.Perm (m.map fun j : Nat => (j : Int))) (hs : ns.Pairwise (· ≤ ·)) (hn : m.Nodup) : ∃ l : List Nat, ns.map V.int = l.map nI ∧ l.Pairwise (· < ·) ∧ l.length = m.length ∧ ∀ j ∈ l, j ∈ m := by
  have hin : ∀ x ∈ ns, ∃ j ∈ m, (j : Int) = x := fun x hx => List.mem_map.mp (h.mem_iff.mp hx)
  have hnd : (m.map fun j : Nat => (j : Int)).Nodup := by
    rw [List.nodup_iff_pairwise_ne, List.pairwise_map]
    rw [List.nodup_iff_pairwise_ne] at hn
    exact hn.imp fun h e => h (by omega)
  have hnd2 := h.nodup_iff.mpr hnd
  rw [List.nodup_iff_pairwise_ne] at hnd2
  refine ⟨ns.map Int.toNat, ?_, ?_, by rw [List.length_map, h.length_eq, List.length_map], fun j hj => ?_⟩
  · rw [List.map_map]
    refine List.map_congr_left fun x hx => ?_
    obtain ⟨j, _, rfl⟩ := hin x hx
    rfl
  · rw [List.pairwise_map]
    refine List.Pairwise.imp_of_mem (fun {x y} hx hy hxy => ?_) (List.pairwise_and_iff.mpr ⟨hs, hnd2⟩)
    obtain ⟨a, _, rfl⟩ := hin x hx
    obtain ⟨b, _, rfl⟩ := hin y hy
    have h1 := hxy.1
    have h2 := hxy.2
    omega
  · obtain ⟨x, hx, rfl⟩ := List.mem_map.mp hj
    obtain ⟨a, ha, rfl⟩ := hin x hx
    exact ha
theorem first_at {f : Nat → Int} {e : Int} : ∀ {n : Nat}, (∃ i, i < n ∧ f i = e) → ∃ j, j < n ∧ f j = e ∧ ∀ m, m < j → f m ≠ e
  | 0, h => by
    obtain ⟨i, h1, _⟩ := h
    exact absurd h1 (Nat.not_lt_zero _)
  | n + 1, h => by
    by_cases q : ∃ i, i < n ∧ f i = e
    · obtain ⟨j, h1, h2⟩ := first_at q
      exact ⟨j, by omega, h2⟩
    · obtain ⟨i, h1, h2⟩ := h
      have : i = n := by
        by_cases hi : i < n
        · exact absurd ⟨i, hi, h2⟩ q
        · omega
      subst this
      exact ⟨i, by omega, h2, fun m hm he => q ⟨m, hm, he⟩⟩
section
variable {P : Program} {w : World} {K : PySem.W.Frag} {mg : Str → Option Value} {base : Heap} {A : Ad}
def faB (ds : List Wd) (ns : List Nat) (z : Nat) (g : Int) (i : Nat) : Int := (i : Int) * g + 2 * ms ds ((falB ds ns z).getD i 0)
def spBest (K : PySem.W.Frag) (A : Ad) : Sp := fun vs H Q E => ∃ (W L : Addr) (ws : List V) (ds : List Wd) (ns : List Nat) (z : Nat) (g : Int), vs = [.ref W, .ref L, .int (z : Int), .int g] ∧ H W = some (.lst ws) ∧ Ways K A H ws ds ∧ ds.length ≤ 60 ∧ (∀ j, j < ds.length → 1 ≤ ms ds j ∧ ms ds j ≤ 50) ∧ H L = some (.lst (ns.map nI)) ∧ ns.length ≤ 60 ∧ (∀ s, dueB ds.length ns z g = some s → BpE A E H s) ∧
  (dueB ds.length ns z g = none → ∀ (T bt pt lt : Addr) (bl : List V) (e : Int) (i : Nat) (ls : List Nat) H', Ext H H' → H' T = some (.tup [.int e, .ref bt, .ref pt]) → H' bt = some (.tup bl) → PutB (falB ds ns z) g ds.length (z + 1) bl → H' pt = some (.tup [nI i, .ref lt]) → H' lt = some (.tup (ls.map nI)) → ls.Pairwise (· < ·) → (∀ j, j ∈ ls ↔ j ∈ (ordB ds ns).drop (z - i)) → ls.length = ns.length - (z - i) → i ≤ z → faB ds ns z g i = e → (∀ k, k ≤ z → faB ds ns z g k ≤ e) → Q (.ref T) H')
theorem ok_best {f : Addr} {fd : FuncData} (F : Fun K "best_begins" "best_begins" s_best_begins f fd) (T : Txt K mg A) (O_check_begins : Own P w K mg base (L2.CX P w) "check_begins" 6 pm_check_begins (spCheckB K A)) (O_by_delay : Own P w K mg base CX0 "by_delay" 1 pm_by_delay (spByDelay K A)) : FnOk P w K mg base (L2.CX P w) 7 f fd pm_best_begins (spBest K A) := by
  refine F.okX sc_best_begins (fun vs H Q E h => ?_) (fun cdv A' outer s H vs Q E hr h => ?_)
  · obtain ⟨_, _, _, _, _, _, _, rfl, _⟩ := h
    rfl
  · obtain ⟨W, L, ws, ds, ns, z, g, rfl, hW, hws, hsm, hms, hL, hsl, kE, k⟩ := h
    refine ⟨_, pss_cons (ps_expr (pe_ownS O_check_begins (hr.mono (by decide)) (takes_of rfl rfl rfl rfl) (pa_cons (pv 0) (pa_cons (pv 1) (pa_cons (pv 2) (pa_cons (pv 3) pa_nil))))))
      (pss_cons (ps_set (i := 4) sc_best_begins.nd rfl (Or.inl rfl) (pe_own O_by_delay (hr.mono (by decide)) pass0 (pa_cons (pv 0) (pa_cons (pv 1) pa_nil))))
      (pss_cons (ps_set (i := 5) sc_best_begins.nd rfl (Or.inl rfl) (pe_revL (pe_slice sl_list (pv 4) po_none (po_some (pe_op op_add (pv 2) (pe_int))))))
      (pss_cons (ps_setLc (i := 6) (own := [("index", 8), ("way", 9)]) (g := gTup K 2 (gCons (gName 8) (gCons (gName 9) (gNil)))) (by rfl) sc_best_begins.nd rfl rfl (sw_true rfl rfl rfl (by decide +kernel)) (pi_enSq rfl T.n_enumerate (pa_cons (pv 5) pa_nil)) (blkOk_by (own := [("index", 8), ("way", 9)]) (N := nm_best_begins) (sc := defScope s_best_begins) (by decide +kernel)) (fun _ _ _ _ _ => pg_tup rfl (pgs_cons (pg_name (i := 8) sc_best_begins.nd rfl (Or.inl rfl)) (pgs_cons (pg_name (i := 9) sc_best_begins.nd rfl (Or.inl rfl)) (pgs_nil)))) (fun s1 H1 C1 cl fp => pts_nil) (fun s1 H1 C1 cl fp => pe_op op_add (pe_op op_mul (pv 8) (pv 3)) (pe_op op_mul (pe_int) (pe_fldK (K := K) rfl (pe_ix (ix_listK (K := K) rfl) (pv 0) (pv 9) (fun _ _ => rfl)) rfl))))
      (pss_cons (ps_set (i := 7) sc_best_begins.nd rfl (Or.inl rfl) (pe_op op_rep (pe_lst (pa_cons (pe_non) pa_nil)) (pe_callB call_len_seq (by rfl) T.n_len (by decide +kernel) (pa_cons (pv 0) pa_nil))))
      (pss_cons (ps_for (passes_of rfl) rfl (pi_enSq rfl T.n_enumerate (pa_cons (pv 5) pa_nil)) (pg_tup rfl (pgs_cons (pg_name (i := 8) sc_best_begins.nd rfl (Or.inl rfl)) (pgs_cons (pg_name (i := 9) sc_best_begins.nd rfl (Or.inl rfl)) (pgs_nil)))) (pss_one (ps_asg (pe_op op_mul (pv 8) (pv 3)) (pg_sub (pv 7) (pv 9) set_list))))
      (pss_cons (ps_set (i := 10) sc_best_begins.nd rfl (Or.inl rfl) (pe_callB (cr_max rfl) (by rfl) T.n_max (by decide +kernel) (pa_cons (pe_lc (own := [("told", 12)]) (g := gName 12) (by rfl) sc_best_begins.nd (pi_list (pv 6)) (blkOk_by (own := [("told", 12)]) (N := nm_best_begins) (sc := defScope s_best_begins) (by decide +kernel)) (fun _ _ _ _ _ => pg_name (i := 12) sc_best_begins.nd rfl (Or.inl rfl)) (fun s1 H1 C1 cl fp => pts_nil) (fun s1 H1 C1 cl fp => pe_callTy call_int1 (by rfl) T.n_int (by decide +kernel) (pa_cons (pv 12) pa_nil))) pa_nil)))
      (pss_cons (ps_set (i := 8) sc_best_begins.nd rfl (Or.inl rfl) (pe_bm PySem.F.plainAttrs_list PySem.F.slot_list_index PySem.F.type_list_index mt_index (pv 6) (pa_cons (pv 10) pa_nil)))
      (pss_cons (ps_set (i := 11) sc_best_begins.nd rfl (Or.inl rfl) (pe_callTy call_tuple_of (by rfl) T.n_tuple (by decide +kernel) (pa_cons (pe_callB cr_sortedI (by rfl) T.n_sorted (by decide +kernel) (pa_cons (pe_lc (own := [("way", 9)]) (g := gName 9) (by rfl) sc_best_begins.nd (pi_list (pe_slice sl_list (pv 4) (po_some (pe_op op_sub (pv 2) (pv 8))) po_none)) (blkOk_by (own := [("way", 9)]) (N := nm_best_begins) (sc := defScope s_best_begins) (by decide +kernel)) (fun _ _ _ _ _ => pg_name (i := 9) sc_best_begins.nd rfl (Or.inl rfl)) (fun s1 H1 C1 cl fp => pts_nil) (fun s1 H1 C1 cl fp => pe_callTy call_int1 (by rfl) T.n_int (by decide +kernel) (pa_cons (pv 9) pa_nil))) pa_nil)) pa_nil)))
      (pss_one (ps_ret (pe_tup (pa_cons (pv 10) (pa_cons (pe_callTy call_tuple_of (by rfl) T.n_tuple (by decide +kernel) (pa_cons (pv 7) pa_nil)) (pa_cons (pe_tup (pa_cons (pv 8) (pa_cons (pv 11) pa_nil))) pa_nil)))))))))))))), ?_⟩
    refine ⟨_, rfl, _, rfl, _, rfl, _, rfl, W, L, ws, ds, ns, (z : Int), g, rfl, hW, hws, hsm, hL, hsl, kE, fun hd H1 e1 => ?_⟩
    have k' := k hd
    have hu : unlikeV ds.length ns = true := by
      cases h : unlikeV ds.length ns with
      | true => rfl
      | false =>
        unfold dueB at hd
        split at hd <;> first | (cases hd; done) | (rw [if_pos h] at hd; cases hd)
    have hzn : z < ns.length := by
      unfold dueB at hd
      by_cases q : (ns.length : Int) ≤ (z : Int)
      · exfalso
        revert hd
        repeat' split
        all_goals first | (intro h; cases h; done) | contradiction
      · omega
    obtain ⟨o1, o2, o3, o4, o5⟩ := ordB_facts hms hu
    have hW1 := e1 _ _ hW
    have hL1 := e1 _ _ hL
    refine ⟨_, rfl, _, rfl, W, L, ws, ds, ns, rfl, hW1, hws.ext e1, hsm, hL1, hsl, fun D H2 e2 hDn hD => ?_⟩
    replace hD : H2 D = some (.lst ((ordB ds ns).map nI)) := hD
    refine ⟨_, rfl, _, rfl, _, _, rfl, rfl, (z : Int) + 1, rfl, D, _, rfl, SqL.of hD, fun G hG => ⟨G, _, rfl, SqL.of upd_same, fun R hR => ?_⟩⟩
    have hcut : (cutV ((ordB ds ns).map nI) none (some ((z : Int) + 1))).reverse = (falB ds ns z).map nI := by
      unfold falB
      rw [List.map_reverse]
      congr 1
      show ((((ordB ds ns).map nI)).drop 0).take ((if (z : Int) + 1 < 0 then ((z : Int) + 1 + (((ordB ds ns).map nI).length : Int)).toNat else min (((z : Int) + 1).toNat) ((ordB ds ns).map nI).length) - 0) = _
      rw [if_neg (by omega), List.drop_zero, List.map_take, show ((z : Int) + 1).toNat = z + 1 by omega, Nat.sub_zero, Nat.min_eq_left (by rw [List.length_map]; omega)]
    rw [hcut]
    have hfl : (falB ds ns z).length = z + 1 := by
      unfold falB
      rw [List.length_reverse, List.length_take]
      omega
    have hfn : (falB ds ns z).Nodup := by
      unfold falB
      exact (List.reverse_perm _).nodup_iff.mpr (o1.sublist (List.take_sublist _ _))
    have hfi : ∀ w ∈ falB ds ns z, w < ds.length := fun w hw => by
      unfold falB at hw
      rw [List.mem_reverse] at hw
      exact o5 w ((o2 w).mp (List.mem_of_mem_take hw))
    have e3 := (Ext.upd (o := .lst (cutV ((ordB ds ns).map nI) none (some ((z : Int) + 1)))) hG).trans (Ext.upd (o := .lst ((falB ds ns z).map nI)) hR)
    have hR3 : upd (upd H2 G (.lst (cutV ((ordB ds ns).map nI) none (some ((z : Int) + 1))))) R (.lst ((falB ds ns z).map nI)) R = some (.lst ((falB ds ns z).map nI)) := upd_same
    generalize upd (upd H2 G (.lst (cutV ((ordB ds ns).map nI) none (some ((z : Int) + 1))))) R (.lst ((falB ds ns z).map nI)) = H3 at e3 hR3 ⊢
    have e13 := (e1.trans e2).trans e3
    have hD3 := e3 _ _ hD
    have hW3 := e13 _ _ hW
    have hfa : ∀ i, faB ds ns z g i = (i : Int) * g + 2 * ms ds ((falB ds ns z).getD i 0) := fun _ => rfl
    generalize hF : falB ds ns z = Fl at hfl hfn hfi hR3 hfa
    refine ⟨_, rfl, R, rfl, .inl ⟨⟨_, SqL.of hR3⟩, fun C hC => ?_⟩⟩
    refine lc_it (walk_enum (xs := Fl.map nI)) (fun i H' => Ext H3 H' ∧ H' C = some (.lst (((List.range i).map (faB ds ns z g)).map V.int))) ⟨Ext.upd hC, upd_same⟩ (fun i H' _ pv => SqL.of (pv.1 _ _ hR3)) (fun i x H' H4 hi pv hy => ?_) (fun H4 pv => ?_)
    · obtain ⟨e4, hC4⟩ := pv
      obtain ⟨t, y, v, rfl, ht, rfl, hy1, hy2⟩ := hy
      cases hy1
      replace hy2 : (Fl.map nI)[i]? = some v := hy2
      rw [List.getElem?_map] at hy2
      obtain ⟨w, hw, rfl⟩ := Option.map_eq_some_iff.mp hy2
      have hwn := hfi w (List.mem_of_getElem? hw)
      obtain ⟨d, hdw⟩ : ∃ d, ds[w]? = some d := ⟨_, List.getElem?_eq_getElem hwn⟩
      obtain ⟨xw, hxw⟩ : ∃ x, ws[w]? = some x := ⟨_, List.getElem?_eq_getElem (by rw [hws.1]; exact hwn)⟩
      obtain ⟨q, rfl, hwq⟩ := hws.2 w xw d hxw hdw
      have e5 := e4.upd' (o := .tup [.int (i : Nat), nI w]) ht
      have e05 := e13.trans e5
      obtain ⟨dq, Tq, xq, hq, _, _⟩ := id (hwq.ext e05)
      have hC5 := Ext.upd (o := .tup [.int (i : Nat), nI w]) ht _ _ hC4
      refine ⟨t, _, rfl, SqT.of upd_same, rfl, _, _, rfl, _, _, rfl, rfl, rfl, ?_⟩
      have hil : i < 61 := by
        have := (List.getElem?_eq_some_iff.mp hw).1
        omega
      refine ⟨_, rfl, _, rfl, _, _, rfl, rfl, .inl ⟨by omega, by omega⟩, _, rfl, _, rfl, W, ws, (w : Int), .ref q, rfl, rfl, SqL.of (e05 _ _ hW), atI_nat hxw, q, A.Way, dq, _, _, rfl, hq, T.Way.cl, T.w_most, rfl, _, _, rfl, rfl, .inl ⟨by decide, by decide⟩, _, _, rfl, rfl, ?_⟩
      have hva : (i : Int) * g + 2 * d.2.2 = faB ds ns z g i := by
        rw [hfa, List.getD_eq_getElem?_getD, hw, ← (at_d hdw).2.2.2]
        rfl
      refine ⟨_, hC5, small_sz ?_, ext_mut e5 hC, ?_⟩
      · rw [List.length_map, List.length_map, List.length_range]
        omega
      · rw [upd_same, List.range_succ, List.map_append, List.map_append]
        show some (HO.lst (_ ++ [V.int ((i : Int) * g + 2 * d.2.2)])) = _
        rw [hva]
        rfl
    · obtain ⟨e4, hC4⟩ := pv
      rw [List.length_map, hfl] at hC4
      have e14 := e13.trans e4
      refine ⟨by show 1 ≤ sizeLine; decide, fun B0 hB0 => ⟨_, rfl, W, ws, rfl, .inl (SqL.of (Ext.upd hB0 _ _ (e14 _ _ hW))), B0, (ws.length : Int), [.non], rfl, rfl, upd_same, by omega, by rw [hws.1]; omega, ?_, fun B hBn => ?_⟩⟩
      · rw [Int.toNat_natCast, hws.1]
        exact Nat.le_trans (show [V.non].length * ds.length ≤ 2000 by rw [List.length_singleton]; omega) (by decide)
      have hrep : (List.replicate (ws.length : Int).toNat [V.non]).flatten = List.replicate ds.length V.non := by
        rw [Int.toNat_natCast, hws.1]
        generalize ds.length = n
        induction n with
        | zero => rfl
        | succ n ih => rw [List.replicate_succ, List.flatten_cons, ih]; rfl
      rw [hrep]
      have e5 := (Ext.upd (o := .lst [V.non]) hB0).trans (Ext.upd (o := .lst (List.replicate ds.length V.non)) hBn)
      have hB5 : upd (upd H4 B0 (.lst [V.non])) B (.lst (List.replicate ds.length V.non)) B = some (.lst (List.replicate ds.length V.non)) := upd_same
      have hBf : H4 B = none := ext_none (Ext.upd (o := .lst [V.non]) hB0) hBn
      generalize upd (upd H4 B0 (.lst [V.non])) B (.lst (List.replicate ds.length V.non)) = H5 at e5 hB5 ⊢
      have e15 := e14.trans e5
      refine ⟨_, rfl, R, rfl, ?_⟩
      refine for_enSqM (H0 := H4) (xs := Fl.map nI) (.inl (SqL.of (e4 _ _ hR3))) (fun i σ' H' => Ext H4 H' ∧ ∃ bl o8 o9, σ' = [some (.ref W), some (.ref L), some (.int (z : Int)), some (.int g), some (.ref D), some (.ref R), some (.ref C), some (.ref B), o8, o9, Option.none, Option.none, Option.none] ∧ H' B = some (.lst bl) ∧ PutB Fl g ds.length i bl) ⟨e5, _, _, _, rfl, hB5, PutB.zero⟩ (fun i σ' H' pv => pv.1) (fun i x σ' H' T0 hx pv hT0 => ?_) (fun σ' H' pv => ?_)
      · obtain ⟨e6, bl, o8, o9, rfl, hB6, pb⟩ := pv
        rw [List.getElem?_map] at hx
        obtain ⟨w, hw, rfl⟩ := Option.map_eq_some_iff.mp hx
        have hwn := hfi w (List.mem_of_getElem? hw)
        have hil : i < 61 := by
          have := (List.getElem?_eq_some_iff.mp hw).1
          omega
        have e7 := Ext.upd (o := .tup [.int (i : Nat), nI w]) hT0
        have hB7 := e7 _ _ hB6
        have hix : ixN bl.length (w : Int) = some w := by
          unfold ixN
          rw [if_pos (by omega), if_pos (by rw [pb.1]; omega)]
          exact congrArg some (by omega)
        refine ⟨T0, [.int (i : Nat), nI w], rfl, SqT.of upd_same, rfl, .int (i : Nat), [nI w], rfl, nI w, [], rfl, rfl, ?_⟩
        refine ⟨_, rfl, _, rfl, _, _, rfl, rfl, .inl ⟨by omega, by omega⟩, _, rfl, _, rfl, B, bl, (w : Int), w, rfl, rfl, hB7, hix, ext_mut (e6.trans e7) hBf, bl.set w (.int ((i : Int) * g)), _, _, rfl, upd_same, pb.step hfn hw hwn⟩
      · obtain ⟨e6, bl, o8, o9, rfl, hB6, pb⟩ := pv
        rw [List.length_map, hfl] at pb
        have hC6 := e6 _ _ hC4
        have e16 := e14.trans e6
        refine ⟨_, rfl, C, rfl, ⟨_, SqL.of hC6⟩, fun M hM => ?_⟩
        refine lc_list (xs := ((List.range (z + 1)).map (faB ds ns z g)).map V.int) (fun i H7 => Ext H' H7 ∧ H7 M = some (.lst ((((List.range (z + 1)).map (faB ds ns z g)).take i).map V.int))) ⟨Ext.upd hM, upd_same⟩ (fun i H7 _ pv => SqL.of (pv.1 _ _ hC6)) (fun i x H7 hx pv => ?_) (fun H7 pv => ?_)
        · obtain ⟨e7, hM7⟩ := pv
          rw [List.getElem?_map] at hx
          obtain ⟨n, hn, rfl⟩ := Option.map_eq_some_iff.mp hx
          refine ⟨rfl, _, rfl, .inl ⟨_, rfl, _, hM7, small_sz ?_, ext_mut e7 hM, ?_⟩⟩
          · rw [List.length_map, List.length_take]
            have := (List.getElem?_eq_some_iff.mp hn).1
            rw [List.length_map, List.length_range] at this
            omega
          · rw [upd_same, take_snoc hn, List.map_append]
            rfl
        · obtain ⟨e7, hM7⟩ := pv
          rw [List.length_map, List.take_length] at hM7
          refine ⟨M, _, rfl, SqL.of hM7, by rw [List.length_map, List.length_range]; omega, fun e he hmax => ?_⟩
          have e17 := e16.trans e7
          have hC7 := e7 _ _ hC6
          obtain ⟨j0, hj0, hje⟩ := List.mem_map.mp he
          obtain ⟨j, hj, hj1, hj2⟩ := first_at (n := z + 1) (f := faB ds ns z g) (e := e) ⟨j0, List.mem_range.mp hj0, hje⟩
          have hall : (((List.range (z + 1)).map (faB ds ns z g)).map V.int).all flatV = true := by
            rw [List.all_eq_true]
            intro x hx
            obtain ⟨n, _, rfl⟩ := List.mem_map.mp hx
            rfl
          have hget : ∀ m, m < z + 1 → (((List.range (z + 1)).map (faB ds ns z g)).map V.int)[m]? = some (.int (faB ds ns z g m)) := fun m hm => by
            rw [List.getElem?_map, List.getElem?_map, List.getElem?_range hm]
            rfl
          refine ⟨_, rfl, .inl ⟨rfl, _, SqL.of hC7⟩, _, rfl, C, _, .int e, j, .int e, rfl, rfl, SqL.of hC7, rfl, hall, by rw [hget j hj, hj1], ?_, fun m z' hm hz => ?_, ?_⟩
          · show (e == e) = true
            exact beq_self_eq_true e
          · have hm' := hget m (by omega)
            rw [hm'] at hz
            cases hz
            show (faB ds ns z g m == e) = false
            exact beq_eq_false_iff_ne.mpr (hj2 m hm)
          have hD7 : H7 D = some (.lst ((ordB ds ns).map nI)) := e7 _ _ (e6 _ _ (e4 _ _ hD3))
          refine ⟨_, rfl, _, rfl, _, rfl, _, _, rfl, rfl, (z : Int) - (j : Int), rfl, D, _, rfl, SqL.of hD7, fun S1 hS1 => ⟨S1, rfl, ⟨_, SqL.of upd_same⟩, fun X hX => ?_⟩⟩
          have hdrop : cutV ((ordB ds ns).map nI) (some ((z : Int) - (j : Int))) none = ((ordB ds ns).drop (z - j)).map nI := by
            show (((ordB ds ns).map nI).drop (if (z : Int) - (j : Int) < 0 then ((z : Int) - (j : Int) + (((ordB ds ns).map nI).length : Int)).toNat else min (((z : Int) - (j : Int)).toNat) ((ordB ds ns).map nI).length)).take (((ordB ds ns).map nI).length - (if (z : Int) - (j : Int) < 0 then ((z : Int) - (j : Int) + (((ordB ds ns).map nI).length : Int)).toNat else min (((z : Int) - (j : Int)).toNat) ((ordB ds ns).map nI).length)) = _
            rw [if_neg (by omega), show ((z : Int) - (j : Int)).toNat = z - j by omega, Nat.min_eq_left (by rw [List.length_map, o3]; omega), ← List.map_drop]
            exact List.take_of_length_le (by rw [List.length_map, List.length_drop, List.length_map]; exact Nat.le_refl _)
          have e8 := Ext.upd (o := .lst (cutV ((ordB ds ns).map nI) (some ((z : Int) - (j : Int))) none)) hS1
          have hS8 : upd H7 S1 (.lst (cutV ((ordB ds ns).map nI) (some ((z : Int) - (j : Int))) none)) S1 = some (.lst (((ordB ds ns).drop (z - j)).map nI)) := by rw [upd_same, hdrop]
          generalize upd H7 S1 (.lst (cutV ((ordB ds ns).map nI) (some ((z : Int) - (j : Int))) none)) = H8 at e8 hS8 hX ⊢
          have hdl : ((ordB ds ns).drop (z - j)).length = ns.length - (z - j) := by rw [List.length_drop, o3]
          have hdn : ((ordB ds ns).drop (z - j)).Nodup := o1.sublist (List.drop_sublist _ _)
          have k2 := fun (T bt pt lt : Addr) (bl : List V) (ls : List Nat) (H' : Hp) => k' T bt pt lt bl e j ls H'
          rw [hF] at k2
          generalize (ordB ds ns).drop (z - j) = dr at hS8 hdl hdn k2
          refine lc_list (xs := dr.map nI) (fun i H9 => Ext H8 H9 ∧ H9 X = some (.lst (((dr.take i).map fun n : Nat => (n : Int)).map V.int))) ⟨Ext.upd hX, upd_same⟩ (fun i H9 _ pv => SqL.of (pv.1 _ _ hS8)) (fun i x H9 hx pv => ?_) (fun H9 pv => ?_)
          · obtain ⟨e9, hX9⟩ := pv
            rw [List.getElem?_map] at hx
            obtain ⟨n, hn, rfl⟩ := Option.map_eq_some_iff.mp hx
            refine ⟨rfl, _, rfl, .inl ⟨_, rfl, _, hX9, small_sz ?_, ext_mut e9 hX, ?_⟩⟩
            · rw [List.length_map, List.length_map, List.length_take]
              omega
            · rw [upd_same, take_snoc hn, List.map_append, List.map_append]
              rfl
          · obtain ⟨e9, hX9⟩ := pv
            rw [List.length_map, List.take_length] at hX9
            refine ⟨X, _, rfl, SqL.of hX9, fun l2 q hp2 hs2 hq => ?_⟩
            obtain ⟨ls, q1, q2, q3, q4⟩ := nat_perm hp2 hs2 hdn
            have q5 : ∀ i ∈ dr, i ∈ ls := fun i hi => by
              have h1 : V.int (i : Int) ∈ l2.map V.int := List.mem_map.mpr ⟨_, hp2.mem_iff.mpr (List.mem_map.mpr ⟨i, hi, rfl⟩), rfl⟩
              rw [q1] at h1
              obtain ⟨m, hm, he⟩ := List.mem_map.mp h1
              have : m = i := by
                injection he with he
                omega
              rw [← this]
              exact hm
            rw [q1]
            have hB9 := e9 _ _ (e8 _ _ (e7 _ _ hB6))
            have e19 := (e17.trans e8).trans e9
            have e10 := Ext.upd (o := .lst (ls.map nI)) hq
            refine ⟨q, _, rfl, .inl ⟨SqL.of upd_same, fun lt hlt => ?_⟩⟩
            have e11 := Ext.upd (o := .tup (ls.map nI)) hlt
            have hB11 := e11 _ _ (e10 _ _ hB9)
            refine ⟨_, rfl, _, rfl, B, _, rfl, .inl ⟨SqL.of hB11, fun bt hbt => ?_⟩⟩
            have e12 := Ext.upd (o := .tup bl) hbt
            refine ⟨_, rfl, _, rfl, by show 2 ≤ sizeLine; decide, fun pt hpt => ⟨by show 3 ≤ sizeLine; decide, fun T2 hT2 => ?_⟩⟩
            have e13' := Ext.upd (o := .tup [.int (j : Int), .ref lt]) hpt
            have e14' := Ext.upd (o := .tup [.int e, .ref bt, .ref pt]) hT2
            refine k2 T2 bt pt lt bl ls _ (((((e19.trans e10).trans e11).trans e12).trans e13').trans e14') upd_same (e14' _ _ (e13' _ _ upd_same)) pb (e14' _ _ upd_same) (e14' _ _ (e13' _ _ (e12 _ _ upd_same))) q2 (fun i => ⟨q4 i, q5 i⟩) (by omega) (by omega) hj1 fun i hi => ?_
            exact hmax _ (List.mem_map.mpr ⟨i, List.mem_range.mpr (by omega), rfl⟩)
end
end K18

set_option Elab.async false
set_option maxRecDepth 100000
set_option maxHeartbeats 4000000
namespace K18
open PySem PySem.Spec PyProof.Rows L2
/-- an index of a paper: an int, or True -/
def IxAt (v : V) : Option Int → Prop
  | some i => v = .int i
  | none => v = .bl true
def ixD : Option Int → PyData
  | some i => .int i
  | none => .bool true
/-- e is i * g and twice the least delay of the lot -/
def LeastB (ds : List Wd) (g e i : Int) (ls : List Nat) : Prop := ∃ j ∈ ls, (∀ k ∈ ls, ms ds j ≤ ms ds k) ∧ i * g + 2 * ms ds j = e
open Classical in
noncomputable def barV (ds : List Wd) (ns : List Nat) (z : Nat) (g e : Int) (x : Option Int) (lo : Lo) : Bool := match x with
  | some i => (decide (0 ≤ i) && decide (i ≤ (z : Int))) && (lotV ds.length lo && ((lo.2.all fun j => decide (j ∈ ns)) && (!decide ((ns.length : Int) - (lo.2.length : Int) > (z : Int) - i) && decide (LeastB ds g e i lo.2))))
  | none => false
theorem lot_at {K : PySem.W.Frag} {H : Hp} {v : V} {lo : Lo} {n : Nat} (h : LoAt H v lo) (hl : lotV n lo = true) : (∃ t, v = .ref t ∧ H t = some (.tup (lo.2.map nI))) ∧ lo.2.all (fun x => decide (x < n)) = true ∧ upB lo.2 = true := by
  obtain ⟨k, ns⟩ := lo
  unfold lotV at hl
  rw [Bool.and_eq_true, Bool.and_eq_true, decide_eq_true_eq] at hl
  obtain ⟨h0, h1, h2⟩ := hl
  cases h0
  exact ⟨h, h1, h2⟩
section
variable {P : Program} {w : World} {K : PySem.W.Frag} {mg : Str → Option Value} {base : Heap} {A : Ad}
def spBars (K : PySem.W.Frag) (A : Ad) : Sp := fun vs H Q _ => ∃ (W L T : Addr) (ws : List V) (ds : List Wd) (ns : List Nat) (z : Nat) (g e : Int) (xi yl : V) (x : Option Int) (lo : Lo), vs = [.ref W, .ref L, .int (z : Int), .int g, .int e, .ref T] ∧ H W = some (.lst ws) ∧ Ways K A H ws ds ∧ ds.length ≤ 60 ∧ H L = some (.lst (ns.map nI)) ∧ ns.length ≤ 60 ∧ z < ns.length ∧ H T = some (.tup [xi, yl]) ∧ IxAt xi x ∧ LoAt H yl lo ∧ lo.2.length ≤ 60 ∧ ∀ H', Ext H H' → Q (.bl (barV ds ns z g e x lo)) H'
open Classical in
theorem ok_bars {f : Addr} {fd : FuncData} (F : Fun K "bars_ahead" "bars_ahead" s_bars_ahead f fd) (T : Txt K mg A) (O_is_tuple_of : Own P w K mg base CX0 "is_tuple_of" 1 pm_is_tuple_of (spTupleOf K)) (O_is_between : Own P w K mg base CX0 "is_between" 2 pm_is_between (spBetween K)) (O_is_lot : Own P w K mg base CX0 "is_lot" 5 pm_is_lot (spLot K)) : FnOk P w K mg base CX0 6 f fd pm_bars_ahead (spBars K A) := by
  refine F.ok sc_bars_ahead (fun vs H Q E h => ?_) (fun cdv A' outer s H vs Q E hr h => ?_)
  · obtain ⟨_, _, _, _, _, _, _, _, _, _, _, _, _, rfl, _⟩ := h
    rfl
  · obtain ⟨W, L, T2, ws, ds, ns, z, g, e, xi, yl, x, lo, rfl, hW, hws, hsm, hL, hsl, hzn, hT, hx, hlo, hll, q⟩ := h
    refine ⟨_, pss_cons (ps_if (pt_not (pt_val (pe_own O_is_tuple_of (hr.mono (by decide)) pass0 (pa_cons (pv 5) (pa_cons (pe_int) pa_nil))))) (pss_one (ps_ret (pe_bl))) (pss_nil))
      (pss_cons (ps_asg (pv 5) (pg_tup rfl (pgs_cons (pg_name (i := 6) sc_bars_ahead.nd rfl (Or.inl rfl)) (pgs_cons (pg_name (i := 7) sc_bars_ahead.nd rfl (Or.inl rfl)) (pgs_nil)))))
      (pss_cons (ps_if (PW.pt (pw_or (pt_not (pt_val (pe_own O_is_between (hr.mono (by decide)) pass0 (pa_cons (pv 6) (pa_cons (pe_int) (pa_cons (pv 2) pa_nil)))))) (pw_or1 (pt_not (pt_val (pe_own O_is_lot (hr.mono (by decide)) pass0 (pa_cons (pv 7) (pa_cons (pe_callB call_len_seq (by rfl) T.n_len (by decide +kernel) (pa_cons (pv 0) pa_nil)) pa_nil)))))))) (pss_one (ps_ret (pe_bl))) (pss_nil))
      (pss_cons (ps_if (PW.pt (pw_or (pt_not (pt_val (pe_callB (cr_all rfl) (by rfl) T.n_all (by decide +kernel) (pa_cons (pe_lc (own := [("way", 8)]) (g := gName 8) (by rfl) sc_bars_ahead.nd (pi_tup (pv 7)) (blkOk_by (own := [("way", 8)]) (N := nm_bars_ahead) (sc := defScope s_bars_ahead) (by decide +kernel)) (fun _ _ _ _ _ => pg_name (i := 8) sc_bars_ahead.nd rfl (Or.inl rfl)) (fun s1 H1 C1 cl fp => pts_nil) (fun s1 H1 C1 cl fp => pe_cmpR (op_in_seqK (K := K) rfl) (pv 8) (pv 1) (by with_unfolding_all rfl))) pa_nil)))) (pw_or1 (pt_cmpR op_gt (pe_op op_sub (pe_callB call_len_seq (by rfl) T.n_len (by decide +kernel) (pa_cons (pv 1) pa_nil)) (pe_callB call_len_seq (by rfl) T.n_len (by decide +kernel) (pa_cons (pv 7) pa_nil))) (pe_op op_sub (pv 2) (pv 6)) (nomark _))))) (pss_one (ps_ret (pe_bl))) (pss_nil))
      (pss_one (ps_ret (pe_cmpR op_eq (pe_op op_add (pe_op op_mul (pv 6) (pv 3)) (pe_op op_mul (pe_int) (pe_callB (cr_min rfl) (by rfl) T.n_min (by decide +kernel) (pa_cons (pe_lc (own := [("way", 8)]) (g := gName 8) (by rfl) sc_bars_ahead.nd (pi_tup (pv 7)) (blkOk_by (own := [("way", 8)]) (N := nm_bars_ahead) (sc := defScope s_bars_ahead) (by decide +kernel)) (fun _ _ _ _ _ => pg_name (i := 8) sc_bars_ahead.nd rfl (Or.inl rfl)) (fun s1 H1 C1 cl fp => pts_nil) (fun s1 H1 C1 cl fp => pe_callTy call_int1 (by rfl) T.n_int (by decide +kernel) (pa_cons (pe_fldK (K := K) rfl (pe_ix (ix_listK (K := K) rfl) (pv 0) (pv 8) (fun _ _ => rfl)) rfl) pa_nil))) pa_nil)))) (pv 4) (nomark _))))))), ?_⟩
    have hxd : Dp K H xi (ixD x) := by
      cases x with
      | none => obtain rfl : xi = .bl true := hx; exact .bl _
      | some i => obtain rfl : xi = .int i := hx; exact .int _
    refine ⟨_, rfl, .ref T2, .tuple [ixD x, loD lo], 2, rfl, .tup (SqT.of hT) (.cons hxd (.cons (lo_dp hlo) .nil)), _, rfl, iteF ?_⟩
    refine ⟨_, rfl, T2, [xi, yl], rfl, SqT.of hT, rfl, _, _, rfl, _, _, rfl, rfl, ?_⟩
    refine ⟨_, rfl, _, rfl, xi, ixD x, 0, (z : Int), rfl, hxd, _, rfl, ?_⟩
    cases x with
    | none => exact iteT (q H Ext.rfl')
    | some i =>
      obtain rfl : xi = .int i := hx
      unfold barV at q
      dsimp only at q
      rw [show betD (ixD (some i)) 0 (z : Int) = (decide (0 ≤ i) && decide (i ≤ (z : Int))) from bet_int]
      cases hb : (decide (0 ≤ i) && decide (i ≤ (z : Int))) with
      | false =>
        rw [hb] at q
        exact iteT (q H Ext.rfl')
      | true =>
        rw [hb, Bool.true_and] at q
        refine iteF ⟨_, rfl, _, rfl, W, ws, rfl, .inl (SqL.of hW), ?_⟩
        rw [hws.1]
        refine ⟨yl, lo, ds.length, rfl, hlo, by omega, fun H1 e1 => ⟨_, rfl, ?_⟩⟩
        cases hl : lotV ds.length lo with
        | false =>
          rw [hl] at q
          exact iteT (q H1 e1)
        | true =>
          rw [hl, Bool.true_and] at q
          obtain ⟨⟨u, rfl, hu⟩, hin, _⟩ := lot_at (K := K) hlo hl
          obtain ⟨lk, ls⟩ := lo
          dsimp only at hu q hll hin
          have hu1 := e1 _ _ hu
          refine iteF ⟨_, rfl, u, rfl, ⟨_, SqT.of hu1⟩, fun C hC => ?_⟩
          refine lc_it (walk_tup (xs := ls.map nI)) (fun m H' => Ext H1 H' ∧ H' C = some (.lst (((ls.take m).map fun j => decide (j ∈ ns)).map V.bl))) ⟨Ext.upd hC, upd_same⟩ (fun m H' _ pv => SqT.of (pv.1 _ _ hu1)) (fun m x H' H2 hi pv hy => ?_) (fun H' pv => ?_)
          · obtain ⟨e4, hC4⟩ := pv
            obtain ⟨rfl, hx⟩ := hy
            rw [List.getElem?_map] at hx
            obtain ⟨j, hj, rfl⟩ := Option.map_eq_some_iff.mp hx
            refine ⟨rfl, _, rfl, _, rfl, L, _, rfl, .inl (SqL.of (e4 _ _ (e1 _ _ hL))), rfl, flat_nI _, ?_⟩
            rw [show inV (nI j) (ns.map nI) = decide (j ∈ ns) from inV_nI j _]
            refine ⟨_, hC4, small_sz ?_, ext_mut e4 hC, ?_⟩
            · rw [List.length_map, List.length_map, List.length_take]
              omega
            · rw [upd_same, take_snoc hj, List.map_append, List.map_append]
              rfl
          · obtain ⟨e4, hC4⟩ := pv
            rw [List.length_map, List.take_length] at hC4
            have e14 := e1.trans e4
            refine ⟨C, _, rfl, SqL.of hC4, _, rfl, ?_⟩
            rw [List.all_map, show (id ∘ fun j => decide (j ∈ ns)) = (fun j => decide (j ∈ ns)) from rfl]
            cases hal : ls.all (fun j => decide (j ∈ ns)) with
            | false =>
              rw [hal] at q
              exact iteT (q H' e14)
            | true =>
              rw [hal, Bool.true_and] at q
              have hL4 := e14 _ _ hL
              have hu4 := e4 _ _ hu1
              refine iteF ⟨_, rfl, L, _, rfl, .inl (SqL.of hL4), _, rfl, u, _, rfl, .inr (SqT.of hu4), _, _, rfl, rfl, _, rfl, _, rfl, _, _, rfl, rfl, _, _, rfl, rfl, _, rfl, ?_⟩
              show (if decide (((ns.map nI).length : Int) - ((ls.map nI).length : Int) > (z : Int) - i) = true then _ else _)
              rw [List.length_map, List.length_map]
              cases hg : decide ((ns.length : Int) - (ls.length : Int) > (z : Int) - i) with
              | true =>
                rw [hg] at q
                exact iteT (q H' e14)
              | false =>
                rw [hg] at q
                simp only [Bool.not_false, Bool.true_and] at q
                rw [Bool.and_eq_true, decide_eq_true_eq, decide_eq_true_eq] at hb
                rw [decide_eq_false_iff_not] at hg
                have hpos : 0 < ls.length := by omega
                refine iteF ?_
                have hW4 := e14 _ _ hW
                refine ⟨_, rfl, _, rfl, _, _, rfl, rfl, .inl ⟨by omega, by omega⟩, _, rfl, u, rfl, ⟨_, SqT.of hu4⟩, fun M hM => ?_⟩
                refine lc_it (walk_tup (xs := ls.map nI)) (fun m H5 => Ext H' H5 ∧ H5 M = some (.lst (((ls.take m).map (ms ds)).map V.int))) ⟨Ext.upd hM, upd_same⟩ (fun m H5 _ pv => SqT.of (pv.1 _ _ hu4)) (fun m x H5 H6 hi pv hy => ?_) (fun H5 pv => ?_)
                · obtain ⟨e5, hM5⟩ := pv
                  obtain ⟨rfl, hx⟩ := hy
                  rw [List.getElem?_map] at hx
                  obtain ⟨j, hj, rfl⟩ := Option.map_eq_some_iff.mp hx
                  have hjn : j < ds.length := of_decide_eq_true (List.all_eq_true.mp hin j (List.mem_of_getElem? hj))
                  obtain ⟨d, hdw⟩ : ∃ d, ds[j]? = some d := ⟨_, List.getElem?_eq_getElem hjn⟩
                  obtain ⟨xw, hxw⟩ : ∃ x, ws[j]? = some x := ⟨_, List.getElem?_eq_getElem (by rw [hws.1]; exact hjn)⟩
                  obtain ⟨q2, rfl, hwq⟩ := hws.2 j xw d hxw hdw
                  have e05 := e14.trans e5
                  obtain ⟨dq, Tq, xq, hq, _, _⟩ := id (hwq.ext e05)
                  refine ⟨rfl, _, rfl, _, rfl, W, ws, (j : Int), .ref q2, rfl, rfl, SqL.of (e05 _ _ hW), atI_nat hxw, q2, A.Way, dq, _, _, rfl, hq, T.Way.cl, T.w_most, rfl, .inl ⟨_, rfl, ?_⟩⟩
                  refine ⟨_, hM5, small_sz ?_, ext_mut e5 hM, ?_⟩
                  · rw [List.length_map, List.length_map, List.length_take]
                    omega
                  · rw [upd_same, take_snoc hj, List.map_append, List.map_append, ← (at_d hdw).2.2.2]
                    rfl
                · obtain ⟨e5, hM5⟩ := pv
                  rw [List.length_map, List.take_length] at hM5
                  refine ⟨M, _, rfl, SqL.of hM5, by rw [List.length_map]; exact hpos, fun m hm hmin => ?_⟩
                  obtain ⟨j, hj, rfl⟩ := List.mem_map.mp hm
                  refine ⟨_, _, rfl, rfl, .inl ⟨by decide, by decide⟩, _, _, rfl, rfl, _, rfl, rfl, ?_⟩
                  rw [dvi]
                  have hv : decide (i * g + 2 * ms ds j = e) = decide (LeastB ds g e i ls) := by
                    by_cases hh : i * g + 2 * ms ds j = e
                    · rw [decide_eq_true hh, decide_eq_true]
                      exact ⟨j, hj, fun k hk => hmin _ (List.mem_map.mpr ⟨k, hk, rfl⟩), hh⟩
                    · rw [decide_eq_false hh, decide_eq_false]
                      rintro ⟨j2, h1, h2, h3⟩
                      have h4 := hmin _ (List.mem_map.mpr ⟨j2, h1, rfl⟩)
                      have h5 := h2 j hj
                      have : ms ds j = ms ds j2 := by omega
                      rw [this] at hh
                      exact hh h3
                  rw [hv]
                  have z0 := q H5 (e14.trans e5)
                  exact z0
end
end K18

set_option Elab.async false
set_option maxRecDepth 100000
set_option maxHeartbeats 4000000
namespace K18
open PySem PySem.Spec PyProof.Rows L2
/-- an entry of a plan: none, an int, or True -/
abbrev Be := Option (Option Int)
def beV : Be → V
  | none => .non
  | some none => .bl true
  | some (some i) => .int i
def beD : Be → PyData
  | none => .none
  | some none => .bool true
  | some (some i) => .int i
def beOk : Be → Bool
  | some (some i) => decide (0 ≤ i)
  | _ => false
def beI : Be → Int
  | some (some i) => i
  | _ => 0
def begun (bs : List Be) (m : Nat) : List Nat := (List.range m).filter fun j => (bs.getD j none).isSome
def gapsB (g : Int) (T : List Int) : Bool := (List.range (T.length - 1)).all fun i => decide (T.getD (i + 1) 0 - T.getD i 0 ≥ g)
def Gaps (g : Int) (L : List Int) : Prop := ∃ T : List Int, T.Perm L ∧ T.Pairwise (· ≤ ·) ∧ gapsB g T = true
theorem gaps_of {g : Int} {L T : List Int} (hp : T.Perm L) (hs : T.Pairwise (· ≤ ·)) : gapsB g T = true ↔ Gaps g L := by
  constructor
  · intro h
    exact ⟨T, hp, hs, h⟩
  · rintro ⟨T', h1, h2, h3⟩
    rw [(hp.trans h1.symm).eq_of_pairwise (fun _ _ _ _ a b => Int.le_antisymm a b) hs h2]
    exact h3
open Classical in
noncomputable def planV (m : Nat) (ns : List Nat) (z : Nat) (g : Int) (b : Bool) (bs : List Be) : Bool := (b && decide (bs.length = m)) && (!decide ((begun bs m).length ≤ z) && ((begun bs m).all (fun j => decide (j ∈ ns)) && ((begun bs m).all (fun j => beOk (bs.getD j none)) && decide (Gaps g ((begun bs m).map fun j => beI (bs.getD j none))))))
def PlAt (H : Hp) (v : V) (b : Bool) (bs : List Be) : Prop := ∃ t, v = .ref t ∧ H t = some (if b = true then .tup (bs.map beV) else .lst (bs.map beV))
theorem be_dp {K : PySem.W.Frag} {H : Hp} : ∀ bs : List Be, DpAll K H (bs.map beV) (bs.map beD)
  | [] => .nil
  | none :: bs => .cons .non (be_dp bs)
  | some none :: bs => .cons (.bl _) (be_dp bs)
  | some (some _) :: bs => .cons (.int _) (be_dp bs)
theorem be1_dp {K : PySem.W.Frag} {H : Hp} : ∀ b : Be, Dp K H (beV b) (beD b)
  | none => .non
  | some none => .bl _
  | some (some _) => .int _
section
variable {P : Program} {w : World} {K : PySem.W.Frag} {mg : Str → Option Value} {base : Heap} {A : Ad}
def spPlan (K : PySem.W.Frag) (A : Ad) : Sp := fun vs H Q _ => ∃ (W L : Addr) (ws : List V) (ds : List Wd) (ns : List Nat) (z : Nat) (g : Int) (v : V) (b : Bool) (bs : List Be), vs = [.ref W, .ref L, .int (z : Int), .int g, v] ∧ H W = some (.lst ws) ∧ Ways K A H ws ds ∧ ds.length ≤ 60 ∧ H L = some (.lst (ns.map nI)) ∧ ns.length ≤ 60 ∧ PlAt H v b bs ∧ ∀ H', Ext H H' → Q (.bl (planV ds.length ns z g b bs)) H'
open Classical in
theorem ok_plan {f : Addr} {fd : FuncData} (F : Fun K "is_plan" "is_plan" s_is_plan f fd) (T : Txt K mg A) (O_is_tuple_of : Own P w K mg base CX0 "is_tuple_of" 1 pm_is_tuple_of (spTupleOf K)) (O_is_integer : Own P w K mg base CX0 "is_integer" 1 pm_is_integer (spInteger K)) : FnOk P w K mg base CX0 2 f fd pm_is_plan (spPlan K A) := by
  refine F.ok sc_is_plan (fun vs H Q E h => ?_) (fun cdv A' outer s H vs Q E hr h => ?_)
  · obtain ⟨_, _, _, _, _, _, _, _, _, _, rfl, _⟩ := h
    rfl
  · obtain ⟨W, L, ws, ds, ns, z, g, v, b, bs, rfl, hW, hws, hsm, hL, hsl, hpl, q⟩ := h
    refine ⟨_, pss_cons (ps_if (pt_not (pt_val (pe_own O_is_tuple_of (hr.mono (by decide)) pass0 (pa_cons (pv 4) (pa_cons (pe_callB call_len_seq (by rfl) T.n_len (by decide +kernel) (pa_cons (pv 0) pa_nil)) pa_nil))))) (pss_one (ps_ret (pe_bl))) (pss_nil))
      (pss_cons (ps_setLc (i := 5) (own := [("way", 7)]) (g := gName 7) (by rfl) sc_is_plan.nd rfl rfl (sw_true rfl rfl rfl (by decide +kernel)) (pi_range1 rfl T.n_range (pa_cons (pe_callB call_len_seq (by rfl) T.n_len (by decide +kernel) (pa_cons (pv 0) pa_nil)) pa_nil)) (blkOk_by (own := [("way", 7)]) (N := nm_is_plan) (sc := defScope s_is_plan) (by decide +kernel)) (fun _ _ _ _ _ => pg_name (i := 7) sc_is_plan.nd rfl (Or.inl rfl)) (fun s1 H1 C1 cl fp => pts_one (pt_cmpR op_notN (pe_ix (ix_tupK (K := K) rfl) (pv 4) (pv 7) (fun _ _ => rfl)) (pe_non) (nomark _))) (fun s1 H1 C1 cl fp => pv 7))
      (pss_cons (ps_if (PW.pt (pw_or (pt_cmpR op_le (pe_callB call_len_seq (by rfl) T.n_len (by decide +kernel) (pa_cons (pv 5) pa_nil)) (pv 2) (nomark _)) (pw_or1 (pt_not (pt_val (pe_callB (cr_all rfl) (by rfl) T.n_all (by decide +kernel) (pa_cons (pe_lc (own := [("way", 7)]) (g := gName 7) (by rfl) sc_is_plan.nd (pi_list (pv 5)) (blkOk_by (own := [("way", 7)]) (N := nm_is_plan) (sc := defScope s_is_plan) (by decide +kernel)) (fun _ _ _ _ _ => pg_name (i := 7) sc_is_plan.nd rfl (Or.inl rfl)) (fun s1 H1 C1 cl fp => pts_nil) (fun s1 H1 C1 cl fp => pe_cmpR (op_in_seqK (K := K) rfl) (pv 7) (pv 1) (by with_unfolding_all rfl))) pa_nil))))))) (pss_one (ps_ret (pe_bl))) (pss_nil))
      (pss_cons (ps_if (pt_not (pt_val (pe_callB (cr_all rfl) (by rfl) T.n_all (by decide +kernel) (pa_cons (pe_lc (own := [("way", 7)]) (g := gName 7) (by rfl) sc_is_plan.nd (pi_list (pv 5)) (blkOk_by (own := [("way", 7)]) (N := nm_is_plan) (sc := defScope s_is_plan) (by decide +kernel)) (fun _ _ _ _ _ => pg_name (i := 7) sc_is_plan.nd rfl (Or.inl rfl)) (fun s1 H1 C1 cl fp => pts_nil) (fun s1 H1 C1 cl fp => pe_and (pe_own O_is_integer (hr.mono (by decide)) pass0 (pa_cons (pe_ix (ix_tupK (K := K) rfl) (pv 4) (pv 7) (fun _ _ => rfl)) pa_nil)) (pe_one (pe_cmpR op_ge (pe_ix (ix_tupK (K := K) rfl) (pv 4) (pv 7) (fun _ _ => rfl)) (pe_int) (nomark _))))) pa_nil)))) (pss_one (ps_ret (pe_bl))) (pss_nil))
      (pss_cons (ps_set (i := 6) sc_is_plan.nd rfl (Or.inl rfl) (pe_callB cr_sortedI (by rfl) T.n_sorted (by decide +kernel) (pa_cons (pe_lc (own := [("way", 7)]) (g := gName 7) (by rfl) sc_is_plan.nd (pi_list (pv 5)) (blkOk_by (own := [("way", 7)]) (N := nm_is_plan) (sc := defScope s_is_plan) (by decide +kernel)) (fun _ _ _ _ _ => pg_name (i := 7) sc_is_plan.nd rfl (Or.inl rfl)) (fun s1 H1 C1 cl fp => pts_nil) (fun s1 H1 C1 cl fp => pe_callTy call_int1 (by rfl) T.n_int (by decide +kernel) (pa_cons (pe_ix (ix_tupK (K := K) rfl) (pv 4) (pv 7) (fun _ _ => rfl)) pa_nil))) pa_nil)))
      (pss_one (ps_ret (pe_callB (cr_all rfl) (by rfl) T.n_all (by decide +kernel) (pa_cons (pe_lc (own := [("sooner", 8), ("later", 9)]) (g := gTup K 2 (gCons (gName 8) (gCons (gName 9) (gNil)))) (by rfl) sc_is_plan.nd (RZ.pi_zipA (by rfl) T.n_zip (pa_cons (pv 6) (pa_cons (pe_slice sl_list (pv 6) (po_some (pe_int)) po_none) pa_nil))) (blkOk_by (own := [("sooner", 8), ("later", 9)]) (N := nm_is_plan) (sc := defScope s_is_plan) (by decide +kernel)) (fun _ _ _ _ _ => pg_tup rfl (pgs_cons (pg_name (i := 8) sc_is_plan.nd rfl (Or.inl rfl)) (pgs_cons (pg_name (i := 9) sc_is_plan.nd rfl (Or.inl rfl)) (pgs_nil)))) (fun s1 H1 C1 cl fp => pts_nil) (fun s1 H1 C1 cl fp => pe_cmpR op_ge (pe_op op_sub (pv 9) (pv 8)) (pv 3) (nomark _))) pa_nil)))))))), ?_⟩
    obtain ⟨t, rfl, ht⟩ := hpl
    have hd : Dp K H (.ref t) (if b = true then .tuple (bs.map beD) else .list (bs.map beD)) := by
      cases b with
      | true => exact .tup (SqT.of ht) (be_dp bs)
      | false => exact .lst (SqL.of ht) (be_dp bs)
    refine ⟨_, rfl, _, rfl, W, ws, rfl, .inl (SqL.of hW), .ref t, _, (ws.length : Int), rfl, hd, _, rfl, ?_⟩
    have hv : (isTupD (if b = true then PyData.tuple (bs.map beD) else .list (bs.map beD)) && decide ((lenD (if b = true then PyData.tuple (bs.map beD) else .list (bs.map beD)) : Int) = (ws.length : Int))) = (b && decide (bs.length = ds.length)) := by
      cases b with
      | false => rfl
      | true =>
        show (true && decide ((((bs.map beD).length : Nat) : Int) = (ws.length : Int))) = (true && _)
        rw [List.length_map, hws.1, Bool.true_and, Bool.true_and]
        exact decide_eq_decide.mpr ⟨fun h => by omega, fun h => by omega⟩
    rw [hv]
    unfold planV at q
    cases hb : (b && decide (bs.length = ds.length)) with
    | false =>
      rw [hb] at q
      exact iteT (q H Ext.rfl')
    | true =>
      rw [hb, Bool.true_and] at q
      rw [Bool.and_eq_true, decide_eq_true_eq] at hb
      obtain ⟨rfl, hlen⟩ := hb
      replace ht : H t = some (.tup (bs.map beV)) := ht
      refine iteF ⟨_, rfl, W, ws, rfl, .inl (SqL.of hW), _, rfl, by omega, by rw [hws.1]; omega, fun C hC => ?_⟩
      rw [hws.1, Int.toNat_natCast]
      have hat : ∀ j, j < ds.length → (bs.map beV)[j]? = some (beV (bs.getD j none)) := fun j hj => by
        rw [List.getElem?_map, List.getElem?_eq_getElem (by omega), List.getD_eq_getElem?_getD, List.getElem?_eq_getElem (by omega)]
        rfl
      refine lc_range (fun i H2 => Ext H H2 ∧ H2 C = some (.lst ((begun bs i).map nI))) ⟨Ext.upd hC, upd_same⟩ (fun i H2 hi pv => ?_) (fun H2 pv => ?_)
      · obtain ⟨e2, hC2⟩ := pv
        rw [Int.zero_add]
        refine ⟨rfl, _, rfl, _, rfl, t, _, (i : Int), _, rfl, rfl, SqT.of (e2 _ _ ht), atI_nat (hat i hi), rfl, _, rfl, ?_⟩
        have hbb : decide (beV (bs.getD i none) = V.non) = !(bs.getD i none).isSome := by
          rcases bs.getD i none with _ | _ | i <;> rfl
        rw [hbb, Bool.not_not]
        have hst : begun bs (i + 1) = begun bs i ++ (if (bs.getD i none).isSome = true then [i] else []) := by
          unfold begun
          rw [List.range_succ, List.filter_append, List.filter_cons, List.filter_nil]
        rw [hst]
        cases hh : (bs.getD i none).isSome with
        | false =>
          refine iteF ⟨e2, ?_⟩
          rw [if_neg (by decide), List.append_nil]
          exact hC2
        | true =>
          refine iteT ⟨_, rfl, _, hC2, small_sz ?_, ext_mut e2 hC, ?_⟩
          · rw [List.length_map]
            unfold begun
            refine Nat.le_trans (List.length_filter_le _ _) ?_
            rw [List.length_range]
            omega
          · rw [upd_same, if_pos rfl, List.map_append]
            rfl
      · obtain ⟨e2, hC2⟩ := pv
        have hbm : ∀ j ∈ begun bs ds.length, j < ds.length := fun j hj => by
          unfold begun at hj
          exact List.mem_range.mp (List.mem_filter.mp hj).1
        have hbl : (begun bs ds.length).length ≤ 60 := by
          unfold begun
          refine Nat.le_trans (List.length_filter_le _ _) ?_
          rw [List.length_range]
          exact hsm
        generalize begun bs ds.length = Bg at hC2 q hbm hbl
        refine ⟨_, rfl, C, _, rfl, .inl (SqL.of hC2), _, rfl, _, _, rfl, rfl, _, rfl, ?_⟩
        rw [List.length_map, show decide ((Bg.length : Int) ≤ (z : Int)) = decide (Bg.length ≤ z) from decide_eq_decide.mpr ⟨fun h => by omega, fun h => by omega⟩]
        cases h1 : decide (Bg.length ≤ z) with
        | true =>
          rw [h1] at q
          exact iteT (q H2 e2)
        | false =>
          rw [h1, Bool.not_false, Bool.true_and] at q
          refine iteF ⟨_, rfl, C, rfl, ⟨_, SqL.of hC2⟩, fun M hM => ?_⟩
          refine lc_list (xs := Bg.map nI) (fun m H' => Ext H2 H' ∧ H' M = some (.lst (((Bg.take m).map fun j => decide (j ∈ ns)).map V.bl))) ⟨Ext.upd hM, upd_same⟩ (fun m H' _ pv => SqL.of (pv.1 _ _ hC2)) (fun m x H' hx pv => ?_) (fun H' pv => ?_)
          · obtain ⟨e3, hM3⟩ := pv
            rw [List.getElem?_map] at hx
            obtain ⟨j, hj, rfl⟩ := Option.map_eq_some_iff.mp hx
            refine ⟨rfl, _, rfl, _, rfl, L, _, rfl, .inl (SqL.of (e3 _ _ (e2 _ _ hL))), rfl, flat_nI _, ?_⟩
            rw [show inV (nI j) (ns.map nI) = decide (j ∈ ns) from inV_nI j _]
            refine ⟨_, hM3, small_sz ?_, ext_mut e3 hM, ?_⟩
            · rw [List.length_map, List.length_map, List.length_take]
              omega
            · rw [upd_same, take_snoc hj, List.map_append, List.map_append]
              rfl
          · obtain ⟨e3, hM3⟩ := pv
            rw [List.length_map, List.take_length] at hM3
            have e23 := e2.trans e3
            refine ⟨M, _, rfl, SqL.of hM3, _, rfl, ?_⟩
            rw [List.all_map, show (id ∘ fun j => decide (j ∈ ns)) = (fun j => decide (j ∈ ns)) from rfl]
            cases h2 : Bg.all (fun j => decide (j ∈ ns)) with
            | false =>
              rw [h2] at q
              exact iteT (q H' e23)
            | true =>
              rw [h2, Bool.true_and] at q
              have hC3 := e3 _ _ hC2
              refine iteF ⟨_, rfl, C, rfl, ⟨_, SqL.of hC3⟩, fun N hN => ?_⟩
              refine lc_list (xs := Bg.map nI) (fun m H5 => Ext H' H5 ∧ H5 N = some (.lst (((Bg.take m).map fun j => beOk (bs.getD j none)).map V.bl))) ⟨Ext.upd hN, upd_same⟩ (fun m H5 _ pv => SqL.of (pv.1 _ _ hC3)) (fun m x H5 hx pv => ?_) (fun H5 pv => ?_)
              · obtain ⟨e4, hN4⟩ := pv
                rw [List.getElem?_map] at hx
                obtain ⟨j, hj, rfl⟩ := Option.map_eq_some_iff.mp hx
                have hjn := hbm j (List.mem_of_getElem? hj)
                have ht5 := e4 _ _ (e23 _ _ ht)
                have fin : ∀ y : Bool, y = beOk (bs.getD j none) → ∃ acc, H5 N = some (.lst acc) ∧ acc.length < sizeLine ∧ Ext H' (upd H5 N (.lst (acc ++ [V.bl y]))) ∧ upd H5 N (.lst (acc ++ [V.bl y])) N = some (.lst (((Bg.take (m + 1)).map fun j => beOk (bs.getD j none)).map V.bl)) := fun y hy => by
                  refine ⟨_, hN4, small_sz ?_, ext_mut e4 hN, ?_⟩
                  · rw [List.length_map, List.length_map, List.length_take]
                    omega
                  · rw [upd_same, take_snoc hj, List.map_append, List.map_append, hy]
                    rfl
                refine ⟨rfl, _, rfl, _, rfl, t, _, (j : Int), _, rfl, rfl, SqT.of ht5, atI_nat (hat j hjn), _, beD (bs.getD j none), rfl, be1_dp _, _, rfl, ?_⟩
                have hjj := hat j hjn
                generalize bs.getD j none = bj at fin hjj
                rcases bj with _ | _ | iv
                · exact iteF (fin _ rfl)
                · exact iteF (fin _ rfl)
                · exact iteT ⟨_, rfl, _, rfl, t, _, (j : Int), .int iv, rfl, rfl, SqT.of ht5, atI_nat hjj, _, _, rfl, rfl, fin _ rfl⟩
              · obtain ⟨e4, hN4⟩ := pv
                rw [List.length_map, List.take_length] at hN4
                have e24 := e23.trans e4
                refine ⟨N, _, rfl, SqL.of hN4, _, rfl, ?_⟩
                rw [List.all_map, show (id ∘ fun j => beOk (bs.getD j none)) = (fun j => beOk (bs.getD j none)) from rfl]
                cases h3 : Bg.all (fun j => beOk (bs.getD j none)) with
                | false =>
                  rw [h3] at q
                  exact iteT (q H5 e24)
                | true =>
                  rw [h3, Bool.true_and] at q
                  have hC5 := e4 _ _ hC3
                  refine iteF ⟨_, rfl, C, rfl, ⟨_, SqL.of hC5⟩, fun S hS => ?_⟩
                  refine lc_list (xs := Bg.map nI) (fun m H6 => Ext H5 H6 ∧ H6 S = some (.lst (((Bg.take m).map fun j => beI (bs.getD j none)).map V.int))) ⟨Ext.upd hS, upd_same⟩ (fun m H6 _ pv => SqL.of (pv.1 _ _ hC5)) (fun m x H6 hx pv => ?_) (fun H6 pv => ?_)
                  · obtain ⟨e5, hS5⟩ := pv
                    rw [List.getElem?_map] at hx
                    obtain ⟨j, hj, rfl⟩ := Option.map_eq_some_iff.mp hx
                    have hjm := List.mem_of_getElem? hj
                    have hjn := hbm j hjm
                    have hok : beOk (bs.getD j none) = true := List.all_eq_true.mp h3 j hjm
                    have hjj := hat j hjn
                    have fin : ∀ y : Int, y = beI (bs.getD j none) → ∃ acc, H6 S = some (.lst acc) ∧ acc.length < sizeLine ∧ Ext H5 (upd H6 S (.lst (acc ++ [V.int y]))) ∧ upd H6 S (.lst (acc ++ [V.int y])) S = some (.lst (((Bg.take (m + 1)).map fun j => beI (bs.getD j none)).map V.int)) := fun y hy => by
                      refine ⟨_, hS5, small_sz ?_, ext_mut e5 hS, ?_⟩
                      · rw [List.length_map, List.length_map, List.length_take]
                        omega
                      · rw [upd_same, take_snoc hj, List.map_append, List.map_append, hy]
                        rfl
                    generalize bs.getD j none = bj at fin hjj hok
                    rcases bj with _ | _ | iv
                    · cases hok
                    · cases hok
                    · exact ⟨rfl, _, rfl, _, rfl, t, _, (j : Int), .int iv, rfl, rfl, SqT.of (e5 _ _ (e24 _ _ ht)), atI_nat hjj, .inl ⟨_, rfl, fin _ rfl⟩⟩
                  · obtain ⟨e5, hS5⟩ := pv
                    rw [List.length_map, List.take_length] at hS5
                    refine ⟨S, _, rfl, SqL.of hS5, fun Tl qa hp hs hqa => ?_⟩
                    have e6 := Ext.upd (o := .lst (Tl.map V.int)) hqa
                    have hqa6 : upd H6 qa (.lst (Tl.map V.int)) qa = some (.lst (Tl.map V.int)) := upd_same
                    generalize upd H6 qa (.lst (Tl.map V.int)) = H7 at e6 hqa6 ⊢
                    refine ⟨_, rfl, _, rfl, 1, rfl, qa, _, rfl, SqL.of hqa6, fun pa hpa => ?_⟩
                    have hcut : cutV (Tl.map V.int) (some 1) none = (Tl.map V.int).drop 1 := by
                      show ((Tl.map V.int).drop (if (1 : Int) < 0 then ((1 : Int) + ((Tl.map V.int).length : Int)).toNat else min ((1 : Int).toNat) (Tl.map V.int).length)).take ((Tl.map V.int).length - (if (1 : Int) < 0 then ((1 : Int) + ((Tl.map V.int).length : Int)).toNat else min ((1 : Int).toNat) (Tl.map V.int).length)) = _
                      rw [if_neg (by omega)]
                      rcases Tl with _ | ⟨a, Tl⟩
                      · rfl
                      · rw [show min ((1 : Int)).toNat (List.map V.int (a :: Tl)).length = 1 by simp]
                        exact List.take_of_length_le (by simp)
                    rw [hcut]
                    have e7 := Ext.upd (o := .lst ((Tl.map V.int).drop 1)) hpa
                    have hpa7 : upd H7 pa (.lst ((Tl.map V.int).drop 1)) pa = some (.lst ((Tl.map V.int).drop 1)) := upd_same
                    have hqa7 := e7 _ _ hqa6
                    generalize upd H7 pa (.lst ((Tl.map V.int).drop 1)) = H8 at e7 hpa7 hqa7 ⊢
                    have e28 := ((e24.trans e5).trans e6).trans e7
                    have hml : Tl.length - 1 = min (Tl.map V.int).length ((Tl.map V.int).drop 1).length := by
                      rw [List.length_drop, List.length_map]
                      omega
                    have htl : Tl.length ≤ 60 := by
                      rw [hp.length_eq, List.length_map]
                      exact hbl
                    refine ⟨qa, pa, _, _, rfl, .inl ⟨SqL.of hqa7, SqL.of hpa7, fun X hX => ?_⟩⟩
                    refine lc_it (walk_zip hml) (fun i H9 => Ext H8 H9 ∧ H9 X = some (.lst (((List.range i).map fun i => decide (Tl.getD (i + 1) 0 - Tl.getD i 0 ≥ g)).map V.bl))) ⟨Ext.upd hX, upd_same⟩ (fun i H9 _ pv => ⟨SqL.of (pv.1 _ _ hqa7), SqL.of (pv.1 _ _ hpa7)⟩) (fun i x H9 H10 hi pv hy => ?_) (fun H9 pv => ?_)
                    · obtain ⟨e8, hX8⟩ := pv
                      obtain ⟨tt, y, v, rfl, htt, rfl, hy1, hy2⟩ := hy
                      have hi1 : i + 1 < Tl.length := by omega
                      replace hy1 : (Tl.map V.int)[i]? = some y := hy1
                      replace hy2 : ((Tl.map V.int).drop 1)[i]? = some v := hy2
                      rw [List.getElem?_map, List.getElem?_eq_getElem (by omega)] at hy1
                      rw [List.getElem?_drop, List.getElem?_map, List.getElem?_eq_getElem (by omega)] at hy2
                      cases hy1
                      cases hy2
                      refine ⟨tt, _, rfl, SqT.of upd_same, rfl, _, _, rfl, _, _, rfl, rfl, rfl, _, rfl, _, rfl, _, _, rfl, rfl, _, rfl, _, _, rfl, rfl, ?_⟩
                      have g1 : Tl.getD i 0 = Tl[i] := by rw [List.getD_eq_getElem?_getD, List.getElem?_eq_getElem (by omega)]; rfl
                      have g2 : Tl.getD (i + 1) 0 = Tl[1 + i] := by rw [List.getD_eq_getElem?_getD, List.getElem?_eq_getElem (by omega)]; simp [Nat.add_comm]
                      have e9 := Ext.upd (o := .tup [V.int Tl[i], V.int Tl[1 + i]]) htt
                      refine ⟨_, e9 _ _ hX8, small_sz ?_, ext_mut (e8.trans e9) hX, ?_⟩
                      · rw [List.length_map, List.length_map, List.length_range]
                        omega
                      · rw [upd_same, List.range_succ, List.map_append, List.map_append, List.map_singleton, List.map_singleton, g1, g2]
                    · obtain ⟨e8, hX8⟩ := pv
                      refine ⟨X, _, rfl, SqL.of hX8, ?_⟩
                      have hval : ((List.range (Tl.length - 1)).map fun i => decide (Tl.getD (i + 1) 0 - Tl.getD i 0 ≥ g)).all id = decide (Gaps g (Bg.map fun j => beI (bs.getD j none))) := by
                        rw [List.all_map]
                        rw [Bool.eq_iff_iff, decide_eq_true_eq]
                        exact gaps_of hp hs
                      rw [hval]
                      exact q H9 (e28.trans e8)
end
end K18

set_option Elab.async false
set_option maxRecDepth 100000
set_option maxHeartbeats 4000000
namespace K18
open PySem PySem.Spec PyProof.Rows L2
section
variable {P : Program} {w : World} {K : PySem.W.Frag} {mg : Str → Option Value} {base : Heap} {A : Ad}
def dueV : Option Str → V
  | some s => .str s
  | none => .non
def spRefused (K : PySem.W.Frag) (A : Ad) : Sp := fun vs H Q _ => ∃ (W L : Addr) (ws : List V) (ds : List Wd) (ns : List Nat) (z : Nat) (g : Int), vs = [.ref W, .ref L, .int (z : Int), .int g] ∧ H W = some (.lst ws) ∧ Ways K A H ws ds ∧ ds.length ≤ 60 ∧ (∀ j, j < ds.length → 1 ≤ ms ds j ∧ ms ds j ≤ 50) ∧ H L = some (.lst (ns.map nI)) ∧ ns.length ≤ 60 ∧ ∀ H', Ext H H' → Q (dueV (dueB ds.length ns z g)) H'
theorem ok_refused {f : Addr} {fd : FuncData} (F : Fun K "_law_refused" "_law_refused" s__law_refused f fd) (T : Txt K mg A) (O_best_begins : Own P w K mg base (L2.CX P w) "best_begins" 7 pm_best_begins (spBest K A)) : FnOk P w K mg base CX0 8 f fd pm__law_refused (spRefused K A) := by
  refine F.ok sc__law_refused (fun vs H Q E h => ?_) (fun cdv A' outer s H vs Q E hr h => ?_)
  · obtain ⟨_, _, _, _, _, _, _, rfl, _⟩ := h
    rfl
  · obtain ⟨W, L, ws, ds, ns, z, g, rfl, hW, hws, hsm, hms, hL, hsl, q⟩ := h
    refine ⟨_, pss_cons (ps_set (i := 4) sc__law_refused.nd rfl (Or.inl rfl) (pe_non))
      (pss_cons (ps_try_as (i := 5) (Wout := fun _ _ _ _ => False) rfl rfl sc__law_refused.nd rfl rfl ⟨rfl, by decide, Or.inl T.BadPart.gC⟩ takes0
        (fun W pn xe tk _ => pss_one (ps_expr (by exact (pe_ownS O_best_begins (hr.mono (by decide)) tk (pa_cons (pv 0) (pa_cons (pv 1) (pa_cons (pv 2) (pa_cons (pv 3) pa_nil))))))))
        (fun a oe cls d pn hz hf => pss_one (ps_set (i := 4) sc__law_refused.nd rfl (Or.inl rfl) (by exact (pe_xf ⟨T.BadPart.ec.hg, T.BadPart.ec.hk, T.BadPart.ec.hs, T.BadPart.ec.hd⟩ T.BadPart.noA hz hf (pv 5))))))
      (pss_one (ps_ret (pv 4)))), ?_⟩
    refine ⟨_, rfl, _, rfl, _, rfl, _, rfl, W, L, ws, ds, ns, z, g, rfl, hW, hws, hsm, hms, hL, hsl, fun sx hsx H1 e1 e he => ?_, fun hn T2 bt pt lt bl ee i ls H1 e1 _ _ _ _ _ _ _ _ _ _ _ => ?_⟩
    · refine ⟨true, T.x_pp, fun _ ae hae => ?_, fun z => nomatch z⟩
      have z0 := q _ (e1.trans (Ext.upd (o := .xd [("part", .str sx)]) he))
      rw [hsx] at z0
      exact ⟨_, rfl, rfl, rfl, e, _, .str sx, rfl, upd_same, rfl, _, rfl, z0⟩
    · have z0 := q H1 e1
      rw [hn] at z0
      exact ⟨_, rfl, z0⟩
end
end K18

set_option Elab.async false
set_option maxRecDepth 100000
set_option maxHeartbeats 4000000
namespace K18
open PySem PySem.Spec PyProof.Rows L2
theorem emp_map {ns : List Nat} : (ns.map nI).isEmpty = ns.isEmpty := by cases ns <;> rfl
theorem emp_filter {p : Nat → Bool} : ∀ {ns : List Nat}, (ns.filter p).isEmpty = ns.all fun j => !p j
  | [] => rfl
  | n :: ns => by
    rw [List.filter_cons, List.all_cons]
    cases h : p n with
    | true => rfl
    | false => exact emp_filter
theorem isoT (b : Be) : (match b with | some (some _) => true | some none => true | none => false) = b.isSome := by
  rcases b with _ | _ | _ <;> rfl
section
variable {P : Program} {w : World} {K : PySem.W.Frag} {mg : Str → Option Value} {base : Heap} {A : Ad}
def spPFits : Sp := fun vs H Q _ => ∃ (D L : Addr) (mo : List Int) (ns : List Nat) (z : Nat) (g : Int) (v : V) (b : Bool) (bs : List Be), vs = [.ref D, .ref L, .int (z : Int), .int g, v] ∧ H D = some (.lst (mo.map V.int)) ∧ mo.length ≤ 60 ∧ H L = some (.lst (ns.map nI)) ∧ ns.length ≤ 60 ∧ PlAt H v b bs ∧ ∀ H', Ext H H' → Q (.bl (planV mo.length ns z g b bs)) H'
open Classical in
theorem ok_pFits {f : Addr} {fd : FuncData} (F : Fun K "_law_plan_fits" "_law_plan_fits" s__law_plan_fits f fd) (T : Txt K mg A) : FnOk P w K mg base CX0 1 f fd pm__law_plan_fits spPFits := by
  refine F.ok sc__law_plan_fits (fun vs H Q E h => ?_) (fun cdv A' outer s H vs Q E hr h => ?_)
  · obtain ⟨_, _, _, _, _, _, _, _, _, rfl, _⟩ := h
    rfl
  · obtain ⟨D, L, mo, ns, z, g, v, b, bs, rfl, hD, hsm, hL, hsl, hpl, q⟩ := h
    refine ⟨_, pss_cons (ps_if (PW.pt (pw_or (pt_not (pt_val (pe_callB call_isi (by rfl) T.n_isinstance (by decide +kernel) (pa_cons (pv 4) (pa_cons (pe_bltn (v := .ty "tuple") (by rfl) T.n_tuple (by decide +kernel) rfl) pa_nil))))) (pw_or1 (pt_cmpR op_ne (pe_callB call_len_seq (by rfl) T.n_len (by decide +kernel) (pa_cons (pv 4) pa_nil)) (pe_callB call_len_seq (by rfl) T.n_len (by decide +kernel) (pa_cons (pv 0) pa_nil)) (nomark _))))) (pss_one (ps_ret (pe_bl))) (pss_nil))
      (pss_cons (ps_for PassesOwn.never rfl (pi_range1 rfl T.n_range (pa_cons (pe_callB call_len_seq (by rfl) T.n_len (by decide +kernel) (pa_cons (pv 4) pa_nil)) pa_nil)) (pg_name (i := 5) sc__law_plan_fits.nd rfl (Or.inl rfl)) (pss_one (ps_if (pt_cmpR op_notN (pe_ix ix_tup (pv 4) (pv 5) (fun _ _ => rfl)) (pe_non) (nomark _)) (pss_one (ps_if (PW.pt (pw_or (pt_not (pt_val (pe_callB call_isi (by rfl) T.n_isinstance (by decide +kernel) (pa_cons (pe_ix ix_tup (pv 4) (pv 5) (fun _ _ => rfl)) (pa_cons (pe_bltn (v := .ty "int") (by rfl) T.n_int (by decide +kernel) rfl) pa_nil))))) (pw_or (pt_val (pe_callB call_isi (by rfl) T.n_isinstance (by decide +kernel) (pa_cons (pe_ix ix_tup (pv 4) (pv 5) (fun _ _ => rfl)) (pa_cons (pe_bltn (v := .ty "bool") (by rfl) T.n_bool (by decide +kernel) rfl) pa_nil)))) (pw_or (pt_cmpR op_lt (pe_ix ix_tup (pv 4) (pv 5) (fun _ _ => rfl)) (pe_int) (nomark _)) (pw_or1 (pt_cmpR op_notIn_seq (pv 5) (pv 1) (by with_unfolding_all rfl))))))) (pss_one (ps_ret (pe_bl))) (pss_nil))) (pss_nil))))
      (pss_cons (ps_set (i := 6) sc__law_plan_fits.nd rfl (Or.inr rfl) (pe_callB cr_sortedI (by rfl) T.n_sorted (by decide +kernel) (pa_cons (pe_lc (own := [("_law_begin", 7)]) (g := gName 7) (by rfl) sc__law_plan_fits.nd (pi_tup (pv 4)) (blkOk_by (own := [("_law_begin", 7)]) (N := nm__law_plan_fits) (sc := defScope s__law_plan_fits) (by decide +kernel)) (fun _ _ _ _ _ => pg_name (i := 7) sc__law_plan_fits.nd rfl (Or.inl rfl)) (fun s1 H1 C1 cl fp => pts_one (pt_cmpR op_notN (pv 7) (pe_non) (nomark _))) (fun s1 H1 C1 cl fp => pe_callTy call_int1 (by rfl) T.n_int (by decide +kernel) (pa_cons (pv 7) pa_nil))) pa_nil)))
      (pss_cons (ps_if (pt_cmpR op_le (pe_callB call_len_seq (by rfl) T.n_len (by decide +kernel) (pa_cons (pv 6) pa_nil)) (pv 2) (nomark _)) (pss_one (ps_ret (pe_bl))) (pss_nil))
      (pss_one (ps_ret (pe_notT (pe_lc (own := [("_law_k", 5)]) (g := gName 5) (by rfl) sc__law_plan_fits.nd (pi_range2 rfl T.n_range (pa_cons (pe_int) (pa_cons (pe_callB call_len_seq (by rfl) T.n_len (by decide +kernel) (pa_cons (pv 6) pa_nil)) pa_nil))) (blkOk_by (own := [("_law_k", 5)]) (N := nm__law_plan_fits) (sc := defScope s__law_plan_fits) (by decide +kernel)) (fun _ _ _ _ _ => pg_name (i := 5) sc__law_plan_fits.nd rfl (Or.inl rfl)) (fun s1 H1 C1 cl fp => pts_one (pt_cmpR op_lt (pe_op op_sub (pe_ix (ix_listK (K := K) rfl) (pv 6) (pv 5) (fun _ _ => rfl)) (pe_ix (ix_listK (K := K) rfl) (pv 6) (pe_op op_sub (pv 5) (pe_int)) (fun _ _ => rfl))) (pv 3) (nomark _))) (fun s1 H1 C1 cl fp => pv 5)))))))), ?_⟩
    obtain ⟨t, rfl, ht⟩ := hpl
    have hd : Dp K H (.ref t) (if b = true then .tuple (bs.map beD) else .list (bs.map beD)) := by
      cases b with
      | true => exact .tup (SqT.of ht) (be_dp bs)
      | false => exact .lst (SqL.of ht) (be_dp bs)
    unfold planV at q
    refine ⟨_, rfl, .ref t, .ty "tuple", _, .type "tuple", _, rfl, .ty _, dp_ty hd, kd_tup, _, rfl, ?_⟩
    cases b with
    | false =>
      exact iteT (q H Ext.rfl')
    | true =>
      replace ht : H t = some (.tup (bs.map beV)) := ht
      refine iteF ⟨_, rfl, t, _, rfl, .inr (SqT.of ht), _, rfl, D, _, rfl, .inl (SqL.of hD), rfl, _, rfl, ?_⟩
      rw [List.length_map, List.length_map, dvi, show decide (((bs.length : Nat) : Int) = ((mo.length : Nat) : Int)) = decide (bs.length = mo.length) from decide_eq_decide.mpr ⟨fun h => by omega, fun h => by omega⟩]
      by_cases hlen : bs.length = mo.length
      · rw [decide_eq_true hlen]
        rw [decide_eq_true hlen] at q
        simp only [Bool.and_self, Bool.true_and] at q
        rw [← hlen] at q hsm
        refine iteF ⟨_, rfl, t, _, rfl, .inr (SqT.of ht), _, rfl, by omega, by rw [List.length_map]; omega, ?_⟩
        rw [List.length_map]
        have hat : ∀ j, j < bs.length → (bs.map beV)[j]? = some (beV (bs.getD j none)) := fun j hj => by
          rw [List.getElem?_map, List.getElem?_eq_getElem hj, List.getD_eq_getElem?_getD, List.getElem?_eq_getElem hj]
          rfl
        refine for_range (n := bs.length) (fun i σ' H' => ∃ o5, σ' = [some (.ref D), some (.ref L), some (.int (z : Int)), some (.int g), some (.ref t), o5, Option.none, Option.none] ∧ H' = H ∧ ∀ j, j < i → (bs.getD j none).isSome = true → beOk (bs.getD j none) = true ∧ j ∈ ns) ⟨_, rfl, rfl, fun j hj => absurd hj (Nat.not_lt_zero _)⟩ (fun i σ' H1 hi pv => ?_) (fun σ' H1 pv => ?_)
        · obtain ⟨o5, rfl, rfl, hb⟩ := pv
          rw [Int.zero_add]
          have hbg : (bs.getD i none).isSome = true → i ∈ begun bs bs.length := fun h => by
            unfold begun
            exact List.mem_filter.mpr ⟨List.mem_range.mpr hi, h⟩
          have bad1 : (bs.getD i none).isSome = true → i ∉ ns → (begun bs bs.length).all (fun j => decide (j ∈ ns)) = false := fun h h2 => by
            rw [List.all_eq_false]
            exact ⟨i, hbg h, by simpa using h2⟩
          have bad2 : (bs.getD i none).isSome = true → beOk (bs.getD i none) = false → (begun bs bs.length).all (fun j => beOk (bs.getD j none)) = false := fun h h2 => by
            rw [List.all_eq_false]
            exact ⟨i, hbg h, by rw [h2]; decide⟩
          have hii := hat i hi
          have hgo : ((bs.getD i none).isSome = true → beOk (bs.getD i none) = true ∧ i ∈ ns) → ∀ j, j < i + 1 → (bs.getD j none).isSome = true → beOk (bs.getD j none) = true ∧ j ∈ ns := fun h j hj => by
            rcases Nat.lt_succ_iff_lt_or_eq.mp hj with h' | h'
            · exact hb j h'
            · rw [h']; exact h
          generalize bs.getD i none = bj at hii bad1 bad2 hgo
          refine ⟨_, rfl, _, rfl, t, _, (i : Int), _, rfl, rfl, SqT.of ht, atI_nat hii, rfl, _, rfl, ?_⟩
          rcases bj with _ | _ | iv
          · exact iteF ⟨_, rfl, rfl, hgo fun h => by cases h⟩
          · refine iteT ⟨_, rfl, _, rfl, t, _, (i : Int), _, rfl, rfl, SqT.of ht, atI_nat hii, .bl true, .ty "int", .type (tnD (.bool true)), .type "int", isIntD (.bool true), rfl, .ty _, dp_ty (.bl true), kd_int, _, rfl, ?_⟩
            refine iteF ⟨_, rfl, _, rfl, t, _, (i : Int), _, rfl, rfl, SqT.of ht, atI_nat hii, .bl true, .ty "bool", .type (tnD (.bool true)), .type "bool", isBoolD (.bool true), rfl, .ty _, dp_ty (.bl true), kd_bool, _, rfl, iteT ?_⟩
            have z0 := q H1 Ext.rfl'
            rw [bad2 rfl rfl, Bool.false_and, Bool.and_false, Bool.and_false] at z0
            exact z0
          · refine iteT ⟨_, rfl, _, rfl, t, _, (i : Int), _, rfl, rfl, SqT.of ht, atI_nat hii, .int iv, .ty "int", .type (tnD (.int iv)), .type "int", isIntD (.int iv), rfl, .ty _, dp_ty (.int _), kd_int, _, rfl, ?_⟩
            refine iteF ⟨_, rfl, _, rfl, t, _, (i : Int), _, rfl, rfl, SqT.of ht, atI_nat hii, .int iv, .ty "bool", .type (tnD (.int iv)), .type "bool", isBoolD (.int iv), rfl, .ty _, dp_ty (.int _), kd_bool, _, rfl, ?_⟩
            refine iteF ⟨_, rfl, _, rfl, t, _, (i : Int), .int iv, rfl, rfl, SqT.of ht, atI_nat hii, _, _, rfl, rfl, _, rfl, ?_⟩
            by_cases hneg : iv < 0
            · rw [decide_eq_true hneg]
              refine iteT ?_
              have z0 := q H1 Ext.rfl'
              rw [bad2 rfl (decide_eq_false (by omega)), Bool.false_and, Bool.and_false, Bool.and_false] at z0
              exact z0
            · rw [decide_eq_false hneg]
              refine iteF ⟨_, rfl, _, rfl, L, _, rfl, .inl (SqL.of hL), rfl, flat_nI _, _, rfl, ?_⟩
              rw [show inV (V.int (i : Int)) (ns.map nI) = decide (i ∈ ns) from inV_nI i _]
              by_cases hin : i ∈ ns
              · rw [decide_eq_true hin]
                exact iteF ⟨_, rfl, rfl, hgo fun _ => ⟨decide_eq_true (by omega), hin⟩⟩
              · rw [decide_eq_false hin]
                refine iteT ?_
                have z0 := q H1 Ext.rfl'
                rw [bad1 rfl hin, Bool.false_and, Bool.and_false] at z0
                exact z0
        · obtain ⟨o5, rfl, rfl, hb⟩ := pv
          have a1 : (begun bs bs.length).all (fun j => decide (j ∈ ns)) = true := List.all_eq_true.mpr fun j hj => by
            unfold begun at hj
            obtain ⟨h1, h2⟩ := List.mem_filter.mp hj
            exact decide_eq_true (hb j (List.mem_range.mp h1) h2).2
          have a2 : (begun bs bs.length).all (fun j => beOk (bs.getD j none)) = true := List.all_eq_true.mpr fun j hj => by
            unfold begun at hj
            obtain ⟨h1, h2⟩ := List.mem_filter.mp hj
            exact (hb j (List.mem_range.mp h1) h2).1
          rw [a1, a2, Bool.true_and, Bool.true_and] at q
          have hst : ∀ i, begun bs (i + 1) = begun bs i ++ (if (bs.getD i none).isSome = true then [i] else []) := fun i => by
            unfold begun
            rw [List.range_succ, List.filter_append, List.filter_cons, List.filter_nil]
          have hbl : ∀ i, (begun bs i).length ≤ i := fun i => by
            unfold begun
            exact Nat.le_trans (List.length_filter_le _ _) (by rw [List.length_range]; exact Nat.le_refl _)
          refine ⟨_, rfl, t, rfl, ⟨_, SqT.of ht⟩, fun S hS => ?_⟩
          refine lc_it (walk_tup (xs := bs.map beV)) (fun m H6 => Ext H1 H6 ∧ H6 S = some (.lst (((begun bs m).map fun j => beI (bs.getD j none)).map V.int))) ⟨Ext.upd hS, upd_same⟩ (fun m H6 _ pv => SqT.of (pv.1 _ _ ht)) (fun m x H6 H7 hi pv hy => ?_) (fun H6 pv => ?_)
          · obtain ⟨e5, hS5⟩ := pv
            obtain ⟨rfl, hx⟩ := hy
            have hm : m < bs.length := by
              have := (List.getElem?_eq_some_iff.mp hx).1
              rw [List.length_map] at this
              exact this
            rw [hat m hm] at hx
            obtain rfl : beV (bs.getD m none) = x := by injection hx
            rw [hst m]
            have hok := hb m hm
            have hl2 := hbl m
            have fin : ∀ y : Int, y = beI (bs.getD m none) → ∃ acc, H7 S = some (.lst acc) ∧ acc.length < sizeLine ∧ Ext H1 (upd H7 S (.lst (acc ++ [V.int y]))) ∧ upd H7 S (.lst (acc ++ [V.int y])) S = some (.lst (((begun bs m ++ [m]).map fun j => beI (bs.getD j none)).map V.int)) := fun y hy => by
              refine ⟨_, hS5, small_sz ?_, ext_mut e5 hS, ?_⟩
              · rw [List.length_map, List.length_map]
                omega
              · rw [upd_same, List.map_append, List.map_append, hy]
                rfl
            generalize bs.getD m none = bj at fin hok
            rcases bj with _ | _ | iv
            · refine ⟨rfl, _, rfl, rfl, _, rfl, iteF ⟨e5, ?_⟩⟩
              rw [if_neg (by decide), List.append_nil]
              exact hS5
            · cases (hok rfl).1
            · exact ⟨rfl, _, rfl, rfl, _, rfl, iteT ⟨_, rfl, .inl ⟨_, rfl, fin _ rfl⟩⟩⟩
          · obtain ⟨e5, hS5⟩ := pv
            rw [List.length_map] at hS5
            refine ⟨S, _, rfl, SqL.of hS5, fun Tl qa hp hs hqa => ?_⟩
            have e6 := Ext.upd (o := .lst (Tl.map V.int)) hqa
            have hqa6 : upd H6 qa (.lst (Tl.map V.int)) qa = some (.lst (Tl.map V.int)) := upd_same
            generalize upd H6 qa (.lst (Tl.map V.int)) = H7 at e6 hqa6 ⊢
            have e17 := e5.trans e6
            have hTl : Tl.length = (begun bs bs.length).length := by rw [hp.length_eq, List.length_map]
            have hbl2 := hbl bs.length
            refine ⟨_, rfl, qa, _, rfl, .inl (SqL.of hqa6), _, rfl, _, _, rfl, rfl, _, rfl, ?_⟩
            rw [List.length_map, hTl, show decide (((begun bs bs.length).length : Int) ≤ (z : Int)) = decide ((begun bs bs.length).length ≤ z) from decide_eq_decide.mpr ⟨fun h => by omega, fun h => by omega⟩]
            cases h1 : decide ((begun bs bs.length).length ≤ z) with
            | true =>
              rw [h1] at q
              exact iteT (q H7 e17)
            | false =>
              rw [h1, Bool.not_false, Bool.true_and] at q
              refine iteF ⟨_, rfl, qa, _, rfl, .inl (SqL.of hqa6), 1, ((Tl.map V.int).length : Int), rfl, ⟨by omega, by omega, by omega, by rw [List.length_map]; omega⟩, fun X hX => ?_⟩
              have hn : (((Tl.map V.int).length : Int) - 1).toNat = Tl.length - 1 := by rw [List.length_map]; omega
              rw [hn]
              refine lc_range (fun i H8 => Ext H7 H8 ∧ H8 X = some (.lst (((List.range i).filter fun i => !decide (Tl.getD (i + 1) 0 - Tl.getD i 0 ≥ g)).map fun i : Nat => V.int (1 + (i : Int))))) ⟨Ext.upd hX, upd_same⟩ (fun i H8 hi pv => ?_) (fun H8 pv => ?_)
              · obtain ⟨e8, hX8⟩ := pv
                have hq8 := e8 _ _ hqa6
                have ga : ∀ j, j < Tl.length → (Tl.map V.int)[j]? = some (.int (Tl.getD j 0)) := fun j hj => by
                  rw [List.getElem?_map, List.getElem?_eq_getElem hj, List.getD_eq_getElem?_getD, List.getElem?_eq_getElem hj]
                  rfl
                refine ⟨rfl, _, rfl, _, rfl, qa, _, 1 + (i : Int), _, rfl, rfl, SqL.of hq8, by rw [show (1 : Int) + (i : Int) = ((i + 1 : Nat) : Int) by omega]; exact atI_nat (ga (i + 1) (by omega)), _, rfl, _, rfl, _, _, rfl, rfl, qa, _, (i : Int), _, rfl, by show V.int (1 + (i : Int) - 1) = _; rw [show (1 : Int) + (i : Int) - 1 = (i : Int) by omega], SqL.of hq8, atI_nat (ga i (by omega)), _, _, rfl, rfl, _, rfl, _, _, rfl, rfl, _, rfl, ?_⟩
                rw [List.range_succ, List.filter_append, List.filter_cons, List.filter_nil]
                have hd : decide (Tl.getD (i + 1) 0 - Tl.getD i 0 < g) = !decide (Tl.getD (i + 1) 0 - Tl.getD i 0 ≥ g) := by
                  rw [Bool.eq_iff_iff]
                  simp
                rw [hd]
                cases hh : decide (Tl.getD (i + 1) 0 - Tl.getD i 0 ≥ g) with
                | true =>
                  refine iteF ⟨e8, ?_⟩
                  rw [Bool.not_true, if_neg (by decide), List.append_nil]
                  exact hX8
                | false =>
                  refine iteT ⟨_, rfl, _, hX8, small_sz ?_, ext_mut e8 hX, ?_⟩
                  · rw [List.length_map]
                    refine Nat.le_trans (List.length_filter_le _ _) ?_
                    rw [List.length_range]
                    omega
                  · rw [upd_same, Bool.not_false, if_pos rfl, List.map_append]
                    rfl
              · obtain ⟨e8, hX8⟩ := pv
                refine ⟨_, .inl ⟨_, SqL.of hX8, rfl⟩, ?_⟩
                have hem : ∀ l : List Nat, (l.map fun i : Nat => V.int (1 + (i : Int))).isEmpty = l.isEmpty := fun l => by cases l <;> rfl
                rw [hem, emp_filter]
                simp only [Bool.not_not]
                have hval : ((List.range (Tl.length - 1)).all fun i => decide (Tl.getD (i + 1) 0 - Tl.getD i 0 ≥ g)) = decide (Gaps g ((begun bs bs.length).map fun j => beI (bs.getD j none))) := by
                  rw [Bool.eq_iff_iff, decide_eq_true_eq]
                  exact gaps_of hp hs
                rw [hval]
                exact q H8 (e17.trans e8)
      · rw [decide_eq_false hlen]
        rw [decide_eq_false hlen] at q
        exact iteT (q H Ext.rfl')
end
end K18

set_option Elab.async false
set_option maxRecDepth 100000
set_option maxHeartbeats 4000000
namespace K18
open PySem PySem.Spec PyProof.Rows L2
/-- the ends of a plan's begun ways -/
def endsP (f : Nat → Int) (bs : List Be) (m : Nat) : List Int := (begun bs m).map fun j => beI (bs.getD j none) + 2 * f j
def LatAt (f : Nat → Int) (bs : List Be) (m z : Nat) (e : Int) : Prop := ∃ L : List Int, L.Perm (endsP f bs m) ∧ L.Pairwise (· ≤ ·) ∧ L[z]? = some e
theorem lat_uniq {f : Nat → Int} {bs : List Be} {m z : Nat} {e e' : Int} (h : LatAt f bs m z e) (h' : LatAt f bs m z e') : e = e' := by
  obtain ⟨L, h1, h2, h3⟩ := h
  obtain ⟨L', g1, g2, g3⟩ := h'
  have : L = L' := (h1.trans g1.symm).eq_of_pairwise (fun _ _ _ _ a b => Int.le_antisymm a b) h2 g2
  rw [this, g3] at h3
  cases h3
  rfl
theorem begun_succ (bs : List Be) (i : Nat) : begun bs (i + 1) = begun bs i ++ (if (bs.getD i none).isSome = true then [i] else []) := by
  unfold begun
  rw [List.range_succ, List.filter_append, List.filter_cons, List.filter_nil]
theorem begun_le (bs : List Be) (i : Nat) : (begun bs i).length ≤ i := by
  unfold begun
  exact Nat.le_trans (List.length_filter_le _ _) (by rw [List.length_range]; exact Nat.le_refl _)
theorem begun_lt {bs : List Be} {m j : Nat} (h : j ∈ begun bs m) : j < m ∧ (bs.getD j none).isSome = true := by
  unfold begun at h
  obtain ⟨h1, h2⟩ := List.mem_filter.mp h
  exact ⟨List.mem_range.mp h1, h2⟩
section
variable {P : Program} {w : World} {K : PySem.W.Frag} {mg : Str → Option Value} {base : Heap} {A : Ad}
def spLatest (K : PySem.W.Frag) (A : Ad) : Sp := fun vs H Q _ => ∃ (W t : Addr) (ws : List V) (ds : List Wd) (z : Nat) (bs : List Be), vs = [.ref W, .int (z : Int), .ref t] ∧ H W = some (.lst ws) ∧ Ways K A H ws ds ∧ ds.length ≤ 60 ∧ H t = some (.tup (bs.map beV)) ∧ bs.length = ds.length ∧ (∀ j ∈ begun bs ds.length, beOk (bs.getD j none) = true) ∧ z < (begun bs ds.length).length ∧ ∀ e H', Ext H H' → LatAt (ms ds) bs ds.length z e → Q (.int e) H'
theorem ok_latest {f : Addr} {fd : FuncData} (F : Fun K "latest_of" "latest_of" s_latest_of f fd) (T : Txt K mg A) : FnOk P w K mg base CX0 1 f fd pm_latest_of (spLatest K A) := by
  refine F.ok sc_latest_of (fun vs H Q E h => ?_) (fun cdv A' outer s H vs Q E hr h => ?_)
  · obtain ⟨_, _, _, _, _, _, rfl, _⟩ := h
    rfl
  · obtain ⟨W, t, ws, ds, z, bs, rfl, hW, hws, hsm, ht, hlen, hok, hz, q⟩ := h
    refine ⟨_, pss_cons (ps_setLc (i := 3) (own := [("way", 4), ("begin", 5)]) (g := gTup K 2 (gCons (gName 4) (gCons (gName 5) (gNil)))) (by rfl) sc_latest_of.nd rfl rfl (sw_true rfl rfl rfl (by decide +kernel)) (pi_zipB false true (by rfl) T.n_zip (pa_cons (pv 0) (pa_cons (pv 2) pa_nil))) (blkOk_by (own := [("way", 4), ("begin", 5)]) (N := nm_latest_of) (sc := defScope s_latest_of) (by decide +kernel)) (fun _ _ _ _ _ => pg_tup rfl (pgs_cons (pg_name (i := 4) sc_latest_of.nd rfl (Or.inl rfl)) (pgs_cons (pg_name (i := 5) sc_latest_of.nd rfl (Or.inl rfl)) (pgs_nil)))) (fun s1 H1 C1 cl fp => pts_one (pt_cmpR op_notN (pv 5) (pe_non) (nomark _))) (fun s1 H1 C1 cl fp => pe_op op_add (pv 5) (pe_op op_mul (pe_int) (pe_fldK (K := K) rfl (pv 4) rfl))))
      (pss_one (ps_ret (pe_ix ix_list (pe_callB cr_sortedI (by rfl) T.n_sorted (by decide +kernel) (pa_cons (pe_lc (own := [("end", 6)]) (g := gName 6) (by rfl) sc_latest_of.nd (pi_list (pv 3)) (blkOk_by (own := [("end", 6)]) (N := nm_latest_of) (sc := defScope s_latest_of) (by decide +kernel)) (fun _ _ _ _ _ => pg_name (i := 6) sc_latest_of.nd rfl (Or.inl rfl)) (fun s1 H1 C1 cl fp => pts_nil) (fun s1 H1 C1 cl fp => pe_callTy call_int1 (by rfl) T.n_int (by decide +kernel) (pa_cons (pv 6) pa_nil))) pa_nil)) (pv 1) (fun _ _ => rfl)))), ?_⟩
    have hmn : ds.length = min ws.length (bs.map beV).length := by
      rw [hws.1, List.length_map, hlen]
      omega
    refine ⟨_, rfl, _, rfl, W, t, ws, bs.map beV, rfl, SqL.of hW, SqT.of ht, fun C hC => ?_⟩
    refine lc_it (walk_zipB hmn) (fun i H2 => Ext H H2 ∧ H2 C = some (.lst ((endsP (ms ds) bs i).map V.int))) ⟨Ext.upd hC, upd_same⟩ (fun i H2 _ pv => ⟨SqL.of (pv.1 _ _ hW), SqT.of (pv.1 _ _ ht)⟩) (fun i x H2 H3 hi pv hy => ?_) (fun H2 pv => ?_)
    · obtain ⟨e2, hC2⟩ := pv
      obtain ⟨tt, y, v, rfl, htt, rfl, hy1, hy2⟩ := hy
      have e3 := Ext.upd (o := .tup [y, v]) htt
      obtain ⟨d, hd⟩ : ∃ d, ds[i]? = some d := ⟨_, List.getElem?_eq_getElem hi⟩
      obtain ⟨q2, rfl, hwq⟩ := hws.2 i y d hy1 hd
      replace hy1 : ws[i]? = some (.ref q2) := hy1
      replace hy2 : (bs.map beV)[i]? = some v := hy2
      rw [List.getElem?_map, List.getElem?_eq_getElem (by omega)] at hy2
      have hbe : bs[i] = bs.getD i none := by rw [List.getD_eq_getElem?_getD, List.getElem?_eq_getElem (by omega)]; rfl
      rw [hbe] at hy2
      obtain rfl : beV (bs.getD i none) = v := by injection hy2
      refine ⟨tt, _, rfl, SqT.of upd_same, rfl, _, _, rfl, _, _, rfl, rfl, rfl, _, rfl, rfl, _, rfl, ?_⟩
      have hE : endsP (ms ds) bs (i + 1) = endsP (ms ds) bs i ++ (if (bs.getD i none).isSome = true then [beI (bs.getD i none) + 2 * ms ds i] else []) := by
        unfold endsP
        rw [begun_succ, List.map_append]
        congr 1
        cases (bs.getD i none).isSome <;> rfl
      rw [hE]
      have hoki : (bs.getD i none).isSome = true → beOk (bs.getD i none) = true := fun h => hok i (by
        unfold begun
        exact List.mem_filter.mpr ⟨List.mem_range.mpr hi, h⟩)
      have hln : (endsP (ms ds) bs i).length ≤ 60 := by
        unfold endsP
        rw [List.length_map]
        exact Nat.le_trans (begun_le _ _) (by omega)
      obtain ⟨dq, Tq, xq, hq, _, _⟩ := id (hwq.ext (e2.trans e3))
      have hC3 := e3 _ _ hC2
      have e23 := e2.trans e3
      generalize upd H2 tt (.tup [.ref q2, beV (bs.getD i none)]) = H3 at hC3 e23 hq ⊢
      generalize bs.getD i none = bj at hoki
      rcases bj with _ | _ | iv
      · refine iteF ⟨e23, ?_⟩
        rw [if_neg (by decide), List.append_nil]
        exact hC3
      · cases hoki rfl
      · refine iteT ⟨_, rfl, _, rfl, q2, A.Way, dq, _, _, rfl, hq, T.Way.cl, T.w_most, rfl, _, _, rfl, rfl, .inl ⟨by decide, by decide⟩, _, _, rfl, rfl, ?_⟩
        refine ⟨_, hC3, small_sz ?_, ext_mut e23 hC, ?_⟩
        · rw [List.length_map]
          omega
        · rw [upd_same, List.map_append, ← (at_d hd).2.2.2]
          rfl
    · obtain ⟨e2, hC2⟩ := pv
      have hln : (endsP (ms ds) bs ds.length).length = (begun bs ds.length).length := by
        unfold endsP
        rw [List.length_map]
      have hl60 := begun_le bs ds.length
      generalize hG : endsP (ms ds) bs ds.length = G at hC2 hln
      refine ⟨_, rfl, C, rfl, ⟨_, SqL.of hC2⟩, fun S hS => ?_⟩
      refine lc_list (xs := G.map V.int) (fun m H6 => Ext H2 H6 ∧ H6 S = some (.lst ((G.take m).map V.int))) ⟨Ext.upd hS, upd_same⟩ (fun m H6 _ pv => SqL.of (pv.1 _ _ hC2)) (fun m x H6 hx pv => ?_) (fun H6 pv => ?_)
      · obtain ⟨e5, hS5⟩ := pv
        rw [List.getElem?_map] at hx
        obtain ⟨j, hj, rfl⟩ := Option.map_eq_some_iff.mp hx
        refine ⟨rfl, _, rfl, .inl ⟨_, rfl, _, hS5, small_sz ?_, ext_mut e5 hS, ?_⟩⟩
        · rw [List.length_map, List.length_take]
          omega
        · rw [upd_same, take_snoc hj, List.map_append]
          rfl
      · obtain ⟨e5, hS5⟩ := pv
        rw [List.length_map, List.take_length] at hS5
        refine ⟨S, _, rfl, SqL.of hS5, fun Tl qa hp hs hqa => ?_⟩
        have hTl : z < Tl.length := by
          rw [hp.length_eq]
          omega
        refine ⟨_, rfl, qa, _, (z : Int), .int Tl[z], rfl, rfl, SqL.of upd_same, atI_nat (by rw [List.getElem?_map, List.getElem?_eq_getElem hTl]; rfl), ?_⟩
        exact q _ _ ((e2.trans e5).trans (Ext.upd hqa)) ⟨Tl, hG ▸ hp, hs, List.getElem?_eq_getElem hTl⟩
end
end K18

set_option Elab.async false
set_option maxRecDepth 100000
set_option maxHeartbeats 4000000
namespace K18
open PySem PySem.Spec PyProof.Rows L2
theorem plan_facts {m : Nat} {ns : List Nat} {z : Nat} {g : Int} {b : Bool} {bs : List Be} (h : planV m ns z g b bs = true) : b = true ∧ bs.length = m ∧ z < (begun bs m).length ∧ (∀ j ∈ begun bs m, j ∈ ns) ∧ (∀ j ∈ begun bs m, beOk (bs.getD j none) = true) ∧ Gaps g ((begun bs m).map fun j => beI (bs.getD j none)) := by
  unfold planV at h
  simp only [Bool.and_eq_true, decide_eq_true_eq, Bool.not_eq_true', decide_eq_false_iff_not] at h
  obtain ⟨⟨h1, h2⟩, h3, h4, h5, h6⟩ := h
  exact ⟨h1, h2, by omega, fun j hj => of_decide_eq_true (List.all_eq_true.mp h4 j hj), fun j hj => List.all_eq_true.mp h5 j hj, h6⟩
open Classical in
noncomputable def showV (ds : List Wd) (ns : List Nat) (z : Nat) (g : Int) (b : Bool) (bs : List Be) (e : Int) (x : Option Int) (lo : Lo) : Bool := planV ds.length ns z g b bs && (decide (LatAt (ms ds) bs ds.length z e) && barV ds ns z g e x lo)
section
variable {P : Program} {w : World} {K : PySem.W.Frag} {mg : Str → Option Value} {base : Heap} {A : Ad}
def spShows (K : PySem.W.Frag) (A : Ad) : Sp := fun vs H Q _ => ∃ (W L T : Addr) (ws : List V) (ds : List Wd) (ns : List Nat) (z : Nat) (g e : Int) (v : V) (b : Bool) (bs : List Be) (xi yl : V) (x : Option Int) (lo : Lo), vs = [.ref W, .ref L, .int (z : Int), .int g, .int e, v, .ref T] ∧ H W = some (.lst ws) ∧ Ways K A H ws ds ∧ ds.length ≤ 60 ∧ H L = some (.lst (ns.map nI)) ∧ ns.length ≤ 60 ∧ dueB ds.length ns z g = none ∧ PlAt H v b bs ∧ H T = some (.tup [xi, yl]) ∧ IxAt xi x ∧ LoAt H yl lo ∧ lo.2.length ≤ 60 ∧ ∀ H', Ext H H' → Q (.bl (showV ds ns z g b bs e x lo)) H'
theorem due_lt {m : Nat} {ns : List Nat} {z : Nat} {g : Int} (hd : dueB m ns z g = none) : z < ns.length ∧ unlikeV m ns = true := by
  refine ⟨?_, ?_⟩
  · unfold dueB at hd
    by_cases q : (ns.length : Int) ≤ (z : Int)
    · exfalso
      revert hd
      repeat' split
      all_goals first | (intro h; cases h; done) | contradiction
    · omega
  · cases h : unlikeV m ns with
    | true => rfl
    | false =>
      unfold dueB at hd
      split at hd <;> first | (cases hd; done) | (rw [if_pos h] at hd; cases hd)
theorem PlAt.ext {H H' : Hp} {v : V} {b : Bool} {bs : List Be} (h : PlAt H v b bs) (e : Ext H H') : PlAt H' v b bs := by
  obtain ⟨t, h1, h2⟩ := h
  exact ⟨t, h1, e _ _ h2⟩
open Classical in
theorem ok_shows {f : Addr} {fd : FuncData} (F : Fun K "shows_begins" "shows_begins" s_shows_begins f fd) (T : Txt K mg A) (O_check_begins : Own P w K mg base (L2.CX P w) "check_begins" 6 pm_check_begins (spCheckB K A)) (O_is_integer : Own P w K mg base CX0 "is_integer" 1 pm_is_integer (spInteger K)) (O_is_plan : Own P w K mg base CX0 "is_plan" 2 pm_is_plan (spPlan K A)) (O_latest_of : Own P w K mg base CX0 "latest_of" 1 pm_latest_of (spLatest K A)) (O_bars_ahead : Own P w K mg base CX0 "bars_ahead" 6 pm_bars_ahead (spBars K A)) : FnOk P w K mg base (L2.CX P w) 7 f fd pm_shows_begins (spShows K A) := by
  refine F.okX sc_shows_begins (fun vs H Q E h => ?_) (fun cdv A' outer s H vs Q E hr h => ?_)
  · obtain ⟨_, _, _, _, _, _, _, _, _, _, _, _, _, _, _, _, rfl, _⟩ := h
    rfl
  · obtain ⟨W, L, T2, ws, ds, ns, z, g, e, v, b, bs, xi, yl, x, lo, rfl, hW, hws, hsm, hL, hsl, hd, hpl, hT, hx, hlo, hll, q⟩ := h
    refine ⟨_, pss_cons (ps_expr (pe_ownS O_check_begins (hr.mono (by decide)) (takes_of rfl rfl rfl rfl) (pa_cons (pv 0) (pa_cons (pv 1) (pa_cons (pv 2) (pa_cons (pv 3) pa_nil))))))
      (pss_cons (ps_if (PW.pt (pw_or (pt_not (pt_val (pe_own O_is_integer (hr.mono (by decide)) pass0 (pa_cons (pv 4) pa_nil)))) (pw_or1 (pt_not (pt_val (pe_own O_is_plan (hr.mono (by decide)) pass0 (pa_cons (pv 0) (pa_cons (pv 1) (pa_cons (pv 2) (pa_cons (pv 3) (pa_cons (pv 5) pa_nil))))))))))) (pss_one (ps_ret (pe_bl))) (pss_nil))
      (pss_one (ps_ret (pe_and (pe_cmpR op_eq (pe_own O_latest_of (hr.mono (by decide)) pass0 (pa_cons (pv 0) (pa_cons (pv 2) (pa_cons (pv 5) pa_nil)))) (pv 4) (nomark _)) (pe_one (pe_own O_bars_ahead (hr.mono (by decide)) pass0 (pa_cons (pv 0) (pa_cons (pv 1) (pa_cons (pv 2) (pa_cons (pv 3) (pa_cons (pv 4) (pa_cons (pv 6) pa_nil)))))))))))), ?_⟩
    obtain ⟨hzn, hu⟩ := due_lt hd
    refine ⟨_, rfl, _, rfl, _, rfl, _, rfl, W, L, ws, ds, ns, (z : Int), g, rfl, hW, hws, hsm, hL, hsl, fun sx hsx => (by rw [hd] at hsx; cases hsx), fun _ H1 e1 => ?_⟩
    have hW1 := e1 _ _ hW
    have hL1 := e1 _ _ hL
    refine ⟨_, rfl, .int e, .int e, rfl, .int e, _, rfl, iteF ?_⟩
    refine ⟨_, rfl, _, rfl, _, rfl, _, rfl, _, rfl, W, L, ws, ds, ns, z, g, v, b, bs, rfl, hW1, hws.ext e1, hsm, hL1, hsl, hpl.ext e1, fun H2 e2 => ⟨_, rfl, ?_⟩⟩
    have e12 := e1.trans e2
    unfold showV at q
    cases hp : planV ds.length ns z g b bs with
    | false =>
      rw [hp] at q
      exact iteT (q H2 e12)
    | true =>
      rw [hp, Bool.true_and] at q
      obtain ⟨rfl, hlen, hz, hin, hok, hg⟩ := plan_facts hp
      obtain ⟨t, rfl, ht⟩ := hpl.ext e12
      replace ht : H2 t = some (.tup (bs.map beV)) := ht
      refine iteF ⟨_, rfl, _, rfl, _, rfl, W, t, ws, ds, z, bs, rfl, e12 _ _ hW, hws.ext e12, hsm, ht, hlen, hok, hz, fun e' H3 e3 hla => ?_⟩
      have e13 := e12.trans e3
      refine ⟨_, rfl, rfl, ?_⟩
      rw [dvi]
      have hv : decide (e' = e) = decide (LatAt (ms ds) bs ds.length z e) := decide_eq_decide.mpr ⟨fun h => h ▸ hla, fun h => lat_uniq hla h⟩
      rw [hv]
      cases hl : decide (LatAt (ms ds) bs ds.length z e) with
      | false =>
        rw [hl] at q
        exact ⟨false, rfl, q H3 e13⟩
      | true =>
        rw [hl, Bool.true_and] at q
        refine ⟨true, rfl, ?_⟩
        exact ⟨_, rfl, _, rfl, _, rfl, _, rfl, _, rfl, _, rfl, W, L, T2, ws, ds, ns, z, g, e, xi, yl, x, lo, rfl, e13 _ _ hW, hws.ext e13, hsm, e13 _ _ hL, hsl, hzn, e13 _ _ hT, hx, hlo.ext e13, hll, fun H4 e4 => q H4 (e13.trans e4)⟩
end
end K18

set_option Elab.async false
set_option maxRecDepth 100000
set_option maxHeartbeats 4000000
namespace K18
open PySem PySem.Spec PyProof.Rows L2
/-- the delays of the ways, as the law has them -/
def mosts (ds : List Wd) : List Int := ds.map fun d => d.2.2
theorem mosts_at {ds : List Wd} {j : Nat} (h : j < ds.length) : ((mosts ds).map V.int)[j]? = some (.int (ms ds j)) := by
  obtain ⟨d, hd⟩ : ∃ d, ds[j]? = some d := ⟨_, List.getElem?_eq_getElem h⟩
  rw [(at_d hd).2.2.2]
  unfold mosts
  rw [List.getElem?_map, List.getElem?_map, hd]
  rfl
theorem mosts_len {ds : List Wd} : ((mosts ds).map V.int).length = ds.length := by
  unfold mosts
  rw [List.length_map, List.length_map]
section
variable {P : Program} {w : World} {K : PySem.W.Frag} {mg : Str → Option Value} {base : Heap} {A : Ad}
def spEnd : Sp := fun vs H Q _ => ∃ (D t : Addr) (ds : List Wd) (z : Nat) (bs : List Be), vs = [.ref D, .int (z : Int), .ref t] ∧ H D = some (.lst ((mosts ds).map V.int)) ∧ ds.length ≤ 60 ∧ H t = some (.tup (bs.map beV)) ∧ bs.length = ds.length ∧ (∀ j ∈ begun bs ds.length, beOk (bs.getD j none) = true) ∧ z < (begun bs ds.length).length ∧ ∀ e H', Ext H H' → LatAt (ms ds) bs ds.length z e → Q (.int e) H'
theorem ok_end {f : Addr} {fd : FuncData} (F : Fun K "_law_end" "_law_end" s__law_end f fd) (T : Txt K mg A) : FnOk P w K mg base CX0 1 f fd pm__law_end spEnd := by
  refine F.ok sc__law_end (fun vs H Q E h => ?_) (fun cdv A' outer s H vs Q E hr h => ?_)
  · obtain ⟨_, _, _, _, _, rfl, _⟩ := h
    rfl
  · obtain ⟨D, t, ds, z, bs, rfl, hD, hsm, ht, hlen, hok, hz, q⟩ := h
    refine ⟨_, pss_cons (ps_set (i := 3) sc__law_end.nd rfl (Or.inl rfl) (pe_callB cr_sortedI (by rfl) T.n_sorted (by decide +kernel) (pa_cons (pe_lc (own := [("_law_k", 4)]) (g := gName 4) (by rfl) sc__law_end.nd (pi_range1 rfl T.n_range (pa_cons (pe_callB call_len_seq (by rfl) T.n_len (by decide +kernel) (pa_cons (pv 2) pa_nil)) pa_nil)) (blkOk_by (own := [("_law_k", 4)]) (N := nm__law_end) (sc := defScope s__law_end) (by decide +kernel)) (fun _ _ _ _ _ => pg_name (i := 4) sc__law_end.nd rfl (Or.inl rfl)) (fun s1 H1 C1 cl fp => pts_one (pt_cmpR op_notN (pe_ix (ix_tupK (K := K) rfl) (pv 2) (pv 4) (fun _ _ => rfl)) (pe_non) (nomark _))) (fun s1 H1 C1 cl fp => pe_callTy call_int1 (by rfl) T.n_int (by decide +kernel) (pa_cons (pe_op op_add (pe_ix (ix_tupK (K := K) rfl) (pv 2) (pv 4) (fun _ _ => rfl)) (pe_op op_mul (pe_int) (pe_ix (ix_listK (K := K) rfl) (pv 0) (pv 4) (fun _ _ => rfl)))) pa_nil))) pa_nil)))
      (pss_one (ps_ret (pe_ix ix_list (pv 3) (pv 1) (fun _ _ => rfl)))), ?_⟩
    have hat : ∀ j, j < bs.length → (bs.map beV)[j]? = some (beV (bs.getD j none)) := fun j hj => by
      rw [List.getElem?_map, List.getElem?_eq_getElem hj, List.getD_eq_getElem?_getD, List.getElem?_eq_getElem hj]
      rfl
    refine ⟨_, rfl, t, _, rfl, .inr (SqT.of ht), _, rfl, by omega, by rw [List.length_map]; omega, fun C hC => ?_⟩
    rw [List.length_map, hlen, Int.toNat_natCast]
    refine lc_range (fun i H2 => Ext H H2 ∧ H2 C = some (.lst ((endsP (ms ds) bs i).map V.int))) ⟨Ext.upd hC, upd_same⟩ (fun i H2 hi pv => ?_) (fun H2 pv => ?_)
    · obtain ⟨e2, hC2⟩ := pv
      rw [Int.zero_add]
      have hii := hat i (by omega)
      have hE : endsP (ms ds) bs (i + 1) = endsP (ms ds) bs i ++ (if (bs.getD i none).isSome = true then [beI (bs.getD i none) + 2 * ms ds i] else []) := by
        unfold endsP
        rw [begun_succ, List.map_append]
        congr 1
        cases (bs.getD i none).isSome <;> rfl
      rw [hE]
      have hoki : (bs.getD i none).isSome = true → beOk (bs.getD i none) = true := fun h => hok i (by
        unfold begun
        exact List.mem_filter.mpr ⟨List.mem_range.mpr hi, h⟩)
      have hln : (endsP (ms ds) bs i).length ≤ 60 := by
        unfold endsP
        rw [List.length_map]
        exact Nat.le_trans (begun_le _ _) (by omega)
      generalize bs.getD i none = bj at hoki hii
      refine ⟨rfl, _, rfl, _, rfl, t, _, (i : Int), _, rfl, rfl, SqT.of (e2 _ _ ht), atI_nat hii, rfl, _, rfl, ?_⟩
      rcases bj with _ | _ | iv
      · refine iteF ⟨e2, ?_⟩
        rw [if_neg (by decide), List.append_nil]
        exact hC2
      · cases hoki rfl
      · refine iteT ⟨_, rfl, _, rfl, t, _, (i : Int), .int iv, rfl, rfl, SqT.of (e2 _ _ ht), atI_nat hii, _, rfl, _, rfl, D, _, (i : Int), _, rfl, rfl, SqL.of (e2 _ _ hD), atI_nat (mosts_at hi), _, _, rfl, rfl, .inl ⟨by decide, by decide⟩, _, _, rfl, rfl, .inl ⟨_, rfl, ?_⟩⟩
        refine ⟨_, hC2, small_sz ?_, ext_mut e2 hC, ?_⟩
        · rw [List.length_map]
          omega
        · rw [upd_same, List.map_append]
          rfl
    · obtain ⟨e2, hC2⟩ := pv
      have hln : (endsP (ms ds) bs ds.length).length = (begun bs ds.length).length := by
        unfold endsP
        rw [List.length_map]
      have hl60 := begun_le bs ds.length
      generalize hG : endsP (ms ds) bs ds.length = G at hC2 hln
      refine ⟨C, _, rfl, SqL.of hC2, fun Tl qa hp hs hqa => ?_⟩
      have hTl : z < Tl.length := by
        rw [hp.length_eq]
        omega
      refine ⟨_, rfl, _, rfl, qa, _, (z : Int), .int Tl[z], rfl, rfl, SqL.of upd_same, atI_nat (by rw [List.getElem?_map, List.getElem?_eq_getElem hTl]; rfl), ?_⟩
      exact q _ _ (e2.trans (Ext.upd hqa)) ⟨Tl, hG ▸ hp, hs, List.getElem?_eq_getElem hTl⟩
def spLeast : Sp := fun vs H Q _ => ∃ (D L : Addr) (ds : List Wd) (ns : List Nat) (z : Nat) (g : Int), vs = [.ref D, .ref L, .int (z : Int), .int g] ∧ H D = some (.lst ((mosts ds).map V.int)) ∧ ds.length ≤ 60 ∧ (∀ j, j < ds.length → 1 ≤ ms ds j ∧ ms ds j ≤ 50) ∧ H L = some (.lst (ns.map nI)) ∧ ns.length ≤ 60 ∧ unlikeV ds.length ns = true ∧ z < ns.length ∧ ∀ e i H', Ext H H' → i ≤ z → faB ds ns z g i = e → (∀ k, k ≤ z → faB ds ns z g k ≤ e) → Q (.int e) H'
theorem ok_least {f : Addr} {fd : FuncData} (F : Fun K "_law_least" "_law_least" s__law_least f fd) (T : Txt K mg A) : FnOk P w K mg base CX0 1 f fd pm__law_least spLeast := by
  refine F.ok sc__law_least (fun vs H Q E h => ?_) (fun cdv A' outer s H vs Q E hr h => ?_)
  · obtain ⟨_, _, _, _, _, _, rfl, _⟩ := h
    rfl
  · obtain ⟨D, L, ds, ns, z, g, rfl, hD, hsm, hms, hL, hsl, hu, hz, q⟩ := h
    refine ⟨_, pss_cons (ps_set (i := 4) sc__law_least.nd rfl (Or.inr rfl) (pe_revL (pe_slice sl_list (pe_callB cr_sortedI (by rfl) T.n_sorted (by decide +kernel) (pa_cons (pe_lc (own := [("_law_k", 5)]) (g := gName 5) (by rfl) sc__law_least.nd (pi_list (pv 1)) (blkOk_by (own := [("_law_k", 5)]) (N := nm__law_least) (sc := defScope s__law_least) (by decide +kernel)) (fun _ _ _ _ _ => pg_name (i := 5) sc__law_least.nd rfl (Or.inl rfl)) (fun s1 H1 C1 cl fp => pts_nil) (fun s1 H1 C1 cl fp => pe_callTy call_int1 (by rfl) T.n_int (by decide +kernel) (pa_cons (pe_ix (ix_listK (K := K) rfl) (pv 0) (pv 5) (fun _ _ => rfl)) pa_nil))) pa_nil)) po_none (po_some (pe_op op_add (pv 2) (pe_int))))))
      (pss_one (ps_ret (pe_callB (cr_max rfl) (by rfl) T.n_max (by decide +kernel) (pa_cons (pe_lc (own := [("_law_i", 6)]) (g := gName 6) (by rfl) sc__law_least.nd (pi_range1 rfl T.n_range (pa_cons (pe_op op_add (pv 2) (pe_int)) pa_nil)) (blkOk_by (own := [("_law_i", 6)]) (N := nm__law_least) (sc := defScope s__law_least) (by decide +kernel)) (fun _ _ _ _ _ => pg_name (i := 6) sc__law_least.nd rfl (Or.inl rfl)) (fun s1 H1 C1 cl fp => pts_nil) (fun s1 H1 C1 cl fp => pe_callTy call_int1 (by rfl) T.n_int (by decide +kernel) (pa_cons (pe_op op_add (pe_op op_mul (pv 6) (pv 3)) (pe_op op_mul (pe_int) (pe_ix (ix_listK (K := K) rfl) (pv 4) (pv 6) (fun _ _ => rfl)))) pa_nil))) pa_nil)))), ?_⟩
    obtain ⟨o1, o2, o3, o4, o5⟩ := ordB_facts hms hu
    refine ⟨_, rfl, L, rfl, ⟨_, SqL.of hL⟩, fun C hC => ?_⟩
    refine lc_list (xs := ns.map nI) (fun m H6 => Ext H H6 ∧ H6 C = some (.lst (((ns.take m).map (ms ds)).map V.int))) ⟨Ext.upd hC, upd_same⟩ (fun m H6 _ pv => SqL.of (pv.1 _ _ hL)) (fun m x H6 hx pv => ?_) (fun H6 pv => ?_)
    · obtain ⟨e5, hS5⟩ := pv
      rw [List.getElem?_map] at hx
      obtain ⟨j, hj, rfl⟩ := Option.map_eq_some_iff.mp hx
      have hjn := o5 j (List.mem_of_getElem? hj)
      refine ⟨rfl, _, rfl, _, rfl, D, _, (j : Int), _, rfl, rfl, SqL.of (e5 _ _ hD), atI_nat (mosts_at hjn), .inl ⟨_, rfl, _, hS5, small_sz ?_, ext_mut e5 hC, ?_⟩⟩
      · rw [List.length_map, List.length_map, List.length_take]
        omega
      · rw [upd_same, take_snoc hj, List.map_append, List.map_append]
        rfl
    · obtain ⟨e5, hS5⟩ := pv
      rw [List.length_map, List.take_length] at hS5
      refine ⟨C, _, rfl, SqL.of hS5, fun Tl qa hp hs hqa => ?_⟩
      have hT : Tl = (ordB ds ns).map (ms ds) := by
        refine List.Perm.eq_of_pairwise (fun _ _ _ _ a b => Int.le_antisymm a b) hs o4 (hp.trans (List.Perm.map _ ?_))
        unfold unlikeV at hu
        rw [Bool.and_eq_true, decide_eq_true_eq] at hu
        exact ((List.perm_ext_iff_of_nodup o1 hu.2).mpr o2).symm
      subst hT
      have e6 := Ext.upd (o := .lst (((ordB ds ns).map (ms ds)).map V.int)) hqa
      have hqa6 : upd H6 qa (.lst (((ordB ds ns).map (ms ds)).map V.int)) qa = some (.lst (((ordB ds ns).map (ms ds)).map V.int)) := upd_same
      generalize upd H6 qa (.lst (((ordB ds ns).map (ms ds)).map V.int)) = H7 at e6 hqa6 ⊢
      refine ⟨_, rfl, _, _, rfl, rfl, (z : Int) + 1, rfl, qa, _, rfl, SqL.of hqa6, fun G hG => ⟨G, _, rfl, SqL.of upd_same, fun R hR => ?_⟩⟩
      have hcut : (cutV (((ordB ds ns).map (ms ds)).map V.int) none (some ((z : Int) + 1))).reverse = ((falB ds ns z).map (ms ds)).map V.int := by
        unfold falB
        rw [List.map_reverse, List.map_reverse]
        congr 1
        show ((((ordB ds ns).map (ms ds)).map V.int).drop 0).take ((if (z : Int) + 1 < 0 then ((z : Int) + 1 + ((((ordB ds ns).map (ms ds)).map V.int).length : Int)).toNat else min (((z : Int) + 1).toNat) (((ordB ds ns).map (ms ds)).map V.int).length) - 0) = _
        rw [if_neg (by omega), List.drop_zero, List.map_take, List.map_take, show ((z : Int) + 1).toNat = z + 1 by omega, Nat.sub_zero, Nat.min_eq_left (by rw [List.length_map, List.length_map]; omega)]
      rw [hcut]
      have hfl : (falB ds ns z).length = z + 1 := by
        unfold falB
        rw [List.length_reverse, List.length_take]
        omega
      have e7 := (Ext.upd (o := .lst (cutV (((ordB ds ns).map (ms ds)).map V.int) none (some ((z : Int) + 1)))) hG).trans (Ext.upd (o := .lst (((falB ds ns z).map (ms ds)).map V.int)) hR)
      have hR3 : upd (upd H7 G (.lst (cutV (((ordB ds ns).map (ms ds)).map V.int) none (some ((z : Int) + 1))))) R (.lst (((falB ds ns z).map (ms ds)).map V.int)) R = some (.lst (((falB ds ns z).map (ms ds)).map V.int)) := upd_same
      generalize upd (upd H7 G (.lst (cutV (((ordB ds ns).map (ms ds)).map V.int) none (some ((z : Int) + 1))))) R (.lst (((falB ds ns z).map (ms ds)).map V.int)) = H8 at e7 hR3 ⊢
      have hfat : ∀ i, i ≤ z → (((falB ds ns z).map (ms ds)).map V.int)[i]? = some (.int (ms ds ((falB ds ns z).getD i 0))) := fun i hi => by
        rw [List.getElem?_map, List.getElem?_map, List.getElem?_eq_getElem (by omega), List.getD_eq_getElem?_getD, List.getElem?_eq_getElem (by omega)]
        rfl
      refine ⟨_, rfl, _, _, rfl, rfl, _, rfl, by omega, by omega, fun M hM => ?_⟩
      refine lc_range (fun i H2 => Ext H8 H2 ∧ H2 M = some (.lst (((List.range i).map (faB ds ns z g)).map V.int))) ⟨Ext.upd hM, upd_same⟩ (fun i H2 hi pv => ?_) (fun H2 pv => ?_)
      · obtain ⟨e8, hM8⟩ := pv
        have hi' : i ≤ z := by omega
        rw [Int.zero_add]
        refine ⟨rfl, _, rfl, _, rfl, _, _, rfl, rfl, .inl ⟨by omega, by omega⟩, _, rfl, _, rfl, R, _, (i : Int), _, rfl, rfl, SqL.of (e8 _ _ hR3), atI_nat (hfat i hi'), _, _, rfl, rfl, .inl ⟨by decide, by decide⟩, _, _, rfl, rfl, .inl ⟨_, rfl, _, hM8, small_sz ?_, ext_mut e8 hM, ?_⟩⟩
        · rw [List.length_map, List.length_map, List.length_range]
          omega
        · rw [upd_same, List.range_succ, List.map_append, List.map_append]
          rfl
      · obtain ⟨e8, hM8⟩ := pv
        rw [show ((z : Int) + 1).toNat = z + 1 by omega] at hM8
        refine ⟨M, _, rfl, SqL.of hM8, by rw [List.length_map, List.length_range]; omega, fun m hm hmax => ?_⟩
        obtain ⟨i, hi, rfl⟩ := List.mem_map.mp hm
        rw [List.mem_range] at hi
        exact q _ i H2 (((e5.trans e6).trans e7).trans e8) (by omega) rfl fun k hk => hmax _ (List.mem_map.mpr ⟨k, List.mem_range.mpr (by omega), rfl⟩)
end
end K18

set_option Elab.async false
set_option maxRecDepth 100000
set_option maxHeartbeats 4000000
namespace K18
open PySem PySem.Spec PyProof.Rows L2
theorem lo_split {H : Hp} {v : V} {lo : Lo} (n : Nat) (h : LoAt H v lo) : (isTupD (loD lo) = false ∧ lotV n lo = false) ∨ (isTupD (loD lo) = true ∧ ∃ (b : Bool) (t : Addr), v = .ref t ∧ H t = some (.tup (lo.2.map nI ++ (if b = true then [.bl true] else []))) ∧ lotV n lo = (!b && (inB n lo.2 && upB lo.2))) := by
  obtain ⟨kk, ns⟩ := lo
  rcases kk with _ | _ | _ | kk
  · obtain ⟨t, rfl, ht⟩ := h
    exact .inr ⟨rfl, false, t, rfl, by rw [ht]; simp, rfl⟩
  · exact .inl ⟨rfl, rfl⟩
  · obtain ⟨t, rfl, ht⟩ := h
    exact .inr ⟨rfl, true, t, rfl, ht, rfl⟩
  · exact .inl ⟨rfl, rfl⟩
theorem upB_lt {ns : List Nat} (h : upB ns = true) {j : Nat} (hj : j + 1 < ns.length) : ns.getD j 0 < ns.getD (j + 1) 0 := by
  unfold upB at h
  exact of_decide_eq_true (List.all_eq_true.mp h j (List.mem_range.mpr (by omega)))
section
variable {P : Program} {w : World} {K : PySem.W.Frag} {mg : Str → Option Value} {base : Heap} {A : Ad}
def spPapF (K : PySem.W.Frag) : Sp := fun vs H Q _ => ∃ (D L T : Addr) (ds : List Wd) (ns : List Nat) (z : Nat) (g e : Int) (xi yl : V) (x : Option Int) (lo : Lo), vs = [.ref D, .ref L, .int (z : Int), .int g, .int e, .ref T] ∧ H D = some (.lst ((mosts ds).map V.int)) ∧ ds.length ≤ 60 ∧ H L = some (.lst (ns.map nI)) ∧ ns.length ≤ 60 ∧ (∀ j ∈ ns, j < ds.length) ∧ z < ns.length ∧ H T = some (.tup [xi, yl]) ∧ IxAt xi x ∧ LoAt H yl lo ∧ lo.2.length ≤ 60 ∧ (lo.1 = 0 ∨ lo.1 = 1) ∧ ∀ H', Ext H H' → Q (.bl (barV ds ns z g e x lo)) H'
open Classical in
theorem ok_papF {f : Addr} {fd : FuncData} (F : Fun K "_law_paper_fits" "_law_paper_fits" s__law_paper_fits f fd) (T : Txt K mg A) : FnOk P w K mg base CX0 1 f fd pm__law_paper_fits (spPapF K) := by
  refine F.ok sc__law_paper_fits (fun vs H Q E h => ?_) (fun cdv A' outer s H vs Q E hr h => ?_)
  · obtain ⟨_, _, _, _, _, _, _, _, _, _, _, _, rfl, _⟩ := h
    rfl
  · obtain ⟨D, L, T2, ds, ns, z, g, e, xi, yl, x, lo, rfl, hD, hsm, hL, hsl, hin, hzn, hT, hx, hlo, hll, hk, q⟩ := h
    refine ⟨_, pss_cons (ps_if (PW.pt (pw_or (pt_not (pt_val (pe_callB call_isi (by rfl) T.n_isinstance (by decide +kernel) (pa_cons (pv 5) (pa_cons (pe_bltn (v := .ty "tuple") (by rfl) T.n_tuple (by decide +kernel) rfl) pa_nil))))) (pw_or (pt_cmpR op_ne (pe_callB call_len_seq (by rfl) T.n_len (by decide +kernel) (pa_cons (pv 5) pa_nil)) (pe_int) (nomark _)) (pw_or (pt_not (pt_val (pe_callB call_isi (by rfl) T.n_isinstance (by decide +kernel) (pa_cons (pe_ix ix_tup (pv 5) (pe_int) (fun _ _ => rfl)) (pa_cons (pe_bltn (v := .ty "int") (by rfl) T.n_int (by decide +kernel) rfl) pa_nil))))) (pw_or1 (pt_val (pe_callB call_isi (by rfl) T.n_isinstance (by decide +kernel) (pa_cons (pe_ix ix_tup (pv 5) (pe_int) (fun _ _ => rfl)) (pa_cons (pe_bltn (v := .ty "bool") (by rfl) T.n_bool (by decide +kernel) rfl) pa_nil))))))))) (pss_one (ps_ret (pe_bl))) (pss_nil))
      (pss_cons (ps_asg (pv 5) (pg_tup rfl (pgs_cons (pg_name (i := 6) sc__law_paper_fits.nd rfl (Or.inl rfl)) (pgs_cons (pg_name (i := 7) sc__law_paper_fits.nd rfl (Or.inl rfl)) (pgs_nil)))))
      (pss_cons (ps_if (PW.pt (pw_or (pt_not (pt_chain op_le op_le (pe_int) (pv 6) (pv 2))) (pw_or (pt_not (pt_val (pe_callB call_isi (by rfl) T.n_isinstance (by decide +kernel) (pa_cons (pv 7) (pa_cons (pe_bltn (v := .ty "tuple") (by rfl) T.n_tuple (by decide +kernel) rfl) pa_nil))))) (pw_or1 (pt_cmpR op_eq (pe_callB call_len_seq (by rfl) T.n_len (by decide +kernel) (pa_cons (pv 7) pa_nil)) (pe_int) (nomark _)))))) (pss_one (ps_ret (pe_bl))) (pss_nil))
      (pss_cons (ps_for PassesOwn.never rfl (pi_range1 rfl T.n_range (pa_cons (pe_callB call_len_seq (by rfl) T.n_len (by decide +kernel) (pa_cons (pv 7) pa_nil)) pa_nil)) (pg_name (i := 8) sc__law_paper_fits.nd rfl (Or.inl rfl)) (pss_cons (ps_if (PW.pt (pw_or (pt_not (pt_val (pe_callB call_isi (by rfl) T.n_isinstance (by decide +kernel) (pa_cons (pe_ix ix_tup (pv 7) (pv 8) (fun _ _ => rfl)) (pa_cons (pe_bltn (v := .ty "int") (by rfl) T.n_int (by decide +kernel) rfl) pa_nil))))) (pw_or (pt_val (pe_callB call_isi (by rfl) T.n_isinstance (by decide +kernel) (pa_cons (pe_ix ix_tup (pv 7) (pv 8) (fun _ _ => rfl)) (pa_cons (pe_bltn (v := .ty "bool") (by rfl) T.n_bool (by decide +kernel) rfl) pa_nil)))) (pw_or1 (pt_cmpR op_notIn_seq (pe_ix ix_tup (pv 7) (pv 8) (fun _ _ => rfl)) (pv 1) (by with_unfolding_all rfl)))))) (pss_one (ps_ret (pe_bl))) (pss_nil))
      (pss_one (ps_if (PW.pt (pw_and (pt_cmpR op_gt (pv 8) (pe_int) (nomark _)) (pw_and1 (pt_cmpR op_ge (pe_ix ix_tup (pv 7) (pe_op op_sub (pv 8) (pe_int)) (fun _ _ => rfl)) (pe_ix ix_tup (pv 7) (pv 8) (fun _ _ => rfl)) (nomark _))))) (pss_one (ps_ret (pe_bl))) (pss_nil)))))
      (pss_cons (ps_if (pt_cmpR op_gt (pe_op op_sub (pe_callB call_len_seq (by rfl) T.n_len (by decide +kernel) (pa_cons (pv 1) pa_nil)) (pe_callB call_len_seq (by rfl) T.n_len (by decide +kernel) (pa_cons (pv 7) pa_nil))) (pe_op op_sub (pv 2) (pv 6)) (nomark _)) (pss_one (ps_ret (pe_bl))) (pss_nil))
      (pss_one (ps_ret (pe_cmpR op_eq (pe_op op_add (pe_op op_mul (pv 6) (pv 3)) (pe_op op_mul (pe_int) (pe_callB (cr_min rfl) (by rfl) T.n_min (by decide +kernel) (pa_cons (pe_lc (own := [("_law_k", 8)]) (g := gName 8) (by rfl) sc__law_paper_fits.nd (pi_tup (pv 7)) (blkOk_by (own := [("_law_k", 8)]) (N := nm__law_paper_fits) (sc := defScope s__law_paper_fits) (by decide +kernel)) (fun _ _ _ _ _ => pg_name (i := 8) sc__law_paper_fits.nd rfl (Or.inl rfl)) (fun s1 H1 C1 cl fp => pts_nil) (fun s1 H1 C1 cl fp => pe_callTy call_int1 (by rfl) T.n_int (by decide +kernel) (pa_cons (pe_ix (ix_listK (K := K) rfl) (pv 0) (pv 8) (fun _ _ => rfl)) pa_nil))) pa_nil)))) (pv 4) (nomark _)))))))), ?_⟩
    have hxd : Dp K H xi (ixD x) := by
      cases x with
      | none => obtain rfl : xi = .bl true := hx; exact .bl _
      | some i => obtain rfl : xi = .int i := hx; exact .int _
    have hTd : Dp K H (.ref T2) (.tuple [ixD x, loD lo]) := .tup (SqT.of hT) (.cons hxd (.cons (lo_dp hlo) .nil))
    refine ⟨_, rfl, .ref T2, .ty "tuple", .type (tnD (.tuple [ixD x, loD lo])), .type "tuple", true, rfl, .ty _, dp_ty hTd, kd_tup, _, rfl, ?_⟩
    refine iteF ⟨_, rfl, T2, _, rfl, .inr (SqT.of hT), rfl, _, rfl, ?_⟩
    rw [dvi]
    refine iteF ⟨_, rfl, T2, _, (0 : Int), xi, rfl, rfl, SqT.of hT, rfl, xi, .ty "int", .type (tnD (ixD x)), .type "int", isIntD (ixD x), rfl, .ty _, dp_ty hxd, kd_int, _, rfl, ?_⟩
    cases x with
    | none =>
      refine iteF ⟨_, rfl, T2, _, (0 : Int), xi, rfl, rfl, SqT.of hT, rfl, xi, .ty "bool", .type (tnD (ixD none)), .type "bool", isBoolD (ixD none), rfl, .ty _, dp_ty hxd, kd_bool, _, rfl, ?_⟩
      exact iteT (q H Ext.rfl')
    | some i =>
      refine iteF ⟨_, rfl, T2, _, (0 : Int), xi, rfl, rfl, SqT.of hT, rfl, xi, .ty "bool", .type (tnD (ixD (some i))), .type "bool", isBoolD (ixD (some i)), rfl, .ty _, dp_ty hxd, kd_bool, _, rfl, ?_⟩
      obtain rfl : xi = .int i := hx
      refine iteF ⟨_, rfl, T2, [.int i, yl], rfl, SqT.of hT, rfl, _, _, rfl, _, _, rfl, rfl, ?_⟩
      unfold barV at q
      dsimp only at q
      refine ⟨_, rfl, _, _, rfl, rfl, _, rfl, ?_⟩
      by_cases hi0 : 0 ≤ i
      · rw [decide_eq_true hi0]
        rw [decide_eq_true hi0, Bool.true_and] at q
        refine iteT ⟨_, rfl, _, _, rfl, rfl, _, rfl, ?_⟩
        by_cases hiz : i ≤ (z : Int)
        · rw [decide_eq_true hiz]
          rw [decide_eq_true hiz, Bool.true_and] at q
          refine iteF ⟨_, rfl, yl, .ty "tuple", .type (tnD (loD lo)), .type "tuple", isTupD (loD lo), rfl, .ty _, dp_ty (lo_dp hlo), kd_tup, _, rfl, ?_⟩
          obtain ⟨lk, ls⟩ := lo
          dsimp only at hk hll q
          rcases hk with rfl | rfl
          · obtain ⟨u, rfl, hu⟩ := hlo
            replace hu : H u = some (.tup (ls.map nI)) := hu
            refine iteF ⟨_, rfl, u, _, rfl, .inr (SqT.of hu), rfl, _, rfl, ?_⟩
            rw [dvi, List.length_map]
            have hlv : lotV ds.length (0, ls) = (inB ds.length ls && upB ls) := by
              show (decide ((0 : Nat) = 0) && _) = _
              rw [decide_eq_true rfl, Bool.true_and]
            rw [hlv] at q
            by_cases hne : ls.length = 0
            · rw [show decide ((ls.length : Int) = 0) = true from decide_eq_true (by omega)]
              refine iteT ?_
              have z0 := q H Ext.rfl'
              rw [show decide ((ns.length : Int) - (ls.length : Int) > (z : Int) - i) = true from decide_eq_true (by omega), Bool.not_true, Bool.false_and, Bool.and_false, Bool.and_false] at z0
              exact z0
            · rw [show decide ((ls.length : Int) = 0) = false from decide_eq_false (by omega)]
              refine iteF ⟨_, rfl, u, _, rfl, .inr (SqT.of hu), _, rfl, by omega, by rw [List.length_map]; omega, ?_⟩
              rw [List.length_map, Int.toNat_natCast]
              have hat : ∀ j, j < ls.length → (ls.map nI)[j]? = some (nI (ls.getD j 0)) := fun j hj => by
                rw [List.getElem?_map, List.getElem?_eq_getElem hj, List.getD_eq_getElem?_getD, List.getElem?_eq_getElem hj]
                rfl
              have hmem : ∀ j, j < ls.length → ls.getD j 0 ∈ ls := fun j hj => by
                rw [List.getD_eq_getElem?_getD, List.getElem?_eq_getElem hj]
                exact List.getElem_mem hj
              refine for_range (n := ls.length) (fun m σ' H' => ∃ o8, σ' = [some (.ref D), some (.ref L), some (.int (z : Int)), some (.int g), some (.int e), some (.ref T2), some (.int i), some (.ref u), o8] ∧ H' = H ∧ ∀ j, j < m → ls.getD j 0 ∈ ns ∧ (0 < j → ls.getD (j - 1) 0 < ls.getD j 0)) ⟨_, rfl, rfl, fun j hj => absurd hj (Nat.not_lt_zero _)⟩ (fun m σ' H1 hm pv => ?_) (fun σ' H1 pv => ?_)
              · obtain ⟨o8, rfl, rfl, hb⟩ := pv
                rw [Int.zero_add]
                refine ⟨_, rfl, _, rfl, u, _, (m : Int), _, rfl, rfl, SqT.of hu, atI_nat (hat m hm), _, .ty "int", .type (tnD (.int (ls.getD m 0 : Int))), .type "int", isIntD (.int (ls.getD m 0 : Int)), rfl, .ty _, dp_ty (.int _), kd_int, _, rfl, ?_⟩
                refine iteF ⟨_, rfl, _, rfl, u, _, (m : Int), _, rfl, rfl, SqT.of hu, atI_nat (hat m hm), _, .ty "bool", .type (tnD (.int (ls.getD m 0 : Int))), .type "bool", isBoolD (.int (ls.getD m 0 : Int)), rfl, .ty _, dp_ty (.int _), kd_bool, _, rfl, ?_⟩
                refine iteF ⟨_, rfl, _, rfl, u, _, (m : Int), _, rfl, rfl, SqT.of hu, atI_nat (hat m hm), _, rfl, L, _, rfl, .inl (SqL.of hL), rfl, flat_nI _, _, rfl, ?_⟩
                rw [show inV (nI (ls.getD m 0)) (ns.map nI) = decide (ls.getD m 0 ∈ ns) from inV_nI _ _]
                by_cases hin2 : ls.getD m 0 ∈ ns
                · rw [decide_eq_true hin2]
                  refine iteF ⟨_, rfl, _, _, rfl, rfl, _, rfl, ?_⟩
                  have hgo : (0 < m → ls.getD (m - 1) 0 < ls.getD m 0) → ∀ j, j < m + 1 → ls.getD j 0 ∈ ns ∧ (0 < j → ls.getD (j - 1) 0 < ls.getD j 0) := fun h j hj => by
                    rcases Nat.lt_succ_iff_lt_or_eq.mp hj with h' | h'
                    · exact hb j h'
                    · rw [h']; exact ⟨hin2, h⟩
                  by_cases hm0 : 0 < m
                  · rw [show decide ((m : Int) > 0) = true from decide_eq_true (by omega)]
                    refine iteT ⟨_, rfl, _, rfl, _, _, rfl, rfl, u, _, ((m - 1 : Nat) : Int), _, rfl, by show V.int ((m : Int) - 1) = _; rw [show (m : Int) - 1 = ((m - 1 : Nat) : Int) by omega], SqT.of hu, atI_nat (hat (m - 1) (by omega)), _, rfl, _, rfl, u, _, (m : Int), _, rfl, rfl, SqT.of hu, atI_nat (hat m hm), _, _, rfl, rfl, _, rfl, ?_⟩
                    by_cases hlt : ls.getD (m - 1) 0 < ls.getD m 0
                    · rw [show decide (((ls.getD (m - 1) 0 : Nat) : Int) ≥ ((ls.getD m 0 : Nat) : Int)) = false from decide_eq_false (by omega)]
                      exact iteF ⟨_, rfl, rfl, hgo fun _ => hlt⟩
                    · rw [show decide (((ls.getD (m - 1) 0 : Nat) : Int) ≥ ((ls.getD m 0 : Nat) : Int)) = true from decide_eq_true (by omega)]
                      refine iteT ?_
                      have z0 := q H1 Ext.rfl'
                      have hup : upB ls = false := by
                        cases h : upB ls with
                        | false => rfl
                        | true =>
                          have := upB_lt h (j := m - 1) (by omega)
                          rw [show m - 1 + 1 = m by omega] at this
                          exact absurd this hlt
                      rw [hup, Bool.and_false, Bool.false_and] at z0
                      exact z0
                  · rw [show decide ((m : Int) > 0) = false from decide_eq_false (by omega)]
                    exact iteF ⟨_, rfl, rfl, hgo fun h => absurd h hm0⟩
                · rw [decide_eq_false hin2]
                  refine iteT ?_
                  have z0 := q H1 Ext.rfl'
                  rw [show (ls.all fun j => decide (j ∈ ns)) = false from List.all_eq_false.mpr ⟨_, hmem m hm, by simpa using hin2⟩, Bool.false_and, Bool.and_false] at z0
                  exact z0
              · obtain ⟨o8, rfl, rfl, hb⟩ := pv
                have hal : ∀ k ∈ ls, k ∈ ns := fun k hk => by
                  obtain ⟨j, hj, rfl⟩ := List.mem_iff_getElem.mp hk
                  have := (hb j hj).1
                  rw [List.getD_eq_getElem?_getD, List.getElem?_eq_getElem hj] at this
                  exact this
                have h1 : inB ds.length ls = true := List.all_eq_true.mpr fun k hk => decide_eq_true (hin k (hal k hk))
                have h2 : upB ls = true := by
                  unfold upB
                  refine List.all_eq_true.mpr fun j hj => ?_
                  rw [List.mem_range] at hj
                  have := (hb (j + 1) (by omega)).2 (by omega)
                  exact decide_eq_true this
                rw [h1, h2, Bool.true_and, Bool.true_and, show (ls.all fun j => decide (j ∈ ns)) = true from List.all_eq_true.mpr fun k hk => decide_eq_true (hal k hk), Bool.true_and] at q
                refine ⟨_, rfl, L, _, rfl, .inl (SqL.of hL), _, rfl, u, _, rfl, .inr (SqT.of hu), _, _, rfl, rfl, _, rfl, _, rfl, _, _, rfl, rfl, _, _, rfl, rfl, _, rfl, ?_⟩
                show (if decide (((ns.map nI).length : Int) - ((ls.map nI).length : Int) > (z : Int) - i) = true then _ else _)
                rw [List.length_map, List.length_map]
                cases hg : decide ((ns.length : Int) - (ls.length : Int) > (z : Int) - i) with
                | true =>
                  rw [hg] at q
                  exact iteT (q H1 Ext.rfl')
                | false =>
                  rw [hg] at q
                  simp only [Bool.not_false, Bool.true_and] at q
                  rw [decide_eq_false_iff_not] at hg
                  refine iteF ?_
                  refine ⟨_, rfl, _, rfl, _, _, rfl, rfl, .inl ⟨by omega, by omega⟩, _, rfl, u, rfl, ⟨_, SqT.of hu⟩, fun M hM => ?_⟩
                  refine lc_it (walk_tup (xs := ls.map nI)) (fun m H5 => Ext H1 H5 ∧ H5 M = some (.lst (((ls.take m).map (ms ds)).map V.int))) ⟨Ext.upd hM, upd_same⟩ (fun m H5 _ pv => SqT.of (pv.1 _ _ hu)) (fun m x H5 H6 hi pv hy => ?_) (fun H5 pv => ?_)
                  · obtain ⟨e5, hM5⟩ := pv
                    obtain ⟨rfl, hx⟩ := hy
                    rw [List.getElem?_map] at hx
                    obtain ⟨j, hj, rfl⟩ := Option.map_eq_some_iff.mp hx
                    have hjn : j < ds.length := hin j (hal j (List.mem_of_getElem? hj))
                    refine ⟨rfl, _, rfl, _, rfl, D, _, (j : Int), _, rfl, rfl, SqL.of (e5 _ _ hD), atI_nat (mosts_at hjn), .inl ⟨_, rfl, ?_⟩⟩
                    refine ⟨_, hM5, small_sz ?_, ext_mut e5 hM, ?_⟩
                    · rw [List.length_map, List.length_map, List.length_take]
                      omega
                    · rw [upd_same, take_snoc hj, List.map_append, List.map_append]
                      rfl
                  · obtain ⟨e5, hM5⟩ := pv
                    rw [List.length_map, List.take_length] at hM5
                    refine ⟨M, _, rfl, SqL.of hM5, by rw [List.length_map]; omega, fun m hm hmin => ?_⟩
                    obtain ⟨j, hj, rfl⟩ := List.mem_map.mp hm
                    refine ⟨_, _, rfl, rfl, .inl ⟨by decide, by decide⟩, _, _, rfl, rfl, _, rfl, rfl, ?_⟩
                    rw [dvi]
                    have hv : decide (i * g + 2 * ms ds j = e) = decide (LeastB ds g e i ls) := by
                      by_cases hh : i * g + 2 * ms ds j = e
                      · rw [decide_eq_true hh, decide_eq_true]
                        exact ⟨j, hj, fun k hk => hmin _ (List.mem_map.mpr ⟨k, hk, rfl⟩), hh⟩
                      · rw [decide_eq_false hh, decide_eq_false]
                        rintro ⟨j2, h1, h2, h3⟩
                        have h4 := hmin _ (List.mem_map.mpr ⟨j2, h1, rfl⟩)
                        have h5 := h2 j hj
                        have : ms ds j = ms ds j2 := by omega
                        rw [this] at hh
                        exact hh h3
                    rw [hv]
                    have z0 := q H5 e5
                    exact z0
          · refine iteT ?_
            exact q H Ext.rfl'
        · rw [decide_eq_false hiz]
          rw [decide_eq_false hiz, Bool.false_and] at q
          exact iteT (q H Ext.rfl')
      · rw [decide_eq_false hi0]
        rw [decide_eq_false hi0, Bool.false_and, Bool.false_and] at q
        exact iteF ⟨_, rfl, iteT (q H Ext.rfl')⟩
end
end K18

set_option Elab.async false
set_option maxRecDepth 100000
set_option maxHeartbeats 4000000
namespace K18
open PySem PySem.Spec PyProof.Rows L2
section
variable {b s : Addr} {N : Nat} {H H' : Hp}
def KT (H H' : Hp) : Prop := ∀ t xs, H t = some (.tup xs) → H' t = some (.tup xs)
theorem nls (hst : StAt H b s N) {x : Addr} {o : HO} (h : H x = some o) (hn : ∀ xs, o ≠ .lst xs) : x ≠ b ∧ x ≠ s := by
  obtain ⟨ns, i, h1, h2, _⟩ := hst
  constructor
  · rintro rfl
    rw [h1] at h
    cases h
    exact hn _ rfl
  · rintro rfl
    rw [h2] at h
    cases h
    exact hn _ rfl
theorem kt_s (hst : StAt H b s N) (e : ExtS b s H H') : KT H H' := fun t xs h => by
  obtain ⟨n1, n2⟩ := nls hst h (fun _ z => nomatch z)
  exact e _ _ n1 n2 h
end
section
variable {P : Program} {w : World} {K : PySem.W.Frag} {mg : Str → Option Value} {base : Heap} {A : Ad}
section
variable {b s : Addr} {N : Nat} {H H' : Hp}
theorem sqT_s {a : Addr} {xs : List V} (hst : StAt H b s N) (e : ExtS b s H H') (h : SqT K H a xs) : SqT K H' a xs := by
  rcases h with (h | ⟨o, h⟩) | h
  · obtain ⟨n1, n2⟩ := nls hst h (fun _ z => nomatch z)
    exact .inl (.inl (e _ _ n1 n2 h))
  · obtain ⟨n1, n2⟩ := nls hst h (fun _ z => nomatch z)
    exact .inl (.inr ⟨o, e _ _ n1 n2 h⟩)
  · exact .inr h
theorem wd_s {p : Addr} {d : Wd} (hst : StAt H b s N) (e : ExtS b s H H') (h : WayD K A H p d) : WayD K A H' p d := by
  obtain ⟨dx, T, xs, h1, h2, h3⟩ := h
  cases h3
  obtain ⟨n1, n2⟩ := nls hst h1 (fun _ z => nomatch z)
  exact ⟨dx, T, [], e _ _ n1 n2 h1, sqT_s hst e h2, .nil⟩
theorem ways_s {ws : List V} {ds : List Wd} (hst : StAt H b s N) (e : ExtS b s H H') (h : Ways K A H ws ds) : Ways K A H' ws ds := ⟨h.1, fun i x d h1 h2 => by
  obtain ⟨q, r, hw⟩ := h.2 i x d h1 h2
  exact ⟨q, r, wd_s hst e hw⟩⟩
end
def spPlanD : Sp := fun vs H Q _ => ∃ (b s L : Addr) (N m : Nat) (ns : List Nat), vs = [.ref b, .int (m : Int), .ref L] ∧ StAt H b s N ∧ N ≤ 800000 ∧ 1 ≤ m ∧ m ≤ 60 ∧ H L = some (.lst (ns.map nI)) ∧ L ≠ b ∧ L ≠ s ∧ 1 ≤ ns.length ∧ ns.length ≤ 60 ∧ (∀ j ∈ ns, j < m) ∧ ∀ v c bs H', StAt H' b s (N + 130) → ExtS b s H H' → PlAt H' v c bs → v ≠ .ref b → v ≠ .ref s → Q v H'
theorem be_set {bs : List Be} {j : Nat} {e : Be} : (bs.map beV).set j (beV e) = (bs.set j e).map beV := by
  rw [List.map_set]
theorem be_at {bs : List Be} {j : Nat} (hj : j < bs.length) : (bs.map beV)[j]? = some (beV (bs.getD j none)) := by
  rw [List.getElem?_map, List.getElem?_eq_getElem hj, List.getD_eq_getElem?_getD, List.getElem?_eq_getElem hj]
  rfl
theorem ix_nat {n j : Nat} (h : j < n) : ixN n (j : Int) = some j := by
  unfold ixN
  rw [if_pos (by omega), if_pos (by omega)]
  exact congrArg some (by omega)
theorem ok_planD {f : Addr} {fd : FuncData} (F : Fun K "_law_plan" "_law_plan" s__law_plan f fd) (T : Txt K mg A) (O__law_draw : Own P w K mg base CX0 "_law_draw" 1 pm__law_draw spDraw) : FnOk P w K mg base CX0 2 f fd pm__law_plan spPlanD := by
  refine F.ok sc__law_plan (fun vs H Q E h => ?_) (fun cdv A' outer sh H vs Q E hr h => ?_)
  · obtain ⟨_, _, _, _, _, _, rfl, _⟩ := h
    rfl
  · obtain ⟨b, s, L, N, m, ns, rfl, st, hN, hm1, hm, hL, Lb, Ls, hn1, hn, hin, k⟩ := h
    refine ⟨_, pss_cons (ps_setLc (i := 3) (own := [("_law_k", 6)]) (g := gName 6) (by rfl) sc__law_plan.nd rfl rfl (sw_true rfl rfl rfl (by decide +kernel)) (pi_range1 rfl T.n_range (pa_cons (pv 1) pa_nil)) (blkOk_by (own := [("_law_k", 6)]) (N := nm__law_plan) (sc := defScope s__law_plan) (by decide +kernel)) (fun _ _ _ _ _ => pg_name (i := 6) sc__law_plan.nd rfl (Or.inl rfl)) (fun s1 H1 C1 cl fp => pts_nil) (fun s1 H1 C1 cl fp => pe_non))
      (pss_cons (ps_set (i := 4) sc__law_plan.nd rfl (Or.inl rfl) (pe_int))
      (pss_cons (ps_for PassesOwn.never rfl (pi_range1 rfl T.n_range (pa_cons (pe_callB call_len_seq (by rfl) T.n_len (by decide +kernel) (pa_cons (pv 2) pa_nil)) pa_nil)) (pg_name (i := 5) sc__law_plan.nd rfl (Or.inl rfl)) (pss_cons (ps_set (i := 6) sc__law_plan.nd rfl (Or.inl rfl) (pe_ix ix_list (pv 2) (pe_own O__law_draw (hr.mono (by decide)) pass0 (pa_cons (pv 0) (pa_cons (pe_callB call_len_seq (by rfl) T.n_len (by decide +kernel) (pa_cons (pv 2) pa_nil)) pa_nil))) (fun _ _ => rfl)))
      (pss_one (ps_if (pt_cmpR op_isN (pe_ix ix_list (pv 3) (pv 6) (fun _ _ => rfl)) (pe_non) (nomark _)) (pss_cons (ps_asg (pv 4) (pg_sub (pv 3) (pv 6) set_list))
      (pss_one (ps_set (i := 4) sc__law_plan.nd rfl (Or.inl rfl) (pe_op op_add (pv 4) (pe_own O__law_draw (hr.mono (by decide)) pass0 (pa_cons (pv 0) (pa_cons (pe_int) pa_nil))))))) (pss_nil)))))
      (pss_cons (ps_set (i := 7) sc__law_plan.nd rfl (Or.inl rfl) (pe_own O__law_draw (hr.mono (by decide)) pass0 (pa_cons (pv 0) (pa_cons (pe_int) pa_nil))))
      (pss_cons (ps_if (pt_cmpR op_eq (pv 7) (pe_int) (nomark _)) (pss_one (ps_asg (pe_ix ix_tup (pe_tup (pa_cons (pe_bl) (pa_cons (pe_un un_neg (pe_int)) (pa_cons (pe_int) pa_nil)))) (pe_own O__law_draw (hr.mono (by decide)) pass0 (pa_cons (pv 0) (pa_cons (pe_int) pa_nil))) (fun _ _ => rfl)) (pg_sub (pv 3) (pe_own O__law_draw (hr.mono (by decide)) pass0 (pa_cons (pv 0) (pa_cons (pv 1) pa_nil))) set_list))) (pss_nil))
      (pss_cons (ps_if (pt_cmpR op_eq (pv 7) (pe_int) (nomark _)) (pss_one (ps_ret (pv 3))) (pss_nil))
      (pss_one (ps_ret (pe_callTy call_tuple_of (by rfl) T.n_tuple (by decide +kernel) (pa_cons (pv 3) pa_nil))))))))), ?_⟩
    refine ⟨_, rfl, (m : Int), rfl, by omega, by omega, fun B hB => ?_⟩
    obtain ⟨nb, nsx⟩ := st.new hB
    rw [Int.toNat_natCast]
    refine lc_range (fun i H2 => Ext H H2 ∧ H2 B = some (.lst ((List.replicate i (none : Be)).map beV))) ⟨Ext.upd hB, upd_same⟩ (fun i H2 hi pv => ?_) (fun H2 pv => ?_)
    · obtain ⟨e2, hB2⟩ := pv
      refine ⟨rfl, _, hB2, small_sz ?_, ext_mut e2 hB, ?_⟩
      · rw [List.length_map, List.length_replicate]
        omega
      · rw [upd_same, List.replicate_succ', List.map_append]
        rfl
    · obtain ⟨e2, hB2⟩ := pv
      have st2 := st.ext e2
      have hL2 := e2 _ _ hL
      refine ⟨_, rfl, L, _, rfl, .inl (SqL.of hL2), _, rfl, by omega, by rw [List.length_map]; omega, ?_⟩
      rw [List.length_map, Int.toNat_natCast]
      refine for_range (n := ns.length) (fun i σ' H' => ∃ (bs : List Be) (mo : Int) (o5 o6 : Option V), σ' = [some (.ref b), some (.int (m : Int)), some (.ref L), some (.ref B), some (.int mo), o5, o6, Option.none] ∧ H' B = some (.lst (bs.map beV)) ∧ bs.length = m ∧ 0 ≤ mo ∧ StAt H' b s (N + 2 * i) ∧ ExtS b s H H') ⟨_, _, _, _, rfl, hB2, List.length_replicate, Int.le_refl _, st2, Ext.s e2⟩ (fun i σ' H3 hi pv => ?_) (fun σ' H3 pv => ?_)
      · obtain ⟨bs, mo, o5, o6, rfl, hB3, hbl, hmo, st3, x3⟩ := pv
        have hL3 := x3 _ _ Lb Ls hL
        rw [Int.zero_add]
        refine ⟨_, rfl, _, rfl, _, rfl, L, _, rfl, .inl (SqL.of hL3), b, s, _, ((ns.map nI).length : Int), rfl, st3, by omega, by rw [List.length_map]; omega, by rw [List.length_map]; omega, fun y H4 y0 y2 st4 x4 => ?_⟩
        rw [List.length_map] at y2
        obtain ⟨a, rfl⟩ : ∃ a : Nat, y = (a : Int) := ⟨y.toNat, by omega⟩
        have hL4 := x4 _ _ Lb Ls hL3
        have hB4 := x4 _ _ nb nsx hB3
        have hj := hin _ (List.getElem_mem (show a < ns.length by omega))
        generalize hjj : ns[a]'(by omega) = j at hj
        refine ⟨L, _, (a : Int), nI j, rfl, rfl, SqL.of hL4, atI_nat (by rw [List.getElem?_map, List.getElem?_eq_getElem (by omega), hjj]; rfl), ?_⟩
        refine ⟨_, rfl, _, rfl, B, _, (j : Int), _, rfl, rfl, SqL.of hB4, atI_nat (be_at (by omega)), rfl, _, rfl, ?_⟩
        cases hd : decide (beV (bs.getD j none) = V.non) with
        | false =>
          exact iteF ⟨bs, mo, _, _, rfl, hB4, hbl, hmo, st4.le (by omega), x3.trans x4⟩
        | true =>
          refine iteT ⟨_, rfl, _, rfl, _, rfl, B, _, (j : Int), j, rfl, rfl, hB4, by rw [List.length_map]; exact ix_nat (by omega), ?_⟩
          rw [show (bs.map beV).set j (.int mo) = (bs.set j (some (some mo))).map beV from be_set (e := some (some mo))]
          have st5 : StAt (upd H4 B (.lst ((bs.set j (some (some mo))).map beV))) b s (N + 2 * i + 1) := st4.upd nb nsx
          have x5 : ExtS b s H (upd H4 B (.lst ((bs.set j (some (some mo))).map beV))) := (x3.trans x4).mut hB
          have hB5 : upd H4 B (.lst ((bs.set j (some (some mo))).map beV)) B = some (.lst ((bs.set j (some (some mo))).map beV)) := upd_same
          generalize upd H4 B (.lst ((bs.set j (some (some mo))).map beV)) = H5 at st5 x5 hB5 ⊢
          refine ⟨_, rfl, _, rfl, b, s, _, 8, rfl, st5, by omega, by omega, by omega, fun y H6 y0 y2 st6 x6 => ⟨_, _, rfl, rfl, ?_⟩⟩
          exact ⟨_, _, _, _, rfl, x6 _ _ nb nsx hB5, by rw [List.length_set]; exact hbl, by omega, st6.le (by omega), x5.trans x6⟩
      · obtain ⟨bs, mo, o5, o6, rfl, hB3, hbl, hmo, st3, x3⟩ := pv
        refine ⟨_, rfl, b, s, _, 8, rfl, st3, by omega, by omega, by omega, fun q H4 q0 q8 st4 x4 => ?_⟩
        have hB4 := x4 _ _ nb nsx hB3
        have x04 := x3.trans x4
        clear st3 x3 hB3 x4
        have fin : ∀ (bs : List Be) (H5 : Hp), H5 B = some (.lst (bs.map beV)) → StAt H5 b s (N + 2 * ns.length + 3) → ExtS b s H H5 → (∀ R : Prop, R → R) ∧ Q (.ref B) H5 ∧ ∀ t, H5 t = none → Q (.ref t) (upd H5 t (.tup (bs.map beV))) := fun bs H5 h5 st5 x5 => by
          refine ⟨fun _ h => h, k _ false bs H5 (st5.le (by omega)) x5 ⟨B, rfl, h5⟩ (fun e => nb (by injection e)) (fun e => nsx (by injection e)), fun t ht => ?_⟩
          have e6 := Ext.upd (o := .tup (bs.map beV)) ht
          obtain ⟨tb, ts⟩ := st5.new ht
          exact k _ true bs _ ((st5.ext e6).le (by omega)) (x5.trans (Ext.s e6)) ⟨t, rfl, upd_same⟩ (fun e => tb (by injection e)) (fun e => ts (by injection e))
        refine ⟨_, rfl, rfl, _, rfl, ?_⟩
        rw [dvi]
        by_cases h7 : q = 7
        · rw [decide_eq_true h7]
          refine iteT ⟨_, rfl, by show 3 ≤ sizeLine; decide, fun t ht => ?_⟩
          have e5 := Ext.upd (o := .tup [V.bl true, .int (-1), .int 3]) ht
          obtain ⟨tb, ts⟩ := st4.new ht
          have st5 := st4.ext e5
          have ht5 : upd H4 t (.tup [V.bl true, .int (-1), .int 3]) t = some (.tup [V.bl true, .int (-1), .int 3]) := upd_same
          have hB5 := e5 _ _ hB4
          have x05 := x04.trans (Ext.s e5)
          generalize upd H4 t (.tup [V.bl true, .int (-1), .int 3]) = H5 at e5 st5 ht5 hB5 x05 ⊢
          refine ⟨_, rfl, b, s, _, 3, rfl, st5, by omega, by omega, by omega, fun y H6 y0 y3 st6 x6 => ?_⟩
          obtain ⟨a, rfl⟩ : ∃ a : Nat, y = (a : Int) := ⟨y.toNat, by omega⟩
          have hv : ∃ e : Be, ([V.bl true, .int (-1), .int 3] : List V)[a]? = some (beV e) := by
            rcases a with _ | _ | _ | a
            · exact ⟨some none, rfl⟩
            · exact ⟨some (some (-1)), rfl⟩
            · exact ⟨some (some 3), rfl⟩
            · exact absurd y3 (by omega)
          obtain ⟨e, he⟩ := hv
          refine ⟨t, _, (a : Int), beV e, rfl, rfl, SqT.of (x6 _ _ tb ts ht5), atI_nat he, ?_⟩
          refine ⟨_, rfl, _, rfl, _, rfl, b, s, _, (m : Int), rfl, st6, by omega, by omega, by omega, fun y H7 y0 y3 st7 x7 => ?_⟩
          obtain ⟨j, rfl⟩ : ∃ j : Nat, y = (j : Int) := ⟨y.toNat, by omega⟩
          have hB7 := x7 _ _ nb nsx (x6 _ _ nb nsx hB5)
          refine ⟨B, _, (j : Int), j, rfl, rfl, hB7, by rw [List.length_map]; exact ix_nat (by omega), ?_⟩
          rw [be_set]
          have x07 : ExtS b s H (upd H7 B (.lst ((bs.set j e).map beV))) := ((x05.trans x6).trans x7).mut hB
          have st8 : StAt (upd H7 B (.lst ((bs.set j e).map beV))) b s (N + 2 * ns.length + 3) := (st7.upd nb nsx).le (by omega)
          obtain ⟨_, f1, f2⟩ := fin (bs.set j e) _ upd_same st8 x07
          refine ⟨_, rfl, rfl, _, rfl, ?_⟩
          rw [dvi, decide_eq_false (show ¬ q = 6 by omega)]
          exact iteF ⟨_, rfl, B, _, rfl, .inl ⟨SqL.of upd_same, f2⟩⟩
        · rw [decide_eq_false h7]
          obtain ⟨_, f1, f2⟩ := fin bs H4 hB4 (st4.le (by omega)) x04
          refine iteF ⟨_, rfl, rfl, _, rfl, ?_⟩
          cases hd : decide (V.int q = V.int 6) with
          | true => exact iteT ⟨_, rfl, f1⟩
          | false => exact iteF ⟨_, rfl, B, _, rfl, .inl ⟨SqL.of hB4, f2⟩⟩
end
end K18

set_option Elab.async false
set_option maxRecDepth 100000
set_option maxHeartbeats 4000000
namespace K18
open PySem PySem.Spec PyProof.Rows L2
section
variable {P : Program} {w : World} {K : PySem.W.Frag} {mg : Str → Option Value} {base : Heap} {A : Ad}
def spPaperD : Sp := fun vs H Q _ => ∃ (b s L : Addr) (N z : Nat) (ns : List Nat), vs = [.ref b, .int (z : Int), .ref L] ∧ StAt H b s N ∧ N ≤ 800000 ∧ z ≤ 60 ∧ H L = some (.lst (ns.map nI)) ∧ L ≠ b ∧ L ≠ s ∧ ns.length ≤ 60 ∧ ns.Nodup ∧ ∀ T xi yl x lo H', StAt H' b s (N + 70) → ExtS b s H H' → H' T = some (.tup [xi, yl]) → IxAt xi x → LoAt H' yl lo → lo.2.length ≤ 60 → (lo.1 = 0 ∨ lo.1 = 1) → yl ≠ .ref b → yl ≠ .ref s → Q (.ref T) H'
theorem ok_paperD {f : Addr} {fd : FuncData} (F : Fun K "_law_paper" "_law_paper" s__law_paper f fd) (T : Txt K mg A) (O__law_draw : Own P w K mg base CX0 "_law_draw" 1 pm__law_draw spDraw) : FnOk P w K mg base CX0 2 f fd pm__law_paper spPaperD := by
  refine F.ok sc__law_paper (fun vs H Q E h => ?_) (fun cdv A' outer sh H vs Q E hr h => ?_)
  · obtain ⟨_, _, _, _, _, _, rfl, _⟩ := h
    rfl
  · obtain ⟨b, s, L, N, z, ns, rfl, st, hN, hz, hL, Lb, Ls, hn, hnd, k⟩ := h
    refine ⟨_, pss_cons (ps_set (i := 3) sc__law_paper.nd rfl (Or.inl rfl) (pe_callTy call_tuple_of (by rfl) T.n_tuple (by decide +kernel) (pa_cons (pe_lc (own := [("_law_k", 5)]) (g := gName 5) (by rfl) sc__law_paper.nd (pi_list (pe_callB cr_sortedI (by rfl) T.n_sorted (by decide +kernel) (pa_cons (pe_lc (own := [("_law_one", 6)]) (g := gName 6) (by rfl) sc__law_paper.nd (pi_list (pv 2)) (blkOk_by (own := [("_law_one", 6)]) (N := nm__law_paper) (sc := defScope s__law_paper) (by decide +kernel)) (fun _ _ _ _ _ => pg_name (i := 6) sc__law_paper.nd rfl (Or.inl rfl)) (fun s1 H1 C1 cl fp => pts_nil) (fun s1 H1 C1 cl fp => pe_callTy call_int1 (by rfl) T.n_int (by decide +kernel) (pa_cons (pv 6) pa_nil))) pa_nil))) (blkOk_by (own := [("_law_k", 5)]) (N := nm__law_paper) (sc := defScope s__law_paper) (by decide +kernel)) (fun _ _ _ _ _ => pg_name (i := 5) sc__law_paper.nd rfl (Or.inl rfl)) (fun s1 H1 C1 cl fp => pts_one (pt_cmpR op_gt (pe_own O__law_draw (hr.mono (by decide)) pass0 (pa_cons (pv 0) (pa_cons (pe_int) pa_nil))) (pe_int) (nomark _))) (fun s1 H1 C1 cl fp => pv 5)) pa_nil)))
      (pss_cons (ps_set (i := 4) sc__law_paper.nd rfl (Or.inl rfl) (pe_own O__law_draw (hr.mono (by decide)) pass0 (pa_cons (pv 0) (pa_cons (pe_int) pa_nil))))
      (pss_cons (ps_if (pt_cmpR op_eq (pv 4) (pe_int) (nomark _)) (pss_one (ps_ret (pe_tup (pa_cons (pe_int) (pa_cons (pe_revT (pv 3)) pa_nil))))) (pss_nil))
      (pss_cons (ps_if (pt_cmpR op_eq (pv 4) (pe_int) (nomark _)) (pss_one (ps_ret (pe_tup (pa_cons (pe_bl) (pa_cons (pe_callTy call_list_of (by rfl) T.n_list (by decide +kernel) (pa_cons (pv 3) pa_nil)) pa_nil))))) (pss_nil))
      (pss_one (ps_ret (pe_tup (pa_cons (pe_own O__law_draw (hr.mono (by decide)) pass0 (pa_cons (pv 0) (pa_cons (pe_op op_add (pv 1) (pe_int)) pa_nil))) (pa_cons (pv 3) pa_nil)))))))), ?_⟩
    refine ⟨_, rfl, L, rfl, ⟨_, SqL.of hL⟩, fun C hC => ?_⟩
    refine lc_list (xs := ns.map nI) (fun m H6 => Ext H H6 ∧ H6 C = some (.lst ((((ns.take m).map fun n : Nat => (n : Int))).map V.int))) ⟨Ext.upd hC, upd_same⟩ (fun m H6 _ pv => SqL.of (pv.1 _ _ hL)) (fun m x H6 hx pv => ?_) (fun H6 pv => ?_)
    · obtain ⟨e5, hS5⟩ := pv
      rw [List.getElem?_map] at hx
      obtain ⟨j, hj, rfl⟩ := Option.map_eq_some_iff.mp hx
      refine ⟨rfl, _, rfl, .inl ⟨_, rfl, _, hS5, small_sz ?_, ext_mut e5 hC, ?_⟩⟩
      · rw [List.length_map, List.length_map, List.length_take]
        omega
      · rw [upd_same, take_snoc hj, List.map_append, List.map_append]
        rfl
    · obtain ⟨e5, hS5⟩ := pv
      rw [List.length_map, List.take_length] at hS5
      refine ⟨C, _, rfl, SqL.of hS5, fun Tl qa hp hs hqa => ?_⟩
      obtain ⟨ms, hmap, _, hpm, _⟩ := nat_perm hp hs hnd
      have hml : ms.length ≤ 60 := by
        rw [hpm]
        exact hn
      rw [hmap]
      have e6 := Ext.upd (o := .lst (ms.map nI)) hqa
      have hq6 : upd H6 qa (.lst (ms.map nI)) qa = some (.lst (ms.map nI)) := upd_same
      have st6 := st.ext (e5.trans e6)
      obtain ⟨qb, qs⟩ := (st.ext e5).new hqa
      generalize upd H6 qa (.lst (ms.map nI)) = H7 at e6 hq6 st6 ⊢
      have e57 := e5.trans e6
      refine ⟨qa, rfl, ⟨_, SqL.of hq6⟩, fun D hD => ?_⟩
      obtain ⟨nb, nsx⟩ := st6.new hD
      refine lc_list (xs := ms.map nI) (fun i H' => ∃ ls : List Nat, H' D = some (.lst (ls.map nI)) ∧ ls.length ≤ i ∧ StAt H' b s (N + i) ∧ ExtS b s H7 H') ⟨[], upd_same, Nat.zero_le _, (st6.ext (Ext.upd hD)).le (by omega), Ext.s (Ext.upd hD)⟩ (fun i H' _ pv => ?_) (fun i x H2 hx pv => ?_) (fun H2 pv => ?_)
      · obtain ⟨ls, _, _, _, x2⟩ := pv
        exact SqL.of (x2 _ _ qb qs hq6)
      · obtain ⟨ls, hl, hlen, st2, x2⟩ := pv
        have hil := (List.getElem?_eq_some_iff.mp hx).1
        rw [List.length_map] at hil
        rw [List.getElem?_map] at hx
        obtain ⟨j, hj, rfl⟩ := Option.map_eq_some_iff.mp hx
        refine ⟨rfl, _, rfl, b, s, _, 3, rfl, st2, by omega, by omega, by omega, fun y H3 y0 y2 st3 x3 => ⟨_, _, rfl, rfl, _, rfl, ?_⟩⟩
        have hl3 := x3 D _ nb nsx hl
        cases hy : decide (y > 0) with
        | false => exact iteF ⟨ls, hl3, by omega, st3, x2.trans x3⟩
        | true =>
          refine iteT ⟨_, rfl, _, hl3, small_sz ?_, ls ++ [j], ?_, ?_, st3.upd nb nsx, (x2.trans x3).mut hD⟩
          · rw [List.length_map]
            omega
          · rw [upd_same, List.map_append]
            rfl
          · rw [List.length_append]
            show ls.length + 1 ≤ i + 1
            omega
      · obtain ⟨ls, hl, hlen, st2, x2⟩ := pv
        rw [List.length_map] at hlen st2
        refine ⟨D, _, rfl, .inl ⟨SqL.of hl, fun u hu => ?_⟩⟩
        have e3 := Ext.upd (o := .tup (ls.map nI)) hu
        have st3 := st2.ext e3
        have x3 := ((Ext.s e57).trans x2).trans (Ext.s e3)
        have hu3 : upd H2 u (.tup (ls.map nI)) u = some (.tup (ls.map nI)) := upd_same
        obtain ⟨ub, us⟩ := st2.new hu
        generalize upd H2 u (.tup (ls.map nI)) = H3 at st3 x3 hu3 ⊢
        clear st2 x2 hl e3
        refine ⟨_, rfl, b, s, _, 8, rfl, st3, by omega, by omega, by omega, fun q H4 q0 q8 st4 x4 => ?_⟩
        have hu4 := x4 _ _ ub us hu3
        have x04 := x3.trans x4
        refine ⟨_, rfl, rfl, _, rfl, ?_⟩
        cases hd : decide (V.int q = V.int 7) with
        | true =>
          refine iteT ⟨_, rfl, u, _, rfl, SqT.of hu4, fun r hr' => ⟨by show 2 ≤ sizeLine; decide, fun t ht => ?_⟩⟩
          have e5 := Ext.upd (o := .tup (ls.map nI).reverse) hr'
          have e6 := Ext.upd (o := .tup [V.int 0, .ref r]) ht
          obtain ⟨rb, rs⟩ := st4.new hr'
          exact k t _ _ (some 0) (0, ls.reverse) _ (((st4.ext e5).ext e6).le (by omega)) (x04.trans (Ext.s (e5.trans e6))) upd_same rfl ⟨r, rfl, by rw [List.map_reverse]; exact e6 _ _ upd_same⟩ (by show ls.reverse.length ≤ 60; rw [List.length_reverse]; omega) (.inl rfl) (fun e => rb (by injection e)) (fun e => rs (by injection e))
        | false =>
          refine iteF ⟨_, rfl, rfl, _, rfl, ?_⟩
          cases hd : decide (V.int q = V.int 6) with
          | true =>
            refine iteT ⟨_, rfl, u, _, rfl, .inr (SqT.of hu4), fun r hr' => ⟨by show 2 ≤ sizeLine; decide, fun t ht => ?_⟩⟩
            have e5 := Ext.upd (o := .lst (ls.map nI)) hr'
            have e6 := Ext.upd (o := .tup [V.bl true, .ref r]) ht
            obtain ⟨rb, rs⟩ := st4.new hr'
            exact k t _ _ none (1, ls) _ (((st4.ext e5).ext e6).le (by omega)) (x04.trans (Ext.s (e5.trans e6))) upd_same rfl ⟨r, rfl, e6 _ _ upd_same⟩ (by show ls.length ≤ 60; omega) (.inr rfl) (fun e => rb (by injection e)) (fun e => rs (by injection e))
          | false =>
            refine iteF ⟨_, rfl, _, rfl, _, _, rfl, rfl, b, s, _, (z : Int) + 2, rfl, st4, by omega, by omega, by omega, fun y H5 y0 y2 st5 x5 => ⟨_, rfl, by show 2 ≤ sizeLine; decide, fun t ht => ?_⟩⟩
            have hu5 := x5 _ _ ub us hu4
            have e6 := Ext.upd (o := .tup [V.int y, .ref u]) ht
            exact k t _ _ (some y) (0, ls) _ ((st5.ext e6).le (by omega)) ((x04.trans x5).trans (Ext.s e6)) upd_same rfl ⟨u, rfl, e6 _ _ hu5⟩ (by show ls.length ≤ 60; omega) (.inl rfl) (fun e => ub (by injection e)) (fun e => us (by injection e))
end
end K18

set_option Elab.async false
set_option maxRecDepth 100000
set_option maxHeartbeats 4000000
namespace K18
open PySem PySem.Spec PyProof.Rows L2
theorem put_bs {F : List Nat} {g : Int} {m n : Nat} {bl : List V} (h : PutB F g m n bl) (hF : F.length = n) : ∃ bs : List Be, bl = bs.map beV ∧ bs.length = m ∧ ∀ j, j < m → (∃ p : Nat, F[p]? = some j ∧ bs.getD j none = some (some ((p : Int) * g))) ∨ (j ∉ F ∧ bs.getD j none = none) := by
  obtain ⟨h1, h2, h3⟩ := h
  rw [show F.take n = F from by rw [← hF]; exact List.take_length] at h3
  have hex : ∀ j, ∃ e : Be, j < m → bl[j]? = some (beV e) ∧ ((∃ p : Nat, F[p]? = some j ∧ e = some (some ((p : Int) * g))) ∨ (j ∉ F ∧ e = none)) := fun j => by
    by_cases hj : j ∈ F
    · obtain ⟨p, hp, he⟩ := List.mem_iff_getElem.mp hj
      have hp' : F[p]? = some j := by rw [List.getElem?_eq_getElem hp, he]
      exact ⟨some (some ((p : Int) * g)), fun hjm => ⟨h2 p j (by omega) hp', .inl ⟨p, hp', rfl⟩⟩⟩
    · exact ⟨none, fun hjm => ⟨h3 j hjm hj, .inr ⟨hj, rfl⟩⟩⟩
  have hf := fun j => Classical.choose_spec (hex j)
  generalize hff : (fun j => Classical.choose (hex j)) = f
  have hf' : ∀ j, j < m → bl[j]? = some (beV (f j)) ∧ ((∃ p : Nat, F[p]? = some j ∧ f j = some (some ((p : Int) * g))) ∨ (j ∉ F ∧ f j = none)) := fun j hj => by
    have := hf j hj
    rw [← hff]
    exact this
  have hgd : ∀ j, j < m → ((List.range m).map f).getD j none = f j := fun j hj => by
    rw [List.getD_eq_getElem?_getD, List.getElem?_map, List.getElem?_range hj]
    rfl
  refine ⟨(List.range m).map f, ?_, by rw [List.length_map, List.length_range], fun j hj => by rw [hgd j hj]; exact (hf' j hj).2⟩
  refine List.ext_getElem? fun j => ?_
  by_cases hj : j < m
  · rw [(hf' j hj).1, List.getElem?_map, List.getElem?_map, List.getElem?_range hj]
    rfl
  · rw [List.getElem?_eq_none (by omega), List.getElem?_eq_none (by rw [List.length_map, List.length_map, List.length_range]; omega)]
theorem begun_nodup (bs : List Be) (m : Nat) : (begun bs m).Nodup := by
  unfold begun
  exact List.nodup_range.filter _
/-- the ways begun of a put plan -/
theorem put_perm {F : List Nat} {g : Int} {m : Nat} {bs : List Be} (hn : F.Nodup) (hm : ∀ w ∈ F, w < m) (h : ∀ j, j < m → (∃ p : Nat, F[p]? = some j ∧ bs.getD j none = some (some ((p : Int) * g))) ∨ (j ∉ F ∧ bs.getD j none = none)) : (begun bs m).Perm F := by
  refine (List.perm_ext_iff_of_nodup (begun_nodup _ _) hn).mpr fun j => ?_
  unfold begun
  rw [List.mem_filter, List.mem_range]
  constructor
  · rintro ⟨hj, hs⟩
    rcases h j hj with ⟨p, hp, _⟩ | ⟨_, he⟩
    · exact List.mem_of_getElem? hp
    · rw [he] at hs
      cases hs
  · intro hj
    refine ⟨hm j hj, ?_⟩
    rcases h j (hm j hj) with ⟨p, hp, he⟩ | ⟨hn, _⟩
    · rw [he]; rfl
    · exact absurd hj hn
theorem put_val {F : List Nat} {g : Int} {m p w : Nat} {bs : List Be} (hn : F.Nodup) (hm : ∀ w ∈ F, w < m) (h : ∀ j, j < m → (∃ p : Nat, F[p]? = some j ∧ bs.getD j none = some (some ((p : Int) * g))) ∨ (j ∉ F ∧ bs.getD j none = none)) (hp : F[p]? = some w) : bs.getD w none = some (some ((p : Int) * g)) := by
  rcases h w (hm w (List.mem_of_getElem? hp)) with ⟨q, hq, he⟩ | ⟨hn2, _⟩
  · obtain ⟨a1, a2⟩ := List.getElem?_eq_some_iff.mp hp
    obtain ⟨b1, b2⟩ := List.getElem?_eq_some_iff.mp hq
    have : q = p := (List.getElem_inj hn).mp (b2.trans a2.symm)
    rw [he, this]
  · exact absurd (List.mem_of_getElem? hp) hn2
/-- a list told by its places -/
theorem map_range {F : List Nat} {n : Nat} {h : Nat → Int} {r : Nat → Int} (hF : F.length = n) (hr : ∀ p w, F[p]? = some w → h w = r p) : F.map h = (List.range n).map r := by
  refine List.ext_getElem? fun p => ?_
  rw [List.getElem?_map, List.getElem?_map]
  by_cases hp : p < n
  · rw [List.getElem?_range hp, List.getElem?_eq_getElem (by omega)]
    exact congrArg some (hr p _ (List.getElem?_eq_getElem (by omega)))
  · rw [List.getElem?_eq_none (by omega), List.getElem?_eq_none (by rw [List.length_range]; omega)]
    rfl
theorem fal_facts {ds : List Wd} {ns : List Nat} {z : Nat} (hms : ∀ j, j < ds.length → 1 ≤ ms ds j ∧ ms ds j ≤ 50) (hu : unlikeV ds.length ns = true) (hz : z < ns.length) : (falB ds ns z).length = z + 1 ∧ (falB ds ns z).Nodup ∧ (∀ w ∈ falB ds ns z, w < ds.length ∧ w ∈ ns) ∧ ∀ i, i ≤ z → (falB ds ns z).getD i 0 = (ordB ds ns).getD (z - i) 0 := by
  obtain ⟨o1, o2, o3, o4, o5⟩ := ordB_facts hms hu
  have hl : (falB ds ns z).length = z + 1 := by
    unfold falB
    rw [List.length_reverse, List.length_take]
    omega
  refine ⟨hl, ?_, fun w hw => ?_, fun i hi => ?_⟩
  · unfold falB
    exact (List.reverse_perm _).nodup_iff.mpr (o1.sublist (List.take_sublist _ _))
  · unfold falB at hw
    rw [List.mem_reverse] at hw
    have := (o2 w).mp (List.mem_of_mem_take hw)
    exact ⟨o5 w this, this⟩
  · unfold falB
    rw [List.getD_eq_getElem?_getD, List.getD_eq_getElem?_getD, List.getElem?_reverse (by rw [List.length_take]; omega), List.length_take, List.getElem?_take, if_pos (by omega)]
    congr 2
    omega
open Classical in
theorem best_plan {ds : List Wd} {ns : List Nat} {z : Nat} {g e : Int} {bl : List V} {i0 : Nat} (hms : ∀ j, j < ds.length → 1 ≤ ms ds j ∧ ms ds j ≤ 50) (hu : unlikeV ds.length ns = true) (hz : z < ns.length) (hg : 0 ≤ g) (hp : PutB (falB ds ns z) g ds.length (z + 1) bl) (hi0 : i0 ≤ z) (he : faB ds ns z g i0 = e) (hmax : ∀ k, k ≤ z → faB ds ns z g k ≤ e) :
    ∃ bs : List Be, bl = bs.map beV ∧ planV ds.length ns z g true bs = true ∧ LatAt (ms ds) bs ds.length z e := by
  obtain ⟨f1, f2, f3, f4⟩ := fal_facts hms hu hz
  obtain ⟨bs, rfl, hlen, hb⟩ := put_bs hp f1
  have hF : ∀ w ∈ falB ds ns z, w < ds.length := fun w hw => (f3 w hw).1
  have hperm := put_perm f2 hF hb
  have hval := fun {p w : Nat} (h : (falB ds ns z)[p]? = some w) => put_val f2 hF hb h
  refine ⟨bs, rfl, ?_, ?_⟩
  · unfold planV
    have g1 : (begun bs ds.length).length = z + 1 := by rw [hperm.length_eq, f1]
    have g2 : (begun bs ds.length).all (fun j => decide (j ∈ ns)) = true := List.all_eq_true.mpr fun j hj => decide_eq_true (f3 j (hperm.mem_iff.mp hj)).2
    have g3 : (begun bs ds.length).all (fun j => beOk (bs.getD j none)) = true := List.all_eq_true.mpr fun j hj => by
      obtain ⟨p, hp', hpe⟩ := List.mem_iff_getElem.mp (hperm.mem_iff.mp hj)
      have h' := hval (p := p) (w := j) (by rw [List.getElem?_eq_getElem hp', hpe])
      rw [h']
      exact decide_eq_true (Int.mul_nonneg (by omega) hg)
    have g4 : Gaps g ((begun bs ds.length).map fun j => beI (bs.getD j none)) := by
      refine ⟨(List.range (z + 1)).map fun i : Nat => (i : Int) * g, ?_, ?_, ?_⟩
      · rw [← map_range (F := falB ds ns z) (h := fun j => beI (bs.getD j none)) f1 fun p w hpw => by rw [hval hpw]; rfl]
        exact (hperm.map _).symm
      · rw [List.pairwise_map]
        exact List.pairwise_lt_range.imp fun {a b} hab => Int.mul_le_mul_of_nonneg_right (by omega) hg
      · unfold gapsB
        refine List.all_eq_true.mpr fun i hi => decide_eq_true ?_
        rw [List.mem_range, List.length_map, List.length_range] at hi
        have hgd : ∀ k, k < z + 1 → ((List.range (z + 1)).map fun i : Nat => (i : Int) * g).getD k 0 = (k : Int) * g := fun k hk => by
          rw [List.getD_eq_getElem?_getD, List.getElem?_map, List.getElem?_range hk]
          rfl
        rw [hgd i (by omega), hgd (i + 1) (by omega), Int.natCast_add, Int.add_mul]
        simp
        omega
    rw [decide_eq_true hlen, decide_eq_false (by omega), g2, g3, decide_eq_true g4]
    rfl
  · have hE : (endsP (ms ds) bs ds.length).Perm ((List.range (z + 1)).map (faB ds ns z g)) := by
      unfold endsP
      rw [← map_range (F := falB ds ns z) (h := fun j => beI (bs.getD j none) + 2 * ms ds j) f1 fun p w hpw => by
        rw [hval hpw]
        unfold faB
        rw [List.getD_eq_getElem?_getD, hpw]
        rfl]
      exact hperm.map _
    have hS : ((endsP (ms ds) bs ds.length).mergeSort fun a b => decide (a ≤ b)).Perm (endsP (ms ds) bs ds.length) := List.mergeSort_perm _ _
    have hP : ((endsP (ms ds) bs ds.length).mergeSort fun a b => decide (a ≤ b)).Pairwise (· ≤ ·) := by
      have := List.pairwise_mergeSort (le := fun a b : Int => decide (a ≤ b)) (fun a b c h1 h2 => by rw [decide_eq_true_eq] at *; omega) (fun a b => by rw [Bool.or_eq_true, decide_eq_true_eq, decide_eq_true_eq]; omega) (endsP (ms ds) bs ds.length)
      exact this.imp fun h => of_decide_eq_true h
    generalize (endsP (ms ds) bs ds.length).mergeSort (fun a b => decide (a ≤ b)) = L at hS hP
    have hL := hS.trans hE
    have hlen2 : L.length = z + 1 := by rw [hL.length_eq, List.length_map, List.length_range]
    refine ⟨L, hS, hP, ?_⟩
    rw [List.getElem?_eq_getElem (by omega)]
    congr 1
    have h1 : L[z]'(by omega) ≤ e := by
      have := hL.mem_iff.mp (List.getElem_mem (show z < L.length by omega))
      obtain ⟨k, hk, hke⟩ := List.mem_map.mp this
      rw [← hke]
      exact hmax k (by have := List.mem_range.mp hk; omega)
    have h2 : e ≤ L[z]'(by omega) := by
      have : e ∈ L := hL.mem_iff.mpr (List.mem_map.mpr ⟨i0, List.mem_range.mpr (by omega), he⟩)
      obtain ⟨j, hj, hje⟩ := List.mem_iff_getElem.mp this
      rw [← hje]
      rcases Nat.lt_or_ge j z with h | h
      · exact List.pairwise_iff_getElem.mp hP j z hj (by omega) h
      · have : j = z := by omega
        subst this
        exact Int.le_refl _
    omega
open Classical in
theorem best_paper {ds : List Wd} {ns : List Nat} {z : Nat} {g e : Int} {i : Nat} {ls : List Nat} (hms : ∀ j, j < ds.length → 1 ≤ ms ds j ∧ ms ds j ≤ 50) (hu : unlikeV ds.length ns = true) (hz : z < ns.length) (hup : ls.Pairwise (· < ·)) (hmem : ∀ j, j ∈ ls ↔ j ∈ (ordB ds ns).drop (z - i)) (hlen : ls.length = ns.length - (z - i)) (hi : i ≤ z) (he : faB ds ns z g i = e) : barV ds ns z g e (some (i : Int)) (0, ls) = true := by
  obtain ⟨o1, o2, o3, o4, o5⟩ := ordB_facts hms hu
  obtain ⟨f1, f2, f3, f4⟩ := fal_facts hms hu hz
  have hin : ∀ j ∈ ls, j ∈ ns := fun j hj => (o2 j).mp (List.mem_of_mem_drop ((hmem j).mp hj))
  unfold barV lotV
  dsimp only
  have h1 : inB ds.length ls = true := List.all_eq_true.mpr fun j hj => decide_eq_true (o5 j (hin j hj))
  have h2 : upB ls = true := by
    unfold upB
    refine List.all_eq_true.mpr fun j hj => decide_eq_true ?_
    rw [List.mem_range] at hj
    have := List.pairwise_iff_getElem.mp hup j (j + 1) (by omega) (by omega) (by omega)
    rw [List.getD_eq_getElem?_getD, List.getD_eq_getElem?_getD, List.getElem?_eq_getElem (by omega), List.getElem?_eq_getElem (by omega)]
    exact this
  have h3 : (ls.all fun j => decide (j ∈ ns)) = true := List.all_eq_true.mpr fun j hj => decide_eq_true (hin j hj)
  have h4 : LeastB ds g e (i : Int) ls := by
    have hx : z - i < (ordB ds ns).length := by omega
    refine ⟨(ordB ds ns)[z - i], (hmem _).mpr ?_, fun k hk => ?_, ?_⟩
    · exact List.mem_iff_getElem.mpr ⟨0, by rw [List.length_drop]; omega, by rw [List.getElem_drop]; simp⟩
    · obtain ⟨j, hj, hje⟩ := List.mem_iff_getElem.mp ((hmem k).mp hk)
      rw [List.getElem_drop] at hje
      rw [List.length_drop] at hj
      rw [← hje]
      rcases Nat.eq_zero_or_pos j with h | h
      · subst h
        exact Int.le_refl _
      · have := List.pairwise_iff_getElem.mp o4 (z - i) (z - i + j) (by rw [List.length_map]; omega) (by rw [List.length_map]; omega) (by omega)
        rw [List.getElem_map, List.getElem_map] at this
        exact this
    · rw [← he]
      unfold faB
      rw [f4 i hi, List.getD_eq_getElem?_getD, List.getElem?_eq_getElem hx]
      rfl
  rw [h1, h2, h3, decide_eq_true h4, decide_eq_true (show (0 : Int) ≤ (i : Int) by omega), decide_eq_true (show (i : Int) ≤ (z : Int) by omega), decide_eq_false (show ¬ ((ns.length : Int) - (ls.length : Int) > (z : Int) - (i : Int)) by omega)]
  rfl
theorem best_lower {ds : List Wd} {ns : List Nat} {z : Nat} {g E : Int} {b : Bool} {bs : List Be} (hms : ∀ j, j < ds.length → 1 ≤ ms ds j ∧ ms ds j ≤ 50) (hu : unlikeV ds.length ns = true) (hz : z < ns.length) (hp : planV ds.length ns z g b bs = true) (hl : LatAt (ms ds) bs ds.length z E) {i : Nat} (hi : i ≤ z) : faB ds ns z g i ≤ E := by
  obtain ⟨o1, o2, o3, o4, o5⟩ := ordB_facts hms hu
  obtain ⟨f1, f2, f3, f4⟩ := fal_facts hms hu hz
  obtain ⟨_, p1, p2, p3, p4, Tl, p5, p6, p7⟩ := plan_facts hp
  obtain ⟨En, e1, e2, e3⟩ := hl
  have hnd : ns.Nodup := by
    unfold unlikeV at hu
    rw [Bool.and_eq_true, decide_eq_true_eq] at hu
    exact hu.2
  have z0 := lower (f := ms ds) (bg := fun j => beI (bs.getD j none)) (A := ns) (O := ordB ds ns) (B := begun bs ds.length) (g := g) (E := E) (z := z) (Tl := Tl) (En := En) ((List.perm_ext_iff_of_nodup o1 hnd).mpr o2) o4 (begun_nodup _ _) p3 (by omega) p5 p6 (fun k hk => by
    have := p4 k hk
    show 0 ≤ beI (bs.getD k none)
    generalize bs.getD k none = x at this
    rcases x with _ | _ | x
    · cases this
    · cases this
    · exact of_decide_eq_true this) (fun j hj => by
    unfold gapsB at p7
    have := of_decide_eq_true (List.all_eq_true.mp p7 j (List.mem_range.mpr (by omega)))
    omega) e1 e2 e3 hi
  unfold faB
  rw [f4 i hi]
  exact z0
theorem due_ok' {m : Nat} {ns : List Nat} {z g : Int} (hm : 1 ≤ m ∧ m ≤ 4) (hu : unlikeV m ns = true) (hz : 0 ≤ z ∧ z ≤ 3) (hg : 0 ≤ g ∧ g ≤ 500) (hn : z < (ns.length : Int)) : dueB m ns z g = none := by
  unfold dueB
  rw [if_neg (fun h => h hm), if_neg (by rw [hu]; decide), if_neg (fun h => h hz), if_neg (fun h => h hg), if_neg (by omega)]
theorem due_few {m : Nat} {ns : List Nat} {z g : Int} (hm : 1 ≤ m ∧ m ≤ 4) (hu : unlikeV m ns = true) (hz : 0 ≤ z ∧ z ≤ 3) (hg : 0 ≤ g ∧ g ≤ 500) (hn : (ns.length : Int) ≤ z) : dueB m ns z g = some ("allowed" : Str) := by
  unfold dueB
  rw [if_neg (fun h => h hm), if_neg (by rw [hu]; decide), if_neg (fun h => h hz), if_neg (fun h => h hg), if_pos hn]
theorem due_silent {m : Nat} {ns : List Nat} {g : Int} (hm : 1 ≤ m ∧ m ≤ 4) (hu : unlikeV m ns = true) : dueB m ns ((4 : Nat) : Int) g = some ("silent" : Str) := by
  unfold dueB
  rw [if_neg (fun h => h hm), if_neg (by rw [hu]; decide), if_pos (by omega)]
theorem due_gap {m : Nat} {ns : List Nat} {z : Int} (hm : 1 ≤ m ∧ m ≤ 4) (hu : unlikeV m ns = true) (hz : 0 ≤ z ∧ z ≤ 3) : dueB m ns z 501 = some ("gap" : Str) := by
  unfold dueB
  rw [if_neg (fun h => h hm), if_neg (by rw [hu]; decide), if_neg (fun h => h hz), if_pos (by omega)]
theorem due_unl {m : Nat} {ns : List Nat} {z g : Int} (hm : 1 ≤ m ∧ m ≤ 4) (hu : unlikeV m ns = false) : dueB m ns z g = some ("allowed" : Str) := by
  unfold dueB
  rw [if_neg (fun h => h hm), if_pos hu]
theorem unl_out {m : Nat} {ns : List Nat} : unlikeV m (ns ++ [m]) = false := by
  unfold unlikeV inB
  rw [List.all_append]
  simp
theorem unl_twice {m : Nat} {ns : List Nat} (h : 0 < ns.length) : unlikeV m (ns ++ ns.take 1) = false := by
  unfold unlikeV
  rw [Bool.and_eq_false_iff]
  right
  rw [decide_eq_false_iff_not]
  intro hn
  rcases ns with _ | ⟨a, ns⟩
  · cases h
  · have := (List.nodup_append.mp hn).2.2 a (List.mem_cons_self) a (by simp)
    exact this rfl
end K18

set_option Elab.async false
set_option maxRecDepth 100000
set_option maxHeartbeats 4000000
namespace K18
open PySem PySem.Spec PyProof.Rows L2
def spLaw (K : PySem.W.Frag) : Sp := fun vs H Q _ => ∃ (a : Addr) (ns : List Int), vs = [.ref a] ∧ SqL K H a (ns.map V.int) ∧ ns.length ≤ 63 ∧ ∀ H', Q (.bl true) H'
/-- a way of the law -/
def LWay (d : Wd) : Prop := (d.1 = none ∨ d.1 = some 3) ∧ d.2.1 = 1 ∧ 1 ≤ d.2.2 ∧ d.2.2 ≤ 5
theorem show_yes {ds : List Wd} {ns : List Nat} {z : Nat} {g e : Int} {c : Bool} {bs : List Be} {x : Option Int} {lo : Lo} (hp : planV ds.length ns z g c bs = true) (hl : LatAt (ms ds) bs ds.length z e) : showV ds ns z g c bs e x lo = barV ds ns z g e x lo := by
  classical
  unfold showV
  rw [hp, decide_eq_true hl, Bool.true_and, Bool.true_and]
theorem show_np {ds : List Wd} {ns : List Nat} {z : Nat} {g e : Int} {c : Bool} {bs : List Be} {x : Option Int} {lo : Lo} (hp : planV ds.length ns z g c bs = false) : showV ds ns z g c bs e x lo = false := by
  unfold showV
  rw [hp, Bool.false_and]
theorem show_nl {ds : List Wd} {ns : List Nat} {z : Nat} {g e : Int} {c : Bool} {bs : List Be} {x : Option Int} {lo : Lo} (hl : ¬ LatAt (ms ds) bs ds.length z e) : showV ds ns z g c bs e x lo = false := by
  classical
  unfold showV
  rw [decide_eq_false hl, Bool.false_and, Bool.and_false]
theorem PlAt.s {b s : Addr} {H H' : Hp} {v : V} {c : Bool} {bs : List Be} (x : ExtS b s H H') (h : PlAt H v c bs) (nb : v ≠ .ref b) (ns : v ≠ .ref s) : PlAt H' v c bs := by
  obtain ⟨t, rfl, h2⟩ := h
  exact ⟨t, rfl, x _ _ (fun e => nb (by rw [e])) (fun e => ns (by rw [e])) h2⟩
theorem LoAt.s {b s : Addr} {N : Nat} {H H' : Hp} {v : V} {lo : Lo} (st : StAt H b s N) (x : ExtS b s H H') (h : LoAt H v lo) (nb : v ≠ .ref b) (ns : v ≠ .ref s) : LoAt H' v lo := by
  obtain ⟨k, ms⟩ := lo
  rcases k with _ | _ | _ | k
  · obtain ⟨t, h1, h2⟩ := h; exact ⟨t, h1, kt_s st x _ _ h2⟩
  · obtain ⟨t, rfl, h2⟩ := h; exact ⟨t, rfl, x _ _ (fun e => nb (by rw [e])) (fun e => ns (by rw [e])) h2⟩
  · obtain ⟨t, h1, h2⟩ := h; exact ⟨t, h1, kt_s st x _ _ h2⟩
  · exact h
section
variable {P : Program} {w : World} {K : PySem.W.Frag} {mg : Str → Option Value} {base : Heap} {A : Ad}
theorem ok_law {f : Addr} {fd : FuncData} (F : Fun K "law" "law" s_law f fd) (T : Txt K mg A) (O__law_draw : Own P w K mg base CX0 "_law_draw" 1 pm__law_draw spDraw) (O_Way3 : OwnCD P w K mg base (L2.CX P w) "Way" A.Way 5 pm_Way_init (spWayInit K A) [.ref A.T0])
    (O__law_refused : Own P w K mg base CX0 "_law_refused" 8 pm__law_refused (spRefused K A)) (O_best_begins : Own P w K mg base (L2.CX P w) "best_begins" 7 pm_best_begins (spBest K A)) (O__law_least : Own P w K mg base CX0 "_law_least" 1 pm__law_least spLeast)
    (O__law_plan_fits : Own P w K mg base CX0 "_law_plan_fits" 1 pm__law_plan_fits spPFits) (O__law_end : Own P w K mg base CX0 "_law_end" 1 pm__law_end spEnd) (O__law_paper_fits : Own P w K mg base CX0 "_law_paper_fits" 1 pm__law_paper_fits (spPapF K)) (O_shows_begins : Own P w K mg base (L2.CX P w) "shows_begins" 7 pm_shows_begins (spShows K A))
    (O__law_plan : Own P w K mg base CX0 "_law_plan" 2 pm__law_plan spPlanD) (O__law_paper : Own P w K mg base CX0 "_law_paper" 2 pm__law_paper spPaperD) : FnOk P w K mg base CX0 9 f fd pm_law (spLaw K) := by
  refine F.ok sc_law (fun vs H Q E h => ?_) (fun cdv A' outer sh H vs Q E hr h => ?_)
  · obtain ⟨_, _, rfl, _⟩ := h
    rfl
  · obtain ⟨a, ns, rfl, hS, hlen, k⟩ := h
    refine ⟨_, pss_cons (ps_set (i := 1) sc_law.nd rfl (Or.inr rfl) (pe_lst (pa_cons (pe_callTy call_list_of (by rfl) T.n_list (by decide +kernel) (pa_cons (pv 0) pa_nil)) (pa_cons (pe_int) pa_nil))))
      (pss_cons (ps_setLc (i := 2) (own := [("_law_k", 11)]) (g := gName 11) (by rfl) sc_law.nd rfl rfl (sw_true rfl rfl rfl (by decide +kernel)) (pi_range1 rfl T.n_range (pa_cons (pe_op op_add (pe_int) (pe_own O__law_draw (hr.mono (by decide)) pass0 (pa_cons (pv 1) (pa_cons (pe_int) pa_nil)))) pa_nil)) (blkOk_by (own := [("_law_k", 11)]) (N := nm_law) (sc := defScope s_law) (by decide +kernel)) (fun _ _ _ _ _ => pg_name (i := 11) sc_law.nd rfl (Or.inl rfl)) (fun s1 H1 C1 cl fp => pts_nil) (fun s1 H1 C1 cl fp => pe_op op_add (pe_int) (pe_own O__law_draw (hr.mono (by decide)) pass0 (pa_cons (pv 1) (pa_cons (pe_int) pa_nil)))))
      (pss_cons (ps_setLc (i := 3) (own := [("_law_most", 17)]) (g := gName 17) (by rfl) sc_law.nd rfl rfl (sw_true rfl rfl rfl (by decide +kernel)) (pi_list (pv 2)) (blkOk_by (own := [("_law_most", 17)]) (N := nm_law) (sc := defScope s_law) (by decide +kernel)) (fun _ _ _ _ _ => pg_name (i := 17) sc_law.nd rfl (Or.inl rfl)) (fun s1 H1 C1 cl fp => pts_nil) (fun s1 H1 C1 cl fp => pe_newD O_Way3 (hr.mono (by decide)) passL (pa_cons (pe_ix (ix_tupK (K := K) rfl) (pe_tup (pa_cons (pe_non) (pa_cons (pe_int) pa_nil))) (pe_own O__law_draw (hr.mono (by decide)) pass0 (pa_cons (pv 1) (pa_cons (pe_int) pa_nil))) (fun _ _ => rfl)) (pa_cons (pe_int) (pa_cons (pv 17) pa_nil)))))
      (pss_cons (ps_setLc (i := 4) (own := [("_law_k", 11)]) (g := gName 11) (by rfl) sc_law.nd rfl rfl (sw_true rfl rfl rfl (by decide +kernel)) (pi_range1 rfl T.n_range (pa_cons (pe_callB call_len_seq (by rfl) T.n_len (by decide +kernel) (pa_cons (pv 2) pa_nil)) pa_nil)) (blkOk_by (own := [("_law_k", 11)]) (N := nm_law) (sc := defScope s_law) (by decide +kernel)) (fun _ _ _ _ _ => pg_name (i := 11) sc_law.nd rfl (Or.inl rfl)) (fun s1 H1 C1 cl fp => pts_one (pt_cmpR op_gt (pe_own O__law_draw (hr.mono (by decide)) pass0 (pa_cons (pv 1) (pa_cons (pe_int) pa_nil))) (pe_int) (nomark _))) (fun s1 H1 C1 cl fp => pv 11))
      (pss_cons (ps_set (i := 5) sc_law.nd rfl (Or.inl rfl) (pe_own O__law_draw (hr.mono (by decide)) pass0 (pa_cons (pv 1) (pa_cons (pe_callB (call_max2 rfl) (by rfl) T.n_max (by decide +kernel) (pa_cons (pe_int) (pa_cons (pe_callB call_len_seq (by rfl) T.n_len (by decide +kernel) (pa_cons (pv 4) pa_nil)) pa_nil))) pa_nil))))
      (Evl.pss_cut (ps_if (pt_cmpR op_eq (pe_own O__law_draw (hr.mono (by decide)) pass0 (pa_cons (pv 1) (pa_cons (pe_int) pa_nil))) (pe_int) (nomark _)) (pss_one (ps_set (i := 5) sc_law.nd rfl (Or.inl rfl) (pe_own O__law_draw (hr.mono (by decide)) pass0 (pa_cons (pv 1) (pa_cons (pe_int) pa_nil))))) (pss_nil))
      (pss_cons (ps_set (i := 6) sc_law.nd rfl (Or.inl rfl) (pe_own O__law_draw (hr.mono (by decide)) pass0 (pa_cons (pv 1) (pa_cons (pe_int) pa_nil))))
      (pss_cons (ps_if (pt_cmpR op_le (pe_callB call_len_seq (by rfl) T.n_len (by decide +kernel) (pa_cons (pv 4) pa_nil)) (pv 5) (nomark _)) (pss_one (ps_ret (pe_cmpR op_eq (pe_own O__law_refused (hr.mono (by decide)) pass0 (pa_cons (pv 3) (pa_cons (pv 4) (pa_cons (pv 5) (pa_cons (pv 6) pa_nil))))) (pe_str) (nomark _)))) (pss_nil))
      (pss_cons (ps_set (i := 7) sc_law.nd rfl (Or.inl rfl) (pe_own O_best_begins (hr.mono (by decide)) passL (pa_cons (pv 3) (pa_cons (pv 4) (pa_cons (pv 5) (pa_cons (pv 6) pa_nil))))))
      (pss_cons (ps_set (i := 8) sc_law.nd rfl (Or.inl rfl) (pe_own O__law_least (hr.mono (by decide)) pass0 (pa_cons (pv 2) (pa_cons (pv 4) (pa_cons (pv 5) (pa_cons (pv 6) pa_nil))))))
      (pss_cons (ps_if (PW.pt (pw_or (pt_not (pt_val (pe_callB call_isi (by rfl) T.n_isinstance (by decide +kernel) (pa_cons (pv 7) (pa_cons (pe_bltn (v := .ty "tuple") (by rfl) T.n_tuple (by decide +kernel) rfl) pa_nil))))) (pw_or (pt_cmpR op_ne (pe_callB call_len_seq (by rfl) T.n_len (by decide +kernel) (pa_cons (pv 7) pa_nil)) (pe_int) (nomark _)) (pw_or1 (pt_cmpR op_ne (pe_ix ix_tup (pv 7) (pe_int) (fun _ _ => rfl)) (pv 8) (nomark _)))))) (pss_one (ps_ret (pe_bl))) (pss_nil))
      (pss_cons (ps_par (i := 9) (j := 10) (by rfl) sc_law.nd rfl rfl (by decide) rfl rfl (pa_cons (pe_ix ix_tup (pv 7) (pe_int) (fun _ _ => rfl)) (pa_cons (pe_ix ix_tup (pv 7) (pe_int) (fun _ _ => rfl)) pa_nil)) (by rfl))
      (pss_cons (ps_if (PW.pt (pw_or (pt_not (pt_val (pe_own O__law_plan_fits (hr.mono (by decide)) pass0 (pa_cons (pv 2) (pa_cons (pv 4) (pa_cons (pv 5) (pa_cons (pv 6) (pa_cons (pv 9) pa_nil)))))))) (pw_or1 (pt_cmpR op_ne (pe_own O__law_end (hr.mono (by decide)) pass0 (pa_cons (pv 2) (pa_cons (pv 5) (pa_cons (pv 9) pa_nil)))) (pv 8) (nomark _))))) (pss_one (ps_ret (pe_bl))) (pss_nil))
      (pss_cons (ps_if (pt_not (pt_val (pe_own O__law_paper_fits (hr.mono (by decide)) pass0 (pa_cons (pv 2) (pa_cons (pv 4) (pa_cons (pv 5) (pa_cons (pv 6) (pa_cons (pv 8) (pa_cons (pv 10) pa_nil))))))))) (pss_one (ps_ret (pe_bl))) (pss_nil))
      (pss_cons (ps_if (pt_cmpR op_notBl (pe_own O_shows_begins (hr.mono (by decide)) passL (pa_cons (pv 3) (pa_cons (pv 4) (pa_cons (pv 5) (pa_cons (pv 6) (pa_cons (pv 8) (pa_cons (pv 9) (pa_cons (pv 10) pa_nil)))))))) (pe_bl) (nomark _)) (pss_one (ps_ret (pe_bl))) (pss_nil))
      (pss_cons (ps_for PassesOwn.never rfl (pi_range1 rfl T.n_range (pa_cons (pe_int) pa_nil)) (pg_name (i := 11) sc_law.nd rfl (Or.inl rfl)) (pss_cons (ps_set (i := 12) sc_law.nd rfl (Or.inl rfl) (pe_ix ix_tup (pe_tup (pa_cons (pv 9) (pa_cons (pe_own O__law_plan (hr.mono (by decide)) pass0 (pa_cons (pv 1) (pa_cons (pe_callB call_len_seq (by rfl) T.n_len (by decide +kernel) (pa_cons (pv 2) pa_nil)) (pa_cons (pv 4) pa_nil)))) pa_nil))) (pe_own O__law_draw (hr.mono (by decide)) pass0 (pa_cons (pv 1) (pa_cons (pe_int) pa_nil))) (fun _ _ => rfl)))
      (pss_cons (ps_set (i := 13) sc_law.nd rfl (Or.inl rfl) (pe_ix ix_tup (pe_tup (pa_cons (pv 10) (pa_cons (pe_own O__law_paper (hr.mono (by decide)) pass0 (pa_cons (pv 1) (pa_cons (pv 5) (pa_cons (pv 4) pa_nil)))) pa_nil))) (pe_own O__law_draw (hr.mono (by decide)) pass0 (pa_cons (pv 1) (pa_cons (pe_int) pa_nil))) (fun _ _ => rfl)))
      (pss_cons (ps_set (i := 14) sc_law.nd rfl (Or.inl rfl) (pe_op op_add (pv 8) (pe_ix ix_tup (pe_tup (pa_cons (pe_int) (pa_cons (pe_int) (pa_cons (pe_int) (pa_cons (pe_un un_neg (pe_int)) pa_nil))))) (pe_own O__law_draw (hr.mono (by decide)) pass0 (pa_cons (pv 1) (pa_cons (pe_int) pa_nil))) (fun _ _ => rfl))))
      (pss_cons (ps_set (i := 15) sc_law.nd rfl (Or.inl rfl) (pe_own O__law_plan_fits (hr.mono (by decide)) pass0 (pa_cons (pv 2) (pa_cons (pv 4) (pa_cons (pv 5) (pa_cons (pv 6) (pa_cons (pv 12) pa_nil)))))))
      (pss_cons (ps_if (PW.pt (pw_and (pt_truth (pv 15) (by intro _; rfl)) (pw_and1 (pt_cmpR op_lt (pe_own O__law_end (hr.mono (by decide)) pass0 (pa_cons (pv 2) (pa_cons (pv 5) (pa_cons (pv 12) pa_nil)))) (pv 8) (nomark _))))) (pss_one (ps_ret (pe_bl))) (pss_nil))
      (pss_cons (ps_set (i := 16) sc_law.nd rfl (Or.inl rfl) (pe_and (pv 15) (pe_one (pe_cmpR op_eq (pe_own O__law_end (hr.mono (by decide)) pass0 (pa_cons (pv 2) (pa_cons (pv 5) (pa_cons (pv 12) pa_nil)))) (pv 14) (nomark _)))))
      (pss_cons (ps_set (i := 16) sc_law.nd rfl (Or.inl rfl) (pe_and (pv 16) (pe_one (pe_own O__law_paper_fits (hr.mono (by decide)) pass0 (pa_cons (pv 2) (pa_cons (pv 4) (pa_cons (pv 5) (pa_cons (pv 6) (pa_cons (pv 14) (pa_cons (pv 13) pa_nil))))))))))
      (pss_one (ps_if (pt_cmpR op_ne (pe_own O_shows_begins (hr.mono (by decide)) passL (pa_cons (pv 3) (pa_cons (pv 4) (pa_cons (pv 5) (pa_cons (pv 6) (pa_cons (pv 14) (pa_cons (pv 12) (pa_cons (pv 13) pa_nil)))))))) (pv 16) (nomark _)) (pss_one (ps_ret (pe_bl))) (pss_nil)))))))))))
      (pss_cons (ps_if (PW.pt (pw_or (pt_cmpR op_ne (pe_own O__law_refused (hr.mono (by decide)) pass0 (pa_cons (pv 3) (pa_cons (pv 4) (pa_cons (pe_int) (pa_cons (pv 6) pa_nil))))) (pe_str) (nomark _)) (pw_or1 (pt_cmpR op_ne (pe_own O__law_refused (hr.mono (by decide)) pass0 (pa_cons (pv 3) (pa_cons (pv 4) (pa_cons (pv 5) (pa_cons (pe_int) pa_nil))))) (pe_str) (nomark _))))) (pss_one (ps_ret (pe_bl))) (pss_nil))
      (pss_cons (ps_if (PW.pt (pw_or (pt_cmpR op_ne (pe_own O__law_refused (hr.mono (by decide)) pass0 (pa_cons (pv 3) (pa_cons (pe_op op_cat (pv 4) (pe_lst (pa_cons (pe_callB call_len_seq (by rfl) T.n_len (by decide +kernel) (pa_cons (pv 3) pa_nil)) pa_nil))) (pa_cons (pv 5) (pa_cons (pv 6) pa_nil))))) (pe_str) (nomark _)) (pw_or1 (pt_cmpR op_ne (pe_own O__law_refused (hr.mono (by decide)) pass0 (pa_cons (pe_lst (pa_nil)) (pa_cons (pe_lst (pa_nil)) (pa_cons (pe_int) (pa_cons (pe_int) pa_nil))))) (pe_str) (nomark _))))) (pss_one (ps_ret (pe_bl))) (pss_nil))
      (pss_one (ps_ret (pe_cmpR op_eq (pe_own O__law_refused (hr.mono (by decide)) pass0 (pa_cons (pv 3) (pa_cons (pe_op op_cat (pv 4) (pe_slice sl_list (pv 4) po_none (po_some (pe_int)))) (pa_cons (pe_int) (pa_cons (pv 6) pa_nil))))) (pe_str) (nomark _))))))))))))))))))))), ?_⟩
    refine ⟨_, rfl, a, _, rfl, .inl hS, fun s hs => ⟨by show 2 ≤ sizeLine; decide, fun b hb => ?_⟩⟩
    have hsb : s ≠ b := ne_of_none upd_same hb
    have st0 : StAt (upd (upd H s (.lst (ns.map V.int))) b (.lst [.ref s, .int 0])) b s 0 := ⟨ns, 0, upd_same, by rw [upd_ne hsb]; exact upd_same, hlen, Int.le_refl _, Int.le_refl _⟩
    generalize upd (upd H s (.lst (ns.map V.int))) b (.lst [.ref s, .int 0]) = H0 at st0 ⊢
    clear hS hs hb hlen
    refine ⟨_, rfl, b, s, 0, 4, rfl, st0, by omega, by omega, by omega, fun y H1 y0 y4 st1 x1 => ⟨_, _, rfl, rfl, (1 : Int) + y, rfl, by omega, by omega, fun D hD => ?_⟩⟩
    obtain ⟨Db, Ds⟩ := st1.new hD
    obtain ⟨m, hm⟩ : ∃ m : Nat, (1 + y).toNat = m := ⟨_, rfl⟩
    rw [hm]
    have hm1 : 1 ≤ m := by omega
    have hm4 : m ≤ 4 := by omega
    clear y0 y4 hm st0 x1
    refine lc_range (fun i H' => ∃ mo : List Int, H' D = some (.lst (mo.map V.int)) ∧ mo.length = i ∧ (∀ x ∈ mo, 1 ≤ x ∧ x ≤ 5) ∧ StAt H' b s (1 + i)) ⟨[], upd_same, rfl, (fun x h => nomatch h), st1.upd Db Ds⟩ (fun i H2 hi pv => ?_) (fun H2 pv => ?_)
    · obtain ⟨mo, hl, hlen, hmo, st2⟩ := pv
      refine ⟨rfl, _, rfl, b, s, _, 5, rfl, st2, by omega, by omega, by omega, fun y H3 y0 y2 st3 x3 => ⟨_, _, rfl, rfl, ?_⟩⟩
      refine ⟨_, x3 D _ Db Ds hl, small_sz ?_, mo ++ [1 + y], ?_, ?_, ?_, st3.upd Db Ds⟩
      · rw [List.length_map]
        omega
      · rw [upd_same, List.map_append]
        rfl
      · rw [List.length_append, hlen]
        rfl
      · intro x hx
        rcases List.mem_append.mp hx with h | h
        · exact hmo x h
        · rw [List.mem_singleton.mp h]
          omega
    · obtain ⟨mo, hD2, hml, hmo, st2⟩ := pv
      clear st1
      refine ⟨_, rfl, D, rfl, ⟨_, SqL.of hD2⟩, fun W hW => ?_⟩
      obtain ⟨Wb, Ws⟩ := st2.new hW
      have hWD : W ≠ D := fun e => by rw [e, hD2] at hW; cases hW
      refine lc_list (xs := mo.map V.int) (fun i H' => H' D = some (.lst (mo.map V.int)) ∧ ∃ (ps : List V) (ds : List Wd), H' W = some (.lst ps) ∧ Ways K A H' ps ds ∧ (∀ d ∈ ds, LWay d) ∧ mosts ds = mo.take i ∧ StAt H' b s (5 + i)) ⟨by rw [upd_ne hWD.symm]; exact hD2, [], [], upd_same, ⟨rfl, (fun i x d h => nomatch h)⟩, (fun d h => nomatch h), rfl, (st2.upd Wb Ws).le (by omega)⟩ (fun i H' _ pv => SqL.of pv.1) (fun i x H3 hx pv => ?_) (fun H3 pv => ?_)
      · obtain ⟨hD3, ps, ds, hW3, hws, hds, hmt, st3⟩ := pv
        rw [List.getElem?_map] at hx
        obtain ⟨mv, hmv, rfl⟩ := Option.map_eq_some_iff.mp hx
        have hi4 : i < mo.length := (List.getElem?_eq_some_iff.mp hmv).1
        have hmv2 := hmo mv (List.mem_of_getElem? hmv)
        refine ⟨rfl, by show 2 ≤ sizeLine; decide, fun t ht => ?_⟩
        have e4 := Ext.upd (o := .tup [V.non, .int 3]) ht
        obtain ⟨tb, ts⟩ := st3.new ht
        have st4 := st3.ext e4
        have ht4 : upd H3 t (.tup [V.non, .int 3]) t = some (.tup [V.non, .int 3]) := upd_same
        have hD4 := e4 _ _ hD3
        have hW4 := e4 _ _ hW3
        have hws4 := hws.ext e4
        generalize upd H3 t (.tup [V.non, .int 3]) = H4 at st4 ht4 hD4 hW4 hws4 ⊢
        clear hD3 hW3 hws st3 e4 ht
        refine ⟨_, rfl, b, s, _, 2, rfl, st4, by omega, by omega, by omega, fun y H5 y0 y2 st5 x5 => ?_⟩
        obtain ⟨c, rfl⟩ : ∃ c : Nat, y = (c : Int) := ⟨y.toNat, by omega⟩
        obtain ⟨bg, hbg, hbg2, hbg3⟩ : ∃ bg : Option Int, ([V.non, .int 3] : List V)[c]? = some (bV bg) ∧ (bg = none ∨ bg = some 3) ∧ bOk bg := by
          rcases c with _ | _ | c
          · exact ⟨none, rfl, .inl rfl, fun n h => nomatch h⟩
          · exact ⟨some 3, rfl, .inr rfl, fun n h => by cases h; omega⟩
          · exact absurd y2 (by omega)
        have ht5 := x5 _ _ tb ts ht4
        have hD5 := x5 _ _ Db Ds hD4
        have hW5 := x5 _ _ Wb Ws hW4
        have hws5 := ways_s st4 x5 hws4
        refine ⟨t, _, (c : Int), bV bg, rfl, rfl, SqT.of ht5, atI_nat hbg, _, rfl, fun x0 dn hx0 hdx0 hne0 => mk_way0 (d := (bg, 1, mv)) T hx0 hdx0 hne0 hbg3 ⟨Int.le_refl _, hmv2.1, by show mv ≤ 50; omega⟩ fun H6 e6 hw6 => ⟨rfl, ps, e6 _ _ hW5, ?_, ?_⟩⟩
        · have z := hws4.1
          have z2 : (mosts ds).length = (mo.take i).length := by rw [hmt]
          unfold mosts at z2
          rw [List.length_map, List.length_take] at z2
          exact small_sz (by omega)
        · have hW6 := e6 _ _ hW5
          have mt : ∀ y o, y ≠ W → H6 y = some o → upd H6 W (.lst (ps ++ [.ref x0])) y = some o := fun y o hy h => by
            rw [upd_ne hy]
            exact h
          refine ⟨mt _ _ hWD.symm (e6 _ _ hD5), ps ++ [.ref x0], ds ++ [(bg, 1, mv)], upd_same, Ways.snoc (Ways.mut hW6 mt (hws5.ext e6)) (wd_mut hW6 mt hw6), ?_, ?_, ((st5.ext e6).upd Wb Ws).le (by omega)⟩
          · intro d hd
            rcases List.mem_append.mp hd with h | h
            · exact hds d h
            · rw [List.mem_singleton.mp h]
              exact ⟨hbg2, rfl, hmv2.1, hmv2.2⟩
          · rw [take_snoc hmv, ← hmt]
            unfold mosts
            rw [List.map_append]
            rfl
      · obtain ⟨hD3, ps, ds, hW3, hws, hds, hmt, st3⟩ := pv
        rw [List.length_map, List.take_length] at hmt
        rw [List.length_map] at st3
        subst hmt
        have hdl : ds.length = m := by
          rw [← hml]
          unfold mosts
          rw [List.length_map]
        have hmsl : (mosts ds).length = ds.length := by rw [hml, hdl]
        rw [hmsl] at st3
        subst hdl
        have hms : ∀ j, j < ds.length → 1 ≤ ms ds j ∧ ms ds j ≤ 50 := fun j hj => by
          obtain ⟨d, hd⟩ : ∃ d, ds[j]? = some d := ⟨_, List.getElem?_eq_getElem hj⟩
          rw [(at_d hd).2.2.2]
          obtain ⟨_, _, h1, h2⟩ := hds d (List.mem_of_getElem? hd)
          omega
        clear hmo hml hD2 st2 hW
        refine ⟨_, rfl, D, _, rfl, .inl (SqL.of hD3), _, rfl, by omega, by rw [List.length_map]; omega, fun L hL => ?_⟩
        obtain ⟨Lb, Ls⟩ := st3.new hL
        have hLD : L ≠ D := fun e => by rw [e, hD3] at hL; cases hL
        have hLW : L ≠ W := fun e => by rw [e, hW3] at hL; cases hL
        rw [List.length_map, hmsl, Int.toNat_natCast]
        refine lc_range (fun i H' => H' D = some (.lst ((mosts ds).map V.int)) ∧ H' W = some (.lst ps) ∧ Ways K A H' ps ds ∧ ∃ ls : List Nat, H' L = some (.lst (ls.map nI)) ∧ ls.length ≤ i ∧ ls.Nodup ∧ (∀ j ∈ ls, j < i) ∧ StAt H' b s (10 + i)) ⟨by rw [upd_ne hLD.symm]; exact hD3, by rw [upd_ne hLW.symm]; exact hW3, hws.ext (Ext.upd hL), [], upd_same, Nat.zero_le _, List.nodup_nil, (fun j h => nomatch h), (st3.upd Lb Ls).le (by omega)⟩ (fun i H4 hi pv => ?_) (fun H4 pv => ?_)
        · obtain ⟨hD4, hW4, hws4, ls, hl, hlen, hnd, hlt, st4⟩ := pv
          refine ⟨rfl, _, rfl, b, s, _, 3, rfl, st4, by omega, by omega, by omega, fun y H5 y0 y2 st5 x5 => ⟨_, _, rfl, rfl, _, rfl, ?_⟩⟩
          have hl5 := x5 L _ Lb Ls hl
          have hD5 := x5 _ _ Db Ds hD4
          have hW5 := x5 _ _ Wb Ws hW4
          have hws5 := ways_s st4 x5 hws4
          cases hy : decide (y > 0) with
          | false => exact iteF ⟨hD5, hW5, hws5, ls, hl5, by omega, hnd, (fun j hj => Nat.lt_succ_of_lt (hlt j hj)), st5⟩
          | true =>
            have mt : ∀ y o, y ≠ L → H5 y = some o → upd H5 L (.lst (ls.map nI ++ [V.int ((0 : Int) + (i : Int))])) y = some o := fun y o hy h => by
              rw [upd_ne hy]
              exact h
            refine iteT ⟨_, rfl, _, hl5, small_sz ?_, mt _ _ hLD.symm hD5, mt _ _ hLW.symm hW5, Ways.mut hl5 mt hws5, ls ++ [i], ?_, ?_, ?_, ?_, st5.upd Lb Ls⟩
            · rw [List.length_map]
              omega
            · rw [upd_same, List.map_append, Int.zero_add]
              rfl
            · rw [List.length_append]
              show ls.length + 1 ≤ i + 1
              omega
            · rw [List.nodup_append]
              exact ⟨hnd, by simp, fun x hx z hz e => by
                rw [List.mem_singleton.mp hz] at e
                have := hlt x hx
                omega⟩
            · intro j hj
              rcases List.mem_append.mp hj with h | h
              · exact Nat.lt_succ_of_lt (hlt j h)
              · rw [List.mem_singleton.mp h]
                omega
        · obtain ⟨hD4, hW4, hws4, ls, hL4, hll, hnd, hlt, st4⟩ := pv
          clear st3 hD3 hW3 hws hL
          have hu : unlikeV ds.length ls = true := by
            unfold unlikeV
            rw [decide_eq_true hnd, Bool.and_true]
            exact List.all_eq_true.mpr fun j hj => decide_eq_true (hlt j hj)
          refine ⟨_, rfl, _, rfl, L, _, rfl, .inl (SqL.of hL4), _, _, rfl, b, s, _, _, rfl, st4, by omega, ?_, ?_, fun y H5 y0 y2 st5 x5 => ?_⟩
          · split <;> omega
          · rw [List.length_map]
            split <;> omega
          rw [List.length_map] at y2
          have hy3 : 0 ≤ y ∧ y ≤ 3 := ⟨y0, by split at y2 <;> omega⟩
          have hL5 := x5 L _ Lb Ls hL4
          have hD5 := x5 _ _ Db Ds hD4
          have hW5 := x5 _ _ Wb Ws hW4
          have hws5 := ways_s st4 x5 hws4
          clear hL4 hD4 hW4 hws4 st4 x5 y0 y2
          refine ⟨fun σ' H' => ∃ (z : Nat), z ≤ 3 ∧ σ' = [some (.ref a), some (.ref b), some (.ref D), some (.ref W), some (.ref L), some (.int (z : Int)), none, none, none, none, none, none, none, none, none, none, none, none] ∧ H' L = some (.lst (ls.map nI)) ∧ H' D = some (.lst ((mosts ds).map V.int)) ∧ H' W = some (.lst ps) ∧ Ways K A H' ps ds ∧ StAt H' b s 30, ?_, ?_⟩
          · refine ⟨_, rfl, b, s, _, 6, rfl, st5, by omega, by omega, by omega, fun y6 H6 y60 y66 st6 x6 => ⟨rfl, _, rfl, ?_⟩⟩
            have hL6 := x6 L _ Lb Ls hL5
            have hD6 := x6 _ _ Db Ds hD5
            have hW6 := x6 _ _ Wb Ws hW5
            have hws6 := ways_s st5 x6 hws5
            cases hy : decide (V.int y6 = V.int 5) with
            | false => exact iteF ⟨y.toNat, by omega, by rw [Int.toNat_of_nonneg hy3.1]; rfl, hL6, hD6, hW6, hws6, st6.le (by omega)⟩
            | true =>
              refine iteT ⟨_, rfl, b, s, _, 4, rfl, st6, by omega, by omega, by omega, fun y7 H7 y70 y74 st7 x7 => ?_⟩
              exact ⟨y7.toNat, by omega, by rw [Int.toNat_of_nonneg y70]; rfl, x7 L _ Lb Ls hL6, x7 _ _ Db Ds hD6, x7 _ _ Wb Ws hW6, ways_s st6 x7 hws6, st7.le (by omega)⟩
          · rintro σ' H6 ⟨z, hz, rfl, hL6, hD6, hW6, hws6, st6⟩
            clear hL5 hD5 hW5 hws5 st5 hy3
            refine ⟨_, rfl, b, s, _, 7, rfl, st6, by omega, by omega, by omega, fun g H7 g0 g7 st7 x7 => ?_⟩
            have hL7 := x7 L _ Lb Ls hL6
            have hD7 := x7 _ _ Db Ds hD6
            have hW7 := x7 _ _ Wb Ws hW6
            have hws7 := ways_s st6 x7 hws6
            clear hL6 hD6 hW6 hws6 st6 x7
            have hg : 0 ≤ g ∧ g ≤ 500 := ⟨g0, by omega⟩
            have hz3 : (0 : Int) ≤ (z : Int) ∧ (z : Int) ≤ 3 := ⟨by omega, by omega⟩
            have hm : 1 ≤ ds.length ∧ ds.length ≤ 4 := ⟨hm1, hm4⟩
            refine ⟨_, rfl, L, _, rfl, .inl (SqL.of hL7), _, rfl, _, _, rfl, rfl, _, rfl, ?_⟩
            rw [List.length_map]
            by_cases hzl : (ls.length : Int) ≤ (z : Int)
            · rw [decide_eq_true hzl]
              refine iteT ⟨_, rfl, _, rfl, _, rfl, _, rfl, W, L, ps, ds, ls, z, g, rfl, hW7, hws7, by omega, hms, hL7, by omega, fun H8 e8 => ?_⟩
              rw [due_few hm hu hz3 hg hzl]
              refine ⟨rfl, ?_⟩
              rw [show dueV (some ("allowed" : Str)) = V.str "allowed" from rfl, decide_eq_true rfl]
              exact k _
            · rw [decide_eq_false hzl]
              refine iteF ?_
              have hzl' : z < ls.length := by omega
              have hdue := due_ok' hm hu hz3 hg (by omega)
              refine ⟨_, rfl, _, rfl, _, rfl, _, rfl, W, L, ps, ds, ls, z, g, rfl, hW7, hws7, by omega, hms, hL7, by omega, (fun sx hsx => by rw [hdue] at hsx; cases hsx), fun _ T7 bt pt lt bl e i0 lk H8 e8 hT8 hbt8 hput hpt8 hlt8 hup hmem hlk hi0 he hmax => ?_⟩
              obtain ⟨bs0, rfl, hpl0, hla0⟩ := best_plan hms hu hzl' g0 hput hi0 he hmax
              have hbp := best_paper hms hu hzl' hup hmem hlk hi0 he
              obtain ⟨_, hlen0, hz0, _, hok0, _⟩ := plan_facts hpl0
              have hD8 := e8 _ _ hD7
              have hW8 := e8 _ _ hW7
              have hL8 := e8 _ _ hL7
              have hws8 := hws7.ext e8
              have st8 := st7.ext e8
              clear hD7 hW7 hL7 hws7 st7 e8 hput hmem hup
              refine ⟨_, rfl, _, rfl, _, rfl, _, rfl, D, L, ds, ls, z, g, rfl, hD8, by omega, hms, hL8, by omega, hu, hzl', fun e' i1 H9 e9 hi1 he1 hmax1 => ?_⟩
              obtain rfl : e' = e := by
                have a1 := hmax i1 hi1
                have a2 := hmax1 i0 hi0
                omega
              have hD9 := e9 _ _ hD8
              have hW9 := e9 _ _ hW8
              have hL9 := e9 _ _ hL8
              have hws9 := hws8.ext e9
              have st9 := st8.ext e9
              have hT9 := e9 _ _ hT8
              have hbt9 := e9 _ _ hbt8
              have hpt9 := e9 _ _ hpt8
              have hlt9 := e9 _ _ hlt8
              clear hD8 hW8 hL8 hws8 st8 e9 hT8 hbt8 hpt8 hlt8
              have hTd : Dp K H9 (.ref T7) (.tuple [.int e', .tuple (bs0.map beD), .tuple [.int (i0 : Int), .tuple (natsD lk)]]) := .tup (SqT.of hT9) (.cons (.int _) (.cons (.tup (SqT.of hbt9) (be_dp bs0)) (.cons (.tup (SqT.of hpt9) (.cons (.int _) (.cons (.tup (SqT.of hlt9) (nats_dp lk)) .nil))) .nil)))
              refine ⟨_, rfl, .ref T7, .ty "tuple", .type (tnD (.tuple [.int e', .tuple (bs0.map beD), .tuple [.int (i0 : Int), .tuple (natsD lk)]])), .type "tuple", true, rfl, .ty _, dp_ty hTd, kd_tup, _, rfl, ?_⟩
              refine iteF ⟨_, rfl, T7, _, rfl, .inr (SqT.of hT9), rfl, _, rfl, ?_⟩
              rw [dvi]
              refine iteF ⟨_, rfl, T7, _, (0 : Int), .int e', rfl, rfl, SqT.of hT9, rfl, _, rfl, rfl, _, rfl, ?_⟩
              rw [dvi, decide_eq_true rfl]
              refine iteF ⟨_, rfl, T7, _, (1 : Int), .ref bt, rfl, rfl, SqT.of hT9, rfl, _, rfl, T7, _, (2 : Int), .ref pt, rfl, rfl, SqT.of hT9, rfl, ?_⟩
              refine ⟨_, _, rfl, ?_⟩
              have hml9 : (mosts ds).length = ds.length := hmsl
              refine ⟨_, rfl, _, rfl, _, rfl, _, rfl, _, rfl, D, L, mosts ds, ls, z, g, .ref bt, true, bs0, rfl, hD9, by omega, hL9, by omega, ⟨bt, rfl, hbt9⟩, fun H10 e10 => ⟨_, rfl, ?_⟩⟩
              rw [hml9, hpl0]
              have hD10 := e10 _ _ hD9
              have hbt10 := e10 _ _ hbt9
              refine iteF ⟨_, rfl, _, rfl, _, rfl, D, bt, ds, z, bs0, rfl, hD10, by omega, hbt10, hlen0, hok0, hz0, fun e2 H11 e11 hla => ⟨_, rfl, rfl, _, rfl, ?_⟩⟩
              obtain rfl := lat_uniq hla hla0
              rw [dvi, decide_eq_true rfl]
              have e911 := e10.trans e11
              have hD11 := e911 _ _ hD9
              have hL11 := e911 _ _ hL9
              have hpt11 := e911 _ _ hpt9
              have hlt11 := e911 _ _ hlt9
              have hin : ∀ j ∈ ls, j < ds.length := hlt
              have hlk60 : lk.length ≤ 60 := by omega
              refine iteF ⟨_, rfl, _, rfl, _, rfl, _, rfl, _, rfl, _, rfl, D, L, pt, ds, ls, z, g, e2, nI i0, .ref lt, some (i0 : Int), (0, lk), rfl, hD11, by omega, hL11, by omega, hin, hzl', hpt11, rfl, ⟨lt, rfl, hlt11⟩, hlk60, .inl rfl, fun H12 e12 => ⟨_, rfl, ?_⟩⟩
              rw [hbp]
              have e912 := e911.trans e12
              have hst : showV ds ls z g true bs0 e2 (some (i0 : Int)) (0, lk) = true := (show_yes hpl0 hla0).trans hbp
              refine iteF ⟨_, rfl, _, rfl, _, rfl, _, rfl, _, rfl, _, rfl, _, rfl, W, L, pt, ps, ds, ls, z, g, e2, .ref bt, true, bs0, nI i0, .ref lt, some (i0 : Int), (0, lk), rfl, e912 _ _ hW9, hws9.ext e912, by omega, e912 _ _ hL9, by omega, hdue, ⟨bt, rfl, e912 _ _ hbt9⟩, e912 _ _ hpt9, rfl, ⟨lt, rfl, e912 _ _ hlt9⟩, hlk60, fun H13 e13 => ?_⟩
              rw [hst]
              refine ⟨_, _, rfl, rfl, _, rfl, iteF ?_⟩
              have e913 := e912.trans e13
              have hD := e913 _ _ hD9
              have hW := e913 _ _ hW9
              have hL := e913 _ _ hL9
              have hws := hws9.ext e913
              have st := st9.ext e913
              have hbt := e913 _ _ hbt9
              have hpt := e913 _ _ hpt9
              have hltt := e913 _ _ hlt9
              clear hD9 hW9 hL9 hws9 st9 hbt9 hpt9 hlt9 e10 e11 e12 e13 e911 e912 hD10 hbt10 hD11 hL11 hpt11 hlt11 hTd hT9 e913
              refine ⟨_, rfl, by omega, by omega, ?_⟩
              refine for_range (n := 6) (fun i σ' H' => ∃ o11 o12 o13 o14 o15 o16, σ' = [some (.ref a), some (.ref b), some (.ref D), some (.ref W), some (.ref L), some (.int (z : Int)), some (.int g), some (.ref T7), some (.int e2), some (.ref bt), some (.ref pt), o11, o12, o13, o14, o15, o16, none] ∧ StAt H' b s (40 + 300 * i) ∧ ExtS b s H13 H') ⟨_, _, _, _, _, _, rfl, st.le (by omega), ExtS.rfl'⟩ (fun i σ' H1 hi pv => ?_) (fun σ' H1 pv => ?_)
              · obtain ⟨o11, o12, o13, o14, o15, o16, rfl, st1, x1⟩ := pv
                have hD1 := x1 _ _ Db Ds hD
                have hL1 := x1 _ _ Lb Ls hL
                have nd : ∀ {x : Addr} {o : HO}, H1 x = some o → (∀ xs, o ≠ .lst xs) → x ≠ b ∧ x ≠ s := fun h1 h2 => nls st1 h1 h2
                have kt1 := kt_s st x1
                refine ⟨_, rfl, _, rfl, _, rfl, D, _, rfl, .inl (SqL.of hD1), _, rfl, b, s, L, _, ds.length, ls, by rw [List.length_map, hmsl]; rfl, st1, by omega, hm1, by omega, hL1, Lb, Ls, by omega, by omega, hlt, fun v c bs H2 st2 x2 hpv vb vs => ⟨by show 2 ≤ sizeLine; decide, fun t ht => ?_⟩⟩
                have e3 := Ext.upd (o := .tup [V.ref bt, v]) ht
                have st3 := st2.ext e3
                have x3 := (x1.trans x2).trans (Ext.s (b := b) (s := s) e3)
                have hpv3 := hpv.ext e3
                have hbt3 := kt_s st x3 _ _ hbt
                obtain ⟨tb, ts⟩ := st2.new ht
                have ht3 : upd H2 t (.tup [V.ref bt, v]) t = some (.tup [V.ref bt, v]) := upd_same
                generalize upd H2 t (.tup [V.ref bt, v]) = H3 at st3 x3 hpv3 hbt3 ht3 ⊢
                clear st2 x2 hpv e3 ht
                refine ⟨_, rfl, b, s, _, 2, rfl, st3, by omega, by omega, by omega, fun y H4 y0 y2 st4 x4 => ?_⟩
                obtain ⟨q, rfl⟩ : ∃ q : Nat, y = (q : Int) := ⟨y.toNat, by omega⟩
                obtain ⟨btb, bts⟩ := nls st hbt (fun _ z => nomatch z)
                have ne : ∀ {a b : Addr}, a ≠ b → V.ref a ≠ V.ref b := fun h e => h (by injection e)
                obtain ⟨v', c', bs', hv', hpv', vb', vs'⟩ : ∃ v' c' bs', ([V.ref bt, v] : List V)[q]? = some v' ∧ PlAt H4 v' c' bs' ∧ v' ≠ .ref b ∧ v' ≠ .ref s := by
                  rcases q with _ | _ | q
                  · exact ⟨_, true, bs0, rfl, ⟨bt, rfl, x4 _ _ btb bts hbt3⟩, ne btb, ne bts⟩
                  · exact ⟨_, c, bs, rfl, PlAt.s x4 hpv3 vb vs, vb, vs⟩
                  · exact absurd y2 (by omega)
                refine ⟨t, _, (q : Int), v', rfl, rfl, SqT.of (x4 _ _ tb ts ht3), atI_nat hv', ?_⟩
                have x04 := x3.trans x4
                clear hpv3 hbt3 st3 x3 x4 ht3 hv' y0 y2 q vb vs bs c v tb ts t
                have hL4 := x04 _ _ Lb Ls hL
                have hpt4 := kt_s st x04 _ _ hpt
                have hlt4 := kt_s st x04 _ _ hltt
                refine ⟨_, rfl, _, rfl, _, rfl, _, rfl, b, s, L, _, z, ls, rfl, st4, by omega, by omega, hL4, Lb, Ls, by omega, hnd, fun Tp xi yl x lo H5 st5 x5 hTp hxi hlo hll hlk1 yb ys => ⟨by show 2 ≤ sizeLine; decide, fun t ht => ?_⟩⟩
                have e6 := Ext.upd (o := .tup [V.ref pt, .ref Tp]) ht
                have st6 := st5.ext e6
                have x6 := x5.trans (Ext.s (b := b) (s := s) e6)
                have hTp6 := e6 _ _ hTp
                have hlo6 := hlo.ext e6
                obtain ⟨tb, ts⟩ := st5.new ht
                have ht6 : upd H5 t (.tup [V.ref pt, .ref Tp]) t = some (.tup [V.ref pt, .ref Tp]) := upd_same
                generalize upd H5 t (.tup [V.ref pt, .ref Tp]) = H6 at st6 x6 hTp6 hlo6 ht6 ⊢
                clear st5 x5 hTp hlo e6 ht
                refine ⟨_, rfl, b, s, _, 2, rfl, st6, by omega, by omega, by omega, fun y H7 y0 y2 st7 x7 => ?_⟩
                obtain ⟨q, rfl⟩ : ∃ q : Nat, y = (q : Int) := ⟨y.toNat, by omega⟩
                have x47 := x6.trans x7
                obtain ⟨ltb, lts⟩ := nls st hltt (fun _ z => nomatch z)
                obtain ⟨Tq, xi', yl', x', lo', hv', hTq, hxi', hlo', hll', hlk', yb', ys'⟩ : ∃ Tq xi' yl' x' lo', ([V.ref pt, .ref Tp] : List V)[q]? = some (.ref Tq) ∧ H7 Tq = some (.tup [xi', yl']) ∧ IxAt xi' x' ∧ LoAt H7 yl' lo' ∧ lo'.2.length ≤ 60 ∧ (lo'.1 = 0 ∨ lo'.1 = 1) ∧ yl' ≠ .ref b ∧ yl' ≠ .ref s := by
                  rcases q with _ | _ | q
                  · exact ⟨pt, nI i0, .ref lt, some (i0 : Int), (0, lk), rfl, kt_s st4 x47 _ _ hpt4, rfl, ⟨lt, rfl, kt_s st4 x47 _ _ hlt4⟩, hlk60, .inl rfl, ne ltb, ne lts⟩
                  · exact ⟨Tp, xi, yl, x, lo, rfl, kt_s st6 x7 _ _ hTp6, hxi, LoAt.s st6 x7 hlo6 yb ys, hll, hlk1, yb, ys⟩
                  · exact absurd y2 (by omega)
                refine ⟨t, _, (q : Int), .ref Tq, rfl, rfl, SqT.of (x7 _ _ tb ts ht6), atI_nat hv', ?_⟩
                have x07 := x04.trans x47
                have hpl7 := PlAt.s x47 hpv' vb' vs'
                clear hpv' hTp6 hlo6 ht6 x6 x7 x47 st6 st4 x04 hL4 hpt4 hlt4 hv' y0 y2 tb ts hxi hll hlk1 yb ys
                refine ⟨_, rfl, _, rfl, by show 4 ≤ sizeLine; decide, fun t9 ht9 => ?_⟩
                have e8 := Ext.upd (o := .tup [V.int 0, .int 0, .int 1, .int (-1)]) ht9
                have st8 := st7.ext e8
                have x08 := x07.trans (Ext.s (b := b) (s := s) e8)
                have hpl8 := hpl7.ext e8
                have hTq8 := e8 _ _ hTq
                have hlo8 := hlo'.ext e8
                obtain ⟨tb, ts⟩ := st7.new ht9
                have ht8 : upd H7 t9 (.tup [V.int 0, .int 0, .int 1, .int (-1)]) t9 = some (.tup [V.int 0, .int 0, .int 1, .int (-1)]) := upd_same
                generalize upd H7 t9 (.tup [V.int 0, .int 0, .int 1, .int (-1)]) = H8 at st8 x08 hpl8 hTq8 hlo8 ht8 ⊢
                clear st7 x07 hpl7 hTq hlo' e8 ht9
                refine ⟨_, rfl, b, s, _, 4, rfl, st8, by omega, by omega, by omega, fun y H9 y0 y2 st9 x9 => ?_⟩
                obtain ⟨q, rfl⟩ : ∃ q : Nat, y = (q : Int) := ⟨y.toNat, by omega⟩
                obtain ⟨dm, hdm⟩ : ∃ dm : Int, ([V.int 0, .int 0, .int 1, .int (-1)] : List V)[q]? = some (.int dm) := by
                  rcases q with _ | _ | _ | _ | q
                  · exact ⟨_, rfl⟩
                  · exact ⟨_, rfl⟩
                  · exact ⟨_, rfl⟩
                  · exact ⟨_, rfl⟩
                  · exact absurd y2 (by omega)
                refine ⟨t9, _, (q : Int), .int dm, rfl, rfl, SqT.of (x9 _ _ tb ts ht8), atI_nat hdm, _, _, rfl, rfl, ?_⟩
                have x09 := x08.trans x9
                have hD9 := x09 _ _ Db Ds hD
                have hL9 := x09 _ _ Lb Ls hL
                have hW9 := x09 _ _ Wb Ws hW
                have hws9 := ways_s st x09 hws
                have hpl9 := PlAt.s x9 hpl8 vb' vs'
                obtain ⟨qb, qs⟩ := nls st8 hTq8 (fun _ z => nomatch z)
                have hTq9 := x9 _ _ qb qs hTq8
                have hlo9 := LoAt.s st8 x9 hlo8 yb' ys'
                clear hpl8 hTq8 hlo8 ht8 st8 x08 x9 hdm y0 y2 tb ts
                refine ⟨_, rfl, _, rfl, _, rfl, _, rfl, _, rfl, D, L, mosts ds, ls, z, g, v', c', bs', rfl, hD9, by omega, hL9, by omega, hpl9, fun H10 e10 => ?_⟩
                have x10 := x09.trans (Ext.s (b := b) (s := s) e10)
                have st10 := st9.ext e10
                have fin : ∀ H11 σ', Ext H10 H11 → (∃ o11 o12 o13 o14 o15 o16, σ' = [some (.ref a), some (.ref b), some (.ref D), some (.ref W), some (.ref L), some (.int (z : Int)), some (.int g), some (.ref T7), some (.int e2), some (.ref bt), some (.ref pt), o11, o12, o13, o14, o15, o16, (none : Option V)]) → ∃ o11 o12 o13 o14 o15 o16, σ' = [some (.ref a), some (.ref b), some (.ref D), some (.ref W), some (.ref L), some (.int (z : Int)), some (.int g), some (.ref T7), some (.int e2), some (.ref bt), some (.ref pt), o11, o12, o13, o14, o15, o16, none] ∧ StAt H11 b s (40 + 300 * (i + 1)) ∧ ExtS b s H13 H11 := fun H11 σ' e11 h => by
                  obtain ⟨o1, o2, o3, o4, o5, o6, rfl⟩ := h
                  exact ⟨_, _, _, _, _, _, rfl, (st10.ext e11).le (by omega), x10.trans (Ext.s e11)⟩
                rw [hml9]
                cases hp : planV ds.length ls z g c' bs' with
                | false =>
                  refine ⟨_, rfl, _, rfl, iteF ⟨_, rfl, false, rfl, _, rfl, false, rfl, ?_⟩⟩
                  refine ⟨_, rfl, _, rfl, _, rfl, _, rfl, _, rfl, _, rfl, _, rfl, W, L, Tq, ps, ds, ls, z, g, e2 + dm, v', c', bs', xi', yl', x', lo', rfl, (e10) _ _ hW9, hws9.ext (e10), by omega, (e10) _ _ hL9, by omega, hdue, hpl9.ext (e10), (e10) _ _ hTq9, hxi', hlo9.ext (e10), hll', fun H12 e12 => ?_⟩
                  rw [show_np hp]
                  refine ⟨_, rfl, rfl, _, rfl, ?_⟩
                  rw [decide_eq_true rfl]
                  exact iteF (fin _ _ e12 ⟨_, _, _, _, _, _, rfl⟩)
                | true =>
                  obtain ⟨hc, hlen', hz', _, hok', _⟩ := plan_facts hp
                  subst hc
                  obtain ⟨t', rfl, ht'⟩ := id hpl9
                  replace ht' : H9 t' = some (.tup (bs'.map beV)) := ht'
                  refine ⟨_, rfl, _, rfl, iteT ⟨_, rfl, _, rfl, _, rfl, D, t', ds, z, bs', rfl, e10 _ _ hD9, by omega, e10 _ _ ht', hlen', hok', hz', fun E1 H11 e11 hla1 => ⟨_, rfl, _, _, rfl, rfl, _, rfl, ?_⟩⟩⟩
                  have hge : ¬ E1 < e2 := by
                    have := best_lower hms hu hzl' hp hla1 hi0
                    omega
                  rw [decide_eq_false hge]
                  have e911 := e10.trans e11
                  refine iteF ⟨_, rfl, true, rfl, _, rfl, _, rfl, _, rfl, D, t', ds, z, bs', rfl, e911 _ _ hD9, by omega, e911 _ _ ht', hlen', hok', hz', fun E2 H12 e12 hla2 => ⟨_, rfl, rfl, ?_⟩⟩
                  obtain rfl := lat_uniq hla1 hla2
                  have e912 := e911.trans e12
                  rw [dvi]
                  by_cases hem : E1 = e2 + dm
                  · rw [decide_eq_true hem]
                    have hla : LatAt (ms ds) bs' ds.length z (e2 + dm) := hem ▸ hla1
                    refine ⟨_, rfl, true, rfl, _, rfl, _, rfl, _, rfl, _, rfl, _, rfl, _, rfl, D, L, Tq, ds, ls, z, g, e2 + dm, xi', yl', x', lo', rfl, e912 _ _ hD9, by omega, e912 _ _ hL9, by omega, hin, hzl', e912 _ _ hTq9, hxi', hlo9.ext e912, hll', hlk', fun H13' e13' => ?_⟩
                    refine ⟨_, rfl, _, rfl, _, rfl, _, rfl, _, rfl, _, rfl, _, rfl, W, L, Tq, ps, ds, ls, z, g, e2 + dm, .ref t', true, bs', xi', yl', x', lo', rfl, (e912.trans e13') _ _ hW9, hws9.ext (e912.trans e13'), by omega, (e912.trans e13') _ _ hL9, by omega, hdue, hpl9.ext (e912.trans e13'), (e912.trans e13') _ _ hTq9, hxi', hlo9.ext (e912.trans e13'), hll', fun H14 e14 => ?_⟩
                    rw [show_yes hp hla]
                    refine ⟨_, rfl, rfl, _, rfl, ?_⟩
                    rw [decide_eq_true rfl]
                    exact iteF (fin _ _ (((e11.trans e12).trans e13').trans e14) ⟨_, _, _, _, _, _, rfl⟩)
                  · rw [decide_eq_false hem]
                    refine ⟨_, rfl, false, rfl, ?_⟩
                    refine ⟨_, rfl, _, rfl, _, rfl, _, rfl, _, rfl, _, rfl, _, rfl, W, L, Tq, ps, ds, ls, z, g, e2 + dm, .ref t', true, bs', xi', yl', x', lo', rfl, (e912) _ _ hW9, hws9.ext (e912), by omega, (e912) _ _ hL9, by omega, hdue, hpl9.ext (e912), (e912) _ _ hTq9, hxi', hlo9.ext (e912), hll', fun H14 e14 => ?_⟩
                    rw [show_nl (fun h => hem (lat_uniq hla1 h))]
                    refine ⟨_, rfl, rfl, _, rfl, ?_⟩
                    rw [decide_eq_true rfl]
                    exact iteF (fin _ _ ((e11.trans e12).trans e14) ⟨_, _, _, _, _, _, rfl⟩)
              · obtain ⟨o11, o12, o13, o14, o15, o16, rfl, st1, x1⟩ := pv
                have hL1 := x1 _ _ Lb Ls hL
                have hW1 := x1 _ _ Wb Ws hW
                have hws1 := ways_s st x1 hws
                clear hD hW hL hws st hbt hpt hltt st1 x1
                refine ⟨_, rfl, _, rfl, _, rfl, W, L, ps, ds, ls, 4, g, rfl, hW1, hws1, by omega, hms, hL1, by omega, fun H2 e2 => ?_⟩
                rw [due_silent hm hu]
                refine ⟨rfl, _, rfl, ?_⟩
                rw [show dueV (some ("silent" : Str)) = V.str "silent" from rfl, decide_eq_true rfl]
                refine iteF ⟨_, rfl, _, rfl, _, rfl, W, L, ps, ds, ls, z, 501, rfl, e2 _ _ hW1, hws1.ext e2, by omega, hms, e2 _ _ hL1, by omega, fun H3 e3 => ?_⟩
                rw [due_gap hm hu hz3]
                refine ⟨rfl, _, rfl, ?_⟩
                rw [show dueV (some ("gap" : Str)) = V.str "gap" from rfl, decide_eq_true rfl]
                have e13 := e2.trans e3
                have hL3 := e13 _ _ hL1
                have hW3 := e13 _ _ hW1
                have hws3 := hws1.ext e13
                clear hL1 hW1 hws1 e13 e2 e3
                refine iteF ⟨_, rfl, _, rfl, _, rfl, W, _, rfl, .inl (SqL.of hW3), by show 1 ≤ sizeLine; decide, fun p hp => ?_⟩
                have e4 := Ext.upd (o := .lst [V.int ((ps.length : Nat) : Int)]) hp
                have hp4 : upd H3 p (.lst [V.int ((ps.length : Nat) : Int)]) p = some (.lst [V.int ((ps.length : Nat) : Int)]) := upd_same
                have hL4 := e4 _ _ hL3
                have hW4 := e4 _ _ hW3
                have hws4 := hws3.ext e4
                generalize upd H3 p (.lst [V.int ((ps.length : Nat) : Int)]) = H4 at hp4 hL4 hW4 hws4 ⊢
                clear hL3 hW3 hws3 hp e4
                refine ⟨L, p, _, _, rfl, rfl, hL4, hp4, ?_, fun q hq => ?_⟩
                · rw [List.length_map]
                  exact Nat.le_of_lt (small_sz (by show ls.length + 1 ≤ 2000; omega))
                have e5 := Ext.upd (o := .lst (ls.map nI ++ [V.int ((ps.length : Nat) : Int)])) hq
                have hq5 : upd H4 q (.lst (ls.map nI ++ [V.int ((ps.length : Nat) : Int)])) q = some (.lst ((ls ++ [ds.length]).map nI)) := by
                  rw [upd_same, List.map_append, hws4.1]
                  rfl
                have hL5 := e5 _ _ hL4
                have hW5 := e5 _ _ hW4
                have hws5 := hws4.ext e5
                generalize upd H4 q (.lst (ls.map nI ++ [V.int ((ps.length : Nat) : Int)])) = H5 at hq5 hL5 hW5 hws5 ⊢
                clear hL4 hW4 hws4 hq e5 hp4
                refine ⟨_, rfl, _, rfl, W, q, ps, ds, ls ++ [ds.length], z, g, rfl, hW5, hws5, by omega, hms, hq5, by rw [List.length_append]; show ls.length + 1 ≤ 60; omega, fun H6 e6 => ?_⟩
                rw [due_unl hm unl_out]
                refine ⟨rfl, _, rfl, ?_⟩
                rw [show dueV (some ("allowed" : Str)) = V.str "allowed" from rfl, decide_eq_true rfl]
                have hL6 := e6 _ _ hL5
                have hW6 := e6 _ _ hW5
                have hws6 := hws5.ext e6
                clear hL5 hW5 hws5 e6 hq5
                refine iteF ⟨by show 0 ≤ sizeLine; decide, fun p1 hp1 => ⟨by show 0 ≤ sizeLine; decide, fun p2 hp2 => ?_⟩⟩
                have e7 := (Ext.upd (o := .lst []) hp1).trans (Ext.upd (o := .lst []) hp2)
                have h1 := Ext.upd (o := .lst []) hp2 _ _ (upd_same (H := H6) (a := p1) (o := .lst []))
                have h2 : upd (upd H6 p1 (.lst [])) p2 (.lst []) p2 = some (.lst []) := upd_same
                have hL7 := e7 _ _ hL6
                have hW7' := e7 _ _ hW6
                have hws7' := hws6.ext e7
                generalize upd (upd H6 p1 (.lst [])) p2 (.lst []) = H7 at h1 h2 hL7 hW7' hws7' ⊢
                clear hL6 hW6 hws6 e7 hp1 hp2
                refine ⟨p1, p2, [], [], [], 0, 0, rfl, h1, ⟨rfl, (fun i x d h => nomatch h)⟩, by show 0 ≤ 60; omega, (fun j h => absurd h (Nat.not_lt_zero _)), h2, by show 0 ≤ 60; omega, fun H8 e8 => ?_⟩
                refine ⟨rfl, _, rfl, ?_⟩
                rw [show dueV (dueB ([] : List Wd).length [] ((0 : Nat) : Int) 0) = V.str "ways" from rfl, decide_eq_true rfl]
                have hL8 := e8 _ _ hL7
                have hW8 := e8 _ _ hW7'
                have hws8 := hws7'.ext e8
                clear hL7 hW7' hws7' e8 h1 h2
                refine iteF ⟨_, rfl, _, rfl, _, rfl, 1, rfl, L, _, rfl, SqL.of hL8, fun c hc => ?_⟩
                have hcut : cutV (ls.map nI) none (some 1) = (ls.take 1).map nI := by
                  show (((ls.map nI).drop 0).take ((if (1 : Int) < 0 then ((1 : Int) + ((ls.map nI).length : Int)).toNat else min ((1 : Int).toNat) (ls.map nI).length) - 0)) = _
                  rw [if_neg (by omega), List.drop_zero, ← List.map_take, Nat.sub_zero, show min ((1 : Int)).toNat (ls.map nI).length = 1 by rw [List.length_map]; omega]
                rw [hcut]
                have e9 := Ext.upd (o := .lst ((ls.take 1).map nI)) hc
                have hc9 : upd H8 c (.lst ((ls.take 1).map nI)) c = some (.lst ((ls.take 1).map nI)) := upd_same
                have hL9 := e9 _ _ hL8
                have hW9 := e9 _ _ hW8
                have hws9 := hws8.ext e9
                generalize upd H8 c (.lst ((ls.take 1).map nI)) = H9' at hc9 hL9 hW9 hws9 ⊢
                clear hL8 hW8 hws8 e9 hc
                have hl1 : (ls.take 1).length ≤ 1 := List.length_take_le _ _
                refine ⟨L, c, _, _, rfl, rfl, hL9, hc9, ?_, fun q hq => ?_⟩
                · rw [List.length_map, List.length_map]
                  exact Nat.le_of_lt (small_sz (by omega))
                rw [← List.map_append]
                have e10 := Ext.upd (o := .lst ((ls ++ ls.take 1).map nI)) hq
                refine ⟨_, rfl, W, q, ps, ds, ls ++ ls.take 1, 4, g, rfl, e10 _ _ hW9, hws9.ext e10, by omega, hms, upd_same, by rw [List.length_append]; omega, fun H6 e6 => ?_⟩
                rw [due_unl hm (unl_twice (by omega))]
                refine ⟨rfl, ?_⟩
                rw [show dueV (some ("allowed" : Str)) = V.str "allowed" from rfl, decide_eq_true rfl]
                exact k _
end
end K18

set_option Elab.async false
set_option maxRecDepth 100000
set_option maxHeartbeats 4000000
namespace K21
open PySem PySem.Spec PyProof.Rows L2 K18
section
variable {P : Program} {w : World} {K : PySem.W.Frag} {mg : Str → Option Value} {base : Heap} {A : Ad}
theorem kit_ref {B C : Addr} {b : Bool} (i : PySem.W.isClsIn K C = true) (t : PySem.W.typeIn K (.ref C) = some (.type "type")) (s : PySem.W.subIn K (.ref B) (.ref C) = some b) (ss : PySem.W.subIn K (.ref B) (.ref B) = some true) : PySem.W.kitOne K (.ref B) (.ref C) = some b := by
  by_cases h : B = C
  · subst h
    rw [ss] at s
    cases s
    exact if_pos (beq_self_eq_true _)
  · have e : ((PySem.W.clsIn K C).isSome && PySem.W.typeIn K (.ref C) == some (.type "type")) = true := by
      have h1 : (PySem.W.clsIn K C).isSome = true := i
      rw [h1, t]
      rfl
    show (if (Value.ref B == Value.ref C) = true then some true else if ((PySem.W.clsIn K C).isSome && PySem.W.typeIn K (.ref C) == some (.type "type")) = true then PySem.W.subIn K (.ref B) (.ref C) else none) = some b
    rw [if_pos e]
    have hne : ¬ ((Value.ref B == Value.ref C) = true) := fun z => by
      have z' := eq_of_beq z
      injection z' with z'
      exact h z'
    rw [if_neg hne]
    exact s
theorem exm_ref {B C : Addr} {b : Bool} (x : PySem.W.subIn K (.ref C) (.type "BaseException") = some true) (i : PySem.W.isClsIn K C = true) (t : PySem.W.typeIn K (.ref C) = some (.type "type")) (s : PySem.W.subIn K (.ref B) (.ref C) = some b) : PySem.W.exmOne K (.ref B) (.ref C) = some b := by
  unfold PySem.W.exmOne PySem.W.kitCls
  have i' : (PySem.W.clsIn K C).isSome = true := i
  rw [x]
  dsimp only
  rw [i', t, s]
  rfl
theorem ve_one {W : Addr} : PySem.HandSPX.refsVE [.ref W, .type "ValueError", .type "Exception", .type "BaseException", .type "object"] = true := by
  show PySem.HandSPX.refsVE [.type "ValueError", .type "Exception", .type "BaseException", .type "object"] = true
  decide +kernel
theorem law_ok (T : Txt K mg A) (D_is_integer : DefAt K mg "is_integer" s_is_integer pm_is_integer) (D_is_between : DefAt K mg "is_between" s_is_between pm_is_between) (D_is_index : DefAt K mg "is_index" s_is_index pm_is_index) (D_is_list : DefAt K mg "is_list" s_is_list pm_is_list) (D_is_list_of : DefAt K mg "is_list_of" s_is_list_of pm_is_list_of) (D_is_tuple_of : DefAt K mg "is_tuple_of" s_is_tuple_of pm_is_tuple_of) (D_are_rising_indexes : DefAt K mg "are_rising_indexes" s_are_rising_indexes pm_are_rising_indexes) (D_is_lot : DefAt K mg "is_lot" s_is_lot pm_is_lot) (D_is_begin : DefAt K mg "is_begin" s_is_begin pm_is_begin) (D_are_delays : DefAt K mg "are_delays" s_are_delays pm_are_delays) (D_is_box : DefAt K mg "is_box" s_is_box pm_is_box) (D_check_ways : DefAt K mg "check_ways" s_check_ways pm_check_ways) (D_check_silent : DefAt K mg "check_silent" s_check_silent pm_check_silent) (D_check_begins : DefAt K mg "check_begins" s_check_begins pm_check_begins) (D_are_unlike_ways : DefAt K mg "are_unlike_ways" s_are_unlike_ways pm_are_unlike_ways) (D_by_delay : DefAt K mg "by_delay" s_by_delay pm_by_delay) (D_best_begins : DefAt K mg "best_begins" s_best_begins pm_best_begins) (D_shows_begins : DefAt K mg "shows_begins" s_shows_begins pm_shows_begins) (D_is_plan : DefAt K mg "is_plan" s_is_plan pm_is_plan) (D_latest_of : DefAt K mg "latest_of" s_latest_of pm_latest_of) (D_bars_ahead : DefAt K mg "bars_ahead" s_bars_ahead pm_bars_ahead) (D__law_draw : DefAt K mg "_law_draw" s__law_draw pm__law_draw) (D__law_least : DefAt K mg "_law_least" s__law_least pm__law_least) (D__law_plan_fits : DefAt K mg "_law_plan_fits" s__law_plan_fits pm__law_plan_fits) (D__law_end : DefAt K mg "_law_end" s__law_end pm__law_end) (D__law_paper_fits : DefAt K mg "_law_paper_fits" s__law_paper_fits pm__law_paper_fits) (D__law_plan : DefAt K mg "_law_plan" s__law_plan pm__law_plan) (D__law_paper : DefAt K mg "_law_paper" s__law_paper pm__law_paper) (D__law_refused : DefAt K mg "_law_refused" s__law_refused pm__law_refused)
    
    {fi : Addr} {fdi : FuncData} (FI : FunD K "__init__" "Way.__init__" (defArgs s_Way_init) (defBody s_Way_init) (defScope s_Way_init) [.ref A.T0] [] fi fdi) (MI : Mk K A.Way fi) (B4 : Binds K fdi pm_Way_init []) {d3 : List Value} (V3 : Vals [.ref A.T0] d3) (B3 : Binds K fdi pm_Way_init d3)
    {f : Addr} {fd : FuncData} (F : Fun K "law" "law" s_law f fd) : FnOk P w K mg base CX0 9 f fd pm_law (spLaw K) := by
  have X_BadPart : XCls P w K mg base "BadPart" "part" A.BadPart := T.BadPart.cls fun _ _ F => ok_xp F T
  have X_BadBox : XCls P w K mg base "BadBox" "index" A.BadBox := T.BadBox.cls fun _ _ F => ok_xb F T

  have O_is_integer : Own P w K mg base CX0 "is_integer" 1 pm_is_integer (spInteger K) := D_is_integer.own fun f fd F => ok_integer F T
  have O_is_between : Own P w K mg base CX0 "is_between" 2 pm_is_between (spBetween K) := D_is_between.own fun f fd F => ok_between F O_is_integer
  have O_is_list : Own P w K mg base CX0 "is_list" 1 pm_is_list (spIsList K) := D_is_list.own fun f fd F => ok_isList F T
  have O_is_list_of : Own P w K mg base CX0 "is_list_of" 2 pm_is_list_of (spListOf K) := D_is_list_of.own fun f fd F => ok_listOf F T O_is_list
  have O_is_tuple_of : Own P w K mg base CX0 "is_tuple_of" 1 pm_is_tuple_of (spTupleOf K) := D_is_tuple_of.own fun f fd F => ok_tupleOf F T
  have O_is_begin : Own P w K mg base CX0 "is_begin" 3 pm_is_begin (spBegin K) := D_is_begin.own fun f fd F => ok_begin F T O_is_between
  have O_are_delays : Own P w K mg base CX0 "are_delays" 3 pm_are_delays (spDelays K) := D_are_delays.own fun f fd F => ok_delays F T O_is_between
  have O_is_box : Own P w K mg base CX0 "is_box" 3 pm_is_box (spBoxOk K) := D_is_box.own fun f fd F => ok_box F T O_is_between O_is_tuple_of
  have GI_Way : FnOk P w K mg base (L2.CX P w) 5 fi fdi pm_Way_init (spWayInit K A) := ok_wayInit FI T O_is_begin O_are_delays O_is_list_of O_is_box X_BadPart X_BadBox
  have O_Way3 : OwnCD P w K mg base (L2.CX P w) "Way" A.Way 5 pm_Way_init (spWayInit K A) [.ref A.T0] := ⟨fi, fdi, d3, GI_Way, MI, T.Way.gC, B3, V3⟩
  have O_check_ways : Own P w K mg base (L2.CX P w) "check_ways" 4 pm_check_ways (spCheckWays K A) := D_check_ways.own fun f fd F => ok_checkWays F T O_is_list_of X_BadPart
  have O_check_silent : Own P w K mg base (L2.CX P w) "check_silent" 4 pm_check_silent (spCheckSilent K A) := D_check_silent.own fun f fd F => ok_checkSilent F T O_is_between X_BadPart
  have O_is_index : Own P w K mg base CX0 "is_index" 3 pm_is_index (spIndex K) := D_is_index.own fun f fd F => ok_index F O_is_between
  have O__law_draw : Own P w K mg base CX0 "_law_draw" 1 pm__law_draw spDraw := D__law_draw.own fun f fd F => ok_draw F T
  have O_are_rising_indexes : Own P w K mg base CX0 "are_rising_indexes" 4 pm_are_rising_indexes (spRise K) := D_are_rising_indexes.own fun f fd F => ok_rise F T O_is_index
  have O_is_lot : Own P w K mg base CX0 "is_lot" 5 pm_is_lot (spLot K) := D_is_lot.own fun f fd F => ok_lot F T O_are_rising_indexes
  have O_are_unlike_ways : Own P w K mg base CX0 "are_unlike_ways" 4 pm_are_unlike_ways spUnlike := D_are_unlike_ways.own fun f fd F => ok_unlike F T O_is_list O_is_index
  have O_by_delay : Own P w K mg base CX0 "by_delay" 1 pm_by_delay (spByDelay K A) := D_by_delay.own fun f fd F => ok_byDelay F T
  have O_check_begins : Own P w K mg base (L2.CX P w) "check_begins" 6 pm_check_begins (spCheckB K A) := D_check_begins.own fun f fd F => ok_checkB F T O_check_ways O_are_unlike_ways O_check_silent O_is_between X_BadPart
  have O_best_begins : Own P w K mg base (L2.CX P w) "best_begins" 7 pm_best_begins (spBest K A) := D_best_begins.own fun f fd F => ok_best F T O_check_begins O_by_delay
  have O_bars_ahead : Own P w K mg base CX0 "bars_ahead" 6 pm_bars_ahead (spBars K A) := D_bars_ahead.own fun f fd F => ok_bars F T O_is_tuple_of O_is_between O_is_lot
  have O_is_plan : Own P w K mg base CX0 "is_plan" 2 pm_is_plan (spPlan K A) := D_is_plan.own fun f fd F => ok_plan F T O_is_tuple_of O_is_integer
  have O__law_refused : Own P w K mg base CX0 "_law_refused" 8 pm__law_refused (spRefused K A) := D__law_refused.own fun f fd F => ok_refused F T O_best_begins
  have O__law_plan_fits : Own P w K mg base CX0 "_law_plan_fits" 1 pm__law_plan_fits spPFits := D__law_plan_fits.own fun f fd F => ok_pFits F T
  have O_latest_of : Own P w K mg base CX0 "latest_of" 1 pm_latest_of (spLatest K A) := D_latest_of.own fun f fd F => ok_latest F T
  have O_shows_begins : Own P w K mg base (L2.CX P w) "shows_begins" 7 pm_shows_begins (spShows K A) := D_shows_begins.own fun f fd F => ok_shows F T O_check_begins O_is_integer O_is_plan O_latest_of O_bars_ahead
  have O__law_end : Own P w K mg base CX0 "_law_end" 1 pm__law_end spEnd := D__law_end.own fun f fd F => ok_end F T
  have O__law_least : Own P w K mg base CX0 "_law_least" 1 pm__law_least spLeast := D__law_least.own fun f fd F => ok_least F T
  have O__law_paper_fits : Own P w K mg base CX0 "_law_paper_fits" 1 pm__law_paper_fits (spPapF K) := D__law_paper_fits.own fun f fd F => ok_papF F T
  have O__law_plan : Own P w K mg base CX0 "_law_plan" 2 pm__law_plan spPlanD := D__law_plan.own fun f fd F => ok_planD F T O__law_draw
  have O__law_paper : Own P w K mg base CX0 "_law_paper" 2 pm__law_paper spPaperD := D__law_paper.own fun f fd F => ok_paperD F T O__law_draw
  exact ok_law F T O__law_draw O_Way3 O__law_refused O_best_begins O__law_least O__law_plan_fits O__law_end O__law_paper_fits O_shows_begins O__law_plan O__law_paper
end
theorem all_mk {P : Program} {w : World} {K : PySem.W.Frag} {h : Heap} {mg : Str → Option Value} {fa  Td AT0 ABadPart ABadBox AWholeError AWay f_is_integer f_is_between f_is_index f_is_list f_is_list_of f_is_tuple_of f_are_rising_indexes f_is_lot f_is_begin f_are_delays f_is_box f_check_ways f_check_silent f_check_begins f_are_unlike_ways f_by_delay f_best_begins f_shows_begins f_is_plan f_latest_of f_bars_ahead f__law_draw f__law_least f__law_plan_fits f__law_end f__law_paper_fits f__law_plan f__law_paper f__law_refused f_law f_BadPart_init f_BadBox_init f_Way_init : Addr} (X : K.In h) (G : h.Ns mainGlobals mg) (hfa : mg "law" = some (.ref fa))
    {od_is_integer an_is_integer od_is_between an_is_between od_is_index an_is_index od_is_list an_is_list od_is_list_of an_is_list_of od_is_tuple_of an_is_tuple_of od_are_rising_indexes an_are_rising_indexes od_is_lot an_is_lot od_is_begin an_is_begin od_are_delays an_are_delays od_is_box an_is_box od_check_ways an_check_ways od_check_silent an_check_silent od_check_begins an_check_begins od_are_unlike_ways an_are_unlike_ways od_by_delay an_by_delay od_best_begins an_best_begins od_shows_begins an_shows_begins od_is_plan an_is_plan od_latest_of an_latest_of od_bars_ahead an_bars_ahead od__law_draw an__law_draw od__law_least an__law_least od__law_plan_fits an__law_plan_fits od__law_end an__law_end od__law_paper_fits an__law_paper_fits od__law_plan an__law_plan od__law_paper an__law_paper od__law_refused an__law_refused od_law an_law od_BadPart_init an_BadPart_init od_BadBox_init an_BadBox_init od_Way_init an_Way_init ddt edt : Option Addr} {sl_is_integer sl_is_between sl_is_index sl_is_list sl_is_list_of sl_is_tuple_of sl_are_rising_indexes sl_is_lot sl_is_begin sl_are_delays sl_is_box sl_check_ways sl_check_silent sl_check_begins sl_are_unlike_ways sl_by_delay sl_best_begins sl_shows_begins sl_is_plan sl_latest_of sl_bars_ahead sl__law_draw sl__law_least sl__law_plan_fits sl__law_end sl__law_paper_fits sl__law_plan sl__law_paper sl__law_refused sl_law sl_BadPart_init sl_BadBox_init sl_Way_init dsl esl : Array (Option Value)} {oc_is_integer kV_is_integer dc_is_integer pm_is_integer_ cd_is_integer ct_is_integer oc_is_between kV_is_between dc_is_between pm_is_between_ cd_is_between ct_is_between oc_is_index kV_is_index dc_is_index pm_is_index_ cd_is_index ct_is_index oc_is_list kV_is_list dc_is_list pm_is_list_ cd_is_list ct_is_list oc_is_list_of kV_is_list_of dc_is_list_of pm_is_list_of_ cd_is_list_of ct_is_list_of oc_is_tuple_of kV_is_tuple_of dc_is_tuple_of pm_is_tuple_of_ cd_is_tuple_of ct_is_tuple_of oc_are_rising_indexes kV_are_rising_indexes dc_are_rising_indexes pm_are_rising_indexes_ cd_are_rising_indexes ct_are_rising_indexes oc_is_lot kV_is_lot dc_is_lot pm_is_lot_ cd_is_lot ct_is_lot oc_is_begin kV_is_begin dc_is_begin pm_is_begin_ cd_is_begin ct_is_begin oc_are_delays kV_are_delays dc_are_delays pm_are_delays_ cd_are_delays ct_are_delays oc_is_box kV_is_box dc_is_box pm_is_box_ cd_is_box ct_is_box oc_check_ways kV_check_ways dc_check_ways pm_check_ways_ cd_check_ways ct_check_ways oc_check_silent kV_check_silent dc_check_silent pm_check_silent_ cd_check_silent ct_check_silent oc_check_begins kV_check_begins dc_check_begins pm_check_begins_ cd_check_begins ct_check_begins oc_are_unlike_ways kV_are_unlike_ways dc_are_unlike_ways pm_are_unlike_ways_ cd_are_unlike_ways ct_are_unlike_ways oc_by_delay kV_by_delay dc_by_delay pm_by_delay_ cd_by_delay ct_by_delay oc_best_begins kV_best_begins dc_best_begins pm_best_begins_ cd_best_begins ct_best_begins oc_shows_begins kV_shows_begins dc_shows_begins pm_shows_begins_ cd_shows_begins ct_shows_begins oc_is_plan kV_is_plan dc_is_plan pm_is_plan_ cd_is_plan ct_is_plan oc_latest_of kV_latest_of dc_latest_of pm_latest_of_ cd_latest_of ct_latest_of oc_bars_ahead kV_bars_ahead dc_bars_ahead pm_bars_ahead_ cd_bars_ahead ct_bars_ahead oc__law_draw kV__law_draw dc__law_draw pm__law_draw_ cd__law_draw ct__law_draw oc__law_least kV__law_least dc__law_least pm__law_least_ cd__law_least ct__law_least oc__law_plan_fits kV__law_plan_fits dc__law_plan_fits pm__law_plan_fits_ cd__law_plan_fits ct__law_plan_fits oc__law_end kV__law_end dc__law_end pm__law_end_ cd__law_end ct__law_end oc__law_paper_fits kV__law_paper_fits dc__law_paper_fits pm__law_paper_fits_ cd__law_paper_fits ct__law_paper_fits oc__law_plan kV__law_plan dc__law_plan pm__law_plan_ cd__law_plan ct__law_plan oc__law_paper kV__law_paper dc__law_paper pm__law_paper_ cd__law_paper ct__law_paper oc__law_refused kV__law_refused dc__law_refused pm__law_refused_ cd__law_refused ct__law_refused oc_law kV_law dc_law pm_law_ cd_law ct_law oc_BadPart_init kV_BadPart_init dc_BadPart_init pm_BadPart_init_ cd_BadPart_init ct_BadPart_init oc_BadBox_init kV_BadBox_init dc_BadBox_init pm_BadBox_init_ cd_BadBox_init ct_BadBox_init oc_Way_init kV_Way_init dc_Way_init pm_Way_init_ cd_Way_init ct_Way_init dcl : Value} {t_MOST_BEGIN t_MOST_DELAY t_MOST_BOXES t_MOST_KEEP t_MOST_WAYS t_MOST_SILENT t_MOST_GAP : Tok} {dn en : Nat}
    {xBadPart_nm xBadPart_q : Str} {xBadPart_N : Addr} {xBadPart_bs : List Value} {xBadPart_sn : List Str} {xBadPart_sub : List Value} {xBadPart_ab : Bool} {xBadPart_col : Option Bool} {xBadPart_dd : Option Addr} {xBadPart_m0 xBadPart_m1 xBadPart_m2 xBadPart_m3 xBadPart_m5 : Option Value}
    {xBadBox_nm xBadBox_q : Str} {xBadBox_N : Addr} {xBadBox_bs : List Value} {xBadBox_sn : List Str} {xBadBox_sub : List Value} {xBadBox_ab : Bool} {xBadBox_col : Option Bool} {xBadBox_dd : Option Addr} {xBadBox_m0 xBadBox_m1 xBadBox_m2 xBadBox_m3 xBadBox_m5 : Option Value}
    (g_BadPart : PySem.W.nsIn K mainGlobals "BadPart" = some (some (.ref ABadPart)))
    (g_BadBox : PySem.W.nsIn K mainGlobals "BadBox" = some (some (.ref ABadBox)))
    (g_WholeError : PySem.W.nsIn K mainGlobals "WholeError" = some (some (.ref AWholeError)))
    (g_Way : PySem.W.nsIn K mainGlobals "Way" = some (some (.ref AWay)))
    (a_is_integer : PySem.W.nsIn K mainGlobals "is_integer" = some (some (.ref f_is_integer)))
    (l_is_integer : K.lookup f_is_integer = some ⟨oc_is_integer, od_is_integer, .func (PySem.W.fnOf "is_integer" "is_integer" (defArgs s_is_integer) (defBody s_is_integer) (defScope s_is_integer) .none kV_is_integer dc_is_integer pm_is_integer_ an_is_integer cd_is_integer ct_is_integer), sl_is_integer⟩)
    (c_is_integer : PySem.W.codeIn K cd_is_integer "is_integer" = true)
    (k_is_integer : PySem.W.keepIn K (.ref f_is_integer) = true)
    (a_is_between : PySem.W.nsIn K mainGlobals "is_between" = some (some (.ref f_is_between)))
    (l_is_between : K.lookup f_is_between = some ⟨oc_is_between, od_is_between, .func (PySem.W.fnOf "is_between" "is_between" (defArgs s_is_between) (defBody s_is_between) (defScope s_is_between) .none kV_is_between dc_is_between pm_is_between_ an_is_between cd_is_between ct_is_between), sl_is_between⟩)
    (c_is_between : PySem.W.codeIn K cd_is_between "is_between" = true)
    (k_is_between : PySem.W.keepIn K (.ref f_is_between) = true)
    (a_is_index : PySem.W.nsIn K mainGlobals "is_index" = some (some (.ref f_is_index)))
    (l_is_index : K.lookup f_is_index = some ⟨oc_is_index, od_is_index, .func (PySem.W.fnOf "is_index" "is_index" (defArgs s_is_index) (defBody s_is_index) (defScope s_is_index) .none kV_is_index dc_is_index pm_is_index_ an_is_index cd_is_index ct_is_index), sl_is_index⟩)
    (c_is_index : PySem.W.codeIn K cd_is_index "is_index" = true)
    (k_is_index : PySem.W.keepIn K (.ref f_is_index) = true)
    (a_is_list : PySem.W.nsIn K mainGlobals "is_list" = some (some (.ref f_is_list)))
    (l_is_list : K.lookup f_is_list = some ⟨oc_is_list, od_is_list, .func (PySem.W.fnOf "is_list" "is_list" (defArgs s_is_list) (defBody s_is_list) (defScope s_is_list) .none kV_is_list dc_is_list pm_is_list_ an_is_list cd_is_list ct_is_list), sl_is_list⟩)
    (c_is_list : PySem.W.codeIn K cd_is_list "is_list" = true)
    (k_is_list : PySem.W.keepIn K (.ref f_is_list) = true)
    (a_is_list_of : PySem.W.nsIn K mainGlobals "is_list_of" = some (some (.ref f_is_list_of)))
    (l_is_list_of : K.lookup f_is_list_of = some ⟨oc_is_list_of, od_is_list_of, .func (PySem.W.fnOf "is_list_of" "is_list_of" (defArgs s_is_list_of) (defBody s_is_list_of) (defScope s_is_list_of) .none kV_is_list_of dc_is_list_of pm_is_list_of_ an_is_list_of cd_is_list_of ct_is_list_of), sl_is_list_of⟩)
    (c_is_list_of : PySem.W.codeIn K cd_is_list_of "is_list_of" = true)
    (k_is_list_of : PySem.W.keepIn K (.ref f_is_list_of) = true)
    (a_is_tuple_of : PySem.W.nsIn K mainGlobals "is_tuple_of" = some (some (.ref f_is_tuple_of)))
    (l_is_tuple_of : K.lookup f_is_tuple_of = some ⟨oc_is_tuple_of, od_is_tuple_of, .func (PySem.W.fnOf "is_tuple_of" "is_tuple_of" (defArgs s_is_tuple_of) (defBody s_is_tuple_of) (defScope s_is_tuple_of) .none kV_is_tuple_of dc_is_tuple_of pm_is_tuple_of_ an_is_tuple_of cd_is_tuple_of ct_is_tuple_of), sl_is_tuple_of⟩)
    (c_is_tuple_of : PySem.W.codeIn K cd_is_tuple_of "is_tuple_of" = true)
    (k_is_tuple_of : PySem.W.keepIn K (.ref f_is_tuple_of) = true)
    (a_are_rising_indexes : PySem.W.nsIn K mainGlobals "are_rising_indexes" = some (some (.ref f_are_rising_indexes)))
    (l_are_rising_indexes : K.lookup f_are_rising_indexes = some ⟨oc_are_rising_indexes, od_are_rising_indexes, .func (PySem.W.fnOf "are_rising_indexes" "are_rising_indexes" (defArgs s_are_rising_indexes) (defBody s_are_rising_indexes) (defScope s_are_rising_indexes) .none kV_are_rising_indexes dc_are_rising_indexes pm_are_rising_indexes_ an_are_rising_indexes cd_are_rising_indexes ct_are_rising_indexes), sl_are_rising_indexes⟩)
    (c_are_rising_indexes : PySem.W.codeIn K cd_are_rising_indexes "are_rising_indexes" = true)
    (k_are_rising_indexes : PySem.W.keepIn K (.ref f_are_rising_indexes) = true)
    (a_is_lot : PySem.W.nsIn K mainGlobals "is_lot" = some (some (.ref f_is_lot)))
    (l_is_lot : K.lookup f_is_lot = some ⟨oc_is_lot, od_is_lot, .func (PySem.W.fnOf "is_lot" "is_lot" (defArgs s_is_lot) (defBody s_is_lot) (defScope s_is_lot) .none kV_is_lot dc_is_lot pm_is_lot_ an_is_lot cd_is_lot ct_is_lot), sl_is_lot⟩)
    (c_is_lot : PySem.W.codeIn K cd_is_lot "is_lot" = true)
    (k_is_lot : PySem.W.keepIn K (.ref f_is_lot) = true)
    (a_is_begin : PySem.W.nsIn K mainGlobals "is_begin" = some (some (.ref f_is_begin)))
    (l_is_begin : K.lookup f_is_begin = some ⟨oc_is_begin, od_is_begin, .func (PySem.W.fnOf "is_begin" "is_begin" (defArgs s_is_begin) (defBody s_is_begin) (defScope s_is_begin) .none kV_is_begin dc_is_begin pm_is_begin_ an_is_begin cd_is_begin ct_is_begin), sl_is_begin⟩)
    (c_is_begin : PySem.W.codeIn K cd_is_begin "is_begin" = true)
    (k_is_begin : PySem.W.keepIn K (.ref f_is_begin) = true)
    (a_are_delays : PySem.W.nsIn K mainGlobals "are_delays" = some (some (.ref f_are_delays)))
    (l_are_delays : K.lookup f_are_delays = some ⟨oc_are_delays, od_are_delays, .func (PySem.W.fnOf "are_delays" "are_delays" (defArgs s_are_delays) (defBody s_are_delays) (defScope s_are_delays) .none kV_are_delays dc_are_delays pm_are_delays_ an_are_delays cd_are_delays ct_are_delays), sl_are_delays⟩)
    (c_are_delays : PySem.W.codeIn K cd_are_delays "are_delays" = true)
    (k_are_delays : PySem.W.keepIn K (.ref f_are_delays) = true)
    (a_is_box : PySem.W.nsIn K mainGlobals "is_box" = some (some (.ref f_is_box)))
    (l_is_box : K.lookup f_is_box = some ⟨oc_is_box, od_is_box, .func (PySem.W.fnOf "is_box" "is_box" (defArgs s_is_box) (defBody s_is_box) (defScope s_is_box) .none kV_is_box dc_is_box pm_is_box_ an_is_box cd_is_box ct_is_box), sl_is_box⟩)
    (c_is_box : PySem.W.codeIn K cd_is_box "is_box" = true)
    (k_is_box : PySem.W.keepIn K (.ref f_is_box) = true)
    (a_check_ways : PySem.W.nsIn K mainGlobals "check_ways" = some (some (.ref f_check_ways)))
    (l_check_ways : K.lookup f_check_ways = some ⟨oc_check_ways, od_check_ways, .func (PySem.W.fnOf "check_ways" "check_ways" (defArgs s_check_ways) (defBody s_check_ways) (defScope s_check_ways) .none kV_check_ways dc_check_ways pm_check_ways_ an_check_ways cd_check_ways ct_check_ways), sl_check_ways⟩)
    (c_check_ways : PySem.W.codeIn K cd_check_ways "check_ways" = true)
    (k_check_ways : PySem.W.keepIn K (.ref f_check_ways) = true)
    (a_check_silent : PySem.W.nsIn K mainGlobals "check_silent" = some (some (.ref f_check_silent)))
    (l_check_silent : K.lookup f_check_silent = some ⟨oc_check_silent, od_check_silent, .func (PySem.W.fnOf "check_silent" "check_silent" (defArgs s_check_silent) (defBody s_check_silent) (defScope s_check_silent) .none kV_check_silent dc_check_silent pm_check_silent_ an_check_silent cd_check_silent ct_check_silent), sl_check_silent⟩)
    (c_check_silent : PySem.W.codeIn K cd_check_silent "check_silent" = true)
    (k_check_silent : PySem.W.keepIn K (.ref f_check_silent) = true)
    (a_check_begins : PySem.W.nsIn K mainGlobals "check_begins" = some (some (.ref f_check_begins)))
    (l_check_begins : K.lookup f_check_begins = some ⟨oc_check_begins, od_check_begins, .func (PySem.W.fnOf "check_begins" "check_begins" (defArgs s_check_begins) (defBody s_check_begins) (defScope s_check_begins) .none kV_check_begins dc_check_begins pm_check_begins_ an_check_begins cd_check_begins ct_check_begins), sl_check_begins⟩)
    (c_check_begins : PySem.W.codeIn K cd_check_begins "check_begins" = true)
    (k_check_begins : PySem.W.keepIn K (.ref f_check_begins) = true)
    (a_are_unlike_ways : PySem.W.nsIn K mainGlobals "are_unlike_ways" = some (some (.ref f_are_unlike_ways)))
    (l_are_unlike_ways : K.lookup f_are_unlike_ways = some ⟨oc_are_unlike_ways, od_are_unlike_ways, .func (PySem.W.fnOf "are_unlike_ways" "are_unlike_ways" (defArgs s_are_unlike_ways) (defBody s_are_unlike_ways) (defScope s_are_unlike_ways) .none kV_are_unlike_ways dc_are_unlike_ways pm_are_unlike_ways_ an_are_unlike_ways cd_are_unlike_ways ct_are_unlike_ways), sl_are_unlike_ways⟩)
    (c_are_unlike_ways : PySem.W.codeIn K cd_are_unlike_ways "are_unlike_ways" = true)
    (k_are_unlike_ways : PySem.W.keepIn K (.ref f_are_unlike_ways) = true)
    (a_by_delay : PySem.W.nsIn K mainGlobals "by_delay" = some (some (.ref f_by_delay)))
    (l_by_delay : K.lookup f_by_delay = some ⟨oc_by_delay, od_by_delay, .func (PySem.W.fnOf "by_delay" "by_delay" (defArgs s_by_delay) (defBody s_by_delay) (defScope s_by_delay) .none kV_by_delay dc_by_delay pm_by_delay_ an_by_delay cd_by_delay ct_by_delay), sl_by_delay⟩)
    (c_by_delay : PySem.W.codeIn K cd_by_delay "by_delay" = true)
    (k_by_delay : PySem.W.keepIn K (.ref f_by_delay) = true)
    (a_best_begins : PySem.W.nsIn K mainGlobals "best_begins" = some (some (.ref f_best_begins)))
    (l_best_begins : K.lookup f_best_begins = some ⟨oc_best_begins, od_best_begins, .func (PySem.W.fnOf "best_begins" "best_begins" (defArgs s_best_begins) (defBody s_best_begins) (defScope s_best_begins) .none kV_best_begins dc_best_begins pm_best_begins_ an_best_begins cd_best_begins ct_best_begins), sl_best_begins⟩)
    (c_best_begins : PySem.W.codeIn K cd_best_begins "best_begins" = true)
    (k_best_begins : PySem.W.keepIn K (.ref f_best_begins) = true)
    (a_shows_begins : PySem.W.nsIn K mainGlobals "shows_begins" = some (some (.ref f_shows_begins)))
    (l_shows_begins : K.lookup f_shows_begins = some ⟨oc_shows_begins, od_shows_begins, .func (PySem.W.fnOf "shows_begins" "shows_begins" (defArgs s_shows_begins) (defBody s_shows_begins) (defScope s_shows_begins) .none kV_shows_begins dc_shows_begins pm_shows_begins_ an_shows_begins cd_shows_begins ct_shows_begins), sl_shows_begins⟩)
    (c_shows_begins : PySem.W.codeIn K cd_shows_begins "shows_begins" = true)
    (k_shows_begins : PySem.W.keepIn K (.ref f_shows_begins) = true)
    (a_is_plan : PySem.W.nsIn K mainGlobals "is_plan" = some (some (.ref f_is_plan)))
    (l_is_plan : K.lookup f_is_plan = some ⟨oc_is_plan, od_is_plan, .func (PySem.W.fnOf "is_plan" "is_plan" (defArgs s_is_plan) (defBody s_is_plan) (defScope s_is_plan) .none kV_is_plan dc_is_plan pm_is_plan_ an_is_plan cd_is_plan ct_is_plan), sl_is_plan⟩)
    (c_is_plan : PySem.W.codeIn K cd_is_plan "is_plan" = true)
    (k_is_plan : PySem.W.keepIn K (.ref f_is_plan) = true)
    (a_latest_of : PySem.W.nsIn K mainGlobals "latest_of" = some (some (.ref f_latest_of)))
    (l_latest_of : K.lookup f_latest_of = some ⟨oc_latest_of, od_latest_of, .func (PySem.W.fnOf "latest_of" "latest_of" (defArgs s_latest_of) (defBody s_latest_of) (defScope s_latest_of) .none kV_latest_of dc_latest_of pm_latest_of_ an_latest_of cd_latest_of ct_latest_of), sl_latest_of⟩)
    (c_latest_of : PySem.W.codeIn K cd_latest_of "latest_of" = true)
    (k_latest_of : PySem.W.keepIn K (.ref f_latest_of) = true)
    (a_bars_ahead : PySem.W.nsIn K mainGlobals "bars_ahead" = some (some (.ref f_bars_ahead)))
    (l_bars_ahead : K.lookup f_bars_ahead = some ⟨oc_bars_ahead, od_bars_ahead, .func (PySem.W.fnOf "bars_ahead" "bars_ahead" (defArgs s_bars_ahead) (defBody s_bars_ahead) (defScope s_bars_ahead) .none kV_bars_ahead dc_bars_ahead pm_bars_ahead_ an_bars_ahead cd_bars_ahead ct_bars_ahead), sl_bars_ahead⟩)
    (c_bars_ahead : PySem.W.codeIn K cd_bars_ahead "bars_ahead" = true)
    (k_bars_ahead : PySem.W.keepIn K (.ref f_bars_ahead) = true)
    (a__law_draw : PySem.W.nsIn K mainGlobals "_law_draw" = some (some (.ref f__law_draw)))
    (l__law_draw : K.lookup f__law_draw = some ⟨oc__law_draw, od__law_draw, .func (PySem.W.fnOf "_law_draw" "_law_draw" (defArgs s__law_draw) (defBody s__law_draw) (defScope s__law_draw) .none kV__law_draw dc__law_draw pm__law_draw_ an__law_draw cd__law_draw ct__law_draw), sl__law_draw⟩)
    (c__law_draw : PySem.W.codeIn K cd__law_draw "_law_draw" = true)
    (k__law_draw : PySem.W.keepIn K (.ref f__law_draw) = true)
    (a__law_least : PySem.W.nsIn K mainGlobals "_law_least" = some (some (.ref f__law_least)))
    (l__law_least : K.lookup f__law_least = some ⟨oc__law_least, od__law_least, .func (PySem.W.fnOf "_law_least" "_law_least" (defArgs s__law_least) (defBody s__law_least) (defScope s__law_least) .none kV__law_least dc__law_least pm__law_least_ an__law_least cd__law_least ct__law_least), sl__law_least⟩)
    (c__law_least : PySem.W.codeIn K cd__law_least "_law_least" = true)
    (k__law_least : PySem.W.keepIn K (.ref f__law_least) = true)
    (a__law_plan_fits : PySem.W.nsIn K mainGlobals "_law_plan_fits" = some (some (.ref f__law_plan_fits)))
    (l__law_plan_fits : K.lookup f__law_plan_fits = some ⟨oc__law_plan_fits, od__law_plan_fits, .func (PySem.W.fnOf "_law_plan_fits" "_law_plan_fits" (defArgs s__law_plan_fits) (defBody s__law_plan_fits) (defScope s__law_plan_fits) .none kV__law_plan_fits dc__law_plan_fits pm__law_plan_fits_ an__law_plan_fits cd__law_plan_fits ct__law_plan_fits), sl__law_plan_fits⟩)
    (c__law_plan_fits : PySem.W.codeIn K cd__law_plan_fits "_law_plan_fits" = true)
    (k__law_plan_fits : PySem.W.keepIn K (.ref f__law_plan_fits) = true)
    (a__law_end : PySem.W.nsIn K mainGlobals "_law_end" = some (some (.ref f__law_end)))
    (l__law_end : K.lookup f__law_end = some ⟨oc__law_end, od__law_end, .func (PySem.W.fnOf "_law_end" "_law_end" (defArgs s__law_end) (defBody s__law_end) (defScope s__law_end) .none kV__law_end dc__law_end pm__law_end_ an__law_end cd__law_end ct__law_end), sl__law_end⟩)
    (c__law_end : PySem.W.codeIn K cd__law_end "_law_end" = true)
    (k__law_end : PySem.W.keepIn K (.ref f__law_end) = true)
    (a__law_paper_fits : PySem.W.nsIn K mainGlobals "_law_paper_fits" = some (some (.ref f__law_paper_fits)))
    (l__law_paper_fits : K.lookup f__law_paper_fits = some ⟨oc__law_paper_fits, od__law_paper_fits, .func (PySem.W.fnOf "_law_paper_fits" "_law_paper_fits" (defArgs s__law_paper_fits) (defBody s__law_paper_fits) (defScope s__law_paper_fits) .none kV__law_paper_fits dc__law_paper_fits pm__law_paper_fits_ an__law_paper_fits cd__law_paper_fits ct__law_paper_fits), sl__law_paper_fits⟩)
    (c__law_paper_fits : PySem.W.codeIn K cd__law_paper_fits "_law_paper_fits" = true)
    (k__law_paper_fits : PySem.W.keepIn K (.ref f__law_paper_fits) = true)
    (a__law_plan : PySem.W.nsIn K mainGlobals "_law_plan" = some (some (.ref f__law_plan)))
    (l__law_plan : K.lookup f__law_plan = some ⟨oc__law_plan, od__law_plan, .func (PySem.W.fnOf "_law_plan" "_law_plan" (defArgs s__law_plan) (defBody s__law_plan) (defScope s__law_plan) .none kV__law_plan dc__law_plan pm__law_plan_ an__law_plan cd__law_plan ct__law_plan), sl__law_plan⟩)
    (c__law_plan : PySem.W.codeIn K cd__law_plan "_law_plan" = true)
    (k__law_plan : PySem.W.keepIn K (.ref f__law_plan) = true)
    (a__law_paper : PySem.W.nsIn K mainGlobals "_law_paper" = some (some (.ref f__law_paper)))
    (l__law_paper : K.lookup f__law_paper = some ⟨oc__law_paper, od__law_paper, .func (PySem.W.fnOf "_law_paper" "_law_paper" (defArgs s__law_paper) (defBody s__law_paper) (defScope s__law_paper) .none kV__law_paper dc__law_paper pm__law_paper_ an__law_paper cd__law_paper ct__law_paper), sl__law_paper⟩)
    (c__law_paper : PySem.W.codeIn K cd__law_paper "_law_paper" = true)
    (k__law_paper : PySem.W.keepIn K (.ref f__law_paper) = true)
    (a__law_refused : PySem.W.nsIn K mainGlobals "_law_refused" = some (some (.ref f__law_refused)))
    (l__law_refused : K.lookup f__law_refused = some ⟨oc__law_refused, od__law_refused, .func (PySem.W.fnOf "_law_refused" "_law_refused" (defArgs s__law_refused) (defBody s__law_refused) (defScope s__law_refused) .none kV__law_refused dc__law_refused pm__law_refused_ an__law_refused cd__law_refused ct__law_refused), sl__law_refused⟩)
    (c__law_refused : PySem.W.codeIn K cd__law_refused "_law_refused" = true)
    (k__law_refused : PySem.W.keepIn K (.ref f__law_refused) = true)
    (a_law : PySem.W.nsIn K mainGlobals "law" = some (some (.ref f_law)))
    (l_law : K.lookup f_law = some ⟨oc_law, od_law, .func (PySem.W.fnOf "law" "law" (defArgs s_law) (defBody s_law) (defScope s_law) .none kV_law dc_law pm_law_ an_law cd_law ct_law), sl_law⟩)
    (c_law : PySem.W.codeIn K cd_law "law" = true)
    (k_law : PySem.W.keepIn K (.ref f_law) = true)
    (a_BadPart_init : PySem.W.findIn K (.ref ABadPart) "__init__" = some (some (.ref f_BadPart_init)))
    (i_BadPart_init : PySem.W.typeIn K (.ref f_BadPart_init) = some (.type "function"))
    (l_BadPart_init : K.lookup f_BadPart_init = some ⟨oc_BadPart_init, od_BadPart_init, .func (PySem.W.fnOf "__init__" "BadPart.__init__" (defArgs s_BadPart_init) (defBody s_BadPart_init) (defScope s_BadPart_init) .none kV_BadPart_init dc_BadPart_init pm_BadPart_init_ an_BadPart_init cd_BadPart_init ct_BadPart_init), sl_BadPart_init⟩)
    (c_BadPart_init : PySem.W.codeIn K cd_BadPart_init "BadPart.__init__" = true)
    (k_BadPart_init : PySem.W.keepIn K (.ref f_BadPart_init) = true)
    (a_BadBox_init : PySem.W.findIn K (.ref ABadBox) "__init__" = some (some (.ref f_BadBox_init)))
    (i_BadBox_init : PySem.W.typeIn K (.ref f_BadBox_init) = some (.type "function"))
    (l_BadBox_init : K.lookup f_BadBox_init = some ⟨oc_BadBox_init, od_BadBox_init, .func (PySem.W.fnOf "__init__" "BadBox.__init__" (defArgs s_BadBox_init) (defBody s_BadBox_init) (defScope s_BadBox_init) .none kV_BadBox_init dc_BadBox_init pm_BadBox_init_ an_BadBox_init cd_BadBox_init ct_BadBox_init), sl_BadBox_init⟩)
    (c_BadBox_init : PySem.W.codeIn K cd_BadBox_init "BadBox.__init__" = true)
    (k_BadBox_init : PySem.W.keepIn K (.ref f_BadBox_init) = true)
    (a_Way_init : PySem.W.findIn K (.ref AWay) "__init__" = some (some (.ref f_Way_init)))
    (i_Way_init : PySem.W.isFn K (.ref f_Way_init) = true)
    (l_Way_init : K.lookup f_Way_init = some ⟨oc_Way_init, od_Way_init, .func (PySem.W.fnOf "__init__" "Way.__init__" (defArgs s_Way_init) (defBody s_Way_init) (defScope s_Way_init) (.ref Td) kV_Way_init dc_Way_init pm_Way_init_ an_Way_init cd_Way_init ct_Way_init), sl_Way_init⟩)
    (c_Way_init : PySem.W.codeIn K cd_Way_init "Way.__init__" = true)
    (k_Way_init : PySem.W.keepIn K (.ref f_Way_init) = true)
    (d_T : K.lookup Td = some ⟨dcl, ddt, .seq #[.ref AT0] dn, dsl⟩)
    (d_0 : K.lookup AT0 = some ⟨.type "tuple", edt, .seq #[] en, esl⟩)
    (n_isinstance : PySem.W.nsIn K mainGlobals "isinstance" = some none)
    (n_int : PySem.W.nsIn K mainGlobals "int" = some none)
    (n_bool : PySem.W.nsIn K mainGlobals "bool" = some none)
    (n_list : PySem.W.nsIn K mainGlobals "list" = some none)
    (n_tuple : PySem.W.nsIn K mainGlobals "tuple" = some none)
    (n_len : PySem.W.nsIn K mainGlobals "len" = some none)
    (n_range : PySem.W.nsIn K mainGlobals "range" = some none)
    (n_max : PySem.W.nsIn K mainGlobals "max" = some none)
    (n_min : PySem.W.nsIn K mainGlobals "min" = some none)
    (n_zip : PySem.W.nsIn K mainGlobals "zip" = some none)
    (n_set : PySem.W.nsIn K mainGlobals "set" = some none)
    (n_enumerate : PySem.W.nsIn K mainGlobals "enumerate" = some none)
    (n_all : PySem.W.nsIn K mainGlobals "all" = some none)
    (n_sorted : PySem.W.nsIn K mainGlobals "sorted" = some none)
    (v_MOST_BEGIN : PySem.W.nsIn K mainGlobals "MOST_BEGIN" = some (some (.int 1000 t_MOST_BEGIN)))
    (v_MOST_DELAY : PySem.W.nsIn K mainGlobals "MOST_DELAY" = some (some (.int 50 t_MOST_DELAY)))
    (v_MOST_BOXES : PySem.W.nsIn K mainGlobals "MOST_BOXES" = some (some (.int 3 t_MOST_BOXES)))
    (v_MOST_KEEP : PySem.W.nsIn K mainGlobals "MOST_KEEP" = some (some (.int 10000 t_MOST_KEEP)))
    (v_MOST_WAYS : PySem.W.nsIn K mainGlobals "MOST_WAYS" = some (some (.int 4 t_MOST_WAYS)))
    (v_MOST_SILENT : PySem.W.nsIn K mainGlobals "MOST_SILENT" = some (some (.int 3 t_MOST_SILENT)))
    (v_MOST_GAP : PySem.W.nsIn K mainGlobals "MOST_GAP" = some (some (.int 500 t_MOST_GAP)))
    (s_hn : PySem.W.specialIn K (.builtin "object.__class__") "__get__" = some (some (.builtin "getset_descriptor.__get__")))
    (s_tk : PySem.W.takesIn K (.builtin "object.__class__") = some true)
    (pg_Way : PySem.W.plainGet K AWay Str.empty = true)
    (hd_Way : PySem.W.hasDictIn K AWay = true)
    (po_Way : PySem.W.plainOver K AWay = true)
    (sa_Way : PySem.W.findIn K (.ref AWay) "__setattr__" = some (some (.builtin "object.__setattr__")))
    (ha_Way : PySem.W.findIn K (.ref AWay) "__class__" = some (some (.builtin "object.__class__")))
    (hm_Way : PySem.W.mroIn K AWay (.type "object") = some true)
    (ne_Way : PySem.W.findIn K (.ref AWay) "__ne__" = some (some (.builtin "object.__ne__")))
    (is_Way : PySem.W.isClsIn K AWay = true)
    (ty_Way : PySem.W.typeIn K (.ref AWay) = some (.type "type"))
    (tup_Way : PySem.W.subIn K (.ref AWay) (.type "tuple") = some false)
    (lst_Way : PySem.W.subIn K (.ref AWay) (.type "list") = some false)
    (int_Way : PySem.W.subIn K (.ref AWay) (.type "int") = some false)
    (str_Way : PySem.W.subIn K (.ref AWay) (.type "str") = some false)
    (mk_Way : PySem.W.makesIn K AWay = true)
    (kc_Way : PySem.W.keepIn K (.ref AWay) = true)
    (na_Way_begin : PySem.W.findIn K (.ref AWay) "begin" = some none)
    (na_Way_least : PySem.W.findIn K (.ref AWay) "least" = some none)
    (na_Way_most : PySem.W.findIn K (.ref AWay) "most" = some none)
    (na_Way_boxes : PySem.W.findIn K (.ref AWay) "boxes" = some none)
    (xBadPart_L : K.lookup ABadPart = some (excClassObj xBadPart_nm xBadPart_q ABadPart xBadPart_N xBadPart_bs [.ref AWholeError, .type "ValueError", .type "Exception", .type "BaseException", .type "object"] true xBadPart_sn xBadPart_sub xBadPart_ab xBadPart_col xBadPart_dd xBadPart_m0 xBadPart_m1 xBadPart_m2 xBadPart_m3 xBadPart_m5 "ValueError.__new__"))
    (xBadPart_sa : PySem.W.findIn K (.ref ABadPart) "__setattr__" = some (some (.builtin "object.__setattr__")))
    (xBadPart_ex : PySem.W.subIn K (.ref ABadPart) (.type "BaseException") = some true)
    (xBadPart_ty : PySem.W.typeIn K (.ref ABadPart) = some (.type "type"))
    (xBadPart_kC : PySem.W.keepIn K (.ref ABadPart) = true)
    (xBadPart_noA : PySem.W.findIn K (.ref ABadPart) "part" = some none)
    (xBadPart_hg : PySem.W.findIn K (.ref ABadPart) "__getattribute__" = some (some (.builtin "BaseException.__getattribute__")))
    (xBadPart_hk : PySem.W.findIn K (.ref ABadPart) "__getattr__" = some none)
    (xBadPart_hd : PySem.W.hasDictIn K ABadPart = true)
    (xBadPart_ha : PySem.W.findIn K (.ref ABadPart) "__class__" = some (some (.builtin "object.__class__")))
    (xBadPart_hm : PySem.W.mroIn K ABadPart (.type "object") = some true)
    (xBadPart_is : PySem.W.isClsIn K ABadPart = true)
    (xBadPart_ss : PySem.W.subIn K (.ref ABadPart) (.ref ABadPart) = some true)
    (xBadPart_w : PySem.W.subIn K (.ref ABadPart) (.ref AWholeError) = some true)
    (xBadBox_L : K.lookup ABadBox = some (excClassObj xBadBox_nm xBadBox_q ABadBox xBadBox_N xBadBox_bs [.ref AWholeError, .type "ValueError", .type "Exception", .type "BaseException", .type "object"] true xBadBox_sn xBadBox_sub xBadBox_ab xBadBox_col xBadBox_dd xBadBox_m0 xBadBox_m1 xBadBox_m2 xBadBox_m3 xBadBox_m5 "ValueError.__new__"))
    (xBadBox_sa : PySem.W.findIn K (.ref ABadBox) "__setattr__" = some (some (.builtin "object.__setattr__")))
    (xBadBox_ex : PySem.W.subIn K (.ref ABadBox) (.type "BaseException") = some true)
    (xBadBox_ty : PySem.W.typeIn K (.ref ABadBox) = some (.type "type"))
    (xBadBox_kC : PySem.W.keepIn K (.ref ABadBox) = true)
    (xBadBox_noA : PySem.W.findIn K (.ref ABadBox) "index" = some none)
    (xBadBox_hg : PySem.W.findIn K (.ref ABadBox) "__getattribute__" = some (some (.builtin "BaseException.__getattribute__")))
    (xBadBox_hk : PySem.W.findIn K (.ref ABadBox) "__getattr__" = some none)
    (xBadBox_hd : PySem.W.hasDictIn K ABadBox = true)
    (xBadBox_ha : PySem.W.findIn K (.ref ABadBox) "__class__" = some (some (.builtin "object.__class__")))
    (xBadBox_hm : PySem.W.mroIn K ABadBox (.type "object") = some true)
    (xBadBox_is : PySem.W.isClsIn K ABadBox = true)
    (xBadBox_ss : PySem.W.subIn K (.ref ABadBox) (.ref ABadBox) = some true)
    (xBadBox_w : PySem.W.subIn K (.ref ABadBox) (.ref AWholeError) = some true)
    (xw_i : PySem.W.isClsIn K AWholeError = true)
    (xw_t : PySem.W.typeIn K (.ref AWholeError) = some (.type "type"))
    (xw_b : PySem.W.subIn K (.ref AWholeError) (.type "BaseException") = some true)
    : ∃ fd : FuncData, (∀ (s : Shared) (v : Value), BindsTo s fd ⟨[v], []⟩ [("_law_script", v)]) ∧ ∀ base : Heap, K.In base → base.Ns mainGlobals mg → FnOk P w K mg base CX0 9 fa fd ["_law_script"] (spLaw K) := by
  have e := hfa.symm.trans (PySem.W.mg_of X G a_law)
  cases e
  have F_is_integer := fun_mk (st := s_is_integer) l_is_integer c_is_integer k_is_integer
  have D_is_integer : DefAt K mg "is_integer" s_is_integer pm_is_integer := ⟨_, _, F_is_integer, PySem.W.mg_of X G a_is_integer, F_is_integer.binds (ps := pm_is_integer) fun _ _ _ _ _ _ us hl => match us, hl with | [_], _ => rfl⟩
  have F_is_between := fun_mk (st := s_is_between) l_is_between c_is_between k_is_between
  have D_is_between : DefAt K mg "is_between" s_is_between pm_is_between := ⟨_, _, F_is_between, PySem.W.mg_of X G a_is_between, F_is_between.binds (ps := pm_is_between) fun _ _ _ _ _ _ us hl => match us, hl with | [_, _, _], _ => rfl⟩
  have F_is_index := fun_mk (st := s_is_index) l_is_index c_is_index k_is_index
  have D_is_index : DefAt K mg "is_index" s_is_index pm_is_index := ⟨_, _, F_is_index, PySem.W.mg_of X G a_is_index, F_is_index.binds (ps := pm_is_index) fun _ _ _ _ _ _ us hl => match us, hl with | [_, _], _ => rfl⟩
  have F_is_list := fun_mk (st := s_is_list) l_is_list c_is_list k_is_list
  have D_is_list : DefAt K mg "is_list" s_is_list pm_is_list := ⟨_, _, F_is_list, PySem.W.mg_of X G a_is_list, F_is_list.binds (ps := pm_is_list) fun _ _ _ _ _ _ us hl => match us, hl with | [_], _ => rfl⟩
  have F_is_list_of := fun_mk (st := s_is_list_of) l_is_list_of c_is_list_of k_is_list_of
  have D_is_list_of : DefAt K mg "is_list_of" s_is_list_of pm_is_list_of := ⟨_, _, F_is_list_of, PySem.W.mg_of X G a_is_list_of, F_is_list_of.binds (ps := pm_is_list_of) fun _ _ _ _ _ _ us hl => match us, hl with | [_, _, _], _ => rfl⟩
  have F_is_tuple_of := fun_mk (st := s_is_tuple_of) l_is_tuple_of c_is_tuple_of k_is_tuple_of
  have D_is_tuple_of : DefAt K mg "is_tuple_of" s_is_tuple_of pm_is_tuple_of := ⟨_, _, F_is_tuple_of, PySem.W.mg_of X G a_is_tuple_of, F_is_tuple_of.binds (ps := pm_is_tuple_of) fun _ _ _ _ _ _ us hl => match us, hl with | [_, _], _ => rfl⟩
  have F_are_rising_indexes := fun_mk (st := s_are_rising_indexes) l_are_rising_indexes c_are_rising_indexes k_are_rising_indexes
  have D_are_rising_indexes : DefAt K mg "are_rising_indexes" s_are_rising_indexes pm_are_rising_indexes := ⟨_, _, F_are_rising_indexes, PySem.W.mg_of X G a_are_rising_indexes, F_are_rising_indexes.binds (ps := pm_are_rising_indexes) fun _ _ _ _ _ _ us hl => match us, hl with | [_, _], _ => rfl⟩
  have F_is_lot := fun_mk (st := s_is_lot) l_is_lot c_is_lot k_is_lot
  have D_is_lot : DefAt K mg "is_lot" s_is_lot pm_is_lot := ⟨_, _, F_is_lot, PySem.W.mg_of X G a_is_lot, F_is_lot.binds (ps := pm_is_lot) fun _ _ _ _ _ _ us hl => match us, hl with | [_, _], _ => rfl⟩
  have F_is_begin := fun_mk (st := s_is_begin) l_is_begin c_is_begin k_is_begin
  have D_is_begin : DefAt K mg "is_begin" s_is_begin pm_is_begin := ⟨_, _, F_is_begin, PySem.W.mg_of X G a_is_begin, F_is_begin.binds (ps := pm_is_begin) fun _ _ _ _ _ _ us hl => match us, hl with | [_], _ => rfl⟩
  have F_are_delays := fun_mk (st := s_are_delays) l_are_delays c_are_delays k_are_delays
  have D_are_delays : DefAt K mg "are_delays" s_are_delays pm_are_delays := ⟨_, _, F_are_delays, PySem.W.mg_of X G a_are_delays, F_are_delays.binds (ps := pm_are_delays) fun _ _ _ _ _ _ us hl => match us, hl with | [_, _], _ => rfl⟩
  have F_is_box := fun_mk (st := s_is_box) l_is_box c_is_box k_is_box
  have D_is_box : DefAt K mg "is_box" s_is_box pm_is_box := ⟨_, _, F_is_box, PySem.W.mg_of X G a_is_box, F_is_box.binds (ps := pm_is_box) fun _ _ _ _ _ _ us hl => match us, hl with | [_, _, _], _ => rfl⟩
  have F_check_ways := fun_mk (st := s_check_ways) l_check_ways c_check_ways k_check_ways
  have D_check_ways : DefAt K mg "check_ways" s_check_ways pm_check_ways := ⟨_, _, F_check_ways, PySem.W.mg_of X G a_check_ways, F_check_ways.binds (ps := pm_check_ways) fun _ _ _ _ _ _ us hl => match us, hl with | [_], _ => rfl⟩
  have F_check_silent := fun_mk (st := s_check_silent) l_check_silent c_check_silent k_check_silent
  have D_check_silent : DefAt K mg "check_silent" s_check_silent pm_check_silent := ⟨_, _, F_check_silent, PySem.W.mg_of X G a_check_silent, F_check_silent.binds (ps := pm_check_silent) fun _ _ _ _ _ _ us hl => match us, hl with | [_], _ => rfl⟩
  have F_check_begins := fun_mk (st := s_check_begins) l_check_begins c_check_begins k_check_begins
  have D_check_begins : DefAt K mg "check_begins" s_check_begins pm_check_begins := ⟨_, _, F_check_begins, PySem.W.mg_of X G a_check_begins, F_check_begins.binds (ps := pm_check_begins) fun _ _ _ _ _ _ us hl => match us, hl with | [_, _, _, _], _ => rfl⟩
  have F_are_unlike_ways := fun_mk (st := s_are_unlike_ways) l_are_unlike_ways c_are_unlike_ways k_are_unlike_ways
  have D_are_unlike_ways : DefAt K mg "are_unlike_ways" s_are_unlike_ways pm_are_unlike_ways := ⟨_, _, F_are_unlike_ways, PySem.W.mg_of X G a_are_unlike_ways, F_are_unlike_ways.binds (ps := pm_are_unlike_ways) fun _ _ _ _ _ _ us hl => match us, hl with | [_, _], _ => rfl⟩
  have F_by_delay := fun_mk (st := s_by_delay) l_by_delay c_by_delay k_by_delay
  have D_by_delay : DefAt K mg "by_delay" s_by_delay pm_by_delay := ⟨_, _, F_by_delay, PySem.W.mg_of X G a_by_delay, F_by_delay.binds (ps := pm_by_delay) fun _ _ _ _ _ _ us hl => match us, hl with | [_, _], _ => rfl⟩
  have F_best_begins := fun_mk (st := s_best_begins) l_best_begins c_best_begins k_best_begins
  have D_best_begins : DefAt K mg "best_begins" s_best_begins pm_best_begins := ⟨_, _, F_best_begins, PySem.W.mg_of X G a_best_begins, F_best_begins.binds (ps := pm_best_begins) fun _ _ _ _ _ _ us hl => match us, hl with | [_, _, _, _], _ => rfl⟩
  have F_shows_begins := fun_mk (st := s_shows_begins) l_shows_begins c_shows_begins k_shows_begins
  have D_shows_begins : DefAt K mg "shows_begins" s_shows_begins pm_shows_begins := ⟨_, _, F_shows_begins, PySem.W.mg_of X G a_shows_begins, F_shows_begins.binds (ps := pm_shows_begins) fun _ _ _ _ _ _ us hl => match us, hl with | [_, _, _, _, _, _, _], _ => rfl⟩
  have F_is_plan := fun_mk (st := s_is_plan) l_is_plan c_is_plan k_is_plan
  have D_is_plan : DefAt K mg "is_plan" s_is_plan pm_is_plan := ⟨_, _, F_is_plan, PySem.W.mg_of X G a_is_plan, F_is_plan.binds (ps := pm_is_plan) fun _ _ _ _ _ _ us hl => match us, hl with | [_, _, _, _, _], _ => rfl⟩
  have F_latest_of := fun_mk (st := s_latest_of) l_latest_of c_latest_of k_latest_of
  have D_latest_of : DefAt K mg "latest_of" s_latest_of pm_latest_of := ⟨_, _, F_latest_of, PySem.W.mg_of X G a_latest_of, F_latest_of.binds (ps := pm_latest_of) fun _ _ _ _ _ _ us hl => match us, hl with | [_, _, _], _ => rfl⟩
  have F_bars_ahead := fun_mk (st := s_bars_ahead) l_bars_ahead c_bars_ahead k_bars_ahead
  have D_bars_ahead : DefAt K mg "bars_ahead" s_bars_ahead pm_bars_ahead := ⟨_, _, F_bars_ahead, PySem.W.mg_of X G a_bars_ahead, F_bars_ahead.binds (ps := pm_bars_ahead) fun _ _ _ _ _ _ us hl => match us, hl with | [_, _, _, _, _, _], _ => rfl⟩
  have F__law_draw := fun_mk (st := s__law_draw) l__law_draw c__law_draw k__law_draw
  have D__law_draw : DefAt K mg "_law_draw" s__law_draw pm__law_draw := ⟨_, _, F__law_draw, PySem.W.mg_of X G a__law_draw, F__law_draw.binds (ps := pm__law_draw) fun _ _ _ _ _ _ us hl => match us, hl with | [_, _], _ => rfl⟩
  have F__law_least := fun_mk (st := s__law_least) l__law_least c__law_least k__law_least
  have D__law_least : DefAt K mg "_law_least" s__law_least pm__law_least := ⟨_, _, F__law_least, PySem.W.mg_of X G a__law_least, F__law_least.binds (ps := pm__law_least) fun _ _ _ _ _ _ us hl => match us, hl with | [_, _, _, _], _ => rfl⟩
  have F__law_plan_fits := fun_mk (st := s__law_plan_fits) l__law_plan_fits c__law_plan_fits k__law_plan_fits
  have D__law_plan_fits : DefAt K mg "_law_plan_fits" s__law_plan_fits pm__law_plan_fits := ⟨_, _, F__law_plan_fits, PySem.W.mg_of X G a__law_plan_fits, F__law_plan_fits.binds (ps := pm__law_plan_fits) fun _ _ _ _ _ _ us hl => match us, hl with | [_, _, _, _, _], _ => rfl⟩
  have F__law_end := fun_mk (st := s__law_end) l__law_end c__law_end k__law_end
  have D__law_end : DefAt K mg "_law_end" s__law_end pm__law_end := ⟨_, _, F__law_end, PySem.W.mg_of X G a__law_end, F__law_end.binds (ps := pm__law_end) fun _ _ _ _ _ _ us hl => match us, hl with | [_, _, _], _ => rfl⟩
  have F__law_paper_fits := fun_mk (st := s__law_paper_fits) l__law_paper_fits c__law_paper_fits k__law_paper_fits
  have D__law_paper_fits : DefAt K mg "_law_paper_fits" s__law_paper_fits pm__law_paper_fits := ⟨_, _, F__law_paper_fits, PySem.W.mg_of X G a__law_paper_fits, F__law_paper_fits.binds (ps := pm__law_paper_fits) fun _ _ _ _ _ _ us hl => match us, hl with | [_, _, _, _, _, _], _ => rfl⟩
  have F__law_plan := fun_mk (st := s__law_plan) l__law_plan c__law_plan k__law_plan
  have D__law_plan : DefAt K mg "_law_plan" s__law_plan pm__law_plan := ⟨_, _, F__law_plan, PySem.W.mg_of X G a__law_plan, F__law_plan.binds (ps := pm__law_plan) fun _ _ _ _ _ _ us hl => match us, hl with | [_, _, _], _ => rfl⟩
  have F__law_paper := fun_mk (st := s__law_paper) l__law_paper c__law_paper k__law_paper
  have D__law_paper : DefAt K mg "_law_paper" s__law_paper pm__law_paper := ⟨_, _, F__law_paper, PySem.W.mg_of X G a__law_paper, F__law_paper.binds (ps := pm__law_paper) fun _ _ _ _ _ _ us hl => match us, hl with | [_, _, _], _ => rfl⟩
  have F__law_refused := fun_mk (st := s__law_refused) l__law_refused c__law_refused k__law_refused
  have D__law_refused : DefAt K mg "_law_refused" s__law_refused pm__law_refused := ⟨_, _, F__law_refused, PySem.W.mg_of X G a__law_refused, F__law_refused.binds (ps := pm__law_refused) fun _ _ _ _ _ _ us hl => match us, hl with | [_, _, _, _], _ => rfl⟩
  have F_BadPart_init := fun_mk (st := s_BadPart_init) l_BadPart_init c_BadPart_init k_BadPart_init
  have F_BadBox_init := fun_mk (st := s_BadBox_init) l_BadBox_init c_BadBox_init k_BadBox_init
  have FI : FunD K "__init__" "Way.__init__" (defArgs s_Way_init) (defBody s_Way_init) (defScope s_Way_init) [.ref AT0] [] f_Way_init _ := ⟨⟨_, _, _, _, _, _, _, _, _, _, rfl, l_Way_init, c_Way_init, .inr ⟨(fun z => nomatch z), Td, _, [.ref AT0], dn, rfl, d_T, rfl, .cons rfl .nil⟩, .inl rfl⟩, k_Way_init⟩
  obtain ⟨d4, v4, B4⟩ := FI.binds1 (ps := pm_Way_init) 5 1 (fun z => nomatch z) rfl (fun T kV doc pm an cdv ct us its hu hi => match us, hu, its, hi with | [_, _, _, _, _], _, [_], _ => ⟨_, rfl, rfl⟩)
  obtain ⟨d3, v3, B3⟩ := FI.binds1 (ps := pm_Way_init) 4 0 (fun z => nomatch z) rfl (fun T kV doc pm an cdv ct us its hu hi => match us, hu, its, hi with | [_, _, _, _], _, [_], _ => ⟨_, rfl, rfl⟩)
  cases v4
  have T : Txt K mg ⟨ABadPart, ABadBox, AWholeError, AWay, AT0⟩ :=
    { n_isinstance := PySem.W.mg_none_of X G n_isinstance,
      n_int := PySem.W.mg_none_of X G n_int,
      n_bool := PySem.W.mg_none_of X G n_bool,
      n_list := PySem.W.mg_none_of X G n_list,
      n_tuple := PySem.W.mg_none_of X G n_tuple,
      n_len := PySem.W.mg_none_of X G n_len,
      n_range := PySem.W.mg_none_of X G n_range,
      n_max := PySem.W.mg_none_of X G n_max,
      n_min := PySem.W.mg_none_of X G n_min,
      n_zip := PySem.W.mg_none_of X G n_zip,
      n_set := PySem.W.mg_none_of X G n_set,
      n_enumerate := PySem.W.mg_none_of X G n_enumerate,
      n_all := PySem.W.mg_none_of X G n_all,
      n_sorted := PySem.W.mg_none_of X G n_sorted,
      g_MOST_BEGIN := ⟨_, PySem.W.mg_of X G v_MOST_BEGIN⟩,
      g_MOST_DELAY := ⟨_, PySem.W.mg_of X G v_MOST_DELAY⟩,
      g_MOST_BOXES := ⟨_, PySem.W.mg_of X G v_MOST_BOXES⟩,
      g_MOST_KEEP := ⟨_, PySem.W.mg_of X G v_MOST_KEEP⟩,
      g_MOST_WAYS := ⟨_, PySem.W.mg_of X G v_MOST_WAYS⟩,
      g_MOST_SILENT := ⟨_, PySem.W.mg_of X G v_MOST_SILENT⟩,
      g_MOST_GAP := ⟨_, PySem.W.mg_of X G v_MOST_GAP⟩,
      Way := ⟨PySem.W.mg_of X G g_Way, ⟨pg_Way, hd_Way, po_Way, sa_Way⟩, ha_Way, s_hn, s_tk, hm_Way, ne_Way, is_Way, ty_Way, tup_Way, lst_Way, int_Way, str_Way⟩,
      w_begin := na_Way_begin,
      w_least := na_Way_least,
      w_most := na_Way_most,
      w_boxes := na_Way_boxes,
      BadPart := ⟨⟨⟨_, _, _, _, _, _, _, _, _, _, _, _, _, _, _, xBadPart_L, ve_one⟩, xBadPart_sa, xBadPart_ex, xBadPart_ty, xBadPart_kC⟩, PySem.W.mg_of X G g_BadPart, xBadPart_noA, ⟨xBadPart_hg, xBadPart_hk, xBadPart_ex, xBadPart_hd, xBadPart_ha, s_hn, s_tk, xBadPart_hm⟩, _, a_BadPart_init, i_BadPart_init, _, F_BadPart_init, F_BadPart_init.binds (ps := ["self", "part"]) fun _ _ _ _ _ _ us hl => match us, hl with | [_, _], _ => rfl⟩,
      BadBox := ⟨⟨⟨_, _, _, _, _, _, _, _, _, _, _, _, _, _, _, xBadBox_L, ve_one⟩, xBadBox_sa, xBadBox_ex, xBadBox_ty, xBadBox_kC⟩, PySem.W.mg_of X G g_BadBox, xBadBox_noA, ⟨xBadBox_hg, xBadBox_hk, xBadBox_ex, xBadBox_hd, xBadBox_ha, s_hn, s_tk, xBadBox_hm⟩, _, a_BadBox_init, i_BadBox_init, _, F_BadBox_init, F_BadBox_init.binds (ps := ["self", "index"]) fun _ _ _ _ _ _ us hl => match us, hl with | [_, _], _ => rfl⟩,
      g_WholeError := PySem.W.mg_of X G g_WholeError,
      x_pp := exm_ref xBadPart_ex xBadPart_is xBadPart_ty xBadPart_ss,
      t0 := fun H => .inr ⟨_, #[], en, d_0, rfl, rfl, Nat.zero_le _, .nil⟩ }
  exact ⟨PySem.W.fnOf "law" "law" (defArgs s_law) (defBody s_law) (defScope s_law) .none kV_law dc_law pm_law_ an_law cd_law ct_law, fun s v => .of_eq rfl, fun base _ _ =>
    law_ok T D_is_integer D_is_between D_is_index D_is_list D_is_list_of D_is_tuple_of D_are_rising_indexes D_is_lot D_is_begin D_are_delays D_is_box D_check_ways D_check_silent D_check_begins D_are_unlike_ways D_by_delay D_best_begins D_shows_begins D_is_plan D_latest_of D_bars_ahead D__law_draw D__law_least D__law_plan_fits D__law_end D__law_paper_fits D__law_plan D__law_paper D__law_refused   FI ⟨mk_Way, a_Way_init, i_Way_init, kc_Way⟩ B4 v3 B3 (fun_mk (st := s_law) l_law c_law k_law)⟩
theorem walk {l : PySem.W.OpenLaw} {q : Program} {loose : List Str} {XP : (Str → Option Value) → Heap → Prop} {YP : World → Heap → Prop} {d : DefRec} {K : Params → PySem.W.Frag} (hn : l.most = some 63) (hdf : d.params.defaults = [])
    (hY : ∀ (w : World) (h : Heap), YP w h → (K w.params).In h)
    (F : ∀ (w : World) (mg : Str → Option Value) (fa : Addr) (h : Heap), (K w.params).In h → h.Ns mainGlobals mg → mg d.name = some (.ref fa) →
      ∃ fd : FuncData, (∀ (s : Shared) (u : Value), BindsTo s fd ⟨[u], []⟩ [("_law_script", u)]) ∧ ∀ base : Heap, (K w.params).In base → base.Ns mainGlobals mg → FnOk l.prog w (K w.params) mg base CX0 9 fa fd ["_law_script"] (spLaw (K w.params))) :
    PySem.W.WalkO q loose XP YP l.row.toRowW d [] (fun f vs => PySem.call f vs) :=
  L2.walk_of (n := 63) (k := 9) (x := "_law_script") (CX := fun _ => CX0) (sp := fun w => spLaw (K w.params)) hn (by decide) hdf ⟨rfl, by decide, by decide⟩ hY F (fun _ _ a ns hl _ hS => ⟨a, ns, rfl, hS, hl, fun _ => rfl⟩) fun _ _ _ _ _ z => z
end K21

open PySem PySem.W PyProof.Rows in
set_option maxRecDepth 100000 in
set_option maxHeartbeats 0 in
theorem PySem.Challenge.cw_wholeline_k21_whole_best_begins_holds : PySem.Challenge.rw_wholeline_k21_whole_best_begins.Holds := by
  w_on; o_law; k_head; (case hw => w_witness2)
  k_fill
  refine K21.walk (l := PySem.Challenge.rw_wholeline_k21_whole_best_begins) rfl rfl (fun w h Y => PySem.W.kIn_of Y) ?F
  case F =>
    intro w mg fa h KX G hmg
    refine' K21.all_mk KX G hmg ?q_g_BadPart ?q_g_BadBox ?q_g_WholeError ?q_g_Way ?q_a_is_integer ?q_l_is_integer ?q_c_is_integer ?q_k_is_integer ?q_a_is_between ?q_l_is_between ?q_c_is_between ?q_k_is_between ?q_a_is_index ?q_l_is_index ?q_c_is_index ?q_k_is_index ?q_a_is_list ?q_l_is_list ?q_c_is_list ?q_k_is_list ?q_a_is_list_of ?q_l_is_list_of ?q_c_is_list_of ?q_k_is_list_of ?q_a_is_tuple_of ?q_l_is_tuple_of ?q_c_is_tuple_of ?q_k_is_tuple_of ?q_a_are_rising_indexes ?q_l_are_rising_indexes ?q_c_are_rising_indexes ?q_k_are_rising_indexes ?q_a_is_lot ?q_l_is_lot ?q_c_is_lot ?q_k_is_lot ?q_a_is_begin ?q_l_is_begin ?q_c_is_begin ?q_k_is_begin ?q_a_are_delays ?q_l_are_delays ?q_c_are_delays ?q_k_are_delays ?q_a_is_box ?q_l_is_box ?q_c_is_box ?q_k_is_box ?q_a_check_ways ?q_l_check_ways ?q_c_check_ways ?q_k_check_ways ?q_a_check_silent ?q_l_check_silent ?q_c_check_silent ?q_k_check_silent ?q_a_check_begins ?q_l_check_begins ?q_c_check_begins ?q_k_check_begins ?q_a_are_unlike_ways ?q_l_are_unlike_ways ?q_c_are_unlike_ways ?q_k_are_unlike_ways ?q_a_by_delay ?q_l_by_delay ?q_c_by_delay ?q_k_by_delay ?q_a_best_begins ?q_l_best_begins ?q_c_best_begins ?q_k_best_begins ?q_a_shows_begins ?q_l_shows_begins ?q_c_shows_begins ?q_k_shows_begins ?q_a_is_plan ?q_l_is_plan ?q_c_is_plan ?q_k_is_plan ?q_a_latest_of ?q_l_latest_of ?q_c_latest_of ?q_k_latest_of ?q_a_bars_ahead ?q_l_bars_ahead ?q_c_bars_ahead ?q_k_bars_ahead ?q_a__law_draw ?q_l__law_draw ?q_c__law_draw ?q_k__law_draw ?q_a__law_least ?q_l__law_least ?q_c__law_least ?q_k__law_least ?q_a__law_plan_fits ?q_l__law_plan_fits ?q_c__law_plan_fits ?q_k__law_plan_fits ?q_a__law_end ?q_l__law_end ?q_c__law_end ?q_k__law_end ?q_a__law_paper_fits ?q_l__law_paper_fits ?q_c__law_paper_fits ?q_k__law_paper_fits ?q_a__law_plan ?q_l__law_plan ?q_c__law_plan ?q_k__law_plan ?q_a__law_paper ?q_l__law_paper ?q_c__law_paper ?q_k__law_paper ?q_a__law_refused ?q_l__law_refused ?q_c__law_refused ?q_k__law_refused ?q_a_law ?q_l_law ?q_c_law ?q_k_law ?q_a_BadPart_init ?q_i_BadPart_init ?q_l_BadPart_init ?q_c_BadPart_init ?q_k_BadPart_init ?q_a_BadBox_init ?q_i_BadBox_init ?q_l_BadBox_init ?q_c_BadBox_init ?q_k_BadBox_init ?q_a_Way_init ?q_i_Way_init ?q_l_Way_init ?q_c_Way_init ?q_k_Way_init ?q_d_T ?q_d_0 ?q_n_isinstance ?q_n_int ?q_n_bool ?q_n_list ?q_n_tuple ?q_n_len ?q_n_range ?q_n_max ?q_n_min ?q_n_zip ?q_n_set ?q_n_enumerate ?q_n_all ?q_n_sorted ?q_v_MOST_BEGIN ?q_v_MOST_DELAY ?q_v_MOST_BOXES ?q_v_MOST_KEEP ?q_v_MOST_WAYS ?q_v_MOST_SILENT ?q_v_MOST_GAP ?q_s_hn ?q_s_tk ?q_pg_Way ?q_hd_Way ?q_po_Way ?q_sa_Way ?q_ha_Way ?q_hm_Way ?q_ne_Way ?q_is_Way ?q_ty_Way ?q_tup_Way ?q_lst_Way ?q_int_Way ?q_str_Way ?q_mk_Way ?q_kc_Way ?q_na_Way_begin ?q_na_Way_least ?q_na_Way_most ?q_na_Way_boxes ?q_xBadPart_L ?q_xBadPart_sa ?q_xBadPart_ex ?q_xBadPart_ty ?q_xBadPart_kC ?q_xBadPart_noA ?q_xBadPart_hg ?q_xBadPart_hk ?q_xBadPart_hd ?q_xBadPart_ha ?q_xBadPart_hm ?q_xBadPart_is ?q_xBadPart_ss ?q_xBadPart_w ?q_xBadBox_L ?q_xBadBox_sa ?q_xBadBox_ex ?q_xBadBox_ty ?q_xBadBox_kC ?q_xBadBox_noA ?q_xBadBox_hg ?q_xBadBox_hk ?q_xBadBox_hd ?q_xBadBox_ha ?q_xBadBox_hm ?q_xBadBox_is ?q_xBadBox_ss ?q_xBadBox_w ?q_xw_i ?q_xw_t ?q_xw_b
    (case q_g_BadPart => k_is)
    (case q_g_BadBox => k_is)
    (case q_g_WholeError => k_is)
    (case q_g_Way => k_is)
    (case q_a_is_integer => k_is)
    (case q_l_is_integer => k_is)
    (case q_c_is_integer => k_is)
    (case q_k_is_integer => k_is)
    (case q_a_is_between => k_is)
    (case q_l_is_between => k_is)
    (case q_c_is_between => k_is)
    (case q_k_is_between => k_is)
    (case q_a_is_index => k_is)
    (case q_l_is_index => k_is)
    (case q_c_is_index => k_is)
    (case q_k_is_index => k_is)
    (case q_a_is_list => k_is)
    (case q_l_is_list => k_is)
    (case q_c_is_list => k_is)
    (case q_k_is_list => k_is)
    (case q_a_is_list_of => k_is)
    (case q_l_is_list_of => k_is)
    (case q_c_is_list_of => k_is)
    (case q_k_is_list_of => k_is)
    (case q_a_is_tuple_of => k_is)
    (case q_l_is_tuple_of => k_is)
    (case q_c_is_tuple_of => k_is)
    (case q_k_is_tuple_of => k_is)
    (case q_a_are_rising_indexes => k_is)
    (case q_l_are_rising_indexes => k_is)
    (case q_c_are_rising_indexes => k_is)
    (case q_k_are_rising_indexes => k_is)
    (case q_a_is_lot => k_is)
    (case q_l_is_lot => k_is)
    (case q_c_is_lot => k_is)
    (case q_k_is_lot => k_is)
    (case q_a_is_begin => k_is)
    (case q_l_is_begin => k_is)
    (case q_c_is_begin => k_is)
    (case q_k_is_begin => k_is)
    (case q_a_are_delays => k_is)
    (case q_l_are_delays => k_is)
    (case q_c_are_delays => k_is)
    (case q_k_are_delays => k_is)
    (case q_a_is_box => k_is)
    (case q_l_is_box => k_is)
    (case q_c_is_box => k_is)
    (case q_k_is_box => k_is)
    (case q_a_check_ways => k_is)
    (case q_l_check_ways => k_is)
    (case q_c_check_ways => k_is)
    (case q_k_check_ways => k_is)
    (case q_a_check_silent => k_is)
    (case q_l_check_silent => k_is)
    (case q_c_check_silent => k_is)
    (case q_k_check_silent => k_is)
    (case q_a_check_begins => k_is)
    (case q_l_check_begins => k_is)
    (case q_c_check_begins => k_is)
    (case q_k_check_begins => k_is)
    (case q_a_are_unlike_ways => k_is)
    (case q_l_are_unlike_ways => k_is)
    (case q_c_are_unlike_ways => k_is)
    (case q_k_are_unlike_ways => k_is)
    (case q_a_by_delay => k_is)
    (case q_l_by_delay => k_is)
    (case q_c_by_delay => k_is)
    (case q_k_by_delay => k_is)
    (case q_a_best_begins => k_is)
    (case q_l_best_begins => k_is)
    (case q_c_best_begins => k_is)
    (case q_k_best_begins => k_is)
    (case q_a_shows_begins => k_is)
    (case q_l_shows_begins => k_is)
    (case q_c_shows_begins => k_is)
    (case q_k_shows_begins => k_is)
    (case q_a_is_plan => k_is)
    (case q_l_is_plan => k_is)
    (case q_c_is_plan => k_is)
    (case q_k_is_plan => k_is)
    (case q_a_latest_of => k_is)
    (case q_l_latest_of => k_is)
    (case q_c_latest_of => k_is)
    (case q_k_latest_of => k_is)
    (case q_a_bars_ahead => k_is)
    (case q_l_bars_ahead => k_is)
    (case q_c_bars_ahead => k_is)
    (case q_k_bars_ahead => k_is)
    (case q_a__law_draw => k_is)
    (case q_l__law_draw => k_is)
    (case q_c__law_draw => k_is)
    (case q_k__law_draw => k_is)
    (case q_a__law_least => k_is)
    (case q_l__law_least => k_is)
    (case q_c__law_least => k_is)
    (case q_k__law_least => k_is)
    (case q_a__law_plan_fits => k_is)
    (case q_l__law_plan_fits => k_is)
    (case q_c__law_plan_fits => k_is)
    (case q_k__law_plan_fits => k_is)
    (case q_a__law_end => k_is)
    (case q_l__law_end => k_is)
    (case q_c__law_end => k_is)
    (case q_k__law_end => k_is)
    (case q_a__law_paper_fits => k_is)
    (case q_l__law_paper_fits => k_is)
    (case q_c__law_paper_fits => k_is)
    (case q_k__law_paper_fits => k_is)
    (case q_a__law_plan => k_is)
    (case q_l__law_plan => k_is)
    (case q_c__law_plan => k_is)
    (case q_k__law_plan => k_is)
    (case q_a__law_paper => k_is)
    (case q_l__law_paper => k_is)
    (case q_c__law_paper => k_is)
    (case q_k__law_paper => k_is)
    (case q_a__law_refused => k_is)
    (case q_l__law_refused => k_is)
    (case q_c__law_refused => k_is)
    (case q_k__law_refused => k_is)
    (case q_a_law => k_is)
    (case q_l_law => k_is)
    (case q_c_law => k_is)
    (case q_k_law => k_is)
    (case q_a_BadPart_init => k_is)
    (case q_i_BadPart_init => k_is)
    (case q_l_BadPart_init => k_is)
    (case q_c_BadPart_init => k_is)
    (case q_k_BadPart_init => k_is)
    (case q_a_BadBox_init => k_is)
    (case q_i_BadBox_init => k_is)
    (case q_l_BadBox_init => k_is)
    (case q_c_BadBox_init => k_is)
    (case q_k_BadBox_init => k_is)
    (case q_a_Way_init => k_is)
    (case q_i_Way_init => k_is)
    (case q_l_Way_init => k_is)
    (case q_c_Way_init => k_is)
    (case q_k_Way_init => k_is)
    (case q_d_T => k_is)
    (case q_d_0 => k_is)
    (case q_n_isinstance => k_is)
    (case q_n_int => k_is)
    (case q_n_bool => k_is)
    (case q_n_list => k_is)
    (case q_n_tuple => k_is)
    (case q_n_len => k_is)
    (case q_n_range => k_is)
    (case q_n_max => k_is)
    (case q_n_min => k_is)
    (case q_n_zip => k_is)
    (case q_n_set => k_is)
    (case q_n_enumerate => k_is)
    (case q_n_all => k_is)
    (case q_n_sorted => k_is)
    (case q_v_MOST_BEGIN => k_is)
    (case q_v_MOST_DELAY => k_is)
    (case q_v_MOST_BOXES => k_is)
    (case q_v_MOST_KEEP => k_is)
    (case q_v_MOST_WAYS => k_is)
    (case q_v_MOST_SILENT => k_is)
    (case q_v_MOST_GAP => k_is)
    (case q_s_hn => k_is)
    (case q_s_tk => k_is)
    (case q_pg_Way => k_is)
    (case q_hd_Way => k_is)
    (case q_po_Way => k_is)
    (case q_sa_Way => k_is)
    (case q_ha_Way => k_is)
    (case q_hm_Way => k_is)
    (case q_ne_Way => k_is)
    (case q_is_Way => k_is)
    (case q_ty_Way => k_is)
    (case q_tup_Way => k_is)
    (case q_lst_Way => k_is)
    (case q_int_Way => k_is)
    (case q_str_Way => k_is)
    (case q_mk_Way => k_is)
    (case q_kc_Way => k_is)
    (case q_na_Way_begin => k_is)
    (case q_na_Way_least => k_is)
    (case q_na_Way_most => k_is)
    (case q_na_Way_boxes => k_is)
    (case q_xBadPart_L => k_is)
    (case q_xBadPart_sa => k_is)
    (case q_xBadPart_ex => k_is)
    (case q_xBadPart_ty => k_is)
    (case q_xBadPart_kC => k_is)
    (case q_xBadPart_noA => k_is)
    (case q_xBadPart_hg => k_is)
    (case q_xBadPart_hk => k_is)
    (case q_xBadPart_hd => k_is)
    (case q_xBadPart_ha => k_is)
    (case q_xBadPart_hm => k_is)
    (case q_xBadPart_is => k_is)
    (case q_xBadPart_ss => k_is)
    (case q_xBadPart_w => k_is)
    (case q_xBadBox_L => k_is)
    (case q_xBadBox_sa => k_is)
    (case q_xBadBox_ex => k_is)
    (case q_xBadBox_ty => k_is)
    (case q_xBadBox_kC => k_is)
    (case q_xBadBox_noA => k_is)
    (case q_xBadBox_hg => k_is)
    (case q_xBadBox_hk => k_is)
    (case q_xBadBox_hd => k_is)
    (case q_xBadBox_ha => k_is)
    (case q_xBadBox_hm => k_is)
    (case q_xBadBox_is => k_is)
    (case q_xBadBox_ss => k_is)
    (case q_xBadBox_w => k_is)
    (case q_xw_i => k_is)
    (case q_xw_t => k_is)
    (case q_xw_b => k_is)
