import PyProof.Rows.All
import Wide.All
import OpenK.AllK
import Wide.FinOn
import PyProof.EqAt
import PyProof.EqKinds
import PyProof.TupleCall
import HandS.Base
import HandS.Call
import HandS.List
import HandS.Comp
import HandS.Ends
import HandS.Words
import HandS.WordsList
import HandS.Exc
import HandS.ExcInit
import HandS.ExcIs
import HandS.OwnEq
import HandS.IsInst
import HandS.ExcOwn
import HandS.ExcField
import HandS.WordsExc
import HandS.TryOnly
import HandS.TryMany
import HandS.CallSlots
import HandS.Wide
import HandS.Codes
import KE.KTupSum
import PyProof.ListRange
import KE.GoesEnum
import HandS.Iter
import HandS.Walk
import HandS.HotCalls
import KE.KEqNest
import HandS.MakeKwOnly
import HandS.TupAny
import HandS.Strs
import HandS.Deep
import HandS.Zip
import HandS.Star
import HandS.Conv
import HandS.IterVal
import HandS.ListItems
import KE.KDictZip
import PySem.Challenge.RW_wholeline_k36_games_and_their_parts
import HandS.Evl
import HandS.Steps
set_option Elab.async false
set_option maxRecDepth 100000
set_option maxHeartbeats 4000000
namespace PySem.W
open PySem PySem.Calls PyProof.Rows
section
variable {prog : Program} {w : World} {A : Around} {E : Value → Shared → Prop} {s : Shared} {K : Frag} {x C L f : Addr} {h₀ : Heap} {m : Str → Option Value} {ox : Obj} {od : Option Obj} {b tb : Value}
theorem objNe_K {Q : Fin → Shared → Prop} (hu : A.units < cLine) (X : K.In s.heap) (I : InstAt s.heap x ox C od)
    (hs : findIn K (.ref C) "__eq__" = some (some (.ref f))) (hf : isFn K (.ref f) = true)
    (h : wpAny (model prog w) A (call (.ref f) [.ref x, b]) (fun v s' => ∃ r, v = .bool r ∧ Q (.done (.ret (.bool (!r)))) s') E s) :
    wpAny (model prog w) A (Builtin.«object.__ne__» ⟨[.ref x, b], []⟩) Q E s := by
  obtain ⟨hp, g, d, tk, os⟩ := s
  unfold Builtin.«object.__ne__»
  repeat (first
    | with_reducible refine wpAny_cRoomFor hu ?_
    | (refine wpAny_bind (m := callSpecialIfBound? (.ref x) (Str.ofString "__eq__") [b])
        (ifBound_K X I hs hf (wpAny_mono h (fun r s' hr => by
          obtain ⟨b, rfl, hq⟩ := hr
          repeat (first | exact hq | exact wpAny_pure hq | exact wpAny_truthy_bool hq | (refine wpAny_bind (m := truthy (.bool _)) (wpAny_truthy_bool ?_)) | wp_step)) fun _ _ e => e)))
    | wp_step)
theorem cmpNe_K {Q : Value → Shared → Prop} (hu : A.units + 1 < cLine) (F : Fr h₀ L s.heap m) (X₀ : K.In h₀) (I : InstAt s.heap x ox C od) (hb : Looks (model prog w) s.heap (typeOf b) tb) (hn : notFirst K C tb = true)
    (hne : findIn K (.ref C) "__ne__" = some (some (.builtin "object.__ne__"))) (hm : mroIn K C (.type "object") = some true)
    (hs : findIn K (.ref C) "__eq__" = some (some (.ref f))) (hf : isFn K (.ref f) = true)
    (h : wpAny (model prog w) A.in1 (call (.ref f) [.ref x, b]) (fun v s' => ∃ r, v = .bool r ∧ Q (.bool (!r)) s') E s) : wpAny (model prog w) A (richCompare .NotEq (.ref x) b) Q E s := by
  have X := X₀.keeps F.keep
  have sub : Looks (model prog w) s.heap (isInstance (.ref x) (.type "object")) true := I.type.andThen (looks_mroIn X hm)
  have one : wpAny (model prog w) A (tryCompare (.ref x) "__ne__" b) (fun r s' => ∃ v, r = some v ∧ Q v s') E s := by
    unfold tryCompare
    refine wpAny_bind ?_
    simp only [callSpecialIfBound?, bindSpecialIfBound?]
    refine wpAny_holding (wpAny_bind (wpAny_bind (wpAny_bind (I.type.here ((looks_findIn X hne).here ?_)))))
    simp only [PySem.F.cmp_object.ne.bind]
    refine wpAny_bind (wpAny_askSetting (wpAny_ite ?_))
    have fin : wpAny (model prog w) A (call (.builtin "object.__ne__") ([.ref x] ++ [b]) >>= fun v => pure (some v)) (fun r s' => wpAny (model prog w) A (match r with
        | some .notImplemented | none => pure none
        | some v => pure (some v)) (fun r s' => ∃ v, r = some v ∧ Q v s') E s') E s := by
      refine wpAny_bind (wpAny_call (codeAny_call_builtin PySem.F.cmp_object.ne.plain PySem.F.cmpEntry_ne (check_slot PySem.F.cmpKind_ne PySem.F.cmpSplit_ne sub (PySem.F.cmpArgs_ne _ _)
        (objNe_K (A := A.in1) hu X I hs hf (wpAny_mono h (fun v s' hv => ?_) fun _ _ e => e)))))
      obtain ⟨r, rfl, hq⟩ := hv
      first | exact ⟨r, rfl, wpAny_pure (wpAny_pure ⟨_, rfl, hq⟩)⟩ | exact ⟨r, rfl, wpAny_pure ⟨_, rfl, hq⟩⟩
    split
    · repeat (first | exact fin | with_reducible refine wpAny_pure ?_ | with_reducible refine wpAny_bind ?_ | with_reducible refine wpAny_tryCatch ?_)
    · refine wpAny_tryCatch ?_
      repeat (first | exact fin | with_reducible refine wpAny_pure ?_ | with_reducible refine wpAny_bind ?_)
  unfold richCompare
  simp only [oneThing_ref]
  refine wpAny_holding (wpAny_bind (wpAny_cRoomFor (Nat.lt_of_succ_lt hu) ?_))
  refine wpAny_bind (I.type.here (wpAny_bind (hb.here ?_)))
  split
  · rename_i q
    have e : subIn K tb (.ref C) = some false := by
      rcases Bool.or_eq_true_iff.mp hn with e | e
      · rw [beq_iff_eq.mp e] at q; simp at q
      · exact beq_iff_eq.mp e
    refine wpAny_bind ((looks_subIn X e).here ?_)
    simp only [Bool.false_eq_true, if_false]
    refine wpAny_bind (wpAny_mono one (fun r s' z => ?_) fun _ _ e => e)
    obtain ⟨v, rfl, hq⟩ := z
    exact wpAny_pure hq
  · refine wpAny_bind (wpAny_pure ?_)
    simp only [Bool.false_eq_true, if_false]
    refine wpAny_bind (wpAny_mono one (fun r s' z => ?_) fun _ _ e => e)
    obtain ⟨v, rfl, hq⟩ := z
    exact wpAny_pure hq
end
end PySem.W

set_option Elab.async false
set_option maxRecDepth 100000
set_option maxHeartbeats 4000000
namespace L2
open PySem PySem.Spec PyProof.Rows
section
variable {X : Cx} {CX : CXT} {k : Nat} {f C : Addr} {fd : FuncData} {ps : List Str} {sp : Sp}
/-- the own method f, called at some frame below with room -/
theorem run_at {A : Around} {pins : List (Addr × Obj)} {σ : St} {H : Hp} {s : Shared} {Q : VK} {us : List Value} {vs : List V} (F : FnOk X.prog X.w X.K X.mg X.base CX k f fd ps sp) (hr : Room k A) (hA : A.frames = X.A.frames) (hb : Binds X.K fd ps []) (hx : Passes CX X E0)
    (I : Inv X pins σ H s) (r : Vals vs us) (h : sp vs H Q E0) : wpAny (model X.prog X.w) A (call (.ref f) us) (EP X pins σ Q) X.xe s := by
  have hl : us.length = ps.length := by rw [← r.length]; exact F.len _ _ _ _ h
  have e0 : Env0 X.prog X.w X.K X.mg X.base A X.stack s H := by
    have e := I.env0
    exact ⟨by rw [hA]; exact e.frames, e.mod, e.bs, e.bsz, e.funs, e.frf, e.hok, e.bare⟩
  refine wpAny_call (codeAny_mono (F.run A X.stack s H ⟨us, []⟩ us vs Q E0 hr e0 (by
    have := hb s us I.kIn (by simpa using hl)
    simpa using this) r h) fun r s' hq => ?_)
  cases r with
  | error e => exact hx pins σ H s e s' I hq
  | ok fl =>
    cases fl with
    | ret u => exact I.after hq
    | next => exact False.elim hq
    | brk => exact False.elim hq
    | cont => exact False.elim hq
/-- x == y, x an instance of the class at C, by its own ==; y anything whose type is known -/
def rEqO (K : PySem.W.Frag) (C : Addr) (sp : Sp) : R2 := fun x y H Q => ∃ a dx fs t, x = .ref a ∧ H a = some (.ins C dx fs) ∧ TyX K H y t ∧ PySem.W.notFirst K C t = true ∧ sp [x, y] H (fun v H' => ∃ b, v = .bl b ∧ Q (.bl b) H') E0
def rNeO (K : PySem.W.Frag) (C : Addr) (sp : Sp) : R2 := fun x y H Q => ∃ a dx fs t, x = .ref a ∧ H a = some (.ins C dx fs) ∧ TyX K H y t ∧ PySem.W.notFirst K C t = true ∧ sp [x, y] H (fun v H' => ∃ b, v = .bl b ∧ Q (.bl (!b)) H') E0
structure EqM (K : PySem.W.Frag) (C f : Addr) : Prop where
  eq : PySem.W.findIn K (.ref C) "__eq__" = some (some (.ref f))
  fn : PySem.W.isFn K (.ref f) = true
  ne : PySem.W.findIn K (.ref C) "__ne__" = some (some (.builtin "object.__ne__"))
  ob : PySem.W.mroIn K C (.type "object") = some true
theorem op_eqO (F : FnOk X.prog X.w X.K X.mg X.base CX k f fd ps sp) (M : EqM X.K C f) (hr : Room k X.A) (hb : Binds X.K fd ps []) (hx : Passes CX X E0) : OpR X (compareOp .Eq) (rEqO X.K C sp) := by
  intro pins s σ H x y v u Q I rx ry hq
  obtain ⟨a, dx, fs, t, rfl, ha, ty, hn, q⟩ := hq
  cases (show v = Value.ref a from rx)
  obtain ⟨P, Z, p, _⟩ := kit_of I ry ty
  obtain ⟨mA, J, _⟩ := ins_get I.hok ha
  obtain ⟨od, J, _⟩ := J.look
  obtain ⟨m, hF⟩ := I.fr
  show wpAny (model X.prog X.w) X.A (richCompare .Eq (.ref a) u) (EP X pins σ Q) X.xe s
  refine PySem.W.cmp_K (op := .Eq) (tb := t) hr.units0 hF I.ok.mod.kin J (Z.ty _ _ I.kIn p) hn M.eq M.fn ?_
  refine wpAny_mono (run_at (vs := [.ref a, y]) F hr rfl hb hx I (.cons rfl (.cons ry .nil)) q) (fun v' s' z => ?_) fun _ _ e => e
  obtain ⟨w', H', I', rv, b, rfl, q'⟩ := z
  cases rv
  exact ⟨.bl b, H', I', rfl, q'⟩
theorem op_neO (F : FnOk X.prog X.w X.K X.mg X.base CX k f fd ps sp) (M : EqM X.K C f) (hr : Room (k + 1) X.A) (hb : Binds X.K fd ps []) (hx : Passes CX X E0) : OpR X (compareOp .NotEq) (rNeO X.K C sp) := by
  intro pins s σ H x y v u Q I rx ry hq
  obtain ⟨a, dx, fs, t, rfl, ha, ty, hn, q⟩ := hq
  cases (show v = Value.ref a from rx)
  obtain ⟨P, Z, p, _⟩ := kit_of I ry ty
  obtain ⟨mA, J, _⟩ := ins_get I.hok ha
  obtain ⟨od, J, _⟩ := J.look
  obtain ⟨m, hF⟩ := I.fr
  show wpAny (model X.prog X.w) X.A (richCompare .NotEq (.ref a) u) (EP X pins σ Q) X.xe s
  refine PySem.W.cmpNe_K (tb := t) (by have := hr.units; omega) hF I.ok.mod.kin J (Z.ty _ _ I.kIn p) hn M.ne M.ob M.eq M.fn ?_
  refine wpAny_mono (run_at (vs := [.ref a, y]) F hr.in1 rfl hb hx I (.cons rfl (.cons ry .nil)) q) (fun v' s' z => ?_) fun _ _ e => e
  obtain ⟨w', H', I', rv, b, rfl, q'⟩ := z
  cases rv
  exact ⟨b, rfl, .bl (!b), H', I', rfl, q'⟩
/-- len(o), o an instance of the class at C with an own __len__ -/
def rLenO (C : Addr) (sp : Sp) : List V → Hp → VK → Prop := fun xs H Q => ∃ a dx fs, xs = [.ref a] ∧ H a = some (.ins C dx fs) ∧ sp [.ref a] H (fun v H' => ∃ n : Int, v = .int n ∧ (0 ≤ n ∧ n < 2 ^ 63) ∧ Q (.int n) H') E0
theorem call_lenO (F : FnOk X.prog X.w X.K X.mg X.base CX k f fd ps sp) (hs : PySem.W.findIn X.K (.ref C) "__len__" = some (some (.ref f))) (hf : PySem.W.isFn X.K (.ref f) = true) (hr : Room (k + 1) X.A) (hb : Binds X.K fd ps []) (hx : Passes CX X E0) :
    CallR X (.builtin "len") (rLenO C sp) := by
  intro pins s σ H xs us Q I r h
  obtain ⟨a, dx, fs, rfl, ha, q⟩ := h
  cases r with
  | cons rx rr =>
    rename_i u us'
    cases rr
    cases (show u = Value.ref a from rx)
    obtain ⟨mA, J, _⟩ := ins_get I.hok ha
    obtain ⟨od, J, _⟩ := J.look
    obtain ⟨m, hF⟩ := I.fr
    refine PySem.W.len_K hF I.ok.mod.kin J hs hf ?_
    refine wpAny_mono (run_at (vs := [.ref a]) F hr.in1 rfl hb hx I (.cons rfl .nil) q) (fun v' s' z => ?_) fun _ _ e => e
    obtain ⟨w', H', I', rv, n, rfl, hn, q'⟩ := z
    obtain ⟨t, rfl⟩ := (show ∃ t, v' = Value.int n t from rv)
    exact ⟨hn, .int n, H', I'.tok _, ⟨_, rfl⟩, q'⟩
end
end L2

set_option Elab.async false
set_option maxRecDepth 100000
set_option maxHeartbeats 4000000
namespace PySem.W
open PySem PySem.Spec PySem.Calls PyProof.Rows
section
variable {K : Frag} {C : Addr}
theorem findObj_dat {od : Option Obj} {name : Str} {a g : Value} (hc : (clsIn K C).isSome = true) (ha : findIn K (.ref C) name = some (some a)) (hg : specialIn K a "__get__" = some (some g)) (ht : takesIn K a = some true) :
    findObj K C od name = some (.bind g a) := by
  obtain ⟨cd, hc⟩ := Option.isSome_iff_exists.mp hc
  simp [findObj, hc, ha, hg, ht]
variable {prog : Program} {w : World} {A : Around} {E : Value → Shared → Prop} {s : Shared} {x D : Addr} {ox : Obj}
theorem kin_classD {od : Option Obj} {Q : Option Value → Shared → Prop} (T : L2.ExcC K D)
    (X : K.In s.heap) (I : InstAt s.heap x ox D od) (h : Q (some (.ref D)) { s with toks := s.toks + 1 }) : wpAny (model prog w) A (getAttr? (.ref x) "__class__") Q E s := by
  have hf : findObj K D od "__class__" = some (.bind (.builtin "getset_descriptor.__get__") (.builtin "object.__class__")) :=
    findObj_dat (by obtain ⟨cd, hc, _⟩ := any_some T.hd; rw [hc]; rfl) T.ha T.hn T.ht
  obtain ⟨hp, g, d, t, os⟩ := s
  have L0 := I.type (M := model prog w)
  have L1 := looks_findIn (M := model prog w) X T.hg
  have L2 := looks_findIn (M := model prog w) X T.hk
  have L3 := looks_find (M := model prog w) X I hf
  have sub : Looks (model prog w) hp (isInstance (.ref x) (.type "BaseException")) true := L0.andThen (looks_subIn X T.hs)
  have hx0 : (false && onTheHeap (Value.builtin "BaseException.__getattribute__")) = false := rfl
  have hx2 : (Value.builtin "BaseException.__getattribute__" == Value.builtin "object.__getattribute__") = false := by decide +kernel
  have hx1 : (onTheHeap (Value.ref D) && Value.builtin "BaseException.__getattribute__" == Value.builtin "object.__getattribute__") = false := by rw [hx2]; rfl
  unfold getAttr? getAttrBy? getAttrBy
  refine wpAny_bind (wpAny_mkText (wpAny_bind (wpAny_attempt (wpAny_holding (wpAny_bind (L0.at (wpAny_bind (L1.at ?_))))))))
  show wpAny _ _ (if (onTheHeap (Value.ref D) && Value.builtin "BaseException.__getattribute__" == Value.builtin "object.__getattribute__") = true then _ else _) _ _ _
  rw [hx1, if_neg Bool.false_ne_true]
  unfold getAttrByItsOwn hookBefore
  refine wpAny_bind ?_
  rw [if_pos (show onTheHeap (Value.ref D) = true from rfl)]
  refine L2.at ?_
  refine wpAny_bind (wpAny_attempt (wpAny_holding ?_))
  unfold callGetattribute
  rw [hx0, if_neg Bool.false_ne_true]
  unfold boundAndCalled
  rw [PySem.F.excAttr_ValueError.ga.bind (.ref x)]
  refine wpAny_bind (wpAny_pure ?_)
  show wpAny _ _ (call (.builtin "BaseException.__getattribute__") [.ref x, .str "__class__" t]) _ _ _
  refine wpAny_call (codeAny_call_builtin PySem.F.excAttr_ValueError.ga.plain PySem.F.entry_bexc_ga ?_)
  refine @check_slot (model prog w) _ _ ⟨hp, g, d, t + 1, os⟩ "BaseException.__getattribute__" "BaseException" "__getattribute__" (.ref x) [.str "__class__" t] [] _ (by decide +kernel) (by decide +kernel) sub (PySem.F.args_bexc_ga (.ref x) (.str "__class__" t)) ?_
  unfold Builtin.«object.__getattribute__»
  refine wpAny_bind (wpAny_of_eq (a := ((Value.ref x : Value), [Value.str "__class__" t])) (by first | rfl | (simp only [slotArgs]; rfl)) ?_)
  refine wpAny_bind (wpAny_pure (wpAny_bind (L0.at (wpAny_bind (L3.at ?_)))))
  show wpAny _ _ (holding [Value.builtin "object.__class__"] (call (.builtin "getset_descriptor.__get__") [.builtin "object.__class__", .ref x, .ref D]) >>= ret) _ _ _
  refine wpAny_bind (wpAny_holding (wpAny_call (class_get (s := ⟨hp, g, d, t + 1, os⟩) (ox := ox) (od := od) X I T.hm ?_)))
  refine wpAny_pure ?_
  show wpAny _ _ (handedOut (.ref D)) _ _ _
  rw [handedOut_of (v := .ref D) rfl]
  first
    | exact wpAny_pure (wpAny_pure h)
    | exact wpAny_pure h
    | exact wpAny_pure (wpAny_bind (wpAny_pure (wpAny_pure h)))
theorem kitx_excD (T : L2.ExcC K D) : KitX K (.ref x) (.ref D) (fun h => ∃ od, InstAt h x ox D od) where
  ty := fun _ _ _ I => by
    obtain ⟨_, I⟩ := I
    exact I.type
  it := fun M h X _ => by
    obtain ⟨cdD, hcD, _⟩ := any_some T.hd
    unfold clsIn at hcD
    split at hcD
    · rename_i c' d' cd' sl' ho
      intro A' Q' E' s' k q
      unfold isType loadHead
      exact wpAny_bind (wpAny_loadPart (k _ _ (X _ _ ho)) (wpAny_pure q))
    · cases hcD
  ne := fun h tp dd its n sl X htp => by
    obtain ⟨cdD, hcD, _⟩ := any_some T.hd
    refine Bool.eq_false_iff.mpr fun q => ?_
    have e : D = tp := Value.ref.inj (beq_iff_eq.mp q)
    subst e
    unfold clsIn at hcD
    split at hcD
    · rename_i c' d' cd' sl' ho
      have z := (X _ _ ho).symm.trans htp
      cases z
    · cases hcD
  ca := fun X I k => by
    obtain ⟨_, I⟩ := I
    exact kin_classD T X I k
end
end PySem.W
namespace L2
open PySem PySem.Spec PyProof.Rows
section
variable {X : Cx}
/-- isinstance(e, c), e the exception that the suite holds, with a dict or without -/
theorem call_isED {a D : Addr} {d : Option Addr} {oe : Obj} {pn : List (Addr × Obj)} (C : ExcC X.K D) (hz : Zc (.ref D) d oe) (hf : ∃ vs, oe.data = .fields vs) (hd : ∀ (pins : List (Addr × Obj)) (σ : St) (H : Hp) (s : Shared), Inv (X.suite a ((a, oe) :: pn)) pins σ H s → ∀ dd, d = some dd → ∃ od, s.heap.get? dd = some od) :
    CallR (X.suite a ((a, oe) :: pn)) (.builtin "isinstance") (rIsE X.K D a) := by
  intro pins s σ H xs us Q I r h
  obtain ⟨c, cv, b, rfl, hcv, e, q⟩ := h
  cases r with
  | cons rx rr =>
    cases rr with
    | cons rt rr =>
      cases rr
      cases rx
      have ec := hcv _ rt
      subst ec
      obtain ⟨hget, _⟩ := I.pin (a, oe) (List.mem_append.mpr (.inl List.mem_cons_self))
      obtain ⟨vs, hv⟩ := hf
      have J : ∃ od, PySem.W.InstAt s.heap a oe D od := by
        have hd' := hd pins σ H s I
        obtain ⟨oc, od, oda, osl⟩ := oe
        obtain ⟨h1, h2⟩ := hz
        dsimp only at h1 h2 hv
        subst h1 h2 hv
        cases od with
        | none => exact ⟨none, hget, rfl, rfl, trivial⟩
        | some dd =>
          obtain ⟨o, ho⟩ := hd' dd rfl
          exact ⟨some o, hget, rfl, rfl, ho⟩
      exact PySem.W.kia_one (PySem.W.kitx_excD C) I.kIn J e (fun z => nomatch z) fun tk => ⟨.bl b, H, I.kept (t' := tk) fun _ _ z => z, rfl, q⟩
/-- the same where the dict is tracked: the reading asks it -/
def rIsED (K : PySem.W.Frag) (D a : Addr) (cls : Value) (d : Option Addr) : List V → Hp → VK → Prop := fun xs H Q => cls = .ref D ∧ (∀ dd, d = some dd → ∃ fs, H dd = some (.xd fs)) ∧ ∃ (c : V) (cv : Value) (b : Bool), xs = [.ref a, c] ∧ (∀ u, RelV c u → u = cv) ∧ PySem.W.kitOne K (.ref D) cv = some b ∧ Q (.bl b) H
theorem call_isEX {a D : Addr} {cls : Value} {d : Option Addr} {oe : Obj} {pn : List (Addr × Obj)} (C : ExcC X.K D) (hz : Zc cls d oe) (hf : ∃ vs, oe.data = .fields vs) : CallR (X.suite a ((a, oe) :: pn)) (.builtin "isinstance") (rIsED X.K D a cls d) := by
  intro pins s σ H xs us Q I r h
  obtain ⟨ec0, hdd, c, cv, b, rfl, hcv, e, q⟩ := h
  subst ec0
  cases r with
  | cons rx rr =>
    cases rr with
    | cons rt rr =>
      cases rr
      cases rx
      have ec := hcv _ rt
      subst ec
      obtain ⟨hget, _⟩ := I.pin (a, oe) (List.mem_append.mpr (.inl List.mem_cons_self))
      obtain ⟨vs, hv⟩ := hf
      have J : ∃ od, PySem.W.InstAt s.heap a oe D od := by
        obtain ⟨oc, od, oda, osl⟩ := oe
        obtain ⟨h1, h2⟩ := hz
        dsimp only at h1 h2 hv
        subst h1 h2 hv
        cases od with
        | none => exact ⟨none, hget, rfl, rfl, trivial⟩
        | some dd =>
          obtain ⟨fs, hfs⟩ := hdd dd rfl
          obtain ⟨mA, hns, _⟩ := (show ObjOk X.prog X.w H s.heap dd (.xd fs) from I.hok dd _ hfs)
          obtain ⟨od, ho, _⟩ := lookIn_ns hns
          exact ⟨some od, hget, rfl, rfl, ho⟩
      exact PySem.W.kia_one (PySem.W.kitx_excD C) I.kIn J e (fun z => nomatch z) fun tk => ⟨.bl b, H, I.kept (t' := tk) fun _ _ z => z, rfl, q⟩
end
section
variable {X : Cx} {CX : CXT} {k : Nat} {f C : Addr} {fd : FuncData} {ps : List Str} {sp : Sp} {dvs : List V} {ds : List Value} {E : St → XK} {x m : Str} {p pos apos : Pos} {e o : Expr} {es : List Expr} {ta : TE} {t : TA}
/-- C(e, ..) where what is raised is wished for at the slots as they stand -/
def tMakeS (C : Addr) (sp : Sp) (dvs : List V) (E : St → XK) (t : TA) : TE := fun σ H Q => t σ H fun vs H1 => ∀ x dx, H1 x = none → H1 dx = none → dx ≠ x →
  sp (.ref x :: (vs ++ dvs)) (upd (upd H1 dx (.own x)) x (.ins C dx [])) (fun v H2 => v = .non ∧ Q (.ref x) H2) (fun cls d H2 => E σ cls d H2)
theorem run_makeS {pins : List (Addr × Obj)} {σ : St} {H : Hp} {s : Shared} {Q : VK} {us : List Value} {vs : List V} (M : Mk X.K C f) (F : FnOk X.prog X.w X.K X.mg X.base CX k f fd ps sp) (hr : Room (k + 1) X.A) (hb : Binds X.K fd ps ds) (hd : Vals dvs ds)
    (hx : PassesAt CX X σ (E σ)) (I : Inv X pins σ H s) (r : Vals vs us)
    (h : ∀ x dx, H x = none → H dx = none → dx ≠ x → sp (.ref x :: (vs ++ dvs)) (upd (upd H dx (.own x)) x (.ins C dx [])) (fun v H2 => v = .non ∧ Q (.ref x) H2) (E σ)) :
    wpAny (model X.prog X.w) X.A (call (.ref C) us) (EP X pins σ Q) X.xe s := by
  have hq := h (s.heap.objs.size + 1) s.heap.objs.size (I.hok.fresh (Nat.le_succ _)) (I.hok.fresh (Nat.le_refl _)) (Nat.ne_of_lt (Nat.lt_succ_self _))
  have I2 := Inv.made (C := C) I
  have r2 : Vals (V.ref (s.heap.objs.size + 1) :: (vs ++ dvs)) (Value.ref (s.heap.objs.size + 1) :: (us ++ ds)) := .cons rfl (r.append hd)
  have hl : (Value.ref (s.heap.objs.size + 1) :: us ++ ds).length = ps.length := by
    have e := r2.length
    rw [F.len _ _ _ _ hq] at e
    exact e.symm
  refine wpAny_call (make_map (f := f) I.kIn M.makes M.init (beq_iff_eq.mp M.fn) (codeAny_mono (F.run _ X.stack _ _ ⟨Value.ref (s.heap.objs.size + 1) :: us, []⟩ (Value.ref (s.heap.objs.size + 1) :: (us ++ ds)) _ _ (E σ) (hr.make C us [])
    (I2.env0.make C us []) (hb _ (Value.ref (s.heap.objs.size + 1) :: us) I2.kIn hl) r2 hq) fun r s' hq' => ?_))
  cases r with
  | error e => exact hx pins _ _ e s' I2 hq'
  | ok fl =>
    cases fl with
    | ret u =>
      obtain ⟨v, H', I3, rv, ev, q3⟩ := I2.after hq'
      subst ev
      exact ⟨rv, ⟨V.ref (s.heap.objs.size + 1), H', I3, rfl, q3⟩⟩
    | next => exact False.elim hq'
    | brk => exact False.elim hq'
    | cont => exact False.elim hq'
theorem pe_makeS (M : Mk X.K C f) (F : FnOk X.prog X.w X.K X.mg X.base CX k f fd ps sp) (hr : Room (k + 1) X.A) (hg : Gl X x) (hm : X.mg x = some (.ref C)) (hb : Binds X.K fd ps ds) (hd : Vals dvs ds) (hx : ∀ σ, PassesAt CX X σ (E σ))
    (ha : PA X (e :: es) t) (hdb : (x == ("__debug__" : Str)) = false := by decide) (he : starEach (e :: es) X.env = (false, eval e X.env) :: starEach es X.env := by rfl) (hpl : (backTo pos (starEach es X.env)).any (·.1) = false := by rfl) :
    PE X (.Call (.Name x p) (e :: es) [] pos) (tMakeS C sp dvs E t) := by
  refine ⟨fun pins s σ H Q I h => ?_⟩
  refine wpAny_Call_Name_kw (ld_glob I hg hm ?_ hdb)
  refine PySem.W.callWith_K (h₀ := X.base) I.ok.mod.kin M.kp (thn (ha.run pos pins s σ H _ I h) fun us s1 ⟨vs, H1, I1, r, q⟩ => ⟨I1.kIn, ?_⟩) he hpl
  exact run_makeS M F hr hb hd (hx σ) I1 r q
/-- o.m(e, ..) | o.m() likewise -/
def tMethSD (C : Addr) (m : Str) (sp : Sp) (dvs : List V) (E : St → XK) (ta : TE) (t : TA) : TE := fun σ H Q => ta σ H fun x H1 => ∃ a dx fs, x = .ref a ∧ H1 a = some (.ins C dx fs) ∧ fs.lookup m = none ∧
  t σ H1 fun vs H2 => sp (x :: (vs ++ dvs)) H2 Q (E σ)
theorem pe_methSD {pl : Sem Bool} (he : PE X o ta) (c : Cls X.K C) (hm : Meth X.K C m f) (F : FnOk X.prog X.w X.K X.mg X.base CX k f fd ps sp) (hr : Room k X.A) (hb : Binds X.K fd ps ds) (hd : Vals dvs ds) (hx : ∀ σ, PassesAt CX X σ (E σ)) (ha : PA X (e :: es) t)
    (hst : starEach (e :: es) X.env = (false, eval e X.env) :: starEach es X.env := by rfl) (hpl : (backTo pos (starEach es X.env)).any (·.1) = false := by rfl)
    (ht : eval (.Call (.Attribute o m apos) (e :: es) [] pos) X.env = (do
      let ov ← eval o X.env
      standAt apos.atName
      let (f, first) ← holding [ov] (getMethod ov m pl)
      callWith pos f first (backTo pos (starEach (e :: es) X.env)) (backToKw pos (keywordEach [] X.env))) := by rfl) :
    PE X (.Call (.Attribute o m apos) (e :: es) [] pos) (tMethSD C m sp dvs E ta t) := by
  refine ⟨fun pins s σ H Q I h => ?_⟩
  refine PySem.W.methodCall_KW (pl := pl) (thn (he.run pins s σ H _ I h) fun u s1 ⟨x, H1, I1, rx, a, dx, fs, ex, ea, l, q⟩ => ?_) ht
  subst ex
  obtain rfl : u = Value.ref a := rx
  refine getmeth_ok I1 ea c hm l ?_
  refine PySem.W.callWith_K (first := [.ref a]) (h₀ := X.base) I.ok.mod.kin hm.kp (thn (ha.run pos pins s1 σ H1 _ I1 q) fun us s2 ⟨vs, H2, I2, r, q2⟩ => ⟨I2.kIn, ?_⟩) hst hpl
  exact run_fnSD (us := .ref a :: us) (vs := .ref a :: vs) F hr hb hd (hx σ) I2 (.cons rfl r) q2
theorem pe_methSD0 {pl : Sem Bool} (he : PE X o ta) (c : Cls X.K C) (hm : Meth X.K C m f) (F : FnOk X.prog X.w X.K X.mg X.base CX k f fd ps sp) (hr : Room k X.A) (hb : Binds X.K fd ps ds) (hd : Vals dvs ds) (hx : ∀ σ, PassesAt CX X σ (E σ))
    (ht : eval (.Call (.Attribute o m apos) [] [] pos) X.env = (do
      let ov ← eval o X.env
      standAt apos.atName
      let (f, first) ← holding [ov] (getMethod ov m pl)
      callWith pos f first (backTo pos (starEach [] X.env)) (backToKw pos (keywordEach [] X.env))) := by rfl) :
    PE X (.Call (.Attribute o m apos) [] [] pos) (tMethSD C m sp dvs E ta tNil) := by
  refine ⟨fun pins s σ H Q I h => ?_⟩
  refine PySem.W.methodCall_KW (pl := pl) (thn (he.run pins s σ H _ I h) fun u s1 ⟨x, H1, I1, rx, a, dx, fs, ex, ea, l, q⟩ => ?_) ht
  subst ex
  obtain rfl : u = Value.ref a := rx
  refine getmeth_ok I1 ea c hm l ?_
  exact PySem.W.callWith_K0 (first := [.ref a]) I1.kIn hm.kp (run_fnSD (us := [.ref a]) (vs := [.ref a]) F hr hb hd (hx σ) I1 (.cons rfl .nil) q)
end

/-! ### own errors with one field -/
/-- what __init__ of such an error does: self.f = v -/
def spXI (C : Addr) (f : Str) : Sp := fun vs H Q _ => ∃ (a : Addr) (y : V), vs = [.ref a, y] ∧ H a = some (exo a C none) ∧ ∀ dx, H dx = none → dx ≠ a → Q .non (upd (upd H dx (exd dx [(f, y)])) a (exo a C (some dx)))
/-- all that is asked of the class x of errors at C, whose field is f -/
structure XCls (P : Program) (w : World) (K : PySem.W.Frag) (mg : Str → Option Value) (base : Heap) (x f : Str) (C : Addr) : Prop where
  ox : OexC K C
  gC : mg x = some (.ref C)
  noA : PySem.W.findIn K (.ref C) f = some none
  ec : ExcC K C
  ini : ∃ (fI : Addr) (fd : FuncData), PySem.W.findIn K (.ref C) "__init__" = some (some (.ref fI)) ∧ PySem.W.typeIn K (.ref fI) = some (.type "function") ∧ FnOk P w K mg base CX0 1 fI fd ["self", f] (spXI C f) ∧ Binds K fd ["self", f] []
theorem XCls.xf {P : Program} {w : World} {K : PySem.W.Frag} {mg : Str → Option Value} {base : Heap} {x f : Str} {C : Addr} (T : XCls P w K mg base x f C) : XfC K C := ⟨T.ec.hg, T.ec.hk, T.ec.hs, T.ec.hd⟩
section
variable {X : Cx} {C : Addr} {x f : Str} {e : Expr} {te : TE} {p pos pos2 : Pos}
theorem pmk_X (T : XCls X.prog X.w X.K X.mg X.base x f C) (hr : Room 2 X.A) (he : PE X e te) (hg : Gl X x) (hdb : (x == ("__debug__" : Str)) = false := by decide)
    (hs : starEach [e] X.env = (false, eval e X.env) :: starEach [] X.env := by rfl) (hpl : (backTo pos (starEach [] X.env)).any (·.1) = false := by rfl) :
    PMk X (.Call (.Name x p) [e] [] pos) (tMkO C (spXI C f) [] (tCons te tNil)) := by
  obtain ⟨fI, fd, i1, i2, F, b⟩ := T.ini
  exact pmk_oex (dvs := []) (ds := []) T.ox i1 i2 F hr b .nil pass0 hg T.gC (pa_cons he pa_nil hs) hdb hs hpl
/-- what is left to be shown behind the argument y -/
theorem mkX_fin {H1 : Hp} {y : V} {Q : XK} (h : ∀ d, H1 d = none → Q (.ref C) (some d) (upd H1 d (.xd [(f, y)]))) :
    [y].length ≤ 1000 ∧ ∀ a, H1 a = none → spXI C f (.ref a :: ([y] ++ [])) (upd H1 a (exo a C none))
      (fun v H2 => v = .non ∧ ∃ (d : Addr) (fs : List (Str × V)), H2 a = some (exo a C (some d)) ∧ H2 d = some (exd d fs) ∧ H1 d = none ∧ Q (.ref C) (some d) (upd (del H2 a) d (.xd fs))) (fun _ _ _ => False) := by
  refine ⟨by show 1 ≤ 1000; decide, fun a ha => ⟨a, y, rfl, upd_same, fun dx hdx hne => ⟨rfl, dx, [(f, y)], upd_same, ?_, ?_, ?_⟩⟩⟩
  · rw [upd_ne hne, upd_same]
  · rw [upd_ne hne] at hdx
    exact hdx
  · have hdx' : H1 dx = none := by
      rw [upd_ne hne] at hdx
      exact hdx
    have e : upd (del (upd (upd (upd H1 a (exo a C none)) dx (exd dx [(f, y)])) a (exo a C (some dx))) a) dx (.xd [(f, y)]) = upd H1 dx (.xd [(f, y)]) := by
      funext b
      by_cases hb : b = dx
      · rw [hb, upd_same, upd_same]
      · rw [upd_ne hb, upd_ne hb]
        by_cases hba : b = a
        · rw [hba, del_same, ha]
        · rw [del_ne hba, upd_ne hba, upd_ne hb, upd_ne hba]
    rw [e]
    exact h dx hdx'
end
end L2

set_option Elab.async false
set_option maxRecDepth 100000
set_option maxHeartbeats 4000000
namespace L2
open PySem PySem.Spec PyProof.Rows
section
variable (P : Program) (w : World) (K : PySem.W.Frag) (mg : Str → Option Value) (base : Heap)
/-- a def of the top, as the text has it -/
structure DefAt (x : Str) (st : Stmt) (ps : List Str) : Prop where
  ex : ∃ (f : Addr) (fd : FuncData), Fun K x x st f fd ∧ mg x = some (.ref f) ∧ Binds K fd ps []
/-- a def of the top that keeps its promise -/
structure Own (CX : CXT) (x : Str) (k : Nat) (ps : List Str) (sp : Sp) : Prop where
  ex : ∃ (f : Addr) (fd : FuncData), FnOk P w K mg base CX k f fd ps sp ∧ mg x = some (.ref f) ∧ PySem.W.keepIn K (.ref f) = true ∧ Binds K fd ps []
/-- a method of the class at C, as the text has it; one that keeps its promise -/
structure MethAt (C : Addr) (m qual : Str) (st : Stmt) (ps : List Str) : Prop where
  ex : ∃ (f : Addr) (fd : FuncData), Fun K m qual st f fd ∧ PySem.W.findIn K (.ref C) m = some (some (.ref f)) ∧ PySem.W.isFn K (.ref f) = true ∧ Binds K fd ps []
structure OwnM (CX : CXT) (C : Addr) (m : Str) (k : Nat) (ps : List Str) (sp : Sp) : Prop where
  ex : ∃ (f : Addr) (fd : FuncData), FnOk P w K mg base CX k f fd ps sp ∧ Meth K C m f ∧ PySem.W.isFn K (.ref f) = true ∧ Binds K fd ps []
/-- a class of the top with an own __init__ that keeps its promise -/
structure OwnC (CX : CXT) (x : Str) (C : Addr) (k : Nat) (ps : List Str) (sp : Sp) : Prop where
  ex : ∃ (f : Addr) (fd : FuncData), FnOk P w K mg base CX k f fd ps sp ∧ Mk K C f ∧ mg x = some (.ref C) ∧ Binds K fd ps []
end
section
variable {P : Program} {w : World} {K : PySem.W.Frag} {mg : Str → Option Value} {base : Heap} {CX : CXT} {x m qual : Str} {k : Nat} {ps : List Str} {sp : Sp} {st : Stmt} {C : Addr}
theorem DefAt.own (D : DefAt K mg x st ps) (h : ∀ f fd, Fun K x x st f fd → FnOk P w K mg base CX k f fd ps sp) : Own P w K mg base CX x k ps sp := by
  obtain ⟨f, fd, F, hm, hb⟩ := D.ex
  exact ⟨f, fd, h f fd F, hm, F.kp, hb⟩
theorem MethAt.own (D : MethAt K C m qual st ps) (h : ∀ f fd, Fun K m qual st f fd → FnOk P w K mg base CX k f fd ps sp) : OwnM P w K mg base CX C m k ps sp := by
  obtain ⟨f, fd, F, hm, hi, hb⟩ := D.ex
  exact ⟨f, fd, h f fd F, ⟨hm, hi, F.kp⟩, hi, hb⟩
theorem MethAt.cls (D : MethAt K C "__init__" qual st ps) (h : ∀ f fd, Fun K "__init__" qual st f fd → FnOk P w K mg base CX k f fd ps sp) (m1 : PySem.W.makesIn K C = true) (m2 : PySem.W.keepIn K (.ref C) = true) (m3 : mg x = some (.ref C)) :
    OwnC P w K mg base CX x C k ps sp := by
  obtain ⟨f, fd, F, hm, hi, hb⟩ := D.ex
  exact ⟨f, fd, h f fd F, ⟨m1, hm, hi, m2⟩, m3, hb⟩
end
section
variable {X : Cx} {CX : CXT} {x m : Str} {k : Nat} {ps : List Str} {sp : Sp} {e o : Expr} {es : List Expr} {t : TA} {ta : TE} {p pos apos : Pos} {C : Addr}
theorem pe_own (O : Own X.prog X.w X.K X.mg X.base CX x k ps sp) (hr : Room k X.A) (hx : Passes CX X E0) (ha : PA X (e :: es) t) (hg : Gl X x := by rfl) (hdb : (x == ("__debug__" : Str)) = false := by decide)
    (he : starEach (e :: es) X.env = (false, eval e X.env) :: starEach es X.env := by rfl) (hpl : (backTo pos (starEach es X.env)).any (·.1) = false := by rfl) : PE X (.Call (.Name x p) (e :: es) [] pos) (tCall sp [] E0 t) := by
  obtain ⟨f, fd, F, hm, hk, hb⟩ := O.ex
  exact pe_call F hr hg hm hk hb .nil hx ha hdb he hpl
theorem pe_own0 (O : Own X.prog X.w X.K X.mg X.base CX x k ps sp) (hr : Room k X.A) (hx : Passes CX X E0) (hg : Gl X x := by rfl) (hdb : (x == ("__debug__" : Str)) = false := by decide) : PE X (.Call (.Name x p) [] [] pos) (tCall sp [] E0 tNil) := by
  obtain ⟨f, fd, F, hm, hk, hb⟩ := O.ex
  exact pe_call0 F hr hg hm hk hb .nil hx hdb
/-- one that may raise; W is wished for what it raises -/
theorem pe_ownS {W : WX} (O : Own X.prog X.w X.K X.mg X.base (L2.CX X.prog X.w) x k ps sp) (hr : Room k X.A) (tk : Takes X W) (ha : PA X (e :: es) t) (hg : Gl X x := by rfl) (hdb : (x == ("__debug__" : Str)) = false := by decide)
    (he : starEach (e :: es) X.env = (false, eval e X.env) :: starEach es X.env := by rfl) (hpl : (backTo pos (starEach es X.env)).any (·.1) = false := by rfl) : PE X (.Call (.Name x p) (e :: es) [] pos) (tCallS sp (WE W) t) := by
  obtain ⟨f, fd, F, hm, hk, hb⟩ := O.ex
  exact pe_callS F hr hg hm hk hb (fun σ => passAt tk σ) ha hdb he hpl
theorem pe_new (O : OwnC X.prog X.w X.K X.mg X.base CX x C k ps sp) (hr : Room (k + 1) X.A) (hx : Passes CX X E0) (ha : PA X (e :: es) t) (hg : Gl X x := by rfl) (hdb : (x == ("__debug__" : Str)) = false := by decide)
    (he : starEach (e :: es) X.env = (false, eval e X.env) :: starEach es X.env := by rfl) (hpl : (backTo pos (starEach es X.env)).any (·.1) = false := by rfl) : PE X (.Call (.Name x p) (e :: es) [] pos) (tMake C sp [] E0 t) := by
  obtain ⟨f, fd, F, M, hm, hb⟩ := O.ex
  exact pe_make M F hr hg hm hb .nil hx ha hdb he hpl
theorem pe_newS {W : WX} (O : OwnC X.prog X.w X.K X.mg X.base (L2.CX X.prog X.w) x C k ps sp) (hr : Room (k + 1) X.A) (tk : Takes X W) (ha : PA X (e :: es) t) (hg : Gl X x := by rfl) (hdb : (x == ("__debug__" : Str)) = false := by decide)
    (he : starEach (e :: es) X.env = (false, eval e X.env) :: starEach es X.env := by rfl) (hpl : (backTo pos (starEach es X.env)).any (·.1) = false := by rfl) : PE X (.Call (.Name x p) (e :: es) [] pos) (tMakeS C sp [] (WE W) t) := by
  obtain ⟨f, fd, F, M, hm, hb⟩ := O.ex
  exact pe_makeS M F hr hg hm hb .nil (fun σ => passAt tk σ) ha hdb he hpl
theorem pe_gint {n : Int} (hm : ∃ t, X.mg x = some (.int n t)) (hg : Gl X x := by rfl) (hd : (x == ("__debug__" : Str)) = false := by decide) : PE X (.Name x pos) (tC (.int n)) := by
  obtain ⟨t, hm⟩ := hm
  exact pe_glob hg hm ⟨t, rfl⟩ hd
theorem pe_gcls (hm : X.mg x = some (.ref C)) (hg : Gl X x := by rfl) (hd : (x == ("__debug__" : Str)) = false := by decide) : PE X (.Name x pos) (tC (.ref C)) := pe_glob hg hm rfl hd
end
/-! ### ==, != by own methods, len -/
section
variable {X : Cx} {CX : CXT} {k : Nat} {C : Addr} {ps : List Str} {sp : Sp}
structure NeM (K : PySem.W.Frag) (C : Addr) : Prop where
  ne : PySem.W.findIn K (.ref C) "__ne__" = some (some (.builtin "object.__ne__"))
  ob : PySem.W.mroIn K C (.type "object") = some true
theorem eqO (O : OwnM X.prog X.w X.K X.mg X.base CX C "__eq__" k ps sp) (N : NeM X.K C) (hr : Room k X.A) (hx : Passes CX X E0) : OpR X (compareOp .Eq) (rEqO X.K C sp) := by
  obtain ⟨f, fd, F, M, hi, hb⟩ := O.ex
  exact op_eqO F ⟨M.at_, hi, N.ne, N.ob⟩ hr hb hx
theorem neO (O : OwnM X.prog X.w X.K X.mg X.base CX C "__eq__" k ps sp) (N : NeM X.K C) (hr : Room (k + 1) X.A) (hx : Passes CX X E0) : OpR X (compareOp .NotEq) (rNeO X.K C sp) := by
  obtain ⟨f, fd, F, M, hi, hb⟩ := O.ex
  exact op_neO F ⟨M.at_, hi, N.ne, N.ob⟩ hr hb hx
theorem lenO (O : OwnM X.prog X.w X.K X.mg X.base CX C "__len__" k ps sp) (hr : Room (k + 1) X.A) (hx : Passes CX X E0) : CallR X (.builtin "len") (rLenO C sp) := by
  obtain ⟨f, fd, F, M, hi, hb⟩ := O.ex
  exact call_lenO F M.at_ hi hr hb hx
end
end L2

set_option Elab.async false
set_option maxRecDepth 100000
set_option maxHeartbeats 4000000
/-! kinds of plain values; their isinstance -/
namespace L2
open PySem PySem.Spec PyProof.Rows
inductive Knd | int | bool | none | str | list | tuple
  deriving DecidableEq
def Knd.name : Knd → String
  | .int => "int" | .bool => "bool" | .none => "NoneType" | .str => "str" | .list => "list" | .tuple => "tuple"
def KndOf (H : Hp) (v : V) : Knd → Prop
  | .int => ∃ n, v = .int n
  | .bool => ∃ b, v = .bl b
  | .none => v = .non
  | .str => ∃ s, v = .str s
  | .list => ∃ a xs, v = .ref a ∧ H a = some (.lst xs)
  | .tuple => ∃ a xs, v = .ref a ∧ H a = some (.tup xs)
def Knd.isInt : Knd → Bool | .int => true | .bool => true | _ => false
def Knd.isBool : Knd → Bool | .bool => true | _ => false
def Knd.isSeq : Knd → Bool | .list => true | .tuple => true | _ => false
def Knd.isTup : Knd → Bool | .tuple => true | _ => false
def Knd.isList : Knd → Bool | .list => true | _ => false
def Knd.isStr : Knd → Bool | .str => true | _ => false
section
variable {K : PySem.W.Frag} {H : Hp} {v : V} {k : Knd}
theorem knd_ty (h : KndOf H v k) : TyX K H v (.type k.name) := by
  cases k with
  | int => obtain ⟨n, rfl⟩ := h; exact .base (.int n)
  | bool => obtain ⟨n, rfl⟩ := h; exact .base (.bl n)
  | none => cases h; exact .base .non
  | str => obtain ⟨n, rfl⟩ := h; exact .base (.str n)
  | list => obtain ⟨a, xs, rfl, e⟩ := h; exact .base (.lst e)
  | tuple => obtain ⟨a, xs, rfl, e⟩ := h; exact .base (.tup e)
theorem knd_int : PySem.W.kitOne K (.type k.name) (.type "int") = some k.isInt := by cases k <;> exact kit_ty (by decide +kernel)
theorem knd_bool : PySem.W.kitOne K (.type k.name) (.type "bool") = some k.isBool := by cases k <;> exact kit_ty (by decide +kernel)
theorem knd_tup : PySem.W.kitOne K (.type k.name) (.type "tuple") = some k.isTup := by cases k <;> exact kit_ty (by decide +kernel)
theorem knd_list : PySem.W.kitOne K (.type k.name) (.type "list") = some k.isList := by cases k <;> exact kit_ty (by decide +kernel)
theorem knd_str : PySem.W.kitOne K (.type k.name) (.type "str") = some k.isStr := by cases k <;> exact kit_ty (by decide +kernel)
theorem knd_seq : PySem.W.kitAny K (.type k.name) [.type "list", .type "tuple"] = some k.isSeq := by
  cases k
  case list => exact kitAny_cons knd_list (by intro h; cases h) (fun _ => rfl)
  case tuple => exact kitAny_cons knd_list (fun _ => kitAny_cons knd_tup (by intro h; cases h) (fun _ => rfl)) (by intro h; cases h)
  all_goals exact kitAny_cons knd_list (fun _ => kitAny_cons knd_tup (fun _ => kitAny_nil) (by intro h; cases h)) (by intro h; cases h)
theorem KndOf.ext {H' : Hp} (h : KndOf H v k) (e : Ext H H') : KndOf H' v k := by
  cases k with
  | list => obtain ⟨a, xs, r, q⟩ := h; exact ⟨a, xs, r, e _ _ q⟩
  | tuple => obtain ⟨a, xs, r, q⟩ := h; exact ⟨a, xs, r, e _ _ q⟩
  | _ => exact h
theorem ki (n : Int) : KndOf H (.int n) .int := ⟨n, rfl⟩
theorem kb (n : Bool) : KndOf H (.bl n) .bool := ⟨n, rfl⟩
theorem kn : KndOf H .non .none := rfl
theorem ks (n : Str) : KndOf H (.str n) .str := ⟨n, rfl⟩
end
/-- a value that is an int from a to b -/
def betw (v : V) (a b : Int) : Bool := match v with
  | .int n => decide (a ≤ n) && decide (n ≤ b)
  | _ => false
theorem betw_int {n a b : Int} : betw (.int n) a b = (decide (a ≤ n) && decide (n ≤ b)) := rfl
theorem betw_not {H : Hp} {v : V} {k : Knd} {a b : Int} (h : KndOf H v k) (hk : (k.isInt && !k.isBool) = false) : betw v a b = false := by
  cases k with
  | int => cases hk
  | bool => obtain ⟨n, rfl⟩ := h; rfl
  | none => cases h; rfl
  | str => obtain ⟨n, rfl⟩ := h; rfl
  | list => obtain ⟨n, xs, rfl, _⟩ := h; rfl
  | tuple => obtain ⟨n, xs, rfl, _⟩ := h; rfl
theorem knd_yes {k : Knd} (h : (k.isInt && !k.isBool) = true) : k = .int := by cases k <;> first | rfl | cases h
/-! ### isinstance, read -/
section
variable {K : PySem.W.Frag} {σ : St} {H : Hp} {v : V} {k : Knd} {Q : VK} {te : TE}
theorem v_isI (hk : KndOf H v k) {b : Bool} {c : String} (e : PySem.W.kitOne K (.type k.name) (.type c) = some b) (q : Q (.bl b) H) : rIsi K [v, .ty c] H Q :=
  ⟨v, .ty c, .type k.name, .type c, b, rfl, .ty c, knd_ty hk, e, q⟩
end
end L2

set_option Elab.async false
set_option maxRecDepth 100000
set_option maxHeartbeats 4000000
namespace L2
open PySem PySem.Spec PyProof.Rows
section
variable {K : PySem.W.Frag} {C : Addr}
theorem no_ref (l : List String) : (l.map Value.type).contains (Value.ref C) = false := by
  induction l with
  | nil => rfl
  | cons a l ih =>
    rw [List.map_cons, List.contains_cons, ih]
    rfl
theorem sub_ty_ref {T : String} (h : (fastFind? T).isSome = true) : PySem.W.subIn K (.type T) (.ref C) = some false := by
  obtain ⟨r, hr⟩ := Option.isSome_iff_exists.mp h
  show (fastBuiltinMro T).map (·.contains (Value.ref C)) = some false
  unfold fastBuiltinMro
  rw [hr]
  show some ((r.mro.map Value.type).contains (Value.ref C)) = some false
  rw [no_ref]
theorem knd_find (k : Knd) : (fastFind? k.name).isSome = true := by cases k <;> decide +kernel
/-- all that is asked of an own plain class x at C -/
structure ClsX (K : PySem.W.Frag) (mg : Str → Option Value) (x : Str) (C : Addr) : Prop where
  gC : mg x = some (.ref C)
  cl : Cls K C
  ha : PySem.W.findIn K (.ref C) "__class__" = some (some (.builtin "object.__class__"))
  hn : PySem.W.specialIn K (.builtin "object.__class__") "__get__" = some (some (.builtin "getset_descriptor.__get__"))
  htk : PySem.W.takesIn K (.builtin "object.__class__") = some true
  hm : PySem.W.mroIn K C (.type "object") = some true
  ne : PySem.W.findIn K (.ref C) "__ne__" = some (some (.builtin "object.__ne__"))
  is : PySem.W.isClsIn K C = true
  ty : PySem.W.typeIn K (.ref C) = some (.type "type")
  tup : PySem.W.subIn K (.ref C) (.type "tuple") = some false
  lst : PySem.W.subIn K (.ref C) (.type "list") = some false
  int : PySem.W.subIn K (.ref C) (.type "int") = some false
  str : PySem.W.subIn K (.ref C) (.type "str") = some false
variable {mg : Str → Option Value} {x : Str}
theorem ClsX.neM (T : ClsX K mg x C) : NeM K C := ⟨T.ne, T.hm⟩
theorem ClsX.tyOf (T : ClsX K mg x C) {H : Hp} {a dx : Addr} {fs : List (Str × V)} (e : H a = some (.ins C dx fs)) : TyX K H (.ref a) (.ref C) := .base (.ins e T.cl T.ha T.hn T.htk T.hm)
theorem ClsX.me (_ : ClsX K mg x C) : PySem.W.kitOne K (.ref C) (.ref C) = some true := if_pos (beq_self_eq_true _)
theorem ClsX.nfMe (_ : ClsX K mg x C) : PySem.W.notFirst K C (.ref C) = true := by
  show (Value.ref C == Value.ref C || _) = true
  rw [beq_self_eq_true]
  rfl
theorem ClsX.kitB (T : ClsX K mg x C) {t : Value} {b : Bool} (h : PySem.W.subIn K t (.ref C) = some b) (hne : (t == .ref C) = false) : PySem.W.kitOne K t (.ref C) = some b := by
  have e : ((PySem.W.clsIn K C).isSome && PySem.W.typeIn K (.ref C) == some (.type "type")) = true := by
    have h1 : (PySem.W.clsIn K C).isSome = true := T.is
    rw [h1, T.ty]
    rfl
  show (if (t == Value.ref C) = true then some true else if ((PySem.W.clsIn K C).isSome && PySem.W.typeIn K (.ref C) == some (.type "type")) = true then PySem.W.subIn K t (.ref C) else none) = some b
  rw [hne, if_neg Bool.false_ne_true, if_pos e]
  exact h
theorem ClsX.kitK (T : ClsX K mg x C) (k : Knd) : PySem.W.kitOne K (.type k.name) (.ref C) = some false := T.kitB (sub_ty_ref (knd_find k)) rfl
theorem ClsX.nfK (_ : ClsX K mg x C) (k : Knd) : PySem.W.notFirst K C (.type k.name) = true := by
  show (Value.type k.name == Value.ref C || PySem.W.subIn K (.type k.name) (.ref C) == some false) = true
  rw [sub_ty_ref (knd_find k)]
  exact Bool.or_eq_true_iff.mpr (.inr (by decide))
theorem kit_meta {T : String} {b : Bool} (h : PySem.W.subIn K (.ref C) (.type T) = some b) (hm : PySem.W.kitMeta T = true) : PySem.W.kitOne K (.ref C) (.type T) = some b := by
  show (if (Value.ref C == Value.type T) = true then some true else if PySem.W.kitMeta T = true then PySem.W.subIn K (.ref C) (.type T) else none) = some b
  rw [show (Value.ref C == Value.type T) = false from rfl, if_neg Bool.false_ne_true, if_pos hm]
  exact h
theorem ClsX.kTup (T : ClsX K mg x C) : PySem.W.kitOne K (.ref C) (.type "tuple") = some false := kit_meta T.tup (by decide +kernel)
theorem ClsX.kInt (T : ClsX K mg x C) : PySem.W.kitOne K (.ref C) (.type "int") = some false := kit_meta T.int (by decide +kernel)
theorem ClsX.kLst (T : ClsX K mg x C) : PySem.W.kitOne K (.ref C) (.type "list") = some false := kit_meta T.lst (by decide +kernel)
theorem ClsX.kStr (T : ClsX K mg x C) : PySem.W.kitOne K (.ref C) (.type "str") = some false := kit_meta T.str (by decide +kernel)
end
/-! ### an own error's class, from what the top has written -/
section
variable {P : Program} {w : World} {K : PySem.W.Frag} {mg : Str → Option Value} {base : Heap} {x f : Str} {C : Addr}
/-- what k_is finds of the class -/
structure XAt (K : PySem.W.Frag) (mg : Str → Option Value) (x f : Str) (C : Addr) (st : Stmt) (qual : Str) : Prop where
  ox : OexC K C
  gC : mg x = some (.ref C)
  noA : PySem.W.findIn K (.ref C) f = some none
  ec : ExcC K C
  tI : ∃ fI, PySem.W.findIn K (.ref C) "__init__" = some (some (.ref fI)) ∧ PySem.W.typeIn K (.ref fI) = some (.type "function") ∧ ∃ fd, Fun K "__init__" qual st fI fd ∧ Binds K fd ["self", f] []
theorem XAt.cls {st : Stmt} {qual : Str} (T : XAt K mg x f C st qual) (h : ∀ fI fd, Fun K "__init__" qual st fI fd → FnOk P w K mg base CX0 1 fI fd ["self", f] (spXI C f)) : XCls P w K mg base x f C := by
  obtain ⟨fI, i1, i2, fd, F, b⟩ := T.tI
  exact ⟨T.ox, T.gC, T.noA, T.ec, fI, fd, i1, i2, h fI fd F, b⟩
end
/-! ### fields -/
section
theorem lk_put {f g : Str} {v : V} {fs : List (Str × V)} : List.lookup g ((f, v) :: fs) = if (g == f) = true then some v else List.lookup g fs := by
  simp only [List.lookup]
  split
  · rename_i h; rw [h, if_pos rfl]
  · rename_i h; rw [h, if_neg Bool.false_ne_true]
end
end L2

set_option Elab.async false
set_option maxRecDepth 100000
set_option maxHeartbeats 4000000
/-! plain data: lists and tuples of flat values, compared -/
namespace L2
open PySem PySem.Spec PyProof.Rows
def pd : V → PyData
  | .int i => .int i
  | .bl b => .bool b
  | .str s => .str s
  | _ => .none
/-- flat, its text (if it is one) within the model's signs -/
def Fl : V → Prop
  | .int _ => True
  | .bl _ => True
  | .non => True
  | .str s => PySem.PyData.canLay0 (.str s) = true
  | _ => False
section
variable {K : PySem.W.Frag} {H : Hp} {v u : V}
theorem dp_fl (h : Fl v) : Dp K H v (pd v) := by
  cases v <;> first | exact .int _ | exact .bl _ | exact .str _ | exact .non | exact h.elim
theorem dp_all : ∀ {vs : List V}, (∀ v ∈ vs, Fl v) → DpAll K H vs (vs.map pd)
  | [], _ => .nil
  | v :: vs, h => .cons (dp_fl (h v List.mem_cons_self)) (dp_all fun u hu => h u (List.mem_cons_of_mem _ hu))
theorem lay_fl (h : Fl v) : (pd v).canLay0 = true := by
  cases v <;> first | rfl | exact h | exact h.elim
theorem dep_fl : (pd v).depth = 0 := by cases v <;> rfl
theorem lay_all : ∀ {vs : List V}, (∀ v ∈ vs, Fl v) → PyData.canLayAll0 (vs.map pd) = true ∧ PyData.depthAll (vs.map pd) = 0
  | [], _ => ⟨rfl, rfl⟩
  | v :: vs, h => by
    obtain ⟨a, b⟩ := lay_all (vs := vs) fun u hu => h u (List.mem_cons_of_mem _ hu)
    constructor
    · show ((pd v).canLay0 && PyData.canLayAll0 (vs.map pd)) = true
      rw [lay_fl (h v List.mem_cons_self), a]
      rfl
    · show max (pd v).depth (PyData.depthAll (vs.map pd)) = 0
      rw [dep_fl, b]
      rfl
theorem shp_fl (h : Fl v) : SeqAt.shaped (pd v) = true := by
  show ((pd v).canLay0 && decide ((pd v).depth ≤ 64)) = true
  rw [lay_fl h, dep_fl]
  rfl
theorem shp_tup {vs : List V} (h : ∀ v ∈ vs, Fl v) : SeqAt.shaped (.tuple (vs.map pd)) = true := by
  obtain ⟨a, b⟩ := lay_all h
  show (PyData.canLayAll0 (vs.map pd) && decide (PyData.depthAll (vs.map pd) + 1 ≤ 64)) = true
  rw [a, b]
  rfl
theorem shp_lst {vs : List V} (h : ∀ v ∈ vs, Fl v) : SeqAt.shaped (.list (vs.map pd)) = true := by
  obtain ⟨a, b⟩ := lay_all h
  show (PyData.canLayAll0 (vs.map pd) && decide (PyData.depthAll (vs.map pd) + 1 ≤ 64)) = true
  rw [a, b]
  rfl
theorem fl_int (n : Int) : Fl (.int n) := trivial
theorem fl_ints {ns : List Int} : ∀ v ∈ ns.map V.int, Fl v := fun v hv => by
  obtain ⟨n, _, rfl⟩ := List.mem_map.mp hv
  trivial
theorem eqv_ints : ∀ (ns ms : List Int), PyData.eqvAll ((ns.map V.int).map pd) ((ms.map V.int).map pd) = decide (ns = ms)
  | [], [] => rfl
  | [], _ :: _ => rfl
  | _ :: _, [] => rfl
  | n :: ns, m :: ms => by
    show ((n == m) && PyData.eqvAll ((ns.map V.int).map pd) ((ms.map V.int).map pd)) = decide (n :: ns = m :: ms)
    rw [eqv_ints ns ms, Bool.eq_iff_iff]
    simp
/-- the same values are equal data -/
theorem eqv_same : ∀ {vs : List V}, (∀ v ∈ vs, Fl v) → PyData.eqvAll (vs.map pd) (vs.map pd) = true
  | [], _ => rfl
  | v :: vs, h => by
    show (PyData.eqv (pd v) (pd v) && PyData.eqvAll (vs.map pd) (vs.map pd)) = true
    rw [eqv_same (vs := vs) fun u hu => h u (List.mem_cons_of_mem _ hu), Bool.and_true]
    cases v <;> first | rfl | (show (_ == _) = true; exact beq_self_eq_true _)
/-- two tuples compared (op_eqD, op_neD): what is left -/
theorem eqD_tup {p q : Addr} {vs us : List V} {Q : VK} (hp : SqT K H p vs) (hq : SqT K H q us) (fv : ∀ v ∈ vs, Fl v) (fu : ∀ v ∈ us, Fl v) (h : Q (.bl (PyData.eqvAll (vs.map pd) (us.map pd))) H) : rEqD K (.ref p) (.ref q) H Q :=
  ⟨_, _, .tup hp (dp_all fv), .tup hq (dp_all fu), shp_tup fv, shp_tup fu, h⟩
theorem neD_tup {p q : Addr} {vs us : List V} {Q : VK} (hp : SqT K H p vs) (hq : SqT K H q us) (fv : ∀ v ∈ vs, Fl v) (fu : ∀ v ∈ us, Fl v) (h : Q (.bl (!PyData.eqvAll (vs.map pd) (us.map pd))) H) : rNeD K (.ref p) (.ref q) H Q :=
  ⟨_, _, .tup hp (dp_all fv), .tup hq (dp_all fu), shp_tup fv, shp_tup fu, h⟩
theorem eqD_lst {p q : Addr} {vs us : List V} {Q : VK} (hp : SqL K H p vs) (hq : SqL K H q us) (fv : ∀ v ∈ vs, Fl v) (fu : ∀ v ∈ us, Fl v) (h : Q (.bl (PyData.eqvAll (vs.map pd) (us.map pd))) H) : rEqD K (.ref p) (.ref q) H Q :=
  ⟨_, _, .lst hp (dp_all fv), .lst hq (dp_all fu), shp_lst fv, shp_lst fu, h⟩
theorem neD_lst {p q : Addr} {vs us : List V} {Q : VK} (hp : SqL K H p vs) (hq : SqL K H q us) (fv : ∀ v ∈ vs, Fl v) (fu : ∀ v ∈ us, Fl v) (h : Q (.bl (!PyData.eqvAll (vs.map pd) (us.map pd))) H) : rNeD K (.ref p) (.ref q) H Q :=
  ⟨_, _, .lst hp (dp_all fv), .lst hq (dp_all fu), shp_lst fv, shp_lst fu, h⟩
end
end L2

set_option Elab.async false
set_option maxRecDepth 100000
set_option maxHeartbeats 4000000
namespace L2
open PySem PySem.Spec PyProof.Rows
section
variable {X : Cx}
/-- range(j), kept -/
theorem cr_range1 : CallR X (.type "range") (fun vs H Q => ∃ j, vs = [V.int j] ∧ ∀ p, H p = none → Q (.ref p) (upd H p (.rng 0 j))) := by
  intro pins s σ H vs us Q I r h
  obtain ⟨j, rfl, q⟩ := h
  obtain ⟨u1, rfl, rj⟩ := vals1 r
  obtain ⟨t, rfl⟩ := rj
  refine call_range_1 ⟨.ref s.heap.objs.size, upd H s.heap.objs.size (.rng 0 j), I.laid (t' := s.toks + 1 + 1) (fun b o e => Heap.get?_push_of_some _ e) (Nat.le_refl _) ?_, rfl, q _ (I.hok.fresh (Nat.le_refl _))⟩
  exact ⟨s.toks, t, s.toks + 1, Heap.get?_push_size _ rfl⟩
/-- len of a range -/
theorem call_lenR : CallR X (.builtin "len") (fun xs H Q => ∃ a lo hi, xs = [.ref a] ∧ H a = some (.rng lo hi) ∧ (hi - lo).toNat < 2 ^ 62 ∧ Q (.int ((hi - lo).toNat : Int)) H) := by
  intro pins s σ H xs us Q I r h
  obtain ⟨a, lo, hi, rfl, ha, hz, q⟩ := h
  rw [Vals.ref1 r]
  obtain ⟨t, u, v, ho⟩ := I.hok a _ ha
  exact call_len_range (n := (hi - lo).toNat) ho (rangeSize_nat lo hi) (by omega) ⟨.int ((hi - lo).toNat : Int), H, I.tok _, ⟨_, rfl⟩, q⟩
/-- sum of a tuple of ints -/
def rSumT (K : PySem.W.Frag) : List V → Hp → VK → Prop := fun vs H Q => ∃ (a : Addr) (ns : List Int), vs = [V.ref a] ∧ SqT K H a (ns.map V.int) ∧ Q (.int ns.sum) H
theorem cr_sumT (hc : X.calm = true) : CallR X (.builtin "sum") (rSumT X.K) := by
  intro pins s σ H vs us Q I r h
  obtain ⟨a, ns, rfl, hs, q⟩ := h
  obtain ⟨its, rv, hl, _⟩ := I.tuple hs
  rw [Vals.ref1 r]
  have hi := rv.ints
  obtain ⟨xs, e⟩ := hi.allInts.items
  have hn : numsOf (intItems xs).toList = ns := by rw [← e]; exact hi.numsOf
  rw [nums_intItems] at hn
  rw [e] at hl
  refine PySem.W.ktm_sumG (I.ok.hd hc) hl fun h' tk t' hk => ?_
  rw [preSum_eq, List.take_of_length_le (by simp), hn]
  exact ⟨.int ns.sum, H, I.kept hk, ⟨_, rfl⟩, q⟩
end
end L2

set_option Elab.async false
set_option maxRecDepth 100000
set_option maxHeartbeats 4000000
namespace L2
open PySem PySem.Spec PyProof.Rows
/-- a list or tuple at p of the items xs -/
def Sq (H : Hp) (p : Addr) (xs : List V) : Prop := H p = some (.lst xs) ∨ H p = some (.tup xs)
section
variable {K : PySem.W.Frag} {H H' : Hp} {p : Addr} {xs : List V}
theorem Sq.k (h : Sq H p xs) : ∃ k, KndOf H (.ref p) k ∧ k.isSeq = true := by
  rcases h with h | h
  · exact ⟨.list, ⟨p, xs, rfl, h⟩, rfl⟩
  · exact ⟨.tuple, ⟨p, xs, rfl, h⟩, rfl⟩
theorem Sq.ext (h : Sq H p xs) (e : Ext H H') : Sq H' p xs := h.imp (e _ _) (e _ _)
theorem Sq.l (h : Sq H p xs) : SqL K H p xs ∨ SqT K H p xs := h.imp SqL.of SqT.of
theorem ext_mut {D : Addr} {o : HO} (e : Ext H H') (h : H D = none) : Ext H (upd H' D o) := fun a u ha => by
  rw [upd_ne (ne_of_none ha h)]
  exact e a u ha
theorem ext_none {D : Addr} (e : Ext H H') (h : H' D = none) : H D = none := by
  cases h1 : H D with
  | none => rfl
  | some o =>
    rw [e D o h1] at h
    cases h
end
section
variable {X : Cx} {tg : Expr}
/-- a list or a tuple is walked -/
def iSq (K : PySem.W.Frag) (tl : TE) : TI := fun σ H R => tl σ H fun x H1 => ∃ a, x = .ref a ∧ (((∃ xs, SqL K H1 a xs) ∧ R (Itl K a) H1) ∨ ((∃ xs, SqT K H1 a xs) ∧ R (Itt K a) H1))
theorem pi_sq {l : Expr} {tl : TE} (hl : PE X l tl) : PI X tg l (iSq X.K tl) := by
  refine ⟨fun pins s σ H R I h => ?_⟩
  refine thn (hl.run pins s σ H _ I h) fun v s1 ⟨x, H1, I1, r1, q1⟩ => ?_
  obtain ⟨a, e, q1⟩ := q1
  subst e
  cases r1
  rcases q1 with ⟨⟨xs, hq⟩, q⟩ | ⟨⟨xs, hq⟩, q⟩
  · obtain ⟨its, rv, p, hz⟩ := I1.list hq
    refine wpAny_pyIter_list p.isList ?_
    refine ⟨s1.heap.objs.size, [s1.heap.objs.size], _, _, H1, rfl, I1.kept (t' := s1.toks) fun b o e => Heap.get?_push_of_some _ e, turn_list a _, ⟨_, Heap.get?_push_size _ rfl, rfl, rfl⟩, fun b hb => ?_, q⟩
    have e : b = s1.heap.objs.size := by simpa using hb
    subst e
    exact I1.fpOk (Nat.le_refl _) (I1.hok.fresh (Nat.le_refl _))
  · obtain ⟨its, rv, p, hz⟩ := I1.tuple hq
    refine wpAny_pyIter_tuple (show s1.heap.IsTuple a its.toArray from p) ?_
    refine ⟨s1.heap.objs.size, [s1.heap.objs.size], _, _, H1, rfl, I1.kept (t' := s1.toks) fun b o e => Heap.get?_push_of_some _ e, turn_tuple a _, ⟨_, Heap.get?_push_size _ rfl, rfl, rfl⟩, fun b hb => ?_, q⟩
    have e : b = s1.heap.objs.size := by simpa using hb
    subst e
    exact I1.fpOk (Nat.le_refl _) (I1.hok.fresh (Nat.le_refl _))
end
section
variable {K : PySem.W.Frag} {σ : St} {H : Hp} {p : Addr} {xs : List V} {te : TE} {tt : TT} {j : Nat} {vs : List Nat} {Q : VK}
theorem take_snoc {α : Type} {l : List α} {i : Nat} {x : α} (h : l[i]? = some x) : l.take (i + 1) = l.take i ++ [x] := by
  rw [List.take_add_one, h]
  rfl
/-- [f(x) for x in xs if b(x)], what is tested and made only adding to the heap: the reading behind the source's own -/
theorem lc_sqR {Qd : Addr → Hp → Prop} {f : V → V} {b : V → Bool} (hx : Sq H p xs) (hz : xs.length < sizeLine) (hw : ∀ x, wipe ((wipe σ vs).set j (some x)) vs = wipe σ vs)
    (ht : ∀ x ∈ xs, ∀ H', Ext H H' → ∀ Q : Bool → Hp → Prop, (∀ H'', Ext H' H'' → Q (b x) H'') → tt ((wipe σ vs).set j (some x)) H' Q)
    (he : ∀ x ∈ xs, b x = true → ∀ H', Ext H H' → ∀ Q : VK, (∀ H'', Ext H' H'' → Q (f x) H'') → te ((wipe σ vs).set j (some x)) H' Q)
    (q : ∀ D H', H D = none → Ext H H' → H' D = some (.lst ((xs.filter b).map f)) → Qd D H') :
    ((∃ xs, SqL K H p xs) ∧ (fun J H1 => ∀ D, H1 D = none → ∃ W : Nat → Nat → Hp → Prop, (∃ m, W 0 m (upd H1 D (.lst []))) ∧ ∀ i m H, W i m H →
      (J.stop i H ∧ Qd D H) ∨ (J.go i H ∧ ∃ Nx : Hp → Prop, (∀ H', Nx H' → ∃ m', m' < m ∧ W (i + 1) m' H') ∧ ∀ x H', J.yld i H x H' → gName j x (wipe σ vs) H' fun σ2 H2 => wipe σ2 vs = wipe σ vs ∧ tt σ2 H2 fun b H3 =>
        if b = true then te σ2 H3 fun y H4 => ∃ acc, H4 D = some (.lst acc) ∧ acc.length < sizeLine ∧ Nx (upd H4 D (.lst (acc ++ [y]))) else Nx H3)) (Itl K p) H) ∨
    ((∃ xs, SqT K H p xs) ∧ (fun J H1 => ∀ D, H1 D = none → ∃ W : Nat → Nat → Hp → Prop, (∃ m, W 0 m (upd H1 D (.lst []))) ∧ ∀ i m H, W i m H →
      (J.stop i H ∧ Qd D H) ∨ (J.go i H ∧ ∃ Nx : Hp → Prop, (∀ H', Nx H' → ∃ m', m' < m ∧ W (i + 1) m' H') ∧ ∀ x H', J.yld i H x H' → gName j x (wipe σ vs) H' fun σ2 H2 => wipe σ2 vs = wipe σ vs ∧ tt σ2 H2 fun b H3 =>
        if b = true then te σ2 H3 fun y H4 => ∃ acc, H4 D = some (.lst acc) ∧ acc.length < sizeLine ∧ Nx (upd H4 D (.lst (acc ++ [y]))) else Nx H3)) (Itt K p) H) := by
  have turn : ∀ (D : Addr), H D = none → ∀ i x H', xs[i]? = some x → (Ext H H' ∧ H' D = some (.lst (((xs.take i).filter b).map f))) → gName j x (wipe σ vs) H' fun σ2 H2 => wipe σ2 vs = wipe σ vs ∧ tt σ2 H2 fun b' H3 =>
      if b' = true then te σ2 H3 fun y H4 => ∃ acc, H4 D = some (.lst acc) ∧ acc.length < sizeLine ∧ (Ext H (upd H4 D (.lst (acc ++ [y]))) ∧ upd H4 D (.lst (acc ++ [y])) D = some (.lst (((xs.take (i + 1)).filter b).map f))) else (Ext H H3 ∧ H3 D = some (.lst (((xs.take (i + 1)).filter b).map f))) := by
    intro D hD i x H' hi pv
    obtain ⟨e, hl⟩ := pv
    have hm : x ∈ xs := List.mem_of_getElem? hi
    refine ⟨hw x, ht x hm H' e _ fun H3 e3 => ?_⟩
    have hl3 : H3 D = some (.lst (((xs.take i).filter b).map f)) := e3 _ _ hl
    cases hb : b x with
    | true =>
      refine iteT (he x hm hb H3 (e.trans e3) _ fun H4 e4 => ⟨_, e4 _ _ hl3, ?_, ext_mut ((e.trans e3).trans e4) hD, ?_⟩)
      · rw [List.length_map]
        refine Nat.lt_of_le_of_lt (Nat.le_trans (List.length_filter_le _ _) ?_) hz
        exact List.length_take_le' _ _
      · rw [upd_same, take_snoc hi, List.filter_append, List.map_append]
        simp [hb]
    | false =>
      refine iteF ⟨e.trans e3, ?_⟩
      rw [hl3, take_snoc hi, List.filter_append, List.map_append]
      simp [hb]
  have fin : ∀ D, H D = none → ∀ H', (Ext H H' ∧ H' D = some (.lst (((xs.take xs.length).filter b).map f))) → Qd D H' := fun D hD H' pv => by
    rw [List.take_length] at pv
    exact q D H' hD pv.1 pv.2
  rcases hx with hx | hx
  · refine .inl ⟨⟨xs, SqL.of hx⟩, fun D hD => lc_list (xs := xs) (fun i H' => Ext H H' ∧ H' D = some (.lst (((xs.take i).filter b).map f))) ⟨Ext.upd hD, upd_same⟩ (fun i H' _ pv => SqL.of (pv.1 _ _ hx)) (fun i x H' hi pv => turn D hD i x H' hi pv) (fun H' pv => fin D hD H' pv)⟩
  · refine .inr ⟨⟨xs, SqT.of hx⟩, fun D hD => lc_tup (xs := xs) (fun i H' => Ext H H' ∧ H' D = some (.lst (((xs.take i).filter b).map f))) ⟨Ext.upd hD, upd_same⟩ (fun i H' _ pv => SqT.of (pv.1 _ _ hx)) (fun i x H' hi pv => turn D hD i x H' hi pv) (fun H' pv => fin D hD H' pv)⟩
end
theorem filter_all {α : Type} (l : List α) : l.filter (fun _ => true) = l := List.filter_eq_self.mpr fun _ _ => rfl
end L2

set_option Elab.async false
set_option maxRecDepth 100000
set_option maxHeartbeats 4000000
/-! enumerate over a list or a tuple -/
namespace PySem
open Sem (wp)
/-- the maker of enumerate, handed one thing whose iterator is told -/
theorem en1_meets {v : Value} {ob : Obj} {HP : Heap → Prop} (BG : Begins v ob HP) :
    Meets (Builtin.«enumerate.__new__» ⟨[.type "enumerate", v], []⟩) (fun _ RR sh => HP sh.heap ∧
      RR (.ok (.ret (.ref (sh.heap.push ob).objs.size)))
        { sh with heap := (sh.heap.push ob).push { cls := .type "enumerate", data := .fields #[.none, .bool false, .ref sh.heap.objs.size, rawInt 0, .none, .none] } }) :=
  .of_wp fun pr ww AA RR sh hh => by
    obtain ⟨hp, gg, dd, tk, os⟩ := sh
    obtain ⟨hh1, hh⟩ := hh
    have sub1 := sub_enumerate
    have begin1 : ∀ {A1 : Around} {E1 Q1 : Value → Shared → Prop}, Q1 (.ref hp.objs.size) ⟨hp.push ob, gg, dd, tk, os⟩ →
        wpAny (model pr ww) A1 (pyIter v) Q1 E1 ⟨hp, gg, dd, tk, os⟩ :=
      fun qq => BG.iter pr ww _ _ ⟨hp, gg, dd, tk, os⟩ _ hh1 qq
    wp_walk using begin1
    refine wpAny_stack_any fun sta => wpAny_pure ?_
    split
    · rename_i cc _ _ _ _ _
      cases (cc == Value.type "enumerate")
      all_goals
        wp_walk using begin1
        exact ⟨_, rfl, hh⟩
    · wp_walk using begin1
      exact ⟨_, rfl, hh⟩
section
variable {pr : Program} {ww : World} {AA : Around} {EE : Value → Shared → Prop} {sh : Shared}
theorem en1_call {v : Value} {ob : Obj} {HP : Heap → Prop} {QQ : Value → Shared → Prop} (BG : Begins v ob HP) (hh : HP sh.heap)
    (kk : ∀ h1, IsEnum h1 (sh.heap.objs.size + 1) sh.heap.objs.size 0 .none → h1.get? sh.heap.objs.size = some ob →
      (∀ x y, sh.heap.get? x = some y → h1.get? x = some y) → QQ (.ref (sh.heap.objs.size + 1)) { sh with heap := h1 }) :
    wpAny (model pr ww) AA (call (.type "enumerate") [v]) QQ EE sh := by
  refine callType_new F.called_enumerate (by decide) (F.typeCall_enumerate_1 _) (F.newCall_enumerate_1 _) (fun oo => F.args_object_init_2 oo _) F.entry_enumerate_new (en1_meets BG) ⟨hh, ?_⟩
  have sz : (sh.heap.push ob).objs.size = sh.heap.objs.size + 1 := Heap.size_push ..
  show _ ∧ _
  rw [sz]
  have en : IsEnum ((sh.heap.push ob).push { cls := .type "enumerate", data := .fields #[.none, .bool false, .ref sh.heap.objs.size, rawInt 0, .none, .none] })
      (sh.heap.objs.size + 1) sh.heap.objs.size 0 .none := by
    have qq := Heap.get?_push_size (sh.heap.push ob) (o := { cls := .type "enumerate", data := .fields #[.none, .bool false, .ref sh.heap.objs.size, rawInt 0, .none, .none] }) rfl
    rw [sz] at qq
    exact qq
  exact ⟨⟨_, en, rfl⟩, kk _ en (Heap.get?_push_of_some _ (Heap.get?_push_size _ BG.free)) fun x y hx => Heap.get?_push_of_some _ (Heap.get?_push_of_some _ hx)⟩
end
end PySem
namespace L2
open PySem PySem.Spec PyProof.Rows
/-- the tuple at a, each item in a new pair with its place -/
def Itet (K : PySem.W.Frag) (a : Addr) : It :=
  ⟨fun i H => ∃ xs : List V, SqT K H a xs ∧ i < xs.length,
    fun i H v H' => ∃ T x, v = .ref T ∧ H T = none ∧ H' = upd H T (.tup [.int (i : Nat), x]) ∧ ∀ xs, SqT K H a xs → xs[i]? = some x,
    fun i H => ∃ xs : List V, SqT K H a xs ∧ xs.length = i⟩
theorem turn_enT {P : Program} {w : World} {K : PySem.W.Frag} {elts : List Expr} {kk : Nat} {tpos : Pos} (a e it : Addr) (hea : e ≠ a) (hia : a ≠ it) :
    Turn P w K (.Tuple elts kk tpos) (Itet K a) [e, it] e (fun i h => (∃ old, IsEnum h e it ((i : Nat) : Int) old) ∧ h.IsTupleIter it a i ∧ e ≠ it) where
  mem := List.mem_cons_self
  obj := fun i h st b hb => by
    obtain ⟨⟨old, he⟩, ⟨o, ho, _, hd⟩, _⟩ := st
    rcases List.mem_cons.mp hb with z | z
    · subst z
      exact ⟨_, he, fun v q => nomatch q⟩
    · have z' := List.mem_singleton.mp z
      subst z'
      exact ⟨o, ho, fun v q => by rw [hd] at q; cases q⟩
  keep := fun i h h' st k => by
    obtain ⟨⟨old, he⟩, hi, hne⟩ := st
    exact ⟨⟨old, k e List.mem_cons_self _ he⟩, hi.at fun o q => k it (List.mem_cons_of_mem _ (List.mem_singleton.mpr rfl)) o q, hne⟩
  item := by
    intro X hP hw hK hc i pins s σ H E I hf st hg
    subst hP hw hK
    obtain ⟨⟨old, he⟩, hit, hne⟩ := st
    obtain ⟨xs, hq, hx⟩ := hg
    obtain ⟨its, rv, p, hz⟩ := I.tuple hq
    have hl := rv.length
    have hel : e < s.heap.objs.size := Heap.lt_size he
    have hil : it < s.heap.objs.size := by
      obtain ⟨_, q, _⟩ := hit
      exact Heap.lt_size q
    have D := Draws.tuple (prog := X.prog) (w := X.w) (A := X.A.in1) (show X.A.in1.handled = none from I.ok.hd hc) it a hia its.toArray
    refine wpAny_pyNext_enum_itemC D he (i := i) ⟨hit, p⟩ (by simp; omega) hne (by simp [hne, hea]) fun u h' tk hP ho hst' hT hsz hk => ?_
    have hu : its[i]? = some u := by simpa using hP
    obtain ⟨x, hxx⟩ : ∃ x, xs[i]? = some x := ⟨_, List.getElem?_eq_getElem hx⟩
    obtain ⟨u', hu', ru'⟩ := rv.get hxx
    have eu : u' = u := Option.some.inj (hu'.symm.trans hu)
    subst eu
    refine ⟨_, rfl, wpAny_letOwnedTupleGo_enum (s := { s with heap := h', toks := tk + 1 }) ho fun h2 he2 sb => ?_⟩
    have hT2 : h2.get? s.heap.objs.size = some { cls := .type "tuple", data := .seq #[.int i tk, u'] } := (sb.2 _ (Nat.ne_of_gt hel)).trans hT
    have new : ObjOk X.prog X.w (upd H s.heap.objs.size (.tup [.int (i : Nat), x])) h2 s.heap.objs.size (.tup [.int (i : Nat), x]) := by
      refine ⟨?_, [.int i tk, u'], .cons ⟨_, rfl⟩ (.cons ru' .nil), ⟨_, hT2, rfl, _, rfl⟩⟩
      show 2 ≤ sizeLine
      decide
    have I1 : Inv X pins σ (upd H s.heap.objs.size (.tup [.int (i : Nat), x])) { s with heap := h2, toks := tk + 1 } := by
      refine I.turnedNew (ch := [e, it]) (fun b ob hb q => ?_) hf (Nat.le_refl _) new
      have b1 : b ≠ e := fun z => hb (by simp [z])
      have b2 : b ≠ it := fun z => hb (by simp [z])
      exact (sb.2 b b1).trans (hk b ob b1 b2 q)
    refine ⟨.ref s.heap.objs.size, _, I1, rfl, ⟨_, x, rfl, I.hok.fresh (Nat.le_refl _), rfl, fun ys hy => ?_⟩, ⟨⟨u', ?_⟩, hst'.1.at fun o q => (sb.2 it (Ne.symm hne)).trans q, hne⟩, fun b hb => ?_⟩
    · obtain ⟨its2, rv2, p2, _⟩ := I.tuple hy
      rw [I.tuple_inj hy hq]
      exact hxx
    · have e1 : ((i + 1 : Nat) : Int) = (i : Int) + 1 := rfl
      rw [e1]
      exact he2
    · have hb' : b < s.heap.objs.size := by
        rcases List.mem_cons.mp hb with z | z
        · rw [z]
          exact hel
        · rw [List.mem_singleton.mp z]
          exact hil
      rw [upd_ne (Nat.ne_of_lt hb')]
      exact (hf b hb).1
  done := by
    intro X hP hw hK hc i pins s σ H E I hf st hg
    subst hP hw hK
    obtain ⟨⟨old, he⟩, hit, hne⟩ := st
    obtain ⟨xs, hq, hx⟩ := hg
    obtain ⟨its, rv, p, hz⟩ := I.tuple hq
    have hl := rv.length
    obtain ⟨f0, f1, f2, f3, f4, f5⟩ := hf it (List.mem_cons_of_mem _ (List.mem_singleton.mpr rfl))
    have D := Draws.tuple (prog := X.prog) (w := X.w) (A := X.A.in1) (show X.A.in1.handled = none from I.ok.hd hc) it a hia its.toArray
    have ei : i = its.toArray.size := by simp; omega
    refine wpAny_pyNext_enum_endD D he (by rw [← ei]; exact ⟨hit, p⟩) fun h' eb => ⟨rfl, ?_⟩
    exact I.turned (t' := s.toks) (fun b o hb q => eb b o hb q) f0 f1 f3 f4 f5
  self := fun A i s Q E st h => by
    obtain ⟨⟨_, he⟩, _⟩ := st
    exact wpAny_pyIter_enum he h
/-- a list or a tuple is walked with the places -/
def iEnSq (K : PySem.W.Frag) (ta : TA) : TI := fun σ H R => ta σ H fun vs H1 => ∃ a, vs = [.ref a] ∧ (((∃ xs, SqL K H1 a xs) ∧ R (Ite K a) H1) ∨ ((∃ xs, SqT K H1 a xs) ∧ R (Itet K a) H1))
theorem pi_enSq {X : Cx} {e : Expr} {ta : TA} {p pos tpos : Pos} {elts : List Expr} {kk : Nat} (hg : Gl X "enumerate") (hm : X.mg "enumerate" = none) (ha : PA X [e] ta) (hs : starEach [e] X.env = [(false, eval e X.env)] := by rfl) :
    PI X (.Tuple elts kk tpos) (.Call (.Name "enumerate" p) [e] [] pos) (iEnSq X.K ta) := by
  refine ⟨fun pins s σ H R I h => ?_⟩
  refine Call_ (ld_blt I hg hm boot_enumerate (PyProof.Rows.callWith_type1 (thn (ha.run pos pins s σ H _ I h) fun us s1 ⟨vs, H1, I1, r1, q1⟩ => ?_) hs rfl))
  obtain ⟨a, ex, q1⟩ := q1
  subst ex
  obtain rfl := Vals.ref1 r1
  have two : ∀ b, b ∈ [s1.heap.objs.size + 1, s1.heap.objs.size] → s1.heap.objs.size ≤ b := fun b hb => by
    rcases List.mem_cons.mp hb with z | z
    · rw [z]
      exact Nat.le_add_right _ _
    · rw [List.mem_singleton.mp z]
      exact Nat.le_refl _
  rcases q1 with ⟨⟨xs, hq⟩, q⟩ | ⟨⟨xs, hq⟩, q⟩
  · obtain ⟨its, rv, p', hz⟩ := I1.list hq
    refine en1_call (begins_list a its.toArray) p'.isList fun h' he hit hk => wpAny_pyIter_enum he ?_
    have I2 : Inv X pins σ H1 { s1 with heap := h' } := I1.kept (t' := s1.toks) hk
    refine ⟨s1.heap.objs.size + 1, [s1.heap.objs.size + 1, s1.heap.objs.size], _, _, H1, rfl, I2, turn_enum a (s1.heap.objs.size + 1) s1.heap.objs.size, ⟨⟨.none, he⟩, ⟨_, hit, rfl, rfl⟩, Nat.succ_ne_self _⟩, fun b hb => ?_, q⟩
    exact I1.fpOk (two b hb) (I1.hok.fresh (two b hb))
  · obtain ⟨its, rv, p', hz⟩ := I1.tuple hq
    have hlt : a < s1.heap.objs.size := by
      obtain ⟨o, ho, _⟩ := (show s1.heap.IsTuple a its.toArray from p')
      exact Heap.lt_size ho
    refine en1_call (begins_tuple a its.toArray) p' fun h' he hit hk => wpAny_pyIter_enum he ?_
    have I2 : Inv X pins σ H1 { s1 with heap := h' } := I1.kept (t' := s1.toks) hk
    refine ⟨s1.heap.objs.size + 1, [s1.heap.objs.size + 1, s1.heap.objs.size], _, _, H1, rfl, I2, turn_enT a (s1.heap.objs.size + 1) s1.heap.objs.size (Nat.ne_of_gt (Nat.lt_succ_of_lt hlt)) (Nat.ne_of_lt hlt), ⟨⟨.none, he⟩, ⟨_, hit, rfl, rfl⟩, Nat.succ_ne_self _⟩, fun b hb => ?_, q⟩
    exact I1.fpOk (two b hb) (I1.hok.fresh (two b hb))
section
variable {K : PySem.W.Frag} {a : Addr} {xs : List V}
theorem walk_enT : Walk (Itet K a) xs.length (fun H => SqT K H a xs) (YPair (fun i => some (.int (i : Nat))) (fun i => xs[i]?)) := by
  refine ⟨fun i _ hi q => ⟨xs, q, hi⟩, fun _ q => ⟨xs, q, rfl⟩, fun i H v H' _ q y => ?_⟩
  obtain ⟨T, x, e1, e2, e3, e4⟩ := y
  exact ⟨T, .int (i : Nat), x, e1, e2, e3, rfl, e4 xs q⟩
/-- the turns of an end: what goes on is N -/
def turnsOf (g : TG) (tb : TS) (D : Ends) (σ : St) (J : It) (H : Hp) : Prop := ∃ W : Nat → Nat → St → Hp → Prop, (∃ m, W 0 m σ H) ∧ ∀ i m σ H, W i m σ H →
  (J.stop i H ∧ D.nx σ H) ∨ (J.go i H ∧ ∃ N : St → Hp → Prop, (∀ σ' H', N σ' H' → ∃ m', m' < m ∧ W (i + 1) m' σ' H') ∧ ∀ x H', J.yld i H x H' → g x σ H' fun σ2 H2 => tb { D with nx := N, ct := N, bk := D.nx } σ2 H2)
theorem for_enSq {g : TG} {tb : TS} {D : Ends} {σ : St} {H : Hp} (hx : SqL K H a xs ∨ SqT K H a xs) (Pv : Nat → St → Hp → Prop) (h0 : Pv 0 σ H) (hE : ∀ i σ' H', Pv i σ' H' → Ext H H')
    (hs : ∀ i x σ' H' T, xs[i]? = some x → Pv i σ' H' → H' T = none → g (.ref T) σ' (upd H' T (.tup [.int (i : Nat), x])) fun σ2 H2 => tb { D with nx := Pv (i + 1), ct := Pv (i + 1), bk := D.nx } σ2 H2) (hd : ∀ σ' H', Pv xs.length σ' H' → D.nx σ' H') :
    ((∃ xs, SqL K H a xs) ∧ turnsOf g tb D σ (Ite K a) H) ∨ ((∃ xs, SqT K H a xs) ∧ turnsOf g tb D σ (Itet K a) H) := by
  have step : ∀ i x σ' H' H'', i < xs.length → Pv i σ' H' → YPair (fun i => some (V.int (i : Nat))) (fun i => xs[i]?) i H' x H'' → g x σ' H'' fun σ2 H2 => tb { D with nx := Pv (i + 1), ct := Pv (i + 1), bk := D.nx } σ2 H2 := by
    rintro i v σ' H' H'' hi pv ⟨T, x, y, rfl, hT, rfl, hx', hy⟩
    cases hx'
    exact hs i y σ' H' T hy pv hT
  rcases hx with hx | hx
  · exact .inl ⟨⟨xs, hx⟩, for_it (walk_enum (xs := xs)) Pv h0 (fun i σ' H' _ pv => hx.ext (hE i σ' H' pv)) step hd⟩
  · exact .inr ⟨⟨xs, hx⟩, for_it (walk_enT (xs := xs)) Pv h0 (fun i σ' H' _ pv => hx.ext (hE i σ' H' pv)) step hd⟩
end
end L2

set_option Elab.async false
set_option maxRecDepth 100000
set_option maxHeartbeats 4000000
/-! values told by the data that they hold -/
namespace L2
open PySem PySem.Spec PyProof.Rows
/-- the type's name -/
def tnD : PyData → String
  | .none => "NoneType" | .bool _ => "bool" | .int _ => "int" | .str _ => "str" | .list _ => "list" | .tuple _ => "tuple" | .dict _ => "dict"
def isIntD : PyData → Bool | .int _ => true | .bool _ => true | _ => false
def isBoolD : PyData → Bool | .bool _ => true | _ => false
def isTupD : PyData → Bool | .tuple _ => true | _ => false
def isListD : PyData → Bool | .list _ => true | _ => false
def isStrD : PyData → Bool | .str _ => true | _ => false
def isSeqD : PyData → Bool | .list _ => true | .tuple _ => true | _ => false
def isNoneD : PyData → Bool | .none => true | _ => false
/-- the int that it is, no truth -/
def betD (d : PyData) (a b : Int) : Bool := match d with
  | .int n => decide (a ≤ n) && decide (n ≤ b)
  | _ => false
def lenD : PyData → Nat | .list ds => ds.length | .tuple ds => ds.length | _ => 0
section
variable {K : PySem.W.Frag} {H H' : Hp} {v : V} {d : PyData}
theorem dp_ty (h : Dp K H v d) : TyX K H v (.type (tnD d)) := by
  cases h with
  | non => exact .base .non
  | bl b => exact .base (.bl b)
  | int i => exact .base (.int i)
  | str s => exact .base (.str s)
  | lst hs _ =>
    rcases hs with (h | ⟨o, h⟩) | ⟨o, its, n, e, c, _⟩
    · exact .base (.lst h)
    · exact .base (.frz h)
    · exact .kList e c
  | tup hs _ =>
    rcases hs with (h | ⟨o, h⟩) | ⟨o, its, n, e, c, _⟩
    · exact .base (.tup h)
    · exact .fTuple h
    · exact .kTuple e c
theorem kd_int : PySem.W.kitOne K (.type (tnD d)) (.type "int") = some (isIntD d) := by cases d <;> exact kit_ty (by dsimp only [tnD, isIntD]; decide +kernel)
theorem kd_bool : PySem.W.kitOne K (.type (tnD d)) (.type "bool") = some (isBoolD d) := by cases d <;> exact kit_ty (by dsimp only [tnD, isBoolD]; decide +kernel)
theorem kd_tup : PySem.W.kitOne K (.type (tnD d)) (.type "tuple") = some (isTupD d) := by cases d <;> exact kit_ty (by dsimp only [tnD, isTupD]; decide +kernel)
theorem kd_list : PySem.W.kitOne K (.type (tnD d)) (.type "list") = some (isListD d) := by cases d <;> exact kit_ty (by dsimp only [tnD, isListD]; decide +kernel)
theorem kd_seq : PySem.W.kitAny K (.type (tnD d)) [.type "list", .type "tuple"] = some (isSeqD d) := by
  unfold PySem.W.kitAny
  rw [kd_list]
  unfold PySem.W.kitAny
  rw [kd_tup]
  cases d <;> rfl
theorem kd_find : (fastFind? (tnD d)).isSome = true := by cases d <;> (dsimp only [tnD]; decide +kernel)
mutual
theorem dp_ext (e : Ext H H') : ∀ (d : PyData) (v : V), Dp K H v d → Dp K H' v d
  | .none, _, h => by cases h; exact .non
  | .bool _, _, h => by cases h; exact .bl _
  | .int _, _, h => by cases h; exact .int _
  | .str _, _, h => by cases h; exact .str _
  | .list ds, _, h => by
    cases h with
    | lst hs ha => exact .lst (hs.ext e) (dps_ext e ds _ ha)
  | .tuple ds, _, h => by
    cases h with
    | tup hs ha => exact .tup (hs.ext e) (dps_ext e ds _ ha)
  | .dict _, _, h => by cases h
theorem dps_ext (e : Ext H H') : ∀ (ds : List PyData) (vs : List V), DpAll K H vs ds → DpAll K H' vs ds
  | [], _, h => by cases h; exact .nil
  | d :: ds, _, h => by
    cases h with
    | cons h1 h2 => exact .cons (dp_ext e d _ h1) (dps_ext e ds _ h2)
end
theorem dps_len : ∀ {vs : List V} {ds : List PyData}, DpAll K H vs ds → vs.length = ds.length
  | [], _, h => by cases h; rfl
  | v :: vs, _, h => by
    cases h with
    | cons _ h2 => exact congrArg Nat.succ (dps_len h2)
theorem dps_get : ∀ {vs : List V} {ds : List PyData} {i : Nat} {v : V}, DpAll K H vs ds → vs[i]? = some v → ∃ d, ds[i]? = some d ∧ Dp K H v d
  | [], _, _, _, _, e => by cases e
  | v :: vs, _, i, _, h, e => by
    cases h with
    | @cons _ _ d ds h1 h2 =>
      cases i with
      | zero => cases e; exact ⟨d, rfl, h1⟩
      | succ i => exact dps_get (i := i) h2 e
theorem bet_int {n a b : Int} : betD (.int n) a b = (decide (a ≤ n) && decide (n ≤ b)) := rfl
theorem bet_not {a b : Int} (h : (isIntD d && !isBoolD d) = false) : betD d a b = false := by cases d <;> first | rfl | cases h
theorem bet_yes {a b : Int} (h : betD d a b = true) : ∃ n, d = .int n ∧ a ≤ n ∧ n ≤ b := by
  cases d <;> first | (rw [bet_int, Bool.and_eq_true, decide_eq_true_eq, decide_eq_true_eq] at h; exact ⟨_, rfl, h.1, h.2⟩) | cases h
theorem int_yes (h : (isIntD d && !isBoolD d) = true) : ∃ n, d = .int n := by cases d <;> first | exact ⟨_, rfl⟩ | cases h
theorem dp_int {n : Int} (h : Dp K H v (.int n)) : v = .int n := by cases h; rfl
theorem dp_seq (h : Dp K H v d) (hs : isSeqD d = true) : ∃ (a : Addr) (xs : List V) (ds : List PyData), v = .ref a ∧ (SqL K H a xs ∨ SqT K H a xs) ∧ DpAll K H xs ds ∧ (d = .list ds ∨ d = .tuple ds) := by
  cases h with
  | lst h ha => exact ⟨_, _, _, rfl, .inl h, ha, .inl rfl⟩
  | tup h ha => exact ⟨_, _, _, rfl, .inr h, ha, .inr rfl⟩
  | _ => cases hs
theorem dp_tup (h : Dp K H v d) (hs : isTupD d = true) : ∃ (a : Addr) (xs : List V) (ds : List PyData), v = .ref a ∧ SqT K H a xs ∧ DpAll K H xs ds ∧ d = .tuple ds := by
  cases h with
  | tup h ha => exact ⟨_, _, _, rfl, h, ha, rfl⟩
  | _ => cases hs
end
/-! ### own methods, called -/
section
variable {X : Cx} {CX : CXT} {m : Str} {k : Nat} {ps : List Str} {sp : Sp} {e o : Expr} {es : List Expr} {t : TA} {ta : TE} {pos apos : Pos} {C : Addr}
theorem pe_ownM0 {pl : Sem Bool} (O : OwnM X.prog X.w X.K X.mg X.base CX C m k ps sp) (he : PE X o ta) (c : Cls X.K C) (hr : Room k X.A) (hx : Passes CX X E0)
    (ht : eval (.Call (.Attribute o m apos) [] [] pos) X.env = (do
      let ov ← eval o X.env
      standAt apos.atName
      let (f, first) ← holding [ov] (getMethod ov m pl)
      callWith pos f first (backTo pos (starEach [] X.env)) (backToKw pos (keywordEach [] X.env))) := by rfl) :
    PE X (.Call (.Attribute o m apos) [] [] pos) (tMeth C m sp [] E0 ta tNil) := by
  obtain ⟨f, fd, F, M, _, hb⟩ := O.ex
  exact pe_meth0 he c M F hr hb .nil hx ht
theorem pe_ownM {pl : Sem Bool} (O : OwnM X.prog X.w X.K X.mg X.base CX C m k ps sp) (he : PE X o ta) (c : Cls X.K C) (hr : Room k X.A) (hx : Passes CX X E0) (ha : PA X (e :: es) t)
    (hst : starEach (e :: es) X.env = (false, eval e X.env) :: starEach es X.env := by rfl) (hpl : (backTo pos (starEach es X.env)).any (·.1) = false := by rfl)
    (ht : eval (.Call (.Attribute o m apos) (e :: es) [] pos) X.env = (do
      let ov ← eval o X.env
      standAt apos.atName
      let (f, first) ← holding [ov] (getMethod ov m pl)
      callWith pos f first (backTo pos (starEach (e :: es) X.env)) (backToKw pos (keywordEach [] X.env))) := by rfl) :
    PE X (.Call (.Attribute o m apos) (e :: es) [] pos) (tMeth C m sp [] E0 ta t) := by
  obtain ⟨f, fd, F, M, _, hb⟩ := O.ex
  exact pe_meth he c M F hr hb .nil hx ha hst hpl ht
end
end L2

set_option Elab.async false
set_option maxRecDepth 100000
set_option maxHeartbeats 4000000
/-! defs that are handed the error that the suite holds; classes made with defaults -/
namespace L2
open PySem PySem.Spec PyProof.Rows
section
variable {X : Cx}
/-- isinstance(e, c), e the held error, anywhere that it is pinned -/
theorem call_isEP {a D : Addr} {cls : Value} {d : Option Addr} {oe : Obj} (hpn : (a, oe) ∈ X.pn) (C : ExcC X.K D) (hz : Zc cls d oe) (hf : ∃ vs, oe.data = .fields vs) : CallR X (.builtin "isinstance") (rIsED X.K D a cls d) := by
  intro pins s σ H xs us Q I r h
  obtain ⟨ec0, hdd, c, cv, b, rfl, hcv, e, q⟩ := h
  subst ec0
  cases r with
  | cons rx rr =>
    cases rr with
    | cons rt rr =>
      cases rr
      cases rx
      have ec := hcv _ rt
      subst ec
      obtain ⟨hget, _⟩ := I.pin (a, oe) (List.mem_append.mpr (.inl hpn))
      obtain ⟨vs, hv⟩ := hf
      have J : ∃ od, PySem.W.InstAt s.heap a oe D od := by
        obtain ⟨oc, od, oda, osl⟩ := oe
        obtain ⟨h1, h2⟩ := hz
        dsimp only at h1 h2 hv
        subst h1 h2 hv
        cases od with
        | none => exact ⟨none, hget, rfl, rfl, trivial⟩
        | some dd =>
          obtain ⟨fs, hfs⟩ := hdd dd rfl
          obtain ⟨mA, hns, _⟩ := (show ObjOk X.prog X.w H s.heap dd (.xd fs) from I.hok dd _ hfs)
          obtain ⟨od, ho, _⟩ := lookIn_ns hns
          exact ⟨some od, hget, rfl, rfl, ho⟩
      exact PySem.W.kia_one (PySem.W.kitx_excD C) I.kIn J e (fun z => nomatch z) fun tk => ⟨.bl b, H, I.kept (t' := tk) fun _ _ z => z, rfl, q⟩
/-- e.f of it -/
theorem pe_xfP {a C : Addr} {oe : Obj} {cls : Value} {d : Option Addr} {e : Expr} {te : TE} {pos : Pos} {n : Str} (hpn : (a, oe) ∈ X.pn) (T : XfC X.K C) (hno : PySem.W.findIn X.K (.ref C) n = some none)
    (hz : Zc cls d oe) (hf : ∃ vs, oe.data = .fields vs) (he : PE X e te) (hb : attributeBase e n X.env (eval e X.env) = eval e X.env := by rfl) :
    PE X (.Attribute e n pos) (tXf a cls d C n te) := by
  refine ⟨fun pins s σ H Q I h => attr_of hb (thn (he.run pins s σ H _ I h) fun u s1 hh => ?_)⟩
  obtain ⟨x, H1, I1, rx, ex, ec, dd, fs, v, ed, ea, l, q⟩ := hh
  subst ex ec ed
  obtain rfl : u = Value.ref a := rx
  obtain ⟨hget, _⟩ := I1.pin (a, oe) (List.mem_append.mpr (.inl hpn))
  obtain ⟨vs, hv⟩ := hf
  obtain ⟨mA, hns, hr⟩ := (show ObjOk X.prog X.w H1 s1.heap dd (.xd fs) from I1.hok dd _ ea)
  obtain ⟨od, ho, hl⟩ := lookIn_ns hns
  obtain ⟨uu, hu, ru⟩ := RelO.some_of (v := v) (o := mA n) (by rw [← l]; exact hr n)
  have ncls : PySem.W.notCls oe = true := by
    unfold PySem.W.notCls
    rw [hv] <;> rfl
  have J : PySem.W.InstAt s1.heap a oe C (some od) := ⟨hget, hz.1, ncls, by rw [hz.2]; exact ho⟩
  have fo := PySem.W.findObj_own T.hdC hno (od := od) rfl (by rw [hl, hu])
  exact HandSPX.exc_get I1.kIn J T.ga T.gg T.exC fo (handed_of ru) ⟨v, H1, I1.tok _, ru, q⟩
end
end L2
namespace L2H
open PySem PySem.Spec PyProof.Rows L2 HotX
/-- such a def: its promise speaks of the held error, too -/
structure FnE (P : Program) (w : World) (K : PySem.W.Frag) (mg : Str → Option Value) (base : Heap) (CX : CXT) (k : Nat) (f : Addr) (fd : FuncData) (ps : List Str) (sp : Addr × Obj → Sp) : Prop where
  len : ∀ p vs H Q E, sp p vs H Q E → vs.length = ps.length
  run : ∀ (p : Addr × Obj) (AA : Around) (outer : List Env) (sh : Shared) (H : Hp) (args : Args) (us : List Value) (vs : List V) (Q : VK) (E : XK), RoomH k AA → PinOk outer H sh p → Env0 P w K mg base AA outer sh H →
    BindsTo sh fd args (ps.zip us) → Vals vs us → sp p vs H Q E → codeAny (model P w) AA (.call (.ref f) args) (CR CX outer P w H sh Q E) sh
section
variable {CX : CXT} {P : Program} {w : World} {K : PySem.W.Frag} {mg : Str → Option Value} {base : Heap} {k : Nat} {f : Addr} {fd : FuncData} {x qual : Str} {st : Stmt} {N ps : List Str} {sp : Addr × Obj → Sp}
theorem fnE_of (F : Fun K x qual st f fd) (S : FnScope N ps (defScope st)) (len : ∀ p vs H Q E, sp p vs H Q E → vs.length = ps.length)
    (hbody : ∀ (p : Addr × Obj) (cdv : Value) (AA : Around) (outer : List Env) (sh : Shared) (H : Hp) (vs : List V) (Q : VK) (E : XK), RoomH k (AA.deeper (envOfC qual (defScope st) sh.heap.objs.size f cdv)) → sp p vs H Q E →
      ∃ t, PSs (cxH CX P w K mg base N qual (defScope st) f cdv AA outer sh H E p) (defBody st) t ∧ t { nx := fun _ H' => Q .non H', rt := Q } (L2.start N vs) H) : FnE P w K mg base CX (k + 1) f fd ps sp := by
  obtain ⟨oc, od, kV, doc, pm, an, cdv, ct, osl, rfl, lk, hcd⟩ := F.ex
  refine ⟨len, fun p AA outer sh H args us vs Q E hr hpin e0 hb r hsp => ?_⟩
  have hl := len _ _ _ _ _ hsp
  have KX : K.In sh.heap := e0.mod.kin.keeps fun b o e => (e0.bs b o e).1
  have lim : sh.heap.NoLimit := e0.mod.nolimit.keeps fun b o e => (e0.bs b o e).1
  have binds : ∀ y ∈ ps.zip us, (defScope st).names.lookup y.1 = some .local ∨ ((defScope st).names.lookup y.1 = some .cell ∧ ((cellsFrom (sh.heap.objs.size + 1) (defScope st).names []).lookup y.1).isSome = true) := by
    rintro ⟨n, v⟩ hy
    rcases S.par n (List.of_mem_zip hy).1 with q | q
    · exact .inl q
    · exact .inr ⟨q, PySem.W.cellsFrom_some _ _ _ (.inl q)⟩
  refine codeAny_call_function hr.depth (KX _ _ lk) rfl S.co S.gen rfl (PySem.W.codeRec_of KX hcd) (hb _ _ _ _ ?_)
  refine wpAny_newFunctionEnv_cells S.kind binds fun env he s1 xx => ?_
  subst he
  refine ⟨lim.keeps xx.toInCall.keep, codeAny_func ?_⟩
  obtain ⟨t, ht, hq⟩ := hbody p cdv AA outer sh H vs Q E (hr.deeper _) hsp
  have I := inv_startH (CX := CX) (E := E) S hpin e0 hl r xx
  refine wpAny_mono (ht.run [] s1 (L2.start N vs) H _ I hq) (fun fl s' hs => ?_) fun _ _ hs => hs
  cases fl with
  | ret u =>
    obtain ⟨v, σ', H', J, rv, q⟩ := hs
    exact ⟨v, H', J.os, J.bare, J.base, J.hok, rv, q⟩
  | next =>
    obtain ⟨σ', H', J, q⟩ := hs
    exact ⟨V.non, H', J.os, J.bare, J.base, J.hok, rfl, q⟩
  | brk =>
    obtain ⟨_, _, _, q⟩ := hs
    exact q.elim
  | cont =>
    obtain ⟨_, _, _, q⟩ := hs
    exact q.elim
end
section
variable {X : Cx} {CX : CXT} {k : Nat} {f : Addr} {fd : FuncData} {ps : List Str} {sp : Addr × Obj → Sp} {x : Str} {q pos : Pos} {e : Expr} {es : List Expr} {t : TA} {p : Addr × Obj}
/-- f(e, ..) in the suite that holds p -/
theorem pe_callE (F : FnE X.prog X.w X.K X.mg X.base CX k f fd ps sp) (hr : RoomH k X.A) (hp : p ∈ X.pn) (hg : Gl X x) (hm : X.mg x = some (.ref f)) (hk : PySem.W.keepIn X.K (.ref f) = true) (hb : Binds X.K fd ps []) (hx : Passes CX X E0)
    (ha : PA X (e :: es) t) (hdb : (x == ("__debug__" : Str)) = false := by decide) (he : starEach (e :: es) X.env = (false, eval e X.env) :: starEach es X.env := by rfl) (hpl : (backTo pos (starEach es X.env)).any (·.1) = false := by rfl) :
    PE X (.Call (.Name x q) (e :: es) [] pos) (tCall (sp p) [] E0 t) := by
  refine ⟨fun pins s σ H Q I h => wpAny_Call_Name_kw (ld_glob I hg hm ?_ hdb)⟩
  refine PySem.W.callWith_K (h₀ := X.base) I.ok.mod.kin hk (thn (ha.run pos pins s σ H _ I h) fun us s1 ⟨vs, H1, I1, r, hsp⟩ => ⟨I1.kIn, ?_⟩) he hpl
  have hsp : sp p vs H1 Q E0 := by
    have z : sp p (vs ++ []) H1 Q E0 := hsp
    rwa [List.append_nil] at z
  have hl : us.length = ps.length := by
    rw [← r.length]
    exact F.len _ _ _ _ _ hsp
  have bd := hb s1 us I1.kIn (by rw [List.append_nil]; exact hl)
  rw [List.append_nil] at bd
  have P1 := I1.pin p (List.mem_append.mpr (.inl hp))
  have hpin : PinOk X.stack H1 s1 p := ⟨P1.1, P1.2.1, fun hm => (List.mem_cons.mp (I1.stkSub p.1 hm)).elim P1.2.2.1 P1.2.2.2.1, P1.2.2.2.2⟩
  refine wpAny_call (codeAny_mono (F.run p X.A X.stack s1 H1 ⟨us, []⟩ us vs Q E0 hr hpin I1.env0 bd r hsp) fun rr s' hq => ?_)
  match rr, hq with
  | .error ee, hq => exact hx pins σ H1 s1 ee s' I1 hq
  | .ok (.ret u), hq => exact I1.after hq
  | .ok .next, hq => exact hq.elim
  | .ok .brk, hq => exact hq.elim
  | .ok .cont, hq => exact hq.elim
end
end L2H
namespace L2
open PySem PySem.Spec PyProof.Rows
/-- a class of the top whose __init__ has defaults, dvs those that fill up -/
structure OwnCD (P : Program) (w : World) (K : PySem.W.Frag) (mg : Str → Option Value) (base : Heap) (CX : CXT) (x : Str) (C : Addr) (k : Nat) (ps : List Str) (sp : Sp) (dvs : List V) : Prop where
  ex : ∃ (f : Addr) (fd : FuncData) (ds : List Value), FnOk P w K mg base CX k f fd ps sp ∧ Mk K C f ∧ mg x = some (.ref C) ∧ Binds K fd ps ds ∧ Vals dvs ds
section
variable {X : Cx} {CX : CXT} {x : Str} {k : Nat} {ps : List Str} {sp : Sp} {e : Expr} {es : List Expr} {t : TA} {p pos : Pos} {C : Addr} {dvs : List V}
theorem pe_newD (O : OwnCD X.prog X.w X.K X.mg X.base CX x C k ps sp dvs) (hr : Room (k + 1) X.A) (hx : Passes CX X E0) (ha : PA X (e :: es) t) (hg : Gl X x := by rfl) (hdb : (x == ("__debug__" : Str)) = false := by decide)
    (he : starEach (e :: es) X.env = (false, eval e X.env) :: starEach es X.env := by rfl) (hpl : (backTo pos (starEach es X.env)).any (·.1) = false := by rfl) : PE X (.Call (.Name x p) (e :: es) [] pos) (tMake C sp dvs E0 t) := by
  obtain ⟨f, fd, ds, F, M, hm, hb, hv⟩ := O.ex
  exact pe_make M F hr hg hm hb hv hx ha hdb he hpl
end
end L2

set_option Elab.async false
set_option maxRecDepth 100000
set_option maxHeartbeats 4000000
/-! a op b op c op d -/
namespace L2
open PySem PySem.Spec PyProof.Rows
def tCh3 (r r' r2 : R2) (ta tb tc td : TE) : TE := fun σ H Q => ta σ H fun x H1 => tb σ H1 fun y H2 => r x y H2 fun z H3 => ∃ k, z = .bl k ∧
  (if k = true then tc σ H3 fun u H4 => r' y u H4 fun z' H5 => ∃ k', z' = .bl k' ∧ (if k' = true then td σ H5 fun v H6 => r2 u v H6 Q else Q (.bl false) H5) else Q (.bl false) H3)
section
variable {X : Cx} {a b c d : Expr} {pos : Pos} {ta tb tc td : TE} {op op' op2 : CmpOp} {r r' r2 : R2}
theorem pe_chain3 (ho : OpR X (compareOp op) r) (ho' : OpR X (compareOp op') r') (ho2 : OpR X (compareOp op2) r2) (ha : PE X a ta) (hb : PE X b tb) (hc : PE X c tc) (hd : PE X d td)
    (hm : lastMarks [op, op', op2] [b, c, d] = false := by with_unfolding_all rfl) : PE X (.Compare a [op, op', op2] [b, c, d] pos) (tCh3 r r' r2 ta tb tc td) := by
  refine ⟨fun pins s σ H Q I h => ?_⟩
  refine Compare_chain (thn (ha.run pins s σ H _ I h) fun v s1 ⟨x, H1, I1, r1, q1⟩ => chain_link (thn (hb.run pins s1 σ H1 _ I1 q1) fun u s2 ⟨y, H2, I2, r2', q2⟩ =>
    thn (ho pins s2 σ H2 x y v u _ I2 r1 r2' q2) fun e s3 ⟨z, H3, I3, r3, k, ez, q3⟩ => ?_)) hm
  subst ez
  cases r3
  refine wpAny_truthy_bool ?_
  cases k with
  | false => exact ite_ff ⟨.bl false, H3, I3, rfl, q3⟩
  | true =>
    refine ite_tt (chain_link (thn (hc.run pins s3 σ H3 _ I3 q3) fun u2 s4 ⟨z4, H4, I4, r4, q4⟩ => thn (ho' pins s4 σ H4 y z4 u u2 _ I4 r2' r4 q4) fun e5 s5 ⟨z5, H5, I5, r5, k5, ez5, q5⟩ => ?_))
    subst ez5
    cases r5
    refine wpAny_truthy_bool ?_
    cases k5 with
    | false => exact ite_ff ⟨.bl false, H5, I5, rfl, q5⟩
    | true => exact ite_tt (chain_last (thn (hd.run pins s5 σ H5 _ I5 q5) fun u6 s6 ⟨z6, H6, I6, r6, q6⟩ => ho2 pins s6 σ H6 z4 z6 u2 u6 Q I6 r4 r6 q6))
theorem pt_chain3 (ho : OpR X (compareOp op) r) (ho' : OpR X (compareOp op') r') (ho2 : OpR X (compareOp op2) r2) (ha : PE X a ta) (hb : PE X b tb) (hc : PE X c tc) (hd : PE X d td)
    (hm : lastMarks [op, op', op2] [b, c, d] = false := by with_unfolding_all rfl) : PT X (.Compare a [op, op', op2] [b, c, d] pos) (tTest (tCh3 r r' r2 ta tb tc td)) := by
  refine ⟨fun pins s σ H Q I h => ?_⟩
  refine isTrue_chain (thn (ha.run pins s σ H _ I h) fun v s1 ⟨x, H1, I1, r1, q1⟩ => test_link (thn (hb.run pins s1 σ H1 _ I1 q1) fun u s2 ⟨y, H2, I2, r2', q2⟩ =>
    thn (ho pins s2 σ H2 x y v u _ I2 r1 r2' q2) fun e s3 ⟨z, H3, I3, r3, k, ez, q3⟩ => ?_)) hm
  subst ez
  cases r3
  refine wpAny_truthy_bool ?_
  cases k with
  | false =>
    obtain ⟨k', e', q'⟩ := q3
    cases e'
    exact ite_ff ⟨H3, I3, q'⟩
  | true =>
    refine ite_tt (test_link (thn (hc.run pins s3 σ H3 _ I3 q3) fun u2 s4 ⟨z4, H4, I4, r4, q4⟩ => thn (ho' pins s4 σ H4 y z4 u u2 _ I4 r2' r4 q4) fun e5 s5 ⟨z5, H5, I5, r5, k5, ez5, q5⟩ => ?_))
    subst ez5
    cases r5
    refine wpAny_truthy_bool ?_
    cases k5 with
    | false =>
      obtain ⟨k', e', q'⟩ := q5
      cases e'
      exact ite_ff ⟨H5, I5, q'⟩
    | true =>
      refine ite_tt (test_last (thn (hd.run pins s5 σ H5 _ I5 q5) fun u6 s6 ⟨z6, H6, I6, r6, q6⟩ => thn (ho2 pins s6 σ H6 z4 z6 u2 u6 _ I6 r4 r6 q6) fun e7 s7 ⟨z7, H7, I7, r7, k7, ez7, q7⟩ => ?_))
      subst ez7
      cases r7
      exact wpAny_truthy_bool ⟨H7, I7, q7⟩
end
end L2
namespace L2
open PySem PySem.Spec PyProof.Rows
def numV : V → Bool | .int _ => true | _ => false
section
variable {K : PySem.W.Frag} {σ : St} {H : Hp} {p : Addr} {xs : List V} {te : TE} {tt : TT} {j : Nat} {vs : List Nat} {Q : VK} {v : V} {d : PyData}
theorem num_dp (h : Dp K H v d) : (isIntD d && !isBoolD d) = numV v := by cases h <;> rfl
theorem non_dp (h : Dp K H v d) : decide (v = .non) = isNoneD d := by cases h <;> simp [isNoneD]
/-- [f(x) for x in xs if b(x)] over a list or a tuple wherever it stands, what is tested and made only adding to the heap -/
theorem lc_sqG {Qd : Addr → Hp → Prop} {f : V → V} {b : V → Bool} (hx : SqL K H p xs ∨ SqT K H p xs) (hz : xs.length < sizeLine) (hw : ∀ x, wipe ((wipe σ vs).set j (some x)) vs = wipe σ vs)
    (ht : ∀ x ∈ xs, ∀ H', Ext H H' → ∀ Q : Bool → Hp → Prop, (∀ H'', Ext H' H'' → Q (b x) H'') → tt ((wipe σ vs).set j (some x)) H' Q)
    (he : ∀ x ∈ xs, b x = true → ∀ H', Ext H H' → ∀ Q : VK, (∀ H'', Ext H' H'' → Q (f x) H'') → te ((wipe σ vs).set j (some x)) H' Q)
    (q : ∀ D H', H D = none → Ext H H' → H' D = some (.lst ((xs.filter b).map f)) → Qd D H') :
    ((∃ xs, SqL K H p xs) ∧ (fun J H1 => ∀ D, H1 D = none → ∃ W : Nat → Nat → Hp → Prop, (∃ m, W 0 m (upd H1 D (.lst []))) ∧ ∀ i m H, W i m H →
      (J.stop i H ∧ Qd D H) ∨ (J.go i H ∧ ∃ Nx : Hp → Prop, (∀ H', Nx H' → ∃ m', m' < m ∧ W (i + 1) m' H') ∧ ∀ x H', J.yld i H x H' → gName j x (wipe σ vs) H' fun σ2 H2 => wipe σ2 vs = wipe σ vs ∧ tt σ2 H2 fun b H3 =>
        if b = true then te σ2 H3 fun y H4 => ∃ acc, H4 D = some (.lst acc) ∧ acc.length < sizeLine ∧ Nx (upd H4 D (.lst (acc ++ [y]))) else Nx H3)) (Itl K p) H) ∨
    ((∃ xs, SqT K H p xs) ∧ (fun J H1 => ∀ D, H1 D = none → ∃ W : Nat → Nat → Hp → Prop, (∃ m, W 0 m (upd H1 D (.lst []))) ∧ ∀ i m H, W i m H →
      (J.stop i H ∧ Qd D H) ∨ (J.go i H ∧ ∃ Nx : Hp → Prop, (∀ H', Nx H' → ∃ m', m' < m ∧ W (i + 1) m' H') ∧ ∀ x H', J.yld i H x H' → gName j x (wipe σ vs) H' fun σ2 H2 => wipe σ2 vs = wipe σ vs ∧ tt σ2 H2 fun b H3 =>
        if b = true then te σ2 H3 fun y H4 => ∃ acc, H4 D = some (.lst acc) ∧ acc.length < sizeLine ∧ Nx (upd H4 D (.lst (acc ++ [y]))) else Nx H3)) (Itt K p) H) := by
  have turn : ∀ (D : Addr), H D = none → ∀ i x H', xs[i]? = some x → (Ext H H' ∧ H' D = some (.lst (((xs.take i).filter b).map f))) → gName j x (wipe σ vs) H' fun σ2 H2 => wipe σ2 vs = wipe σ vs ∧ tt σ2 H2 fun b' H3 =>
      if b' = true then te σ2 H3 fun y H4 => ∃ acc, H4 D = some (.lst acc) ∧ acc.length < sizeLine ∧ (Ext H (upd H4 D (.lst (acc ++ [y]))) ∧ upd H4 D (.lst (acc ++ [y])) D = some (.lst (((xs.take (i + 1)).filter b).map f))) else (Ext H H3 ∧ H3 D = some (.lst (((xs.take (i + 1)).filter b).map f))) := by
    intro D hD i x H' hi pv
    obtain ⟨e, hl⟩ := pv
    have hm : x ∈ xs := List.mem_of_getElem? hi
    refine ⟨hw x, ht x hm H' e _ fun H3 e3 => ?_⟩
    have hl3 : H3 D = some (.lst (((xs.take i).filter b).map f)) := e3 _ _ hl
    cases hb : b x with
    | true =>
      refine iteT (he x hm hb H3 (e.trans e3) _ fun H4 e4 => ⟨_, e4 _ _ hl3, ?_, ext_mut ((e.trans e3).trans e4) hD, ?_⟩)
      · rw [List.length_map]
        refine Nat.lt_of_le_of_lt (Nat.le_trans (List.length_filter_le _ _) ?_) hz
        exact List.length_take_le' _ _
      · rw [upd_same, take_snoc hi, List.filter_append, List.map_append]
        simp [hb]
    | false =>
      refine iteF ⟨e.trans e3, ?_⟩
      rw [hl3, take_snoc hi, List.filter_append, List.map_append]
      simp [hb]
  have fin : ∀ D, H D = none → ∀ H', (Ext H H' ∧ H' D = some (.lst (((xs.take xs.length).filter b).map f))) → Qd D H' := fun D hD H' pv => by
    rw [List.take_length] at pv
    exact q D H' hD pv.1 pv.2
  rcases hx with hx | hx
  · refine .inl ⟨⟨xs, hx⟩, fun D hD => lc_list (xs := xs) (fun i H' => Ext H H' ∧ H' D = some (.lst (((xs.take i).filter b).map f))) ⟨Ext.upd hD, upd_same⟩ (fun i H' _ pv => hx.ext pv.1) (fun i x H' hi pv => turn D hD i x H' hi pv) (fun H' pv => fin D hD H' pv)⟩
  · refine .inr ⟨⟨xs, hx⟩, fun D hD => lc_tup (xs := xs) (fun i H' => Ext H H' ∧ H' D = some (.lst (((xs.take i).filter b).map f))) ⟨Ext.upd hD, upd_same⟩ (fun i H' _ pv => hx.ext pv.1) (fun i x H' hi pv => turn D hD i x H' hi pv) (fun H' pv => fin D hD H' pv)⟩
end
end L2

set_option Elab.async false
set_option maxRecDepth 100000
set_option maxHeartbeats 4000000
namespace L2
open PySem PySem.Spec PyProof.Rows
section
variable {X : Cx} {m : Str} {k : Nat} {ps : List Str} {sp : Sp} {e o : Expr} {es : List Expr} {t : TA} {ta : TE} {pos apos : Pos} {C : Addr} {W : WX}
/-- o.m(e, ..) that may raise; W is wished for what it raises -/
theorem pe_ownMS {pl : Sem Bool} (O : OwnM X.prog X.w X.K X.mg X.base (L2.CX X.prog X.w) C m k ps sp) (he : PE X o ta) (c : Cls X.K C) (hr : Room k X.A) (tk : Takes X W) (ha : PA X (e :: es) t)
    (hst : starEach (e :: es) X.env = (false, eval e X.env) :: starEach es X.env := by rfl) (hpl : (backTo pos (starEach es X.env)).any (·.1) = false := by rfl)
    (ht : eval (.Call (.Attribute o m apos) (e :: es) [] pos) X.env = (do
      let ov ← eval o X.env
      standAt apos.atName
      let (f, first) ← holding [ov] (getMethod ov m pl)
      callWith pos f first (backTo pos (starEach (e :: es) X.env)) (backToKw pos (keywordEach [] X.env))) := by rfl) :
    PE X (.Call (.Attribute o m apos) (e :: es) [] pos) (tMethSD C m sp [] (WE W) ta t) := by
  obtain ⟨f, fd, F, M, _, hb⟩ := O.ex
  exact pe_methSD he c M F hr hb .nil (fun σ => passAt tk σ) ha hst hpl ht
theorem PE.imp {ex : Expr} {t1 t2 : TE} (h : PE X ex t1) (i : ∀ σ H Q, t2 σ H Q → t1 σ H Q) : PE X ex t2 := ⟨fun pins s σ H Q I z => h.run pins s σ H Q I (i σ H Q z)⟩
end
end L2

set_option Elab.async false
set_option linter.all false
set_option maxRecDepth 100000
set_option maxHeartbeats 4000000
/-! tuples of own objects, compared by their own ==, whichever the answer -/
namespace GQ
open PySem PySem.SeqAt
open AutoSeq1 (wpAny_loadPart')
open MeetsSeq MeetsSeq2 MeetsSeq3 SeqRoads2
section
variable {prog : Program} {w : World} {A : Around} {R : Result → Shared → Prop}
/-- the places one by one: I goes on, J at the first two that differ -/
theorem tup_eqB (la lb : Addr) (xs ys : Array Value) (n n2 : Nat) (dd dd2 : Option Addr) (sl sl2 : Array (Option Value)) (hsz : xs.size = ys.size) (I : Nat → Shared → Prop) (J : Shared → Prop)
    (turn : ∀ i (h1 : i < xs.size) (h2 : i < ys.size) s, I i s → wpAny (model prog w) A.in1 (eqBool xs[i] ys[i]) (fun r s' => (r = true ∧ I (i + 1) s') ∨ (r = false ∧ J s')) (fun e s' => R (.error e) s') s)
    (finT : ∀ s, I xs.size s → R (.ok (.ret (.bool true))) s) (finF : ∀ s, J s → R (.ok (.ret (.bool false))) s) {s : Shared}
    (hla : s.heap.get? la = some { cls := .type "tuple", dict := dd, data := .seq xs n, slots := sl }) (hlb : s.heap.get? lb = some { cls := .type "tuple", dict := dd2, data := .seq ys n2, slots := sl2 }) (h : I 0 s) :
    wpAny (model prog w) A.in1 (Builtin.«tuple.__eq__» ⟨[.ref la, .ref lb], []⟩) (FinOf prog w A R) (fun e s' => R (.error e) s') s := by
  have f2 := AutoSeq1.sub_tuple_tuple
  have hZ : (xs.toList.zip ys.toList).length = xs.size := by simp [hsz]
  have h0 := h
  obtain ⟨hp, g, d, tk, os⟩ := s
  wp_walk using wpAny_loadPart' hla, wpAny_loadPart' hlb, wpAny_forIn_list _ (fun rest b s' => b.1 = none ∧ ∃ i, rest = (xs.toList.zip ys.toList).drop i ∧ i ≤ xs.size ∧ I i s') _
  case turn =>
    rintro ⟨y, x⟩ rest b s' ⟨hb', i, hz, hi, hI⟩
    have hlt : i < (xs.toList.zip ys.toList).length := by
      rcases Nat.lt_or_ge i (xs.toList.zip ys.toList).length with h' | h'
      · exact h'
      · rw [List.drop_of_length_le h'] at hz
        cases hz
    have h1 : i < xs.size := hZ ▸ hlt
    have h2 : i < ys.size := hsz ▸ h1
    rw [List.drop_eq_getElem_cons hlt] at hz
    injection hz with hyx hrest
    have hy : y = xs[i] := by
      have q := congrArg Prod.fst hyx
      simpa using q
    have hx : x = ys[i] := by
      have q := congrArg Prod.snd hyx
      simpa using q
    subst hy hx
    refine wpAny_bind (wpAny_mono (turn i h1 h2 s' hI) (fun r s2 q2 => ?_) fun _ _ x => x)
    rcases q2 with ⟨hr, q2⟩ | ⟨hr, q2⟩
    · subst hr
      wp_walk
      exact ⟨rfl, i + 1, hrest, h1, q2⟩
    · subst hr
      have hR : R (.ok (.ret (.bool false))) s2 := finF s2 q2
      wp_walk
      exact hR
  case fin =>
    rintro ⟨b1, b2⟩ s' ⟨hb', i, hz, hi, hI⟩
    simp only at hb'
    subst hb'
    have hge : xs.size ≤ i := by
      rcases Nat.lt_or_ge i (xs.toList.zip ys.toList).length with h' | h'
      · rw [List.drop_eq_getElem_cons h'] at hz
        cases hz
      · exact hZ ▸ h'
    have hi' : i = xs.size := by omega
    have hR : R (.ok (.ret (.bool true))) s' := finT s' (hi' ▸ hI)
    wp_walk
    simpa [Builtin.Tuple.tupleCompareSizes, hsz] using hR
  case h =>
    exact ⟨rfl, 0, rfl, Nat.zero_le _, h0⟩
/-- the same for != -/
theorem tup_neB (la lb : Addr) (xs ys : Array Value) (n n2 : Nat) (dd dd2 : Option Addr) (sl sl2 : Array (Option Value)) (hsz : xs.size = ys.size) (I : Nat → Shared → Prop) (J : Shared → Prop)
    (turn : ∀ i (h1 : i < xs.size) (h2 : i < ys.size) s, I i s → wpAny (model prog w) A.in1 (eqBool xs[i] ys[i]) (fun r s' => (r = true ∧ I (i + 1) s') ∨ (r = false ∧ J s')) (fun e s' => R (.error e) s') s)
    (finT : ∀ s, I xs.size s → R (.ok (.ret (.bool false))) s) (finF : ∀ s, J s → R (.ok (.ret (.bool true))) s) {s : Shared}
    (hla : s.heap.get? la = some { cls := .type "tuple", dict := dd, data := .seq xs n, slots := sl }) (hlb : s.heap.get? lb = some { cls := .type "tuple", dict := dd2, data := .seq ys n2, slots := sl2 }) (h : I 0 s) :
    wpAny (model prog w) A.in1 (Builtin.«tuple.__ne__» ⟨[.ref la, .ref lb], []⟩) (FinOf prog w A R) (fun e s' => R (.error e) s') s := by
  have f2 := AutoSeq1.sub_tuple_tuple
  have hZ : (xs.toList.zip ys.toList).length = xs.size := by simp [hsz]
  have h0 := h
  obtain ⟨hp, g, d, tk, os⟩ := s
  wp_walk using wpAny_loadPart' hla, wpAny_loadPart' hlb, wpAny_forIn_list _ (fun rest b s' => b.1 = none ∧ ∃ i, rest = (xs.toList.zip ys.toList).drop i ∧ i ≤ xs.size ∧ I i s') _
  case turn =>
    rintro ⟨y, x⟩ rest b s' ⟨hb', i, hz, hi, hI⟩
    have hlt : i < (xs.toList.zip ys.toList).length := by
      rcases Nat.lt_or_ge i (xs.toList.zip ys.toList).length with h' | h'
      · exact h'
      · rw [List.drop_of_length_le h'] at hz
        cases hz
    have h1 : i < xs.size := hZ ▸ hlt
    have h2 : i < ys.size := hsz ▸ h1
    rw [List.drop_eq_getElem_cons hlt] at hz
    injection hz with hyx hrest
    have hy : y = xs[i] := by
      have q := congrArg Prod.fst hyx
      simpa using q
    have hx : x = ys[i] := by
      have q := congrArg Prod.snd hyx
      simpa using q
    subst hy hx
    refine wpAny_bind (wpAny_mono (turn i h1 h2 s' hI) (fun r s2 q2 => ?_) fun _ _ x => x)
    rcases q2 with ⟨hr, q2⟩ | ⟨hr, q2⟩
    · subst hr
      wp_walk
      exact ⟨rfl, i + 1, hrest, h1, q2⟩
    · subst hr
      have hR : R (.ok (.ret (.bool true))) s2 := finF s2 q2
      wp_walk
      exact hR
  case fin =>
    rintro ⟨b1, b2⟩ s' ⟨hb', i, hz, hi, hI⟩
    simp only at hb'
    subst hb'
    have hge : xs.size ≤ i := by
      rcases Nat.lt_or_ge i (xs.toList.zip ys.toList).length with h' | h'
      · rw [List.drop_eq_getElem_cons h'] at hz
        cases hz
      · exact hZ ▸ h'
    have hi' : i = xs.size := by omega
    have hR : R (.ok (.ret (.bool false))) s' := finT s' (hi' ▸ hI)
    wp_walk
    simpa [Builtin.Tuple.tupleCompareSizes, bne, hsz] using hR
  case h =>
    exact ⟨rfl, 0, rfl, Nat.zero_le _, h0⟩
end
end GQ
namespace GQ
open PySem PySem.SeqAt
section
variable {prog : Program} {w : World} {A : Around} {E : Value → Shared → Prop} {s : Shared}
theorem rc_tupB {la lb : Addr} {xs ys : Array Value} {Q : Value → Shared → Prop} (hsz : xs.size = ys.size) (hu : A.units < cLine) (I : Nat → Shared → Prop) (J : Shared → Prop) (hla : s.heap.IsTuple la xs) (hlb : s.heap.IsTuple lb ys)
    (turn : ∀ i (h1 : i < xs.size) (h2 : i < ys.size) s, I i s → wpAny (model prog w) A.in1 (eqBool xs[i] ys[i]) (fun r s' => (r = true ∧ I (i + 1) s') ∨ (r = false ∧ J s')) E s)
    (finT : ∀ s, I xs.size s → Q (.bool true) s) (finF : ∀ s, J s → Q (.bool false) s) (h : I 0 s) : wpAny (model prog w) A (richCompare .Eq (.ref la) (.ref lb)) Q E s := by
  obtain ⟨⟨cls, dd, data, sl⟩, ho, hc, n, hd⟩ := id hla
  obtain ⟨⟨cls2, dd2, data2, sl2⟩, ho2, hc2, n2, hd2⟩ := id hlb
  simp only at hc hd hc2 hd2
  subst hc hd hc2 hd2
  refine wpAny_richCompare_same_room (op := .Eq) ⟨_, ho, rfl⟩ ⟨_, ho2, rfl⟩ F.slot_tuple_eq (call_here F.slot_tuple_eq ⟨_, ho, rfl⟩ F.entry_tuple_eq (F.args_tuple_eq_2 _ _) ?_) hu
  exact tup_eqB (R := wants (fun v s' => v ≠ .notImplemented ∧ Q v s') E) la lb xs ys n n2 dd dd2 sl sl2 hsz I J turn (fun s' q => ⟨(fun x => nomatch x), finT s' q⟩) (fun s' q => ⟨(fun x => nomatch x), finF s' q⟩) ho ho2 h
theorem rc_tupNB {la lb : Addr} {xs ys : Array Value} {Q : Value → Shared → Prop} (hsz : xs.size = ys.size) (hu : A.units < cLine) (I : Nat → Shared → Prop) (J : Shared → Prop) (hla : s.heap.IsTuple la xs) (hlb : s.heap.IsTuple lb ys)
    (turn : ∀ i (h1 : i < xs.size) (h2 : i < ys.size) s, I i s → wpAny (model prog w) A.in1 (eqBool xs[i] ys[i]) (fun r s' => (r = true ∧ I (i + 1) s') ∨ (r = false ∧ J s')) E s)
    (finT : ∀ s, I xs.size s → Q (.bool false) s) (finF : ∀ s, J s → Q (.bool true) s) (h : I 0 s) : wpAny (model prog w) A (richCompare .NotEq (.ref la) (.ref lb)) Q E s := by
  obtain ⟨⟨cls, dd, data, sl⟩, ho, hc, n, hd⟩ := id hla
  obtain ⟨⟨cls2, dd2, data2, sl2⟩, ho2, hc2, n2, hd2⟩ := id hlb
  simp only at hc hd hc2 hd2
  subst hc hd hc2 hd2
  refine wpAny_richCompare_same_room (op := .NotEq) ⟨_, ho, rfl⟩ ⟨_, ho2, rfl⟩ F.slot_tuple_ne (call_here F.slot_tuple_ne ⟨_, ho, rfl⟩ F.entry_tuple_ne (F.args_tuple_ne_2 _ _) ?_) hu
  exact tup_neB (R := wants (fun v s' => v ≠ .notImplemented ∧ Q v s') E) la lb xs ys n n2 dd dd2 sl sl2 hsz I J turn (fun s' q => ⟨(fun x => nomatch x), finT s' q⟩) (fun s' q => ⟨(fun x => nomatch x), finF s' q⟩) ho ho2 h
end
end GQ
namespace L2
open PySem PySem.Spec PyProof.Rows
/-- how two values compare, by the abstract heap -/
abbrev EqvB := V → V → Hp → Bool → Prop
def MonB (D : EqvB) : Prop := ∀ x y H H' k, Ext H H' → D x y H k → D x y H' k
def EqB (X : Cx) (n : Nat) (D : EqvB) : Prop :=
  ∀ (A : Around) (pins : List (Addr × Obj)) (s : Shared) (σ : St) (H : Hp) (x y : V) (u v : Value) (k : Bool), Sub X n A → Inv X pins σ H s → RelV x u → RelV y v → D x y H k →
    wpAny (model X.prog X.w) A (eqBool u v) (fun r s' => r = k ∧ ∃ H', Inv X pins σ H' s' ∧ Ext H H') X.xe s
def RcB (X : Cx) (n : Nat) (D : EqvB) : Prop :=
  ∀ (A : Around) (pins : List (Addr × Obj)) (s : Shared) (σ : St) (H : Hp) (x y : V) (u v : Value) (k : Bool), Sub X n A → Inv X pins σ H s → RelV x u → RelV y v → D x y H k →
    wpAny (model X.prog X.w) A (richCompare .Eq u v) (fun r s' => r = .bool k ∧ ∃ H', Inv X pins σ H' s' ∧ Ext H H') X.xe s
section
variable {X : Cx} {n : Nat} {D : EqvB}
/-- instances of the class at C -/
def DInsB (C : Addr) (R : Addr → Addr → Hp → Bool → Prop) : EqvB := fun x y H k => ∃ a b dx dy fs gs, x = .ref a ∧ y = .ref b ∧ H a = some (.ins C dx fs) ∧ H b = some (.ins C dy gs) ∧ R a b H k
def spEqB (R : Addr → Addr → Hp → Bool → Prop) : Sp := fun vs H Q _ => ∃ a b k, vs = [.ref a, .ref b] ∧ R a b H k ∧ ∀ H', Ext H H' → Q (.bl k) H'
theorem rcB_ins {CX : CXT} {C f : Addr} {fd : FuncData} {ps : List Str} {R : Addr → Addr → Hp → Bool → Prop} {E : XK} (F : FnOk X.prog X.w X.K X.mg X.base CX n f fd ps (spEqB R))
    (hs : PySem.W.findIn X.K (.ref C) "__eq__" = some (some (.ref f))) (hf : PySem.W.isFn X.K (.ref f) = true) (hb : Binds X.K fd ps []) (hx : Passes CX X E) : RcB X n (DInsB C R) := by
  intro A pins s σ H x y u v k sb I rx ry d
  obtain ⟨a, b, dx, dy, fs, gs, rfl, rfl, ha, hb', hr⟩ := d
  cases rx
  cases ry
  obtain ⟨mA, J, _⟩ := ins_get I.hok ha
  obtain ⟨mB, J', _⟩ := ins_get I.hok hb'
  obtain ⟨od, J, _⟩ := J.look
  obtain ⟨od', J', _⟩ := J'.look
  obtain ⟨m, hF⟩ := I.fr
  refine PySem.W.cmp_K (op := .Eq) (tb := .ref C) sb.room.units0 hF I.ok.mod.kin J J'.type (by simp [PySem.W.notFirst]) hs hf ?_
  have hsp : spEqB R [.ref a, .ref b] H (fun v H' => v = .bl k ∧ Ext H H') E := ⟨a, b, k, rfl, hr, fun H' e => ⟨rfl, e⟩⟩
  have e1 := I.env0
  have e0 : Env0 X.prog X.w X.K X.mg X.base A X.stack s H := ⟨by rw [sb.fr]; exact e1.frames, e1.mod, e1.bs, e1.bsz, e1.funs, e1.frf, e1.hok, e1.bare⟩
  have hl := F.len _ _ _ _ hsp
  have bd := hb s [.ref a, .ref b] I.kIn (by simpa using hl)
  have bd' : BindsTo s fd ⟨[.ref a, .ref b], []⟩ (ps.zip [.ref a, .ref b]) := by simpa using bd
  refine wpAny_call (codeAny_mono (F.run A X.stack s H ⟨[.ref a, .ref b], []⟩ [.ref a, .ref b] [.ref a, .ref b] _ E sb.room e0 bd' (.cons rfl (.cons rfl .nil)) hsp) fun r s' hq => ?_)
  match r, hq with
  | .error e, hq => exact hx pins σ H s e s' I hq
  | .ok (.ret z), hq =>
    obtain ⟨zv, H', I', rz, ez, ex⟩ := I.after hq
    subst ez
    cases rz
    exact ⟨rfl, H', I', ex⟩
  | .ok .next, hq => exact hq.elim
  | .ok .brk, hq => exact hq.elim
  | .ok .cont, hq => exact hq.elim
/-- within a tuple: the same object is equal to itself -/
theorem RcB.eqB (h : RcB X n D) (hr : ∀ x y H k, D x y H k → ∃ a b, x = .ref a ∧ y = .ref b ∧ (a = b → k = true)) : EqB X n D := by
  intro A pins s σ H x y u v k sb I rx ry d
  obtain ⟨a, b, rfl, rfl, hk⟩ := hr _ _ _ _ d
  cases rx
  cases ry
  by_cases hab : a = b
  · have hk' := hk hab
    subst hab hk'
    exact SeqAt.EqAt.same (A := A) (s := s) (.ref a) X.prog X.w X.xe _ ⟨rfl, H, I, Ext.rfl'⟩
  · refine GQ.eqBool_refG hab (wpAny_mono (h A pins s σ H (.ref a) (.ref b) _ _ k sb I rfl rfl d) (fun r s' q => ?_) fun _ _ x => x)
    obtain ⟨hr', q⟩ := q
    exact ⟨k, hr', rfl, q⟩
/-- tuples of one length, place by place; ks the answers -/
def DTupB (K : PySem.W.Frag) (D : EqvB) : EqvB := fun x y H k => ∃ (a b : Addr) (xs ys : List V) (ks : List Bool), x = .ref a ∧ y = .ref b ∧ SqT K H a xs ∧ SqT K H b ys ∧ xs.length = ys.length ∧ ks.length = xs.length ∧
  (∀ (i : Nat) x y c, xs[i]? = some x → ys[i]? = some y → ks[i]? = some c → D x y H c) ∧ k = ks.all id
theorem all_take {ks : List Bool} {i : Nat} (h : ∀ j, j < i → ks[j]? = some true) (hi : ks.length ≤ i) : ks.all id = true := by
  rw [List.all_eq_true]
  intro c hc
  obtain ⟨j, hj⟩ := List.mem_iff_getElem?.mp hc
  have hjl := (List.getElem?_eq_some_iff.mp hj).1
  have q := h j (Nat.lt_of_lt_of_le hjl hi)
  rw [hj] at q
  cases q
  rfl
theorem rcB_tup (hD : MonB D) (h : EqB X n D) : RcB X (n + 1) (DTupB X.K D) := by
  intro A pins s σ H x y u v k sb I rx ry d
  obtain ⟨a, b, xs, ys, ks, rfl, rfl, ha, hb, hlen, hks, hp, rfl⟩ := d
  cases rx
  cases ry
  obtain ⟨its, r, e, z⟩ := I.tuple ha
  obtain ⟨its2, r2, e2, z2⟩ := I.tuple hb
  have l1 := r.length
  have l2 := r2.length
  have hsz : its.toArray.size = its2.toArray.size := by rw [List.size_toArray, List.size_toArray, ← l1, ← l2]; exact hlen
  refine GQ.rc_tupB hsz sb.room.units0 (fun i s' => (∃ H', Inv X pins σ H' s' ∧ Ext H H') ∧ ∀ j, j < i → ks[j]? = some true) (fun s' => (∃ H', Inv X pins σ H' s' ∧ Ext H H') ∧ ks.all id = false) e e2 (fun i h1 h2 s' q => ?_) (fun s' q => ?_) (fun s' q => ?_) ⟨⟨H, I, Ext.rfl'⟩, fun j hj => absurd hj (Nat.not_lt_zero _)⟩
  · obtain ⟨⟨H1, I1, e1⟩, hk⟩ := q
    have h1' : i < its.length := by simpa using h1
    have h2' : i < its2.length := by simpa using h2
    have g1 : its[i]? = some its.toArray[i] := by rw [List.getElem?_eq_getElem h1'] <;> simp
    have g2 : its2[i]? = some its2.toArray[i] := by rw [List.getElem?_eq_getElem h2'] <;> simp
    have k1 : i < xs.length := by omega
    have k2 : i < ys.length := by omega
    have k3 : i < ks.length := by omega
    obtain ⟨uu, hu, ru⟩ := r.get (List.getElem?_eq_getElem k1)
    obtain ⟨vv, hv, rv⟩ := r2.get (List.getElem?_eq_getElem k2)
    rw [g1] at hu
    rw [g2] at hv
    rw [Option.some.inj hu, Option.some.inj hv]
    refine wpAny_mono (h A.in1 pins s' σ H1 _ _ uu vv ks[i] sb.in1 I1 ru rv (hD _ _ _ _ _ e1 (hp i _ _ _ (List.getElem?_eq_getElem k1) (List.getElem?_eq_getElem k2) (List.getElem?_eq_getElem k3)))) (fun rr s2 q2 => ?_) fun _ _ x => x
    obtain ⟨hr, H2, I2, e2'⟩ := q2
    have hki : ks[i]? = some rr := by rw [hr]; exact List.getElem?_eq_getElem k3
    cases rr with
    | true =>
      refine .inl ⟨rfl, ⟨H2, I2, e1.trans e2'⟩, fun j hj => ?_⟩
      rcases Nat.lt_succ_iff_lt_or_eq.mp hj with hj | rfl
      · exact hk j hj
      · exact hki
    | false =>
      refine .inr ⟨rfl, ⟨H2, I2, e1.trans e2'⟩, ?_⟩
      rw [List.all_eq_false]
      exact ⟨false, List.mem_of_getElem? hki, by decide⟩
  · obtain ⟨q1, hk⟩ := q
    exact ⟨by rw [all_take hk (by simp; omega)], q1⟩
  · obtain ⟨q1, hk⟩ := q
    exact ⟨by rw [hk], q1⟩
/-- the same for !=, told by what == would say -/
def RcNB (X : Cx) (n : Nat) (D : EqvB) : Prop :=
  ∀ (A : Around) (pins : List (Addr × Obj)) (s : Shared) (σ : St) (H : Hp) (x y : V) (u v : Value) (k : Bool), Sub X n A → Inv X pins σ H s → RelV x u → RelV y v → D x y H k →
    wpAny (model X.prog X.w) A (richCompare .NotEq u v) (fun r s' => r = .bool (!k) ∧ ∃ H', Inv X pins σ H' s' ∧ Ext H H') X.xe s
theorem rcNB_tup (hD : MonB D) (h : EqB X n D) : RcNB X (n + 1) (DTupB X.K D) := by
  intro A pins s σ H x y u v k sb I rx ry d
  obtain ⟨a, b, xs, ys, ks, rfl, rfl, ha, hb, hlen, hks, hp, rfl⟩ := d
  cases rx
  cases ry
  obtain ⟨its, r, e, z⟩ := I.tuple ha
  obtain ⟨its2, r2, e2, z2⟩ := I.tuple hb
  have l1 := r.length
  have l2 := r2.length
  have hsz : its.toArray.size = its2.toArray.size := by rw [List.size_toArray, List.size_toArray, ← l1, ← l2]; exact hlen
  refine GQ.rc_tupNB hsz sb.room.units0 (fun i s' => (∃ H', Inv X pins σ H' s' ∧ Ext H H') ∧ ∀ j, j < i → ks[j]? = some true) (fun s' => (∃ H', Inv X pins σ H' s' ∧ Ext H H') ∧ ks.all id = false) e e2 (fun i h1 h2 s' q => ?_) (fun s' q => ?_) (fun s' q => ?_) ⟨⟨H, I, Ext.rfl'⟩, fun j hj => absurd hj (Nat.not_lt_zero _)⟩
  · obtain ⟨⟨H1, I1, e1⟩, hk⟩ := q
    have h1' : i < its.length := by simpa using h1
    have h2' : i < its2.length := by simpa using h2
    have g1 : its[i]? = some its.toArray[i] := by rw [List.getElem?_eq_getElem h1'] <;> simp
    have g2 : its2[i]? = some its2.toArray[i] := by rw [List.getElem?_eq_getElem h2'] <;> simp
    have k1 : i < xs.length := by omega
    have k2 : i < ys.length := by omega
    have k3 : i < ks.length := by omega
    obtain ⟨uu, hu, ru⟩ := r.get (List.getElem?_eq_getElem k1)
    obtain ⟨vv, hv, rv⟩ := r2.get (List.getElem?_eq_getElem k2)
    rw [g1] at hu
    rw [g2] at hv
    rw [Option.some.inj hu, Option.some.inj hv]
    refine wpAny_mono (h A.in1 pins s' σ H1 _ _ uu vv ks[i] sb.in1 I1 ru rv (hD _ _ _ _ _ e1 (hp i _ _ _ (List.getElem?_eq_getElem k1) (List.getElem?_eq_getElem k2) (List.getElem?_eq_getElem k3)))) (fun rr s2 q2 => ?_) fun _ _ x => x
    obtain ⟨hr, H2, I2, e2'⟩ := q2
    have hki : ks[i]? = some rr := by rw [hr]; exact List.getElem?_eq_getElem k3
    cases rr with
    | true =>
      refine .inl ⟨rfl, ⟨H2, I2, e1.trans e2'⟩, fun j hj => ?_⟩
      rcases Nat.lt_succ_iff_lt_or_eq.mp hj with hj | rfl
      · exact hk j hj
      · exact hki
    | false =>
      refine .inr ⟨rfl, ⟨H2, I2, e1.trans e2'⟩, ?_⟩
      rw [List.all_eq_false]
      exact ⟨false, List.mem_of_getElem? hki, by decide⟩
  · obtain ⟨q1, hk⟩ := q
    exact ⟨by rw [all_take hk (by simp; omega)]; rfl, q1⟩
  · obtain ⟨q1, hk⟩ := q
    exact ⟨by rw [hk]; rfl, q1⟩
/-- x == y, x != y as expressions -/
def rEqB (D : EqvB) : R2 := fun x y H Q => ∃ k, D x y H k ∧ ∀ H', Ext H H' → Q (.bl k) H'
def rNeB (D : EqvB) : R2 := fun x y H Q => ∃ k, D x y H k ∧ ∀ H', Ext H H' → Q (.bl (!k)) H'
theorem op_eqB (h : RcB X n D) (hr : Room n X.A) : OpR X (compareOp .Eq) (rEqB D) := by
  intro pins s σ H x y v u Q I rx ry hq
  obtain ⟨k, d, q⟩ := hq
  show wpAny (model X.prog X.w) X.A (richCompare .Eq v u) (EP X pins σ Q) X.xe s
  refine wpAny_mono (h X.A pins s σ H x y v u k ⟨hr, rfl⟩ I rx ry d) (fun r s' z => ?_) fun _ _ x => x
  obtain ⟨hr', H', I', e⟩ := z
  subst hr'
  exact ⟨.bl k, H', I', rfl, q H' e⟩
theorem op_neB (h : RcNB X n D) (hr : Room n X.A) : OpR X (compareOp .NotEq) (rNeB D) := by
  intro pins s σ H x y v u Q I rx ry hq
  obtain ⟨k, d, q⟩ := hq
  show wpAny (model X.prog X.w) X.A (richCompare .NotEq v u) (EP X pins σ Q) X.xe s
  refine wpAny_mono (h X.A pins s σ H x y v u k ⟨hr, rfl⟩ I rx ry d) (fun r s' z => ?_) fun _ _ x => x
  obtain ⟨hr', H', I', e⟩ := z
  subst hr'
  exact ⟨.bl (!k), H', I', rfl, q H' e⟩
end
end L2

set_option Elab.async false
set_option linter.all false
set_option maxRecDepth 100000
set_option maxHeartbeats 4000000
/-! except A as e: .. except B as e: ..; classes made with keyword-only parameters -/
namespace L2
open PySem PySem.Spec PyProof.Rows
abbrev SuT := Addr → Value → Option Addr → TS
/-- behind a suite the i-th slot is empty -/
def dropAt (i : Nat) (D : Ends) : Ends := { nx := fun g J => D.nx (g.set i none) J, rt := D.rt, bk := fun g J => D.bk (g.set i none) J, ct := fun g J => D.ct (g.set i none) J }
def wManyA (K : PySem.W.Frag) (Wo : WX) (D : Ends) : List (Value × Nat × SuT) → WX
  | [] => Wo
  | (c, i, ts) :: r => fun cl d g J => ∃ y, PySem.W.exmOne K cl c = some y ∧ (y = true → ∀ q, J q = none → ts q cl d (dropAt i D) (g.set i (some (.ref q))) J) ∧ (y = false → wManyA K Wo D r cl d g J)
inductive HdsA (X : Cx) : List ExceptHandler → List (Value × Nat × SuT) → Prop
  | nil : HdsA X [] []
  | cons {x n : Str} {c : Value} {i : Nat} {ts : SuT} {b0 : Stmt} {su : List Stmt} {np pp : Pos} {hds : List ExceptHandler} {l : List (Value × Nat × SuT)} (hi : X.N[i]? = some n) (hl : X.env.kindOf n = some .local) (hc : Names X x c)
      (hsu : ∀ (q : Addr) (oq : Obj) (cl : Value) (d : Option Addr) (pn : List (Addr × Obj)), Zc cl d oq → (∃ us, oq.data = .fields us) → PSs (X.suite q ((q, oq) :: pn)) (b0 :: su) (ts q cl d)) (r : HdsA X hds l) :
      HdsA X (.ExceptHandler (some (.Name x np)) (some n) (b0 :: su) pp :: hds) ((c, i, ts) :: l)
section
variable {X : Cx} {bd : List Stmt} {hd0 : ExceptHandler} {hds : List ExceptHandler} {l : List (Value × Nat × SuT)} {pos : Pos} {tb : WX → TS} {Wo : WX}
theorem ps_try_manyA (hs : X.stack = X.env :: X.outer) (hf : X.env.frame = some X.env.locals) (hN : X.N.Nodup) (tk : Takes X Wo)
    (hb : ∀ (W : WX) (pn : List (Addr × Obj)) (xe : Value → Shared → Prop), Takes (X.tr pn xe) W → PassesOwn (model X.prog X.w) X.A X.env xe → PSs (X.tr pn xe) bd (tb W))
    (hh : HdsA X (hd0 :: hds) l) : PS X (.Try bd (hd0 :: hds) [] [] pos) (fun D g J => tb (wManyA X.K Wo D l) D g J) := by
  refine ⟨fun pins s0 g0 J0 D I0 h => ?_⟩
  have kk := I0.ok
  have hfr : X.A.frames = some (X.env :: X.outer) := by rw [kk.frames, hs]
  refine wpAny_Try_except (wpAny_mono ((hb (wManyA X.K Wo D l) (X.pn ++ pins) (fun u t1 => wpAny (model X.prog X.w) X.A (noteFrame u X.env) (fun _ t2 => wpAny (model X.prog X.w) X.A (setFlight u none) (fun _ t3 =>
    wpAny (model X.prog X.w) X.A (handleBy u X.env (hd0 :: hds)) (SP X pins D) X.xe t3) X.xe t2) X.xe t1) (fun u t1 xx => ?_) PassesOwn.looking).run [] s0 g0 J0 D (I0.toTry _) h) (fun fl t1 hsp => ?_) (fun _ _ z => z))
  · obtain ⟨q, B, sI, pns, g1, J1, cl, d, rfl, K1, nb, up, sky, na, os, ag, wx⟩ := xx
    have V : Inv X pins g1 J1 sI := K1.ofTry kk
    have sky2 : Sky B (X.env :: X.outer) q (Zc cl d) X.env.locals t1.heap := by rw [← hs]; exact sky
    show wpAny (model X.prog X.w) X.A (noteFrame (.ref q) X.env) _ _ _
    refine Sky.land Zc.steady hfr hf sky2 fun h3 f3 u3 => ?_
    have V3 : Inv X pins g1 J1 { t1 with heap := h3 } := V.landed nb f3.1 (up.trans u3) os ag
    obtain ⟨o3, v3, e3, z3, d3⟩ := f3.there
    have apart : ∀ {hh : Heap} {o : Obj} {us : Array Value}, hh.FunFrames B (X.env :: X.outer) → hh.get? q = some o → o.data = .fields us → q ∉ frs (X.env :: X.outer) := fun {hh o us} ff e dd hm => by
      obtain ⟨_, o', e', hnf⟩ := ff.mem hm
      rw [e] at e'
      cases e'
      exact hnf _ dd
    have np := apart f3.2.2.1 e3 d3
    have nL : q ≠ X.env.locals := fun z => np (List.mem_filterMap.mpr ⟨X.env, List.mem_cons_self, by rw [hf, z]⟩)
    have nF : q ∉ X.fs := fun hm => by
      obtain ⟨e, he, r⟩ := List.mem_filterMap.mp hm
      exact np (List.mem_filterMap.mpr ⟨e, List.mem_cons_of_mem _ he, r⟩)
    have S3 := V3.suite e3 d3 na nL nF
    have go : ∀ {hz : List ExceptHandler} {lz : List (Value × Nat × SuT)}, HdsA X hz lz → wManyA X.K Wo D lz cl d g1 J1 → wpAny (model X.prog X.w) X.A (handleBy (.ref q) X.env hz) (SP X pins D) X.xe { t1 with heap := h3 } := by
      intro hz lz hk
      induction hk with
      | nil =>
        intro wz
        refine wpAny_handleBy_nil ?_
        obtain ⟨_, _, _, oq, us, TB, oT, ts2, he, hq, hdd, h1, hr⟩ := id f3
        unfold PySem.passOn
        refine wpAny_bind (wpAny_field he hdd h1 ?_)
        rw [if_neg (show ¬ ((Value.ref TB == Value.none) = true) by simp)]
        have fin : wpAny (model X.prog X.w) X.A (setFlight (.ref q) X.env.frame) (fun _ t4 => wpAny (model X.prog X.w) X.A (throw (.ref q) : Sem Flow) (SP X pins D) X.xe t4) X.xe { t1 with heap := h3 } := by
          rw [hf]
          refine HandSPX.setFlight_upZ f3 fun h4 hh4 up4 => wpAny_throw (tk _ _ ?_)
          exact ⟨q, B, sI, pins, g1, J1, cl, d, rfl, V, nb, (up.trans u3).trans up4, .inr (.inr (by rw [hs]; exact hh4)), na, os, ag, wz⟩
        first | exact wpAny_bind (wpAny_pure (wpAny_bind fin)) | exact wpAny_bind fin
      | @cons x n c i ts b0 su np pp hds2 l2 hi hl hc hsu r ih =>
        intro wz
        obtain ⟨y, hy, yes, no⟩ := wz
        refine wpAny_handleBy_cons (codeAny_handlers_test ?_) (by intro z; cases z)
        have LT : PySem.W.Looks (model X.prog X.w) h3 (typeOf (.ref q)) cl := fun A Q E s k r => wpAny_typeOf_ref (k _ _ e3) (by rw [z3.1]; exact r)
        have LM := PySem.W.exm_one (M := model X.prog X.w) (V3.kIn) LT hy
        have tst : ∀ {Q E : Value → Shared → Prop}, Q c { t1 with heap := h3 } → wpAny (model X.prog X.w) (X.A.mark (some (.ref q))) (eval (.Name x np) X.env) Q E { t1 with heap := h3 } := fun {Q E} z => by
          obtain ⟨hg, hdbg, hm | ⟨hm, hv, hnn⟩⟩ := hc
          · exact ld_glob (X := X.suite q ((q, o3) :: (X.pn ++ pins))) S3 hg hm z hdbg
          · exact ld_blt (X := X.suite q ((q, o3) :: (X.pn ++ pins))) S3 hg hm hv z hnn hdbg
        refine tst (LM.here ?_)
        cases y with
        | true =>
          refine codeAny_handlers_suite_as (HandSPX.lands_againZ f3 fun h4 f4 u4 => ?_)
          have V4 : Inv X pins g1 J1 { t1 with heap := h4 } := V.landed nb f4.1 ((up.trans u3).trans u4) os ag
          obtain ⟨o4, v4, e4, z4, d4⟩ := f4.there
          have S4 := V4.suite e4 d4 na nL nF
          have hloc : Loc X.env.scope n := .inl hl
          refine store_ok (X := X.suite q ((q, o4) :: (X.pn ++ pins))) (v := .ref q) S4 hN hi hloc rfl (fun t5 S5 => ?_) (.inr hl)
          refine wpAny_mono ((hsu q o4 cl d (X.pn ++ pins) z4 ⟨_, d4⟩).run [] t5 _ J1 _ S5 (yes rfl q na)) (fun fl t6 sp => ?_) (fun _ _ z => False.elim z)
          have ends : ∀ {g6 : St} {J6 : Hp} {Q : Shared → Prop}, Inv (X.suite q ((q, o4) :: (X.pn ++ pins))) [] g6 J6 t6 → (∀ t7, Inv X pins (g6.set i none) J6 t7 → Q t7) →
              wpAny (model X.prog X.w) X.A (do bindName X.env n .none; unbindBehindTheSuite X.env n pp) (fun _ t7 => Q t7) X.xe t6 := fun {g6 J6 Q} S6 hq => gone_ok (S6.unsuite kk) hN hi hl hq
          cases fl with
          | next =>
            obtain ⟨g6, J6, S6, r6⟩ := sp
            exact ends S6 fun t7 V7 => ⟨_, _, V7, r6⟩
          | brk =>
            obtain ⟨g6, J6, S6, r6⟩ := sp
            exact ends S6 fun t7 V7 => ⟨_, _, V7, r6⟩
          | cont =>
            obtain ⟨g6, J6, S6, r6⟩ := sp
            exact ends S6 fun t7 V7 => ⟨_, _, V7, r6⟩
          | ret u =>
            obtain ⟨w6, g6, J6, S6, r6, y6⟩ := sp
            exact ends S6 fun t7 V7 => ⟨_, _, _, V7, r6, y6⟩
        | false =>
          show wpAny _ X.A (handleBy (.ref q) X.env hds2) _ _ _
          exact ih (no rfl)
    exact go hh wx
  · cases fl with
    | next =>
      obtain ⟨g6, J6, V6, r⟩ := hsp
      exact wpAny_execs_nil ⟨g6, J6, V6.ofTry kk, r⟩
    | brk =>
      obtain ⟨g6, J6, V6, r⟩ := hsp
      exact ⟨g6, J6, V6.ofTry kk, r⟩
    | cont =>
      obtain ⟨g6, J6, V6, r⟩ := hsp
      exact ⟨g6, J6, V6.ofTry kk, r⟩
    | ret u =>
      obtain ⟨v6, g6, J6, V6, rv, r⟩ := hsp
      exact ⟨v6, g6, J6, V6.ofTry kk, rv, r⟩
end
/-! ### C(e, .., k = v, ..), keyword-only parameters without defaults, all written in their order -/
section
variable {K : PySem.W.Frag} {x qual : Str} {st : Stmt} {f : Addr} {fd : FuncData} {ps ks : List Str} {n : Nat}
abbrev KBa (K : PySem.W.Frag) (fd : FuncData) (ps : List Str) (n : Nat) (ks : List Str) : Prop := KBn K fd ps n ks (fun us ws => us ++ ws) (fun vs zs => vs ++ zs)
theorem Fun.kba (F : Fun K x qual st f fd)
    (h : ∀ (kV doc pm : Value) (an : Option Addr) (cdv ct : Value) (us ws : List Value), us.length = n → ws.length = ks.length → bindArgs (PySem.W.fnOf x qual (defArgs st) (defBody st) (defScope st) .none kV doc pm an cdv ct) ⟨us, ks.zip ws⟩ = pure (ps.zip (us ++ ws))) : KBa K fd ps n ks := by
  obtain ⟨_, _, kV, doc, pm, an, cdv, ct, _, rfl, _, _⟩ := F.ex
  exact ⟨fun s us ws _ l1 l2 => .of_eq (h kV doc pm an cdv ct us ws l1 l2), fun r1 r2 => r1.append r2⟩
end
structure OwnCK (P : Program) (w : World) (K : PySem.W.Frag) (mg : Str → Option Value) (base : Heap) (CX : CXT) (x : Str) (C : Addr) (k : Nat) (ps : List Str) (n : Nat) (ks : List Str) (sp : Sp) : Prop where
  ex : ∃ (f : Addr) (fd : FuncData), FnOk P w K mg base CX k f fd ps sp ∧ Mk K C f ∧ mg x = some (.ref C) ∧ KBa K fd ps (n + 1) ks
section
variable {X : Cx} {CX : CXT} {k n : Nat} {f C : Addr} {fd : FuncData} {ps ks : List Str} {sp : Sp} {E : St → XK} {x : Str} {p pos : Pos} {e : Expr} {es : List Expr} {kws : List Keyword} {t tk : TA} {W : WX}
/-- the errors wished at the slots -/
def tMakeKS (C : Addr) (n m : Nat) (sp : Sp) (E : St → XK) (t tk : TA) : TE := fun g J Q => t g J fun vs J1 => tk g J1 fun zs J2 => vs.length = n ∧ zs.length = m ∧ ∀ o dx, J2 o = none → J2 dx = none → dx ≠ o →
  sp (.ref o :: vs ++ zs) (upd (upd J2 dx (.own o)) o (.ins C dx [])) (fun v J3 => v = .non ∧ Q (.ref o) J3) (fun cl d J3 => E g cl d J3)
theorem run_makeKS {pins : List (Addr × Obj)} {g : St} {J : Hp} {s : Shared} {Q : VK} {us ws : List Value} {vs zs : List V} (M : Mk X.K C f) (F : FnOk X.prog X.w X.K X.mg X.base CX k f fd ps sp) (hr : Room (k + 1) X.A) (hb : KBa X.K fd ps (n + 1) ks) (hx : PassesAt CX X g (E g))
    (I : Inv X pins g J s) (r : Vals vs us) (rz : Vals zs ws) (l1 : vs.length = n) (l2 : zs.length = ks.length)
    (h : ∀ o dx, J o = none → J dx = none → dx ≠ o → sp (.ref o :: vs ++ zs) (upd (upd J dx (.own o)) o (.ins C dx [])) (fun v J2 => v = .non ∧ Q (.ref o) J2) (E g)) :
    wpAny (model X.prog X.w) X.A (call (.ref C) us (ks.zip ws)) (EP X pins g Q) X.xe s := by
  have want := h (s.heap.objs.size + 1) s.heap.objs.size (I.hok.fresh (Nat.le_succ _)) (I.hok.fresh (Nat.le_refl _)) (Nat.ne_of_lt (Nat.lt_succ_self _))
  have I2 := Inv.made (C := C) I
  have m1 : Vals (V.ref (s.heap.objs.size + 1) :: vs) (Value.ref (s.heap.objs.size + 1) :: us) := .cons rfl r
  have m2 := hb.rel m1 rz
  have k1 : (Value.ref (s.heap.objs.size + 1) :: us).length = n + 1 := by rw [List.length_cons, ← r.length, l1]
  refine wpAny_call (make_map (f := f) I.kIn M.makes M.init (beq_iff_eq.mp M.fn) (codeAny_mono (F.run _ X.stack _ _ ⟨Value.ref (s.heap.objs.size + 1) :: us, ks.zip ws⟩ (Value.ref (s.heap.objs.size + 1) :: us ++ ws) _ _ (E g) (hr.make C us (ks.zip ws))
    (I2.env0.make C us (ks.zip ws)) (hb.to _ (Value.ref (s.heap.objs.size + 1) :: us) ws I2.kIn k1 (rz.length.symm.trans l2)) m2 want) fun z t1 hz => ?_))
  cases z with
  | error u => exact hx pins _ _ u t1 I2 hz
  | ok fl =>
    cases fl with
    | ret u =>
      obtain ⟨v, J3, I3, rv, ev, q3⟩ := I2.after hz
      subst ev
      exact ⟨rv, ⟨V.ref (s.heap.objs.size + 1), J3, I3, rfl, q3⟩⟩
    | next => exact False.elim hz
    | brk => exact False.elim hz
    | cont => exact False.elim hz
theorem pe_newKS (O : OwnCK X.prog X.w X.K X.mg X.base (L2.CX X.prog X.w) x C k ps n ks sp) (hr : Room (k + 1) X.A) (tw : Takes X W) (ha : PA X (e :: es) t) (hkw : PK X kws tk) (hg : Gl X x := by rfl)
    (hall : (backToKw pos (keywordEach kws X.env)).all (·.1.isSome) = true := by rfl) (hks : (backToKw pos (keywordEach kws X.env)).filterMap (·.1) = ks := by rfl) (hdb : (x == ("__debug__" : Str)) = false := by decide)
    (he : starEach (e :: es) X.env = (false, eval e X.env) :: starEach es X.env := by rfl) (hpl : ((backTo pos (starEach (e :: es) X.env)).any (·.1) || (backToKw pos (keywordEach kws X.env)).any (·.1.isNone)) = false := by rfl) :
    PE X (.Call (.Name x p) (e :: es) kws pos) (tMakeKS C n ks.length sp (WE W) t tk) := by
  obtain ⟨f, fd, F, M, hm, hb⟩ := O.ex
  refine ⟨fun pins s g J Q I h => wpAny_Call_Name_kw (ld_glob I hg hm ?_ hdb)⟩
  refine PySem.W.callWith_KW (h₀ := X.base) I.ok.mod.kin M.kp hall (thn (ha.run pos pins s g J _ I h) fun us s1 ⟨vs, J1, I1, r, q⟩ => ?_) hpl he
  refine thn (hkw.run pos pins s1 g J1 _ I1 q) fun ws s2 ⟨zs, J2, I2, rz, l1, l2, q2⟩ => ⟨I2.kIn, ?_⟩
  rw [hks]
  exact run_makeKS M F hr hb (passAt tw g) I2 r rz l1 l2 q2
end
section
variable {X : Cx} {e : Expr} {f : Str} {pos : Pos} {ta : TE}
/-- e.f where the context is not known yet -/
theorem pe_fldA (he : PE X e ta) (hb : attributeBase e f X.env (eval e X.env) = eval e X.env := by rfl) : PE X (.Attribute e f pos) (tFld X.K ta f) := pe_fld he hb
end
end L2

set_option Elab.async false
set_option maxRecDepth 100000
set_option maxHeartbeats 4000000
/-! slices and sums of tuples, whichever object it is -/
namespace L2
open PySem PySem.Spec PyProof.Rows
section
variable {X : Cx}
theorem cut_whole {xs : List V} {lo hi : Option Int} (h : HT.sIx xs.length 0 lo = 0 ∧ HT.sIx xs.length xs.length hi = xs.length) : cutV xs lo hi = xs := by
  unfold cutV
  rw [h.1, h.2]
  simp
/-- a slice of a tuple, whichever object it is -/
def rSlE : V → Option Int → Option Int → Hp → VK → Prop := fun x lo hi H Q => ∃ a xs, x = .ref a ∧ H a = some (.tup xs) ∧ ∀ p H', Ext H H' → H' p = some (.tup (cutV xs lo hi)) → Q (.ref p) H'
theorem sl_tupE : SlR X rSlE := by
  intro pins s σ H x v vl vu lo hi sl Q I rx hs pl pu h
  obtain ⟨a, xs, rfl, ha, q⟩ := h
  exact sl_tupA pins s σ H _ v vl vu lo hi sl Q I rx hs pl pu ⟨a, xs, rfl, SqT.of ha, fun hw => q a H Ext.rfl' (by rw [cut_whole hw]; exact ha), fun _ p hp => q p _ (Ext.upd hp) upd_same⟩
/-- the sum of two tuples, whichever object it is -/
def rCatE : R2 := fun x y H Q => ∃ a b xs ys, x = .ref a ∧ y = .ref b ∧ H a = some (.tup xs) ∧ H b = some (.tup ys) ∧ xs.length + ys.length ≤ sizeLine ∧ ∀ p H', Ext H H' → H' p = some (.tup (xs ++ ys)) → Q (.ref p) H'
theorem op_catE : OpR X (binaryOp .Add) rCatE := by
  intro pins s σ H x y v u Q I rx ry h
  obtain ⟨a, b, xs, ys, rfl, rfl, ha, hb, hz, q⟩ := h
  refine op_catA pins s σ H _ _ v u Q I rx ry ⟨a, b, xs, ys, rfl, rfl, SqT.of ha, SqT.of hb, hz, fun e => q b H Ext.rfl' ?_, fun _ e => q a H Ext.rfl' ?_, fun _ _ p hp => q p _ (Ext.upd hp) upd_same⟩
  · subst e
    exact hb
  · subst e
    rw [List.append_nil]
    exact ha
end
end L2

set_option Elab.async false
set_option linter.all false
set_option maxRecDepth 100000
set_option maxHeartbeats 4000000
/-! one of two readings; tuple.index of flat items; an own __contains__ -/
namespace PySem.W
open PySem PySem.Calls PyProof.Rows
section
variable {prog : Program} {w : World} {A : Around} {E : Value → Shared → Prop} {s : Shared} {K : Frag} {x C f : Addr} {ox : Obj} {od : Option Obj}
theorem contains_fn {v : Value} {Q : Bool → Shared → Prop} (X : K.In s.heap) (I : InstAt s.heap x ox C od) (hs : findIn K (.ref C) "__contains__" = some (some (.ref f))) (hf : isFn K (.ref f) = true)
    (h : wpAny (model prog w) A (call (.ref f) [.ref x, v]) (fun r s' => ∃ b, r = .bool b ∧ Q b s') E s) : wpAny (model prog w) A (contains (.ref x) v) Q E s := by
  unfold contains
  refine wpAny_holding ?_
  have e1 : stdlibNamesSay? (.ref x) v = none := rfl
  rw [e1]
  refine wpAny_bind (wpAny_bind (I.type.here ((looks_findIn X hs).here ?_)))
  show wpAny _ _ (if (some (Value.ref f) == some Value.none) = true then _ else _) _ _ _
  rw [if_neg (by simp)]
  refine wpAny_bind (m := callSpecialUnlessNone? (.ref x) _ _ _) ?_
  unfold callSpecialUnlessNone?
  refine wpAny_bind (wpAny_bind (I.type.here ((looks_findIn X hs).here ?_)))
  refine wpAny_holding (wpAny_bind ((bind_fn X _ (beq_iff_eq.mp hf)).here ?_))
  show wpAny _ _ (if (Value.ref f == Value.none) = true then _ else _) _ _ _
  rw [if_neg (by simp)]
  refine wpAny_bind (wpAny_mono h (fun r s' z => ?_) fun _ _ z => z)
  obtain ⟨b, rfl, q⟩ := z
  exact wpAny_pure (wpAny_truthy_bool q)
end
end PySem.W
namespace L2
open PySem PySem.Spec PyProof.Rows
section
variable {X : Cx}
theorem pe_either {ex : Expr} {t1 t2 : TE} (h1 : PE X ex t1) (h2 : PE X ex t2) : PE X ex (fun g J Q => t1 g J Q ∨ t2 g J Q) := ⟨fun pins s g J Q I h => h.elim (fun z => h1.run pins s g J Q I z) (fun z => h2.run pins s g J Q I z)⟩
def rIndexT (K : PySem.W.Frag) : V → List V → Hp → VK → Prop := fun o vs J Q => ∃ (p : Addr) (ts : List V) (e : V) (n : Nat) (c : V), o = V.ref p ∧ vs = [e] ∧ SqT K J p ts ∧ flatV e = true ∧ ts.all flatV = true ∧ ts[n]? = some c ∧ eqV c e = true ∧
  (∀ (m : Nat) (c' : V), m < n → ts[m]? = some c' → eqV c' e = false) ∧ Q (.int (n : Nat)) J
theorem mt_tupIndex : MtR X "tuple.index" (rIndexT X.K) := by
  intro pins s g J o vs v us Q I ro rvs h
  obtain ⟨p, ts, e, n, c, rfl, rfl, ht, fe, fts, hc, hce, no, q⟩ := h
  cases ro
  cases rvs with
  | cons re rt =>
    rename_i ue ut
    cases rt
    obtain ⟨its, rv, ⟨⟨cls, dd, dt, sl⟩, ho, hcl, nn, hd⟩, hz⟩ := I.tuple ht
    simp only at hcl hd
    subst hcl hd
    obtain ⟨u, hu, ru⟩ := rv.get hc
    obtain ⟨nl, ne⟩ := List.getElem?_eq_some_iff.mp hu
    have hvl := rv.length
    have hn : n < its.toArray.size := by simpa using nl
    refine call_meets PySem.F.slot_tuple_index ⟨_, ho, rfl⟩ PySem.F.entry_tuple_index (PySem.F.args_tuple_index_2 _ _) (TI.tuple_indexAt p its.toArray nn dd sl ue (eqU e) n hn ?_ ?_)
      ⟨ho, fun w hw => mem_eqAt re fe rv fts w (by simpa using hw), ?_⟩
    · have e1 : its.toArray[n] = u := by simpa using ne
      rw [e1, eqU_of ru (flat_at fts hc)]
      exact hce
    · intro m hm hmn
      have ml : m < its.length := by simpa using hm
      have mt : m < ts.length := by omega
      have gm : ts[m]? = some ts[m] := List.getElem?_eq_getElem mt
      obtain ⟨u2, hu2, ru2⟩ := rv.get gm
      obtain ⟨_, me⟩ := List.getElem?_eq_some_iff.mp hu2
      have e2 : its.toArray[m] = u2 := by simpa using me
      rw [e2, eqU_of ru2 (flat_at fts gm)]
      exact no m _ hmn gm
    · exact ⟨.int (n : Nat), J, I.tok _, ⟨_, rfl⟩, q⟩
end
section
variable {X : Cx} {CX : CXT} {k : Nat} {f C : Addr} {fd : FuncData} {ps : List Str} {sp : Sp}
/-- x in o, o an instance of the class at C with an own __contains__ -/
def rInO (C : Addr) (sp : Sp) : R2 := fun x y H Q => ∃ a dx fs, y = .ref a ∧ H a = some (.ins C dx fs) ∧ sp [y, x] H (fun v H' => ∃ b, v = .bl b ∧ Q (.bl b) H') E0
theorem op_inO (F : FnOk X.prog X.w X.K X.mg X.base CX k f fd ps sp) (hs : PySem.W.findIn X.K (.ref C) "__contains__" = some (some (.ref f))) (hf : PySem.W.isFn X.K (.ref f) = true) (hr : Room k X.A) (hb : Binds X.K fd ps []) (hx : Passes CX X E0) : OpR X (compareOp .In) (rInO C sp) := by
  intro pins s g J x y v u Q I rx ry hq
  obtain ⟨a, dx, fs, rfl, ha, q⟩ := hq
  cases (show u = Value.ref a from ry)
  obtain ⟨mA, O, _⟩ := ins_get I.hok ha
  obtain ⟨od, O, _⟩ := O.look
  show wpAny (model X.prog X.w) X.A (contains (.ref a) v >>= fun b => pure (.bool b)) (EP X pins g Q) X.xe s
  refine wpAny_bind (PySem.W.contains_fn I.kIn O hs hf (wpAny_mono (run_at (vs := [.ref a, x]) F hr rfl hb hx I (.cons rfl (.cons rx .nil)) q) (fun r s' z => ?_) fun _ _ e => e))
  obtain ⟨w', J', I', rv, b, rfl, q'⟩ := z
  cases rv
  exact ⟨b, rfl, wpAny_pure ⟨.bl b, J', I', rfl, q'⟩⟩
theorem inO {m : Nat} (O : OwnM X.prog X.w X.K X.mg X.base CX C "__contains__" m ps sp) (hr : Room m X.A) (hx : Passes CX X E0) : OpR X (compareOp .In) (rInO C sp) := by
  obtain ⟨f, fd, F, M, hi, hb⟩ := O.ex
  exact op_inO F M.at_ hi hr hb hx
end
end L2

set_option Elab.async false
set_option maxRecDepth 100000
set_option maxHeartbeats 4000000
/-! ranges with a step made lists and tuples; zip of two tuples in a comprehension; a def that is held by a name -/
namespace L2
open PySem PySem.Spec PyProof.Rows
theorem pss_dead {X : Cx} {ss : List Stmt} : PSs X ss (fun _ _ _ => False) := ⟨fun _ _ _ _ _ _ h => h.elim⟩
/-- the def at f keeps its promise -/
structure OwnAt (P : Program) (w : World) (K : PySem.W.Frag) (mg : Str → Option Value) (base : Heap) (CX : CXT) (f : Addr) (k : Nat) (ps : List Str) (sp : Sp) : Prop where
  ex : ∃ fd, FnOk P w K mg base CX k f fd ps sp ∧ PySem.W.keepIn K (.ref f) = true ∧ Binds K fd ps []
theorem Own.at_ {P : Program} {w : World} {K : PySem.W.Frag} {mg : Str → Option Value} {base : Heap} {CX : CXT} {x : Str} {k : Nat} {ps : List Str} {sp : Sp} (O : Own P w K mg base CX x k ps sp) : ∃ f, mg x = some (.ref f) ∧ OwnAt P w K mg base CX f k ps sp := by
  obtain ⟨f, fd, F, hm, hk, hb⟩ := O.ex
  exact ⟨f, hm, fd, F, hk, hb⟩
section
variable {X : Cx} {CX : CXT} {x : Str} {k i : Nat} {f : Addr} {ps : List Str} {sp : Sp} {e : Expr} {es : List Expr} {t : TA} {p pos : Pos}
/-- the i-th slot holds f, which is called; W is wished for what it raises -/
def tCallVS (i : Nat) (f : Addr) (sp : Sp) (E : St → XK) (t : TA) : TE := fun σ H Q => σ[i]? = some (some (.ref f)) ∧ t σ H fun vs H1 => sp vs H1 Q (E σ)
theorem pe_ownVS {W : WX} (O : OwnAt X.prog X.w X.K X.mg X.base (L2.CX X.prog X.w) f k ps sp) (hr : Room k X.A) (tk : Takes X W) (hN : X.N[i]? = some x) (hv : Vis X.env.scope x) (ha : PA X (e :: es) t)
    (hdb : (x == ("__debug__" : Str)) = false := by decide) (hcd : (x == ("__classdict__" : Str)) = false := by decide)
    (he : starEach (e :: es) X.env = (false, eval e X.env) :: starEach es X.env := by rfl) (hpl : (backTo pos (starEach es X.env)).any (·.1) = false := by rfl) : PE X (.Call (.Name x p) (e :: es) [] pos) (tCallVS i f sp (WE W) t) := by
  obtain ⟨fd, F, hk, hb⟩ := O.ex
  refine ⟨fun pins s σ H Q I h => ?_⟩
  obtain ⟨hσ, h⟩ := h
  refine PyProof.Rows.Call_ (thn ((pe_var (pos := p) hN hv hdb hcd).run pins s σ H (fun y H1 => y = .ref f ∧ H1 = H) I ⟨_, hσ, rfl, rfl⟩) fun u s1 ⟨y, H1, I1, rx, ex, eh⟩ => ?_) rfl
  subst ex eh
  obtain rfl : u = Value.ref f := rx
  refine PySem.W.callWith_K (h₀ := X.base) I1.ok.mod.kin hk (thn (ha.run pos pins s1 σ H1 _ I1 h) fun us s2 ⟨vs, H2, I2, r, q⟩ => ⟨I2.kIn, ?_⟩) he hpl
  exact run_fnSD (us := us) (vs := vs) F hr hb .nil (passAt tk σ) I2 r (by rw [List.append_nil]; exact q)
end
/-! zip of two tuples -/
section
variable {K : PySem.W.Frag} {a b : Addr} {xs ys : List V}
theorem walk_zipT {n : Nat} (hn : n = min xs.length ys.length) : Walk (RZ.ItzT K a b) n (fun H => SqT K H a xs ∧ SqT K H b ys) (YPair (fun i => xs[i]?) (fun i => ys[i]?)) := by
  refine ⟨fun i _ hi q => ⟨xs, ys, xs[i]'(by omega), ys[i]'(by omega), q.1, q.2, List.getElem?_eq_getElem (by omega), List.getElem?_eq_getElem (by omega)⟩, fun _ q => ⟨xs, ys, q.1, q.2, by omega⟩, fun i H v H' _ q y => ?_⟩
  obtain ⟨T, x, y, e1, e2, e3, h1, h2⟩ := y
  exact ⟨T, x, y, e1, e2, e3, h1 xs q.1, h2 ys q.2⟩
end
/-! ranges with a step -/
section
variable {X : Cx}
def PRg3 (X : Cx) (e : Expr) (t : St → Hp → (Int → Int → Int → Hp → Prop) → Prop) : Prop :=
  ∀ (pins : List (Addr × Obj)) (s : Shared) (σ : St) (H : Hp) (Q : Int → Int → Int → Hp → Prop), Inv X pins σ H s → t σ H Q →
    wpAny (model X.prog X.w) X.A (eval e X.env) (fun x s' => ∃ r a b c t u v H', x = Value.ref r ∧ IsRange s'.heap r a b c t u v ∧ Inv X pins σ H' s' ∧ Q a b c H') X.xe s
def tRg3 (t : TA) (σ : St) (H : Hp) (Q : Int → Int → Int → Hp → Prop) : Prop := t σ H fun vs H1 => ∃ a b c, vs = [.int a, .int b, .int c] ∧ c ≠ 0 ∧ (-(2 ^ 62) ≤ a ∧ a < 2 ^ 62 ∧ -(2 ^ 62) ≤ b ∧ b < 2 ^ 62 ∧ c.natAbs < 1073741824) ∧ Q a b c H1
end
end L2

set_option Elab.async false
set_option maxRecDepth 100000
set_option maxHeartbeats 4000000
/-! comprehensions over ranges and over zip of two tuples, told by the place; what is tested and made only adds to the heap -/
namespace L2
open PySem PySem.Spec PyProof.Rows
/-- a comprehension's turns -/
abbrev LcGo (J : It) (g : TG) (tt : TT) (te : TE) (vs : List Nat) (σ : St) (H1 : Hp) (D : Addr) (Qd : Hp → Prop) : Prop :=
  ∃ W : Nat → Nat → Hp → Prop, (∃ m, W 0 m (upd H1 D (.lst []))) ∧ ∀ i m H, W i m H →
    (J.stop i H ∧ Qd H) ∨ (J.go i H ∧ ∃ Nx : Hp → Prop, (∀ H', Nx H' → ∃ m', m' < m ∧ W (i + 1) m' H') ∧ ∀ x H', J.yld i H x H' → g x (wipe σ vs) H' fun σ2 H2 => wipe σ2 vs = wipe σ vs ∧ tt σ2 H2 fun b H3 =>
      if b = true then te σ2 H3 fun y H4 => ∃ acc, H4 D = some (.lst acc) ∧ acc.length < sizeLine ∧ Nx (upd H4 D (.lst (acc ++ [y]))) else Nx H3)
theorem range_snoc (n : Nat) : List.range (n + 1) = List.range n ++ [n] := List.range_succ
section
variable {K : PySem.W.Frag} {σ : St} {H : Hp} {te : TE} {tt : TT} {vs : List Nat}
theorem lc_turn {f : Nat → V} {b : Nat → Bool} {D : Addr} {i n : Nat} {σ2 : St} {H' : Hp} (hD : H D = none) (hz : n < sizeLine) (hi : i < n) (hw : wipe σ2 vs = wipe σ vs) (e : Ext H H') (hl : H' D = some (.lst (((List.range i).filter b).map f)))
    (ht : ∀ Q : Bool → Hp → Prop, (∀ H'', Ext H' H'' → Q (b i) H'') → tt σ2 H' Q) (he : b i = true → ∀ H3, Ext H' H3 → ∀ Q : VK, (∀ H'', Ext H3 H'' → Q (f i) H'') → te σ2 H3 Q) :
    wipe σ2 vs = wipe σ vs ∧ tt σ2 H' fun b' H3 => if b' = true then te σ2 H3 fun y H4 => ∃ acc, H4 D = some (.lst acc) ∧ acc.length < sizeLine ∧ (Ext H (upd H4 D (.lst (acc ++ [y]))) ∧ upd H4 D (.lst (acc ++ [y])) D = some (.lst (((List.range (i + 1)).filter b).map f)))
      else (Ext H H3 ∧ H3 D = some (.lst (((List.range (i + 1)).filter b).map f))) := by
  refine ⟨hw, ht _ fun H3 e3 => ?_⟩
  have hl3 := e3 _ _ hl
  cases hb : b i with
  | true =>
    refine iteT (he hb H3 e3 _ fun H4 e4 => ⟨_, e4 _ _ hl3, ?_, ext_mut ((e.trans e3).trans e4) hD, ?_⟩)
    · rw [List.length_map]
      refine Nat.lt_of_le_of_lt (Nat.le_trans (List.length_filter_le _ _) ?_) hz
      rw [List.length_range]
      omega
    · rw [upd_same, range_snoc, List.filter_append, List.map_append]
      simp [hb]
  | false =>
    refine iteF ⟨e.trans e3, ?_⟩
    rw [hl3, range_snoc, List.filter_append, List.map_append]
    simp [hb]
theorem lc_rgR {Qd : Addr → Hp → Prop} {lo : Int} {n j : Nat} {f : Nat → V} {b : Nat → Bool} (hz : n < sizeLine) (hw : ∀ x, wipe ((wipe σ vs).set j (some x)) vs = wipe σ vs)
    (ht : ∀ i, i < n → ∀ H', Ext H H' → ∀ Q : Bool → Hp → Prop, (∀ H'', Ext H' H'' → Q (b i) H'') → tt ((wipe σ vs).set j (some (.int (lo + i)))) H' Q)
    (he : ∀ i, i < n → b i = true → ∀ H', Ext H H' → ∀ Q : VK, (∀ H'', Ext H' H'' → Q (f i) H'') → te ((wipe σ vs).set j (some (.int (lo + i)))) H' Q)
    (q : ∀ D H', H D = none → Ext H H' → H' D = some (.lst (((List.range n).filter b).map f)) → Qd D H') : ∀ D, H D = none → LcGo (Itr lo n) (gName j) tt te vs σ H D (Qd D) := fun D hD =>
  lc_range (fun i H' => Ext H H' ∧ H' D = some (.lst (((List.range i).filter b).map f))) ⟨Ext.upd hD, upd_same⟩ (fun i H' hi pv => lc_turn hD hz hi (hw _) pv.1 pv.2 (ht i hi H' pv.1) fun hb H3 e3 => he i hi hb H3 (pv.1.trans e3)) (fun H' pv => q D H' hD pv.1 pv.2)
theorem lc_zipR {Qd : Addr → Hp → Prop} {a b2 : Addr} {xs ys : List V} {n i1 i2 : Nat} {f : Nat → V} {b : Nat → Bool} (hx : SqT K H a xs) (hy : SqT K H b2 ys) (hn : n = min xs.length ys.length) (hz : n < sizeLine)
    (hw : ∀ x y, wipe (((wipe σ vs).set i1 (some x)).set i2 (some y)) vs = wipe σ vs)
    (ht : ∀ i x y, i < n → xs[i]? = some x → ys[i]? = some y → ∀ H', Ext H H' → ∀ Q : Bool → Hp → Prop, (∀ H'', Ext H' H'' → Q (b i) H'') → tt (((wipe σ vs).set i1 (some x)).set i2 (some y)) H' Q)
    (he : ∀ i x y, i < n → xs[i]? = some x → ys[i]? = some y → b i = true → ∀ H', Ext H H' → ∀ Q : VK, (∀ H'', Ext H' H'' → Q (f i) H'') → te (((wipe σ vs).set i1 (some x)).set i2 (some y)) H' Q)
    (q : ∀ D H', H D = none → Ext H H' → H' D = some (.lst (((List.range n).filter b).map f)) → Qd D H') : ∀ D, H D = none → LcGo (RZ.ItzT K a b2) (gTup K 2 (gCons (gName i1) (gCons (gName i2) gNil))) tt te vs σ H D (Qd D) := fun D hD => by
  refine lc_it (walk_zipT (K := K) (a := a) (b := b2) (xs := xs) (ys := ys) hn) (fun i H' => Ext H H' ∧ H' D = some (.lst (((List.range i).filter b).map f))) ⟨Ext.upd hD, upd_same⟩ (fun i H' _ pv => ⟨hx.ext pv.1, hy.ext pv.1⟩) (fun i v H' H'' hi pv y => ?_) (fun H' pv => q D H' hD pv.1 pv.2)
  obtain ⟨T, x, y, rfl, hT, rfl, h1, h2⟩ := y
  have eT := Ext.upd (o := .tup [x, y]) hT
  refine ⟨T, [x, y], rfl, SqT.of upd_same, rfl, x, [y], rfl, y, [], rfl, rfl, ?_⟩
  exact lc_turn hD hz hi (hw _ _) (pv.1.trans eT) (eT _ _ pv.2) (ht i x y hi h1 h2 _ (pv.1.trans eT)) fun hb H3 e3 => he i x y hi h1 h2 hb H3 ((pv.1.trans eT).trans e3)
end
end L2

set_option Elab.async false
set_option maxRecDepth 100000
set_option maxHeartbeats 4000000
/-! rules with the kit's own part named, for what stands within a comprehension -/
namespace L2
open PySem PySem.Spec PyProof.Rows
section
variable {X : Cx} {K : PySem.W.Frag}
theorem ix_tupK (h : X.K = K) : IxR X (rIxT K) := by
  subst h
  exact ix_tup
theorem ix_listK (h : X.K = K) : IxR X (rIxL K) := by
  subst h
  exact ix_list
theorem cr_maxK (h : X.K = K) (hc : X.calm = true) : CallR X (.builtin "max") (rMax K) := by
  subst h
  exact cr_max hc
theorem cr_minK (h : X.K = K) (hc : X.calm = true) : CallR X (.builtin "min") (rMin K) := by
  subst h
  exact cr_min hc
theorem pe_fldK {e : Expr} {ta : TE} {f : Str} {pos : Pos} (h : X.K = K) (he : PE X e ta) (hb : attributeBase e f X.env (eval e X.env) = eval e X.env := by rfl) : PE X (.Attribute e f pos) (tFld K ta f) := by
  subst h
  exact pe_fld he hb
def iListK (K : PySem.W.Frag) (tl : TE) : TI := fun σ H R => tl σ H fun x H1 => ∃ a, x = .ref a ∧ (∃ xs, SqL K H1 a xs) ∧ R (Itl K a) H1
theorem pi_listK {tg l : Expr} {tl : TE} (h : X.K = K) (hl : PE X l tl) : PI X tg l (iListK K tl) := by
  subst h
  exact pi_list hl
def rTupOfK (K : PySem.W.Frag) : List V → Hp → VK → Prop := fun xs H Q => ∃ p ys, xs = [.ref p] ∧ ((SqL K H p ys ∧ ∀ l, H l = none → Q (.ref l) (upd H l (.tup ys))) ∨ (SqT K H p ys ∧ Q (.ref p) H))
theorem call_tuple_ofK (h : X.K = K) : CallR X (.type "tuple") (rTupOfK K) := by
  subst h
  exact call_tuple_of
def rListOfK (K : PySem.W.Frag) : List V → Hp → VK → Prop := fun xs H Q => ∃ p ys, xs = [.ref p] ∧ (SqL K H p ys ∨ SqT K H p ys) ∧ ∀ l, H l = none → Q (.ref l) (upd H l (.lst ys))
theorem call_list_ofK (h : X.K = K) : CallR X (.type "list") (rListOfK K) := by
  subst h
  exact call_list_of
end
end L2

set_option Elab.async false
set_option maxRecDepth 100000
set_option maxHeartbeats 4000000
/-! list(zip(a, b)) of two lists -/
namespace PySem
theorem zip_no_len : typeLookup (Value.type "zip") (Str.ofString "__len__") = pure none := am_miss_of_fast (by decide +kernel)
theorem zip_no_hint : typeLookup (Value.type "zip") (Str.ofString "__length_hint__") = pure none := am_miss_of_fast (by decide +kernel)
/-- what has been given out -/
structure ZGiven (h : Heap) (lo : Addr) (acc : Array Value) (xs ys : Array Value) (i : Nat) (as : List Addr) : Prop where
  acc : acc.toList = as.map Value.ref
  len : as.length = i
  rise : List.Pairwise (· < ·) as
  above : ∀ a ∈ as, lo < a
  below : ∀ a ∈ as, a < h.objs.size
  pairs : ∀ (j : Nat) (a : Addr), as[j]? = some a → ∃ x y, xs[j]? = some x ∧ ys[j]? = some y ∧ IsPair h a x y
/-- how the zip stands -/
structure ZSt (h : Heap) (z TI TO i1 i2 l1 l2 : Addr) (xs ys : Array Value) (i : Nat) : Prop where
  first : i = 0 → ∃ a b, IsZip h z TI TO .none ∧ IsPair h TO a b
  later : 0 < i → ∃ T f x y, IsZipHeld h z TI TO T f ∧ IsPair h T x y
  ti : IsPair h TI (.ref i1) (.ref i2)
  it1 : h.IsListIter i1 l1 i
  it2 : h.IsListIter i2 l2 i
  li1 : h.IsList l1 xs
  li2 : h.IsList l2 ys
structure ZOff (S z TI TO i1 i2 l1 l2 : Addr) : Prop where
  z : S ≠ z
  ti : S ≠ TI
  to : S ≠ TO
  i1 : S ≠ i1
  i2 : S ≠ i2
  l1 : S ≠ l1
  l2 : S ≠ l2
section
variable {prog : Program} {w : World} {A : Around} {z TI TO i1 i2 l1 l2 S lo : Addr} {xs ys : Array Value} {i : Nat} {h h' : Heap}
theorem ZGiven.next {acc : Array Value} {as : List Addr} {T : Addr} {x y : Value} (g : ZGiven h lo acc xs ys i as) (hT : T = h.objs.size) (hlo : lo < T) (hsz : h'.objs.size = h.objs.size + 1) (hx : xs[i]? = some x) (hy : ys[i]? = some y) (hp : IsPair h' T x y)
    (hk : ∀ a ∈ as, ∀ x y, IsPair h a x y → IsPair h' a x y) : ZGiven h' lo (acc.push (.ref T)) xs ys (i + 1) (as ++ [T]) where
  acc := by rw [Array.toList_push, g.acc, List.map_append]; rfl
  len := by rw [List.length_append, g.len]; rfl
  rise := by
    rw [List.pairwise_append]
    refine ⟨g.rise, List.pairwise_singleton _ _, fun a ha b hb => ?_⟩
    rw [List.mem_singleton.mp hb, hT]
    exact g.below a ha
  above := fun a ha => by
    rcases List.mem_append.mp ha with ha | ha
    · exact g.above a ha
    · rw [List.mem_singleton.mp ha]
      exact hlo
  below := fun a ha => by
    rw [hsz]
    rcases List.mem_append.mp ha with ha | ha
    · exact Nat.lt_succ_of_lt (g.below a ha)
    · rw [List.mem_singleton.mp ha, hT]
      exact Nat.lt_succ_self _
  pairs := fun j a hj => by
    by_cases e : j < as.length
    · rw [List.getElem?_append_left e] at hj
      obtain ⟨x', y', h1, h2, h3⟩ := g.pairs j a hj
      exact ⟨x', y', h1, h2, hk a (List.mem_of_getElem? hj) _ _ h3⟩
    · have hl := (List.getElem?_eq_some_iff.mp hj).1
      rw [List.length_append] at hl
      have hl1 : [T].length = 1 := rfl
      have ej : j = as.length := by omega
      rw [List.getElem?_append_right (by omega), ej, Nat.sub_self] at hj
      cases hj
      rw [ej, g.len]
      exact ⟨x, y, hx, hy, hp⟩
theorem ZGiven.upd {acc : Array Value} {as : List Addr} {f : Obj → Obj} {oS : Obj} (g : ZGiven h lo acc xs ys i as) (hS : h.get? S = some oS) (hc : oS.cls = .type "list") : ZGiven (h.update S f) lo acc xs ys i as where
  acc := g.acc
  len := g.len
  rise := g.rise
  above := g.above
  below := fun a ha => by rw [Heap.size_update]; exact g.below a ha
  pairs := fun j a hj => by
    obtain ⟨x, y, h1, h2, h3⟩ := g.pairs j a hj
    refine ⟨x, y, h1, h2, ?_⟩
    have ne : S ≠ a := fun e => by
      subst e
      have h4 : h.get? S = some _ := h3
      rw [hS] at h4
      cases h4
      exact absurd (show Value.type "tuple" = Value.type "list" from hc) (by decide)
    show (h.update S f).get? a = _
    rw [Heap.get?_update_other h f ne]
    exact h3
theorem ZSt.upd {f : Obj → Obj} (s : ZSt h z TI TO i1 i2 l1 l2 xs ys i) (o : ZOff S z TI TO i1 i2 l1 l2) {oS : Obj} (hS : h.get? S = some oS) (hc : oS.cls = .type "list") : ZSt (h.update S f) z TI TO i1 i2 l1 l2 xs ys i where
  first := fun e => by
    obtain ⟨a, b, h1, h2⟩ := s.first e
    exact ⟨a, b, (Heap.get?_update_other h f o.z).trans h1, (Heap.get?_update_other h f o.to).trans h2⟩
  later := fun e => by
    obtain ⟨T, b, x, y, h1, h2⟩ := s.later e
    have ne : S ≠ T := fun e => by
      subst e
      have h4 : h.get? S = some _ := h2
      rw [hS] at h4
      cases h4
      exact absurd (show Value.type "tuple" = Value.type "list" from hc) (by decide)
    exact ⟨T, b, x, y, (Heap.get?_update_other h f o.z).trans h1, (Heap.get?_update_other h f ne).trans h2⟩
  ti := (Heap.get?_update_other h f o.ti).trans s.ti
  it1 := by
    obtain ⟨q, h1, h2⟩ := s.it1
    exact ⟨q, (Heap.get?_update_other h f o.i1).trans h1, h2⟩
  it2 := by
    obtain ⟨q, h1, h2⟩ := s.it2
    exact ⟨q, (Heap.get?_update_other h f o.i2).trans h1, h2⟩
  li1 := by
    obtain ⟨q, h1, h2⟩ := s.li1
    exact ⟨q, (Heap.get?_update_other h f o.l1).trans h1, h2⟩
  li2 := by
    obtain ⟨q, h1, h2⟩ := s.li2
    exact ⟨q, (Heap.get?_update_other h f o.l2).trans h1, h2⟩
theorem zip_loop (hh : A.in1.handled = none) (D : ZipApart z TI TO i1 i2 l1 l2) (o : ZOff S z TI TO i1 i2 l1 l2) (res : Value) {n : Nat} (hn : n = min xs.size ys.size) (hz : n + 1 ≤ sizeLine) {g : Array GenState} {d : _} {tk : Nat} {os : _} {R : Result → Shared → Prop} :
    ∀ (k i : Nat) (h : Heap) (acc : Array Value) (c : Nat) (as : List Addr), n - i = k → i ≤ n → ZSt h z TI TO i1 i2 l1 l2 xs ys i → h.get? S = some { cls := .type "list", data := .seq acc c } → lo < h.objs.size → ZGiven h lo acc xs ys i as →
      (∀ (h' : Heap) (acc' : Array Value) (c' : Nat) (as' : List Addr), (∀ b ob, b ≠ S → b ≠ z → b ≠ TO → b ≠ i1 → b ≠ i2 → h.get? b = some ob → h'.get? b = some ob) → h'.get? S = some { cls := .type "list", data := .seq acc' c' } → ZGiven h' lo acc' xs ys n as' → R (.ok (.ret res)) ⟨h', g, d, tk, os⟩) →
      codeAny (model prog w) A (.builtin "list.extend.loop" ⟨[.ref S, .ref z, res], []⟩) R ⟨h, g, d, tk, os⟩ := by
  intro k
  induction k with
  | zero =>
    intro i h acc c as hk hi st hS hlo gv hR
    have ei : i = n := by omega
    subst ei
    refine codeAny_builtin F.entry_extend_loop ?_
    rw [Around.under_plainId F.plain_extend_loop]
    refine wpAny_bind ?_
    have hend : xs[i]? = none ∨ ys[i]? = none := by
      rcases Nat.le_total xs.size ys.size with e | e
      · left
        exact Array.getElem?_eq_none (by omega)
      · right
        exact Array.getElem?_eq_none (by omega)
    by_cases h0 : i = 0
    · obtain ⟨a, b, hz1, hto⟩ := st.first h0
      refine wpAny_pyNext_zip_end hh D hz1 st.ti hto st.it1 st.it2 st.li1 st.li2 hend fun h' hk' => ?_
      refine wpAny_pure (hR h' acc c as (fun b ob b1 b2 b3 b4 b5 e => hk' b ob b2 b3 b4 b5 e) (hk' S _ o.z o.to o.i1 o.i2 hS) ?_)
      have has : as = [] := List.eq_nil_of_length_eq_zero (gv.len.trans h0)
      subst has
      exact ⟨gv.acc, gv.len, gv.rise, gv.above, (fun a ha => by cases ha), fun j a hj => by cases hj⟩
    · obtain ⟨T, f, tx, ty, hz1, hT⟩ := st.later (by omega)
      refine wpAny_pyNext_zip_end_held hh D hz1 hT st.ti st.it1 st.it2 st.li1 st.li2 hend fun h' hk' => ?_
      refine wpAny_pure (hR h' acc c as (fun b ob b1 b2 b3 b4 b5 e => hk' b ob b2 b4 b5 e) (hk' S _ o.z o.i1 o.i2 hS) ?_)
      have keep : ∀ a ∈ as, ∀ x y, IsPair h a x y → IsPair h' a x y := fun a ha x y hp => by
        refine hk' a _ (fun e => ?_) (fun e => ?_) (fun e => ?_) hp
        · subst e
          have q : h.get? a = some _ := hp
          rw [show h.get? a = some _ from hz1] at q
          injection q with q
          injection q with q
          exact absurd q (by decide)
        · subst e
          obtain ⟨ob, q1, q2, _⟩ := st.it1
          rw [show h.get? a = some _ from hp] at q1
          cases q1
          exact absurd (show Value.type "tuple" = Value.type "list_iterator" from q2) (by decide)
        · subst e
          obtain ⟨ob, q1, q2, _⟩ := st.it2
          rw [show h.get? a = some _ from hp] at q1
          cases q1
          exact absurd (show Value.type "tuple" = Value.type "list_iterator" from q2) (by decide)
      refine ⟨gv.acc, gv.len, gv.rise, gv.above, fun a ha => ?_, fun j a hj => ?_⟩
      · obtain ⟨j, hj⟩ := List.getElem?_of_mem ha
        obtain ⟨x, y, _, _, hp⟩ := gv.pairs j a hj
        exact Heap.lt_size (keep a ha _ _ hp)
      · obtain ⟨x, y, h1, h2, hp⟩ := gv.pairs j a hj
        exact ⟨x, y, h1, h2, keep a (List.mem_of_getElem? hj) _ _ hp⟩
  | succ k ih =>
    intro i h acc c as hk hi st hS hlo gv hR
    refine codeAny_builtin F.entry_extend_loop ?_
    rw [Around.under_plainId F.plain_extend_loop]
    refine wpAny_bind ?_
    obtain ⟨x, hx⟩ : ∃ x, xs[i]? = some x := ⟨_, Array.getElem?_eq_getElem (by omega)⟩
    obtain ⟨y, hy⟩ : ∃ y, ys[i]? = some y := ⟨_, Array.getElem?_eq_getElem (by omega)⟩
    have step : ∀ h' : Heap, ZSt h' z TI TO i1 i2 l1 l2 xs ys (i + 1) → IsPair h' h.objs.size x y → h'.objs.size = h.objs.size + 1 → (∀ b ob, b ≠ z → b ≠ TO → b ≠ i1 → b ≠ i2 → h.get? b = some ob → h'.get? b = some ob) → (∀ a ∈ as, ∀ x y, IsPair h a x y → IsPair h' a x y) →
        wpAny (model prog w) A.in1 (do
          Builtin.List.listUpdate (Value.ref S) fun q => q.push (.ref h.objs.size)
          again (Code.builtin "list.extend.loop" ⟨[.ref S, .ref z, res], []⟩)) (fun fin s' => match fin with
          | Fin.done f => R (Except.ok f) s'
          | Fin.again c' => c'.quiet = true ∧ codeAny (model prog w) A c' R s') (fun e s' => R (Except.error e) s') ⟨h', g, d, tk, os⟩ := fun h' st' hp hsz hk' hkp => by
      have hS' : h'.get? S = some { cls := .type "list", data := .seq acc c } := hk' S _ o.z o.to o.i1 o.i2 hS
      have hal : acc.size = i := by
        have e1 := congrArg List.length gv.acc
        rw [List.length_map, gv.len, Array.length_toList] at e1
        exact e1
      refine wpAny_bind (wpAny_updateSeq hS' rfl (wpAny_pure ⟨plainId_quiet F.plain_extend_loop _, ?_⟩) (by omega) (by rw [Array.size_push]; omega))
      have gv' := gv.next (h' := h') rfl hlo hsz hx hy hp hkp
      refine ih (i + 1) (h'.update S (Obj.mapSeq fun q => q.push (.ref h.objs.size))) (acc.push (.ref h.objs.size)) _ (as ++ [h.objs.size]) (by omega) (by omega) (st'.upd o hS' rfl) (Heap.get?_update_self (Obj.mapSeq fun q => q.push (.ref h.objs.size)) hS' rfl) ?_ (gv'.upd hS' rfl) fun h2 acc2 c2 as2 e1 e2 e3 => ?_
      · rw [Heap.size_update, hsz]
        exact Nat.lt_succ_of_lt hlo
      · exact hR h2 acc2 c2 as2 (fun b ob b1 b2 b3 b4 b5 e => e1 b ob b1 b2 b3 b4 b5 ((Heap.get?_update_other h' _ (Ne.symm b1)).trans (hk' b ob b2 b3 b4 b5 e))) e2 e3
    by_cases h0 : i = 0
    · obtain ⟨a, b, hz1, hto⟩ := st.first h0
      have has : as = [] := List.eq_nil_of_length_eq_zero (gv.len.trans h0)
      refine wpAny_pyNext_zip_item D hz1 st.ti hto st.it1 st.it2 st.li1 st.li2 hx hy fun h' a1 a2 a3 a4 a5 a6 a7 => step h' ⟨fun e => absurd e (Nat.succ_ne_zero _), fun _ => ⟨h.objs.size, false, x, y, a1, a5⟩, a7 TI _ D.TIz D.TITO D.TIi1 D.TIi2 st.ti, a3, a4, ?_, ?_⟩ a5 a6 a7 fun a ha => by rw [has] at ha; cases ha
      · obtain ⟨q, h1, h2⟩ := st.li1
        exact ⟨q, a7 l1 q D.l1z D.l1TO D.l1i1 D.l1i2 h1, h2⟩
      · obtain ⟨q, h1, h2⟩ := st.li2
        exact ⟨q, a7 l2 q D.l2z D.l2TO D.l2i1 D.l2i2 h1, h2⟩
    · obtain ⟨T, f, tx, ty, hz1, hT⟩ := st.later (by omega)
      have kp : ∀ (h' : Heap), (∀ b ob, b ≠ z → b ≠ i1 → b ≠ i2 → h.get? b = some ob → h'.get? b = some ob) → ∀ a x y, IsPair h a x y → IsPair h' a x y := fun h' a7 a x y hp => by
        refine a7 a _ (fun e => ?_) (fun e => ?_) (fun e => ?_) hp
        · subst e
          have q : h.get? a = some _ := hp
          rw [show h.get? a = some _ from hz1] at q
          injection q with q
          injection q with q
          exact absurd q (by decide)
        · subst e
          obtain ⟨ob, q1, q2, _⟩ := st.it1
          rw [show h.get? a = some _ from hp] at q1
          cases q1
          exact absurd (show Value.type "tuple" = Value.type "list_iterator" from q2) (by decide)
        · subst e
          obtain ⟨ob, q1, q2, _⟩ := st.it2
          rw [show h.get? a = some _ from hp] at q1
          cases q1
          exact absurd (show Value.type "tuple" = Value.type "list_iterator" from q2) (by decide)
      refine wpAny_pyNext_zip_item_held D hz1 hT st.ti st.it1 st.it2 st.li1 st.li2 hx hy fun h' a1 a3 a4 a5 a6 a7 => step h' ⟨fun e => absurd e (Nat.succ_ne_zero _), fun _ => ⟨T, true, tx, ty, a1, kp h' a7 T tx ty hT⟩, a7 TI _ D.TIz D.TIi1 D.TIi2 st.ti, a3, a4, ?_, ?_⟩ a5 a6 (fun b ob b1 b2 b3 b4 e => a7 b ob b1 b3 b4 e) fun a ha x y hp => kp h' a7 a x y hp
      · obtain ⟨q, h1, h2⟩ := st.li1
        exact ⟨q, a7 l1 q D.l1z D.l1i1 D.l1i2 h1, h2⟩
      · obtain ⟨q, h1, h2⟩ := st.li2
        exact ⟨q, a7 l2 q D.l2z D.l2i1 D.l2i2 h1, h2⟩
theorem list_init_zip (hh : A.in1.handled = none) (D : ZipApart z TI TO i1 i2 l1 l2) (o : ZOff S z TI TO i1 i2 l1 l2) {n : Nat} (hn : n = min xs.size ys.size) (hz : n + 1 ≤ sizeLine) {g : Array GenState} {d : _} {tk : Nat} {os : _} {R : Result → Shared → Prop}
    (st : ZSt h z TI TO i1 i2 l1 l2 xs ys 0) (hS : h.get? S = some { cls := .type "list", data := .seq #[] }) (hlo : lo < h.objs.size)
    (hR : ∀ (h' : Heap) (acc' : Array Value) (c' : Nat) (as' : List Addr), (∀ b ob, b ≠ S → b ≠ z → b ≠ TO → b ≠ i1 → b ≠ i2 → h.get? b = some ob → h'.get? b = some ob) → h'.get? S = some { cls := .type "list", data := .seq acc' c' } → ZGiven h' lo acc' xs ys n as' → R (.ok (.ret .none)) ⟨h', g, d, tk, os⟩) :
    wpAny (model prog w) A.in1 (Builtin.«list.__init__» ⟨[.ref S, .ref z], []⟩) (fun fin s' => match fin with
      | Fin.done f => R (Except.ok f) s'
      | Fin.again c' => c'.quiet = true ∧ codeAny (model prog w) A c' R s') (fun e s' => R (Except.error e) s') ⟨h, g, d, tk, os⟩ := by
  refine wpAny_bind ?_
  unfold Builtin.List.listItems
  refine wpAny_bind (wpAny_seqItems hS rfl (wpAny_pure ?_))
  refine wpAny_bind (wpAny_updateSeq hS rfl ?_)
  refine wpAny_bind (wpAny_letGo ?_)
  obtain ⟨a0, b0, hz0, hto0⟩ := st.first rfl
  have hS1 := Heap.get?_update_self (h := h) (Obj.mapSeq fun _ => #[]) hS rfl
  have st1 := st.upd (f := Obj.mapSeq fun _ => #[]) o hS rfl
  have sz1 : (h.update S (Obj.mapSeq fun _ => #[])).objs.size = h.objs.size := Heap.size_update _ _ _
  have off1 : ∀ b ob, b ≠ S → h.get? b = some ob → (h.update S (Obj.mapSeq fun _ => #[])).get? b = some ob := fun b ob hb e => (Heap.get?_update_other h _ (Ne.symm hb)).trans e
  generalize h.update S (Obj.mapSeq fun _ => #[]) = h1 at hS1 st1 sz1 off1 ⊢
  have hz1 : h1.get? z = some _ := off1 z _ (Ne.symm o.z) hz0
  have hT : ∀ (h2 : Heap) (g2 : _) , h2.get? z = some { cls := Value.type "zip", data := Data.fields #[Value.none, Value.bool false, Value.bool false, Value.ref TI, Value.ref TO] } → (Shared.mk h2 g2 d tk os).TypeIs (.ref z) "zip" := fun h2 g2 e => ⟨_, e, rfl⟩
  refine wpAny_bind (wpAny_typeOf (hT h1 g hz1) ?_)
  have e1 : (Builtin.List.listSameRef (Value.ref S) (Value.ref z) || Value.type "zip" == Value.type "list" || Value.type "zip" == Value.type "tuple") = false := by
    have : Builtin.List.listSameRef (Value.ref S) (Value.ref z) = false := beq_eq_false_iff_ne.mpr o.z
    rw [this]
    rfl
  rw [e1, if_neg (by decide)]
  refine wpAny_bind (wpAny_pyIter_zip hz1 ?_)
  refine wpAny_bind (wpAny_holding ?_)
  refine wpAny_bind (wpAny_specialOf (hT h1 g hz1) zip_no_len ?_)
  refine wpAny_bind (wpAny_specialOf (hT h1 g hz1) zip_no_hint (wpAny_pure ?_))
  rw [if_pos (by rfl)]
  refine wpAny_bind (wpAny_rule ?_)
  refine wpAny_bind ?_
  unfold Builtin.List.listTouch
  refine wpAny_bind (wpAny_updateSeq hS1 rfl ?_)
  have hS2 := Heap.get?_update_self (h := h1) (Obj.mapSeq fun q => q.push Value.none) hS1 rfl
  have st2 := st1.upd (f := Obj.mapSeq fun q => q.push Value.none) o hS1 rfl
  have sz2 : (h1.update S (Obj.mapSeq fun q => q.push Value.none)).objs.size = h1.objs.size := Heap.size_update _ _ _
  have off2 : ∀ b ob, b ≠ S → h1.get? b = some ob → (h1.update S (Obj.mapSeq fun q => q.push Value.none)).get? b = some ob := fun b ob hb e => (Heap.get?_update_other h1 _ (Ne.symm hb)).trans e
  generalize h1.update S (Obj.mapSeq fun q => q.push Value.none) = h2 at hS2 st2 sz2 off2 ⊢
  refine wpAny_updateSeq hS2 rfl ?_
  have hS3 := Heap.get?_update_self (h := h2) (Obj.mapSeq fun q => q.pop) hS2 rfl
  have st3 := st2.upd (f := Obj.mapSeq fun q => q.pop) o hS2 rfl
  have sz3 : (h2.update S (Obj.mapSeq fun q => q.pop)).objs.size = h2.objs.size := Heap.size_update _ _ _
  have off3 : ∀ b ob, b ≠ S → h2.get? b = some ob → (h2.update S (Obj.mapSeq fun q => q.pop)).get? b = some ob := fun b ob hb e => (Heap.get?_update_other h2 _ (Ne.symm hb)).trans e
  refine wpAny_pure ⟨plainId_quiet F.plain_extend_loop _, ?_⟩
  refine zip_loop (lo := lo) hh D o .none hn hz n 0 (h2.update S (Obj.mapSeq fun q => q.pop)) #[] _ [] (Nat.sub_zero n) (Nat.zero_le n) st3 hS3 (by rw [sz3, sz2, sz1]; exact hlo) ⟨rfl, rfl, .nil, (fun _ h => nomatch h), (fun _ h => nomatch h), (fun _ _ h => by cases h)⟩ fun h' acc' c' as' k1 k2 k3 => ?_
  exact hR h' acc' c' as' (fun b ob b1 b2 b3 b4 b5 e => k1 b ob b1 b2 b3 b4 b5 (off3 b ob b1 (off2 b ob b1 (off1 b ob b1 e)))) k2 k3
/-- list(z), z a zip of two lists as it was made -/
theorem call_list_zip {E : Value → Shared → Prop} {Q : Value → Shared → Prop} (hh : A.in1.in1.handled = none) (D : ZipApart z TI TO i1 i2 l1 l2) {n : Nat} (hn : n = min xs.size ys.size) (hz : n + 1 ≤ sizeLine) {s : Shared} (st : ZSt s.heap z TI TO i1 i2 l1 l2 xs ys 0)
    (hQ : ∀ (h' : Heap) (acc' : Array Value) (c' : Nat) (as' : List Addr), (∀ b ob, b ≠ z → b ≠ TO → b ≠ i1 → b ≠ i2 → s.heap.get? b = some ob → h'.get? b = some ob) → h'.get? s.heap.objs.size = some { cls := .type "list", data := .seq acc' c' } → ZGiven h' s.heap.objs.size acc' xs ys n as' → Q (.ref s.heap.objs.size) { s with heap := h' }) :
    wpAny (model prog w) A (call (.type "list") [.ref z]) Q E s := by
  obtain ⟨h, g, d, tk, os⟩ := s
  obtain ⟨a0, b0, hz0, hto0⟩ := st.first rfl
  refine callType_codes F.called_list (F.typeCall_list_1 _) F.entry_list_init (code_list_new (.ref z) (Q₁ := fun v s' => v = .ref h.objs.size ∧ s' = ⟨h.push { cls := .type "list", data := .seq #[] }, g, d, tk, os⟩) ⟨rfl, rfl⟩) fun obj s₁ h₁ => ?_
  obtain ⟨rfl, rfl⟩ := h₁
  have hS := Heap.get?_push_size h (o := { cls := .type "list", data := .seq #[] }) rfl
  have kp : ∀ b ob, h.get? b = some ob → (h.push { cls := Value.type "list", data := Data.seq #[] }).get? b = some ob := fun b ob e => Heap.get?_push_of_some _ e
  have lt : ∀ {b : Addr} {ob : Obj}, h.get? b = some ob → h.objs.size ≠ b := fun e => Nat.ne_of_gt (Heap.lt_size e)
  have o : ZOff h.objs.size z TI TO i1 i2 l1 l2 := ⟨lt hz0, lt st.ti, lt hto0, (by obtain ⟨_, q, _⟩ := st.it1; exact lt q), (by obtain ⟨_, q, _⟩ := st.it2; exact lt q), (by obtain ⟨_, q, _⟩ := st.li1; exact lt q), (by obtain ⟨_, q, _⟩ := st.li2; exact lt q)⟩
  have st' : ZSt (h.push { cls := Value.type "list", data := Data.seq #[] }) z TI TO i1 i2 l1 l2 xs ys 0 := ⟨fun _ => ⟨a0, b0, kp _ _ hz0, kp _ _ hto0⟩, fun e => absurd e (Nat.lt_irrefl _), kp _ _ st.ti, (by obtain ⟨q, q1, q2⟩ := st.it1; exact ⟨q, kp _ _ q1, q2⟩), (by obtain ⟨q, q1, q2⟩ := st.it2; exact ⟨q, kp _ _ q1, q2⟩), (by obtain ⟨q, q1, q2⟩ := st.li1; exact ⟨q, kp _ _ q1, q2⟩), (by obtain ⟨q, q1, q2⟩ := st.li2; exact ⟨q, kp _ _ q1, q2⟩)⟩
  refine ⟨⟨_, hS, rfl⟩, F.args_list_init_2 _ _, list_init_zip (lo := h.objs.size) hh D o hn hz st' hS (by rw [Heap.size_push]; exact Nat.lt_succ_self _) fun h' acc' c' as' k1 k2 k3 => ⟨rfl, ?_⟩⟩
  exact hQ h' acc' c' as' (fun b ob b2 b3 b4 b5 e => k1 b ob (Ne.symm (lt e)) b2 b3 b4 b5 (kp b ob e)) k2 k3
end
end PySem

set_option Elab.async false
set_option maxRecDepth 100000
set_option maxHeartbeats 4000000
/-! tuple(range(a, b, c)), list(range(a, b, c)), list(zip(x, y)) as expressions -/
namespace L2
open PySem PySem.Spec PyProof.Rows
section
variable {X : Cx}
theorem vals3 {x y z : V} {us : List Value} (r : Vals [x, y, z] us) : ∃ u v w, us = [u, v, w] ∧ RelV x u ∧ RelV y v ∧ RelV z w := by
  cases r with
  | cons h1 r =>
    obtain ⟨v, w, rfl, h2, h3⟩ := vals2 r
    exact ⟨_, v, w, rfl, h1, h2, h3⟩
theorem pylong_no {x c : Int} (h : c.natAbs < 1073741824) : Builtin.divisionGoesByPylong x c = false := by
  unfold Builtin.divisionGoesByPylong
  have hd : ¬ (if (c == 0) = true then 0 else c.natAbs.log2 / 30 + 1) > 300 := by
    split
    · omega
    · rename_i h0
      have hc : c.natAbs ≠ 0 := fun e => h0 (by rw [Int.natAbs_eq_zero.mp e]; rfl)
      have : c.natAbs.log2 < 30 := (Nat.log2_lt hc).mpr (by simpa using h)
      omega
  dsimp only
  rw [decide_eq_false hd]
  rfl
theorem prg_3 {e : Expr} {es : List Expr} {ta : TA} {p pos : Pos} (hg : Gl X "range") (hm : X.mg "range" = none) (ha : PA X (e :: es) ta) (he : starEach (e :: es) X.env = (false, eval e X.env) :: starEach es X.env := by rfl) (hpl : (backTo pos (starEach es X.env)).any (·.1) = false := by rfl) :
    PRg3 X (.Call (.Name "range" p) (e :: es) [] pos) (tRg3 ta) := by
  intro pins s σ H Q I h
  refine PyProof.Rows.Call_ (ld_blt I hg hm (u := .type "range") (by rfl) (PyProof.Rows.callWith_type1 (thn (ha.run pos pins s σ H _ I h) fun us s1 ⟨vs, H1, I1, r1, q1⟩ => ?_) he hpl)) rfl
  obtain ⟨a, b, c, rfl, hc, ⟨h1, h2, h3, h4, h5⟩, q⟩ := q1
  obtain ⟨u, v, w, rfl, ⟨t1, rfl⟩, ⟨t2, rfl⟩, ⟨t3, rfl⟩⟩ := vals3 r1
  refine call_range_3 hc ⟨s1.heap.objs.size, a, b, c, t1, t2, t3, H1, rfl, Heap.get?_push_size _ rfl, ?_, q⟩ (.inl (pylong_no h5))
  exact I1.kept (t' := s1.toks) fun b o e => Heap.get?_push_of_some _ e
def rgC (a c : Int) (n : Nat) : List V := (List.range n).map fun (i : Nat) => .int (a + (i : Int) * c)
theorem vals_rgC {a c : Int} {n : Nat} {acc : Array Value} (h : ItemsOf (fun i v => ∃ t, v = Value.int (a + (i : Int) * c) t) acc n) : Vals (rgC a c n) acc.toList := by
  refine vals_of_at ?_ fun j x u hx hu => ?_
  · show (rgC a c n).length = acc.toList.length
    rw [show acc.toList.length = acc.size from rfl, h.1]
    simp [rgC]
  · have hj : j < n := by
      have := (List.getElem?_eq_some_iff.mp hx).1
      simpa [rgC] using this
    obtain ⟨t, rfl⟩ := h.2 j u (by rw [← Array.getElem?_toList]; exact hu)
    unfold rgC at hx
    rw [List.getElem?_map, List.getElem?_range hj] at hx
    cases hx
    exact ⟨t, rfl⟩
def tTupRg3 (te : St → Hp → (Int → Int → Int → Hp → Prop) → Prop) : TE := fun σ H Q => te σ H fun a b c H1 => ∃ n, RgC a b c n ∧ n ≤ 2 ^ 24 ∧ ∀ q, H1 q = none → Q (.ref q) (upd H1 q (.tup (rgC a c n)))
def tLstRg3 (te : St → Hp → (Int → Int → Int → Hp → Prop) → Prop) : TE := fun σ H Q => te σ H fun a b c H1 => ∃ n, RgC a b c n ∧ n ≤ 2 ^ 24 ∧ ∀ q, H1 q = none → Q (.ref q) (upd H1 q (.lst (rgC a c n)))
theorem pe_tupRg3 {e : Expr} {te : St → Hp → (Int → Int → Int → Hp → Prop) → Prop} {p pos : Pos} (hc : X.calm = true) (hg : Gl X "tuple") (hm : X.mg "tuple" = none) (he : PRg3 X e te) (hs : starEach [e] X.env = (false, eval e X.env) :: starEach [] X.env := by rfl) :
    PE X (.Call (.Name "tuple" p) [e] [] pos) (tTupRg3 te) := by
  refine ⟨fun pins s σ H Q I h => ?_⟩
  refine PyProof.Rows.Call_ (ld_blt I hg hm (u := .type "tuple") (by rfl) (PyProof.Rows.callWith_type1 ?_ hs rfl)) rfl
  rw [hs]
  refine Calls.spliced_cons (thn (he pins s σ H _ I h) fun x s1 ⟨r, a, b, c, t, u, v, H1, ex, hr, I1, n, hn, hz, q⟩ => Calls.spliced_nil ?_)
  subst ex
  obtain ⟨_, _, h3, h4⟩ := hn
  refine call_tuple_range (I1.ok.hd hc) hr h3 h4 hz fun h' tk acc hk hacc => ?_
  have I2 := I1.kept (t' := tk) hk
  have hzl : (rgC a c n).length ≤ sizeLine := by
    rw [show (rgC a c n).length = n by simp [rgC]]
    exact Nat.le_trans hz (by decide)
  refine ⟨.ref h'.objs.size, upd H1 h'.objs.size (.tup (rgC a c n)), I2.laid (t' := tk) (fun b o e => Heap.get?_push_of_some _ e) (Nat.le_refl _) ⟨hzl, acc.toList, vals_rgC hacc, ⟨_, Heap.get?_push_size _ rfl, rfl, _, rfl⟩⟩, rfl, q _ (I2.hok.fresh (Nat.le_refl _))⟩
theorem pe_listRg3 {e : Expr} {te : St → Hp → (Int → Int → Int → Hp → Prop) → Prop} {p pos : Pos} (hc : X.calm = true) (hg : Gl X "list") (hm : X.mg "list" = none) (he : PRg3 X e te) (hs : starEach [e] X.env = (false, eval e X.env) :: starEach [] X.env := by rfl) :
    PE X (.Call (.Name "list" p) [e] [] pos) (tLstRg3 te) := by
  refine ⟨fun pins s σ H Q I h => ?_⟩
  refine PyProof.Rows.Call_ (ld_blt I hg hm (u := .type "list") (by rfl) (PyProof.Rows.callWith_type1 ?_ hs rfl)) rfl
  rw [hs]
  refine Calls.spliced_cons (thn (he pins s σ H _ I h) fun x s1 ⟨r, a, b, c, t, u, v, H1, ex, hr, I1, n, hn, hz, q⟩ => Calls.spliced_nil ?_)
  subst ex
  obtain ⟨_, _, h3, h4⟩ := hn
  refine call_list_range (I1.ok.hd hc) hr h3 h4 hz fun h' tk acc c' hk hS hacc => ?_
  have hzl : (rgC a c n).length ≤ sizeLine := by
    rw [show (rgC a c n).length = n by simp [rgC]]
    exact Nat.le_trans hz (by decide)
  refine ⟨.ref s1.heap.objs.size, upd H1 s1.heap.objs.size (.lst (rgC a c n)), I1.laid (t' := tk) hk (Nat.le_refl _) ⟨hzl, acc.toList, c', vals_rgC hacc, hS⟩, rfl, q _ (I1.hok.fresh (Nat.le_refl _))⟩
/-! list(zip(x, y)), two lists of ints -/
theorem zipApart {n la lb : Nat} (h1 : la < n) (h2 : lb < n) : ZipApart (n + 4) (n + 2) (n + 3) n (n + 1) la lb where
  TIz := show (n + 2 : Nat) ≠ n + 4 by omega
  TOz := show (n + 3 : Nat) ≠ n + 4 by omega
  i1z := show (n : Nat) ≠ n + 4 by omega
  i2z := show (n + 1 : Nat) ≠ n + 4 by omega
  TITO := show (n + 2 : Nat) ≠ n + 3 by omega
  TIi1 := show (n + 2 : Nat) ≠ n by omega
  TIi2 := show (n + 2 : Nat) ≠ n + 1 by omega
  TOi1 := show (n + 3 : Nat) ≠ n by omega
  TOi2 := show (n + 3 : Nat) ≠ n + 1 by omega
  i12 := show (n : Nat) ≠ n + 1 by omega
  l1z := show (la : Nat) ≠ n + 4 by omega
  l1TO := show (la : Nat) ≠ n + 3 by omega
  l1i1 := show (la : Nat) ≠ n by omega
  l1i2 := show (la : Nat) ≠ n + 1 by omega
  l2z := show (lb : Nat) ≠ n + 4 by omega
  l2TO := show (lb : Nat) ≠ n + 3 by omega
  l2i1 := show (lb : Nat) ≠ n by omega
  l2i2 := show (lb : Nat) ≠ n + 1 by omega
theorem lt_off {n b : Nat} (h : b < n) : b ≠ n + 4 ∧ b ≠ n + 3 ∧ b ≠ n ∧ b ≠ n + 1 := ⟨by omega, by omega, by omega, by omega⟩
/-- the same heap with k places more, all of them free -/
theorem padded (h : Heap) : ∀ k : Nat, ∃ h2 : Heap, h2.objs.size = h.objs.size + k ∧ (∀ b o, h.get? b = some o → h2.get? b = some o) ∧ ∀ b o, h2.get? b = some o → h.get? b = some o
  | 0 => ⟨h, rfl, fun _ _ e => e, fun _ _ e => e⟩
  | k + 1 => by
    obtain ⟨h2, e1, e2, e3⟩ := padded h k
    refine ⟨h2.push { cls := .none, data := .freed }, by rw [Heap.size_push, e1]; rfl, fun b o e => Heap.get?_push_of_some _ (e2 b o e), fun b o e => e3 b o ?_⟩
    obtain ⟨objs, life⟩ := h2
    unfold Heap.push Heap.get? at e
    dsimp only at e
    rw [Array.getElem?_push] at e
    by_cases hb : b = objs.size
    · rw [if_pos hb] at e
      cases e
    · rw [if_neg hb] at e
      exact e
theorem paired_at {α β : Type} {R : α → β → Prop} : ∀ {as : List α} {qs : List β} {j : Nat} {t : α}, Paired R as qs → as[j]? = some t → ∃ q, qs[j]? = some q ∧ R t q
  | _ :: _, _ :: _, 0, _, .cons h _, e => by
    cases e
    exact ⟨_, rfl, h⟩
  | _ :: _, _ :: _, j + 1, _, .cons _ h, e => by
    obtain ⟨q, h1, h2⟩ := paired_at (j := j) h (by simpa using e)
    exact ⟨q, by simpa using h1, h2⟩
theorem kv_zip : ∀ (xs : List Int) (ys : List Int) (us : List Value), Vals (ys.map V.int) us → KV ((xs.zip ys).map fun p => ((Sum.inl p.1 : Key), V.int p.2)) ((xs.zip us).map fun p => ((Sum.inl p.1 : Key), p.2))
  | [], _, _, _ => .nil
  | _ :: _, [], [], _ => .nil
  | x :: xs, y :: ys, u :: us, .cons h1 h2 => .cons ⟨rfl, h1⟩ (kv_zip xs ys us h2)
def tLstZip (K : PySem.W.Frag) (t : TA) : TE := fun σ H Q => t σ H fun vs H1 => ∃ (la lb : Addr) (xs ys : List Int), vs = [.ref la, .ref lb] ∧ SqL K H1 la (xs.map V.int) ∧ SqL K H1 lb (ys.map V.int) ∧ xs.length = ys.length ∧ xs.length ≤ 1000000 ∧
  ∀ (D : Addr) (as : List Addr) (H2 : Hp), Ext H1 H2 → H2 D = some (.lst (as.map V.ref)) → as.length = xs.length → (∀ (j : Nat) (t : Addr), as[j]? = some t → ∃ x y, xs[j]? = some x ∧ ys[j]? = some y ∧ H2 t = some (.tup [.int x, .int y])) → Q (.ref D) H2
theorem pe_listZip {a : Expr} {es : List Expr} {ta : TA} {p pz zpos pos : Pos} (hc : X.calm = true) (hg : Gl X "list") (hm : X.mg "list" = none) (hg2 : Gl X "zip") (hm2 : X.mg "zip" = none) (ha : PA X (a :: es) ta)
    (hs : starEach [.Call (.Name "zip" pz) (a :: es) [] zpos] X.env = (false, eval (.Call (.Name "zip" pz) (a :: es) [] zpos) X.env) :: starEach [] X.env := by rfl) (he : starEach (a :: es) X.env = (false, eval a X.env) :: starEach es X.env := by rfl) (hpl : (backTo zpos (starEach es X.env)).any (·.1) = false := by rfl) :
    PE X (.Call (.Name "list" p) [.Call (.Name "zip" pz) (a :: es) [] zpos] [] pos) (tLstZip X.K ta) := by
  refine ⟨fun pins s σ H Q I h => ?_⟩
  refine PyProof.Rows.Call_ (ld_blt I hg hm (u := .type "list") (by rfl) (PyProof.Rows.callWith_type1 ?_ hs rfl)) rfl
  rw [hs]
  refine Calls.spliced_cons (PyProof.Rows.Call_ (ld_blt I hg2 hm2 (u := .type "zip") (by rfl) (PyProof.Rows.callWith_type1 (thn (ha.run zpos pins s σ H _ I h) fun us s1 ⟨vs, H1, I1, r1, q1⟩ => ?_) he hpl)) rfl)
  obtain ⟨la, lb, xs, ys, rfl, hxs, hys, hll, hz, q⟩ := q1
  obtain ⟨u1, u2, rfl, r1a, r1b⟩ := vals2 r1
  obtain rfl : u1 = Value.ref la := r1a
  obtain rfl : u2 = Value.ref lb := r1b
  obtain ⟨its1, rv1, pl1, _⟩ := I1.list hxs
  obtain ⟨its2, rv2, pl2, _⟩ := I1.list hys
  have hl1 : its1.length = xs.length := by rw [← rv1.length, List.length_map]
  have hl2 : its2.length = ys.length := by rw [← rv2.length, List.length_map]
  have lt1 : la < s1.heap.objs.size := by obtain ⟨o, _, e, _⟩ := pl1; exact Heap.lt_size e
  have lt2 : lb < s1.heap.objs.size := by obtain ⟨o, _, e, _⟩ := pl2; exact Heap.lt_size e
  refine call_zip_2 pl1.isList pl2.isList fun h2 z1 z2 z3 z4 z5 z6 z7 => Calls.spliced_nil ?_
  have I2 := I1.kept (t' := s1.toks) z7
  have D : ZipApart (s1.heap.objs.size + 4) (s1.heap.objs.size + 2) (s1.heap.objs.size + 3) s1.heap.objs.size (s1.heap.objs.size + 1) la lb := zipApart lt1 lt2
  have st : ZSt h2 (s1.heap.objs.size + 4) (s1.heap.objs.size + 2) (s1.heap.objs.size + 3) s1.heap.objs.size (s1.heap.objs.size + 1) la lb its1.toArray its2.toArray 0 := ⟨fun _ => ⟨_, _, z1, z3⟩, fun e => absurd e (Nat.lt_irrefl _), z2, z4, z5, (by obtain ⟨o, q1, q2⟩ := pl1.isList; exact ⟨o, z7 _ _ q1, q2⟩), (by obtain ⟨o, q1, q2⟩ := pl2.isList; exact ⟨o, z7 _ _ q1, q2⟩)⟩
  refine call_list_zip (n := xs.length) (s := { s1 with heap := h2 }) (I2.ok.hd hc) D (by simp; omega) (Nat.le_trans (Nat.succ_le_succ hz) (by decide)) st fun h3 acc c as k1 k2 k3 => ?_
  obtain ⟨hp, p1, p2, p3⟩ := padded s1.heap 5
  have I3 := I1.kept (h' := hp) (t' := s1.toks) p2
  have hk : ∀ b ob, hp.get? b = some ob → h3.get? b = some ob := fun b ob e => by
    have e1 := p3 b ob e
    obtain ⟨n1, n2, n3, n4⟩ := lt_off (Heap.lt_size e1)
    exact k1 b ob n1 n2 n3 n4 (z7 b ob e1)
  have hsz : hp.objs.size = h2.objs.size := by rw [p1, z6]
  have hG : W.KdxG (mixKind X.prog X.w) ((xs.zip its2).map fun p => ((Sum.inl p.1 : Key), p.2)) hp.objs.size h3 as := by
    rw [hsz]
    refine ⟨k3.rise, k3.above, fun j a hj => ?_⟩
    obtain ⟨x, y, hx, hy, hpair⟩ := k3.pairs j a hj
    have hx' : its1[j]? = some x := by simpa using hx
    have hy' : its2[j]? = some y := by simpa using hy
    obtain ⟨n, hn⟩ : ∃ n, xs[j]? = some n := ⟨_, List.getElem?_eq_getElem (by have := (List.getElem?_eq_some_iff.mp hx').1; omega)⟩
    obtain ⟨u, hu, ru⟩ := rv1.get (i := j) (x := .int n) (by rw [List.getElem?_map, hn]; rfl)
    rw [hx'] at hu
    cases hu
    obtain ⟨t, rfl⟩ := ru
    refine ⟨_, .inl n, y, ?_, ?_, hpair⟩
    · rw [List.getElem?_map, (List.getElem?_zip_eq_some (z := (n, y))).mpr ⟨hn, hy'⟩]
      rfl
    · show (n == n) = true
      exact beq_self_eq_true n
  have hal : as.length = ((xs.zip its2).map fun p => ((Sum.inl p.1 : Key), p.2)).length := by
    rw [k3.len, List.length_map, List.length_zip]
    omega
  obtain ⟨H3, e1, e2, e3, e4, e5, e6, I4⟩ := LiI.items_laid (kvs := (xs.zip ys).map fun p => ((Sum.inl p.1 : Key), V.int p.2)) (tk := s1.toks) (s := { s1 with heap := hp, toks := s1.toks }) I3 (by rw [List.length_map, List.length_zip]; exact Nat.le_trans (Nat.min_le_left _ _) (Nat.le_trans hz (by decide))) (kv_zip xs ys its2 rv2) hk (by rw [show ({ s1 with heap := hp, toks := s1.toks } : Shared).heap.objs.size = h2.objs.size from hsz]; exact k2) hal hG k3.acc
  refine ⟨.ref h2.objs.size, H3, I4, rfl, q h2.objs.size as H3 e1 ?_ k3.len fun j t hj => ?_⟩
  · rw [← hsz]
    exact e5
  · obtain ⟨q', h1, h2'⟩ := paired_at e6 hj
    rw [List.getElem?_map] at h1
    cases hz' : (xs.zip ys)[j]? with
    | none => rw [hz'] at h1; cases h1
    | some p =>
      rw [hz'] at h1
      cases h1
      obtain ⟨h3', h4'⟩ := List.getElem?_zip_eq_some.mp hz'
      exact ⟨p.1, p.2, h3', h4', h2'⟩
end
end L2

set_option Elab.async false
set_option maxRecDepth 100000
set_option maxHeartbeats 4000000
namespace L2
open PySem PySem.Spec PyProof.Rows
section
variable {X : Cx} {K : PySem.W.Frag}
theorem op_in_seqK (h : X.K = K) : OpR X (compareOp .In) (rIn K false) := by
  subst h
  exact op_in_seq
theorem op_notIn_seqK (h : X.K = K) : OpR X (compareOp .NotIn) (rIn K true) := by
  subst h
  exact op_notIn_seq
theorem inV_ints (a : Int) : ∀ ns : List Int, inV (.int a) (ns.map V.int) = decide (a ∈ ns)
  | [] => rfl
  | n :: ns => by
    have ih := inV_ints a ns
    unfold inV at ih ⊢
    rw [List.map_cons, List.any_cons, ih]
    have e : eqV (.int n) (.int a) = decide (n = a) := rfl
    rw [e, Bool.eq_iff_iff]
    simp
    constructor
    · rintro (e | e)
      · exact .inl e.symm
      · exact .inr e
    · rintro (e | e)
      · exact .inl e.symm
      · exact .inr e
theorem flat_ints {ns : List Int} : (ns.map V.int).all flatV = true := by
  rw [List.all_eq_true]
  intro v hv
  obtain ⟨n, _, rfl⟩ := List.mem_map.mp hv
  rfl
end
end L2

set_option Elab.async false
set_option maxRecDepth 100000
set_option maxHeartbeats 4000000
namespace K36
open PySem PySem.Spec PyProof.Rows L2
def top (i : Nat) : Stmt := PySem.Challenge.pw_wholeline_k36_games_and_their_parts.main.body.getD i (.Pass ⟨0, 0, 0, 0⟩)
abbrev s_BadPart_init : Stmt := inClass (top 3) 0
abbrev nm_BadPart_init : List Str := ["self", "part"]
abbrev pm_BadPart_init : List Str := ["self", "part"]
theorem sc_BadPart_init : FnScope nm_BadPart_init pm_BadPart_init (defScope s_BadPart_init) := ⟨rfl, rfl, rfl, by decide +kernel, rfl, by decide +kernel, by decide +kernel⟩

abbrev s_BadOrder_init : Stmt := inClass (top 4) 0
abbrev nm_BadOrder_init : List Str := ["self", "index"]
abbrev pm_BadOrder_init : List Str := ["self", "index"]
theorem sc_BadOrder_init : FnScope nm_BadOrder_init pm_BadOrder_init (defScope s_BadOrder_init) := ⟨rfl, rfl, rfl, by decide +kernel, rfl, by decide +kernel, by decide +kernel⟩

abbrev s_is_integer : Stmt := top 6
abbrev nm_is_integer : List Str := ["value"]
abbrev pm_is_integer : List Str := ["value"]
theorem sc_is_integer : FnScope nm_is_integer pm_is_integer (defScope s_is_integer) := ⟨rfl, rfl, rfl, by decide +kernel, rfl, by decide +kernel, by decide +kernel⟩

abbrev s_is_between : Stmt := top 7
abbrev nm_is_between : List Str := ["value", "low", "high"]
abbrev pm_is_between : List Str := ["value", "low", "high"]
theorem sc_is_between : FnScope nm_is_between pm_is_between (defScope s_is_between) := ⟨rfl, rfl, rfl, by decide +kernel, rfl, by decide +kernel, by decide +kernel⟩

abbrev s_is_list : Stmt := top 8
abbrev nm_is_list : List Str := ["value"]
abbrev pm_is_list : List Str := ["value"]
theorem sc_is_list : FnScope nm_is_list pm_is_list (defScope s_is_list) := ⟨rfl, rfl, rfl, by decide +kernel, rfl, by decide +kernel, by decide +kernel⟩

abbrev s_is_list_of : Stmt := top 9
abbrev nm_is_list_of : List Str := ["value", "low", "high"]
abbrev pm_is_list_of : List Str := ["value", "low", "high"]
theorem sc_is_list_of : FnScope nm_is_list_of pm_is_list_of (defScope s_is_list_of) := ⟨rfl, rfl, rfl, by decide +kernel, rfl, by decide +kernel, by decide +kernel⟩

abbrev s_check_widths : Stmt := top 17
abbrev nm_check_widths : List Str := ["widths", "index", "width"]
abbrev pm_check_widths : List Str := ["widths"]
theorem sc_check_widths : FnScope nm_check_widths pm_check_widths (defScope s_check_widths) := ⟨rfl, rfl, rfl, by decide +kernel, rfl, by decide +kernel, by decide +kernel⟩

abbrev s_check_counts : Stmt := top 18
abbrev nm_check_counts : List Str := ["counts", "many", "index", "count"]
abbrev pm_check_counts : List Str := ["counts", "many"]
theorem sc_check_counts : FnScope nm_check_counts pm_check_counts (defScope s_check_counts) := ⟨rfl, rfl, rfl, by decide +kernel, rfl, by decide +kernel, by decide +kernel⟩

abbrev s_Game_init : Stmt := inClass (top 19) 0
abbrev nm_Game_init : List Str := ["self", "widths", "counts", "least", "most", "turn", "losses"]
abbrev pm_Game_init : List Str := ["self", "widths", "counts", "least", "most", "turn", "losses"]
theorem sc_Game_init : FnScope nm_Game_init pm_Game_init (defScope s_Game_init) := ⟨rfl, rfl, rfl, by decide +kernel, rfl, by decide +kernel, by decide +kernel⟩

abbrev s_Game_len : Stmt := inClass (top 19) 1
abbrev nm_Game_len : List Str := ["self"]
abbrev pm_Game_len : List Str := ["self"]
theorem sc_Game_len : FnScope nm_Game_len pm_Game_len (defScope s_Game_len) := ⟨rfl, rfl, rfl, by decide +kernel, rfl, by decide +kernel, by decide +kernel⟩

abbrev s_Game_eq : Stmt := inClass (top 19) 2
abbrev nm_Game_eq : List Str := ["self", "other"]
abbrev pm_Game_eq : List Str := ["self", "other"]
theorem sc_Game_eq : FnScope nm_Game_eq pm_Game_eq (defScope s_Game_eq) := ⟨rfl, rfl, rfl, by decide +kernel, rfl, by decide +kernel, by decide +kernel⟩

abbrev s_check_game : Stmt := top 20
abbrev nm_check_game : List Str := ["game"]
abbrev pm_check_game : List Str := ["game"]
theorem sc_check_game : FnScope nm_check_game pm_check_game (defScope s_check_game) := ⟨rfl, rfl, rfl, by decide +kernel, rfl, by decide +kernel, by decide +kernel⟩

abbrev s_greatest_going : Stmt := top 21
abbrev nm_greatest_going : List Str := ["game", "count", "losses"]
abbrev pm_greatest_going : List Str := ["game", "count", "losses"]
theorem sc_greatest_going : FnScope nm_greatest_going pm_greatest_going (defScope s_greatest_going) := ⟨rfl, rfl, rfl, by decide +kernel, rfl, by decide +kernel, by decide +kernel⟩

abbrev s_bases_of : Stmt := top 22
abbrev nm_bases_of : List Str := ["game", "count"]
abbrev pm_bases_of : List Str := ["game"]
theorem sc_bases_of : FnScope nm_bases_of pm_bases_of (defScope s_bases_of) := ⟨rfl, rfl, rfl, by decide +kernel, rfl, by decide +kernel, by decide +kernel⟩

abbrev s_bases : Stmt := top 23
abbrev nm_bases : List Str := ["game"]
abbrev pm_bases : List Str := ["game"]
theorem sc_bases : FnScope nm_bases pm_bases (defScope s_bases) := ⟨rfl, rfl, rfl, by decide +kernel, rfl, by decide +kernel, by decide +kernel⟩

abbrev s__law_start : Stmt := top 25
abbrev nm__law_start : List Str := ["_law_script", "_law_first"]
abbrev pm__law_start : List Str := ["_law_script"]
theorem sc__law_start : FnScope nm__law_start pm__law_start (defScope s__law_start) := ⟨rfl, rfl, rfl, by decide +kernel, rfl, by decide +kernel, by decide +kernel⟩

abbrev s__law_draw : Stmt := top 26
abbrev nm__law_draw : List Str := ["_law_script", "_law_state", "_law_limit", "_law_number", "_law_cell", "_law_mixed"]
abbrev pm__law_draw : List Str := ["_law_script", "_law_state", "_law_limit"]
theorem sc__law_draw : FnScope nm__law_draw pm__law_draw (defScope s__law_draw) := ⟨rfl, rfl, rfl, by decide +kernel, rfl, by decide +kernel, by decide +kernel⟩

abbrev s__law_raw : Stmt := top 27
abbrev nm__law_raw : List Str := ["_law_script", "_law_state", "_law_many", "_law_widths", "_law_counts", "_law_width", "_law_count", "_law_k", "_law_short", "_law_long"]
abbrev pm__law_raw : List Str := ["_law_script", "_law_state", "_law_many"]
theorem sc__law_raw : FnScope nm__law_raw pm__law_raw (defScope s__law_raw) := ⟨rfl, rfl, rfl, by decide +kernel, rfl, by decide +kernel, by decide +kernel⟩

abbrev s__law_made : Stmt := top 28
abbrev nm__law_made : List Str := ["_law_raw_here"]
abbrev pm__law_made : List Str := ["_law_raw_here"]
theorem sc__law_made : FnScope nm__law_made pm__law_made (defScope s__law_made) := ⟨rfl, rfl, rfl, by decide +kernel, rfl, by decide +kernel, by decide +kernel⟩

abbrev s__law_told : Stmt := top 29
abbrev nm__law_told : List Str := ["_law_raw_here", "e"]
abbrev pm__law_told : List Str := ["_law_raw_here"]
theorem sc__law_told : FnScope nm__law_told pm__law_told (defScope s__law_told) := ⟨rfl, rfl, rfl, by decide +kernel, rfl, by decide +kernel, by decide +kernel⟩

abbrev s__law_is : Stmt := top 30
abbrev nm__law_is : List Str := ["_law_value", "_law_low", "_law_high"]
abbrev pm__law_is : List Str := ["_law_value", "_law_low", "_law_high"]
theorem sc__law_is : FnScope nm__law_is pm__law_is (defScope s__law_is) := ⟨rfl, rfl, rfl, by decide +kernel, rfl, by decide +kernel, by decide +kernel⟩

abbrev s__law_list_due : Stmt := top 31
abbrev nm__law_list_due : List Str := ["_law_word", "_law_values", "_law_many", "_law_high", "_law_rising", "_law_at", "_law_value"]
abbrev pm__law_list_due : List Str := ["_law_word", "_law_values", "_law_many", "_law_high", "_law_rising"]
theorem sc__law_list_due : FnScope nm__law_list_due pm__law_list_due (defScope s__law_list_due) := ⟨rfl, rfl, rfl, by decide +kernel, rfl, by decide +kernel, by decide +kernel⟩

abbrev s__law_due : Stmt := top 32
abbrev nm__law_due : List Str := ["_law_raw_here", "_law_due_here", "_law_word", "_law_value", "_law_low", "_law_high"]
abbrev pm__law_due : List Str := ["_law_raw_here"]
theorem sc__law_due : FnScope nm__law_due pm__law_due (defScope s__law_due) := ⟨rfl, rfl, rfl, by decide +kernel, rfl, by decide +kernel, by decide +kernel⟩

abbrev s__law_turned : Stmt := top 33
abbrev nm__law_turned : List Str := ["_law_script", "_law_state", "_law_raw_here", "_law_parts", "_law_kind", "_law_odd", "_law_at"]
abbrev pm__law_turned : List Str := ["_law_script", "_law_state", "_law_raw_here"]
theorem sc__law_turned : FnScope nm__law_turned pm__law_turned (defScope s__law_turned) := ⟨rfl, rfl, rfl, by decide +kernel, rfl, by decide +kernel, by decide +kernel⟩

abbrev s_law : Stmt := top 34
abbrev nm_law : List Str := ["_law_script", "_law_state", "_law_raw_here", "_law_game", "_law_other", "_law_k", "_law_turned_here", "e", "_law_count"]
abbrev pm_law : List Str := ["_law_script"]
theorem sc_law : FnScope nm_law pm_law (defScope s_law) := ⟨rfl, rfl, rfl, by decide +kernel, rfl, by decide +kernel, by decide +kernel⟩

structure Ad where
  (BadPart BadOrder WholeError Game : Addr)
structure Txt (K : PySem.W.Frag) (mg : Str → Option Value) (A : Ad) : Prop where
  n_isinstance : mg "isinstance" = none
  n_int : mg "int" = none
  n_bool : mg "bool" = none
  n_list : mg "list" = none
  n_tuple : mg "tuple" = none
  n_len : mg "len" = none
  n_all : mg "all" = none
  n_range : mg "range" = none
  n_abs : mg "abs" = none
  g_MOST_DELAY : ∃ t, mg "MOST_DELAY" = some (.int 50 t)
  g_MOST_TURN : ∃ t, mg "MOST_TURN" = some (.int 200 t)
  g_MOST_LOSSES : ∃ t, mg "MOST_LOSSES" = some (.int 3 t)
  g_MOST_WIDTHS : ∃ t, mg "MOST_WIDTHS" = some (.int 8 t)
  g_MOST_WIDTH : ∃ t, mg "MOST_WIDTH" = some (.int 100 t)
  g_MOST_COUNT : ∃ t, mg "MOST_COUNT" = some (.int 5000 t)
  Game : ClsX K mg "Game" A.Game
  c_widths : NoAttr K A.Game "widths"
  c_counts : NoAttr K A.Game "counts"
  c_least : NoAttr K A.Game "least"
  c_most : NoAttr K A.Game "most"
  c_turn : NoAttr K A.Game "turn"
  c_losses : NoAttr K A.Game "losses"
  BadPart : XAt K mg "BadPart" "part" A.BadPart s_BadPart_init "BadPart.__init__"
  BadOrder : XAt K mg "BadOrder" "index" A.BadOrder s_BadOrder_init "BadOrder.__init__"
  x_pp : PySem.W.exmOne K (.ref A.BadPart) (.ref A.BadPart) = some true
  x_op : PySem.W.exmOne K (.ref A.BadOrder) (.ref A.BadPart) = some false
  x_oo : PySem.W.exmOne K (.ref A.BadOrder) (.ref A.BadOrder) = some true
section
variable {P : Program} {w : World} {K : PySem.W.Frag} {mg : Str → Option Value} {base : Heap} {A : Ad}
theorem ok_xp {f : Addr} {fd : FuncData} (F : Fun K "__init__" "BadPart.__init__" s_BadPart_init f fd) (T : Txt K mg A) : FnOk P w K mg base CX0 1 f fd ["self", "part"] (spXI A.BadPart "part") := by
  refine F.ok sc_BadPart_init (fun vs H Q E h => ?_) (fun cdv A' outer s H vs Q E hr h => ?_)
  · obtain ⟨a, y, rfl, _⟩ := h
    rfl
  · obtain ⟨a, y, rfl, ha, q⟩ := h
    refine ⟨_, pss_one (ps_ost (pv 0) (pv 1)), ?_⟩
    exact ⟨_, rfl, _, rfl, a, A.BadPart, rfl, T.BadPart.ox, T.BadPart.noA, .inl ⟨ha, fun dx h1 h2 => q dx h1 h2⟩⟩
theorem ok_xo {f : Addr} {fd : FuncData} (F : Fun K "__init__" "BadOrder.__init__" s_BadOrder_init f fd) (T : Txt K mg A) : FnOk P w K mg base CX0 1 f fd ["self", "index"] (spXI A.BadOrder "index") := by
  refine F.ok sc_BadOrder_init (fun vs H Q E h => ?_) (fun cdv A' outer s H vs Q E hr h => ?_)
  · obtain ⟨a, y, rfl, _⟩ := h
    rfl
  · obtain ⟨a, y, rfl, ha, q⟩ := h
    refine ⟨_, pss_one (ps_ost (pv 0) (pv 1)), ?_⟩
    exact ⟨_, rfl, _, rfl, a, A.BadOrder, rfl, T.BadOrder.ox, T.BadOrder.noA, .inl ⟨ha, fun dx h1 h2 => q dx h1 h2⟩⟩
/-! is_integer, is_between, is_list, is_list_of -/
def spInteger : Sp := fun vs H Q _ => ∃ v k, vs = [v] ∧ KndOf H v k ∧ Q (.bl (k.isInt && !k.isBool)) H
theorem ok_integer {f : Addr} {fd : FuncData} (F : Fun K "is_integer" "is_integer" s_is_integer f fd) (T : Txt K mg A) : FnOk P w K mg base CX0 1 f fd pm_is_integer spInteger := by
  refine F.ok sc_is_integer (fun vs H Q E h => ?_) (fun cdv A' outer s H vs Q E hr h => ?_)
  · obtain ⟨v, k, rfl, _⟩ := h
    rfl
  · obtain ⟨v, k, rfl, hk, q⟩ := h
    refine ⟨_, pss_one (ps_ret (pe_and (pe_callB call_isi (by rfl) T.n_isinstance (by decide +kernel) (pa_cons (pv 0) (pa_cons (pe_bltn (v := .ty "int") (by rfl) T.n_int (by decide +kernel) rfl) pa_nil))) (pe_one (pe_not (pe_callB call_isi (by rfl) T.n_isinstance (by decide +kernel) (pa_cons (pv 0) (pa_cons (pe_bltn (v := .ty "bool") (by rfl) T.n_bool (by decide +kernel) rfl) pa_nil))))))), ?_⟩
    refine ⟨v, rfl, v, .ty "int", .type k.name, .type "int", k.isInt, rfl, .ty _, knd_ty hk, knd_int, _, rfl, ?_⟩
    cases h1 : k.isInt with
    | true =>
      rw [h1] at q
      exact iteT ⟨v, rfl, v, .ty "bool", .type k.name, .type "bool", k.isBool, rfl, .ty _, knd_ty hk, knd_bool, _, rfl, q⟩
    | false =>
      rw [h1] at q
      exact iteF q
def spBetween : Sp := fun vs H Q _ => ∃ v k a b, vs = [v, .int a, .int b] ∧ KndOf H v k ∧ Q (.bl (betw v a b)) H
theorem ok_between {f : Addr} {fd : FuncData} (F : Fun K "is_between" "is_between" s_is_between f fd) (O_is_integer : Own P w K mg base CX0 "is_integer" 1 pm_is_integer spInteger) : FnOk P w K mg base CX0 2 f fd pm_is_between spBetween := by
  refine F.ok sc_is_between (fun vs H Q E h => ?_) (fun cdv A' outer s H vs Q E hr h => ?_)
  · obtain ⟨v, k, a, b, rfl, _⟩ := h
    rfl
  · obtain ⟨v, k, a, b, rfl, hk, q⟩ := h
    refine ⟨_, pss_one (ps_ret (pe_and (pe_own O_is_integer (hr.mono (by decide)) pass0 (pa_cons (pv 0) pa_nil)) (pe_one (pe_chain op_le op_le (pv 1) (pv 0) (pv 2))))), ?_⟩
    refine ⟨v, rfl, v, k, rfl, hk, _, rfl, ?_⟩
    cases h1 : (k.isInt && !k.isBool) with
    | true =>
      cases knd_yes h1
      obtain ⟨n, rfl⟩ := hk
      refine iteT ⟨_, rfl, _, rfl, _, _, rfl, rfl, _, rfl, ?_⟩
      rw [betw_int] at q
      cases h2 : decide (a ≤ n) with
      | true =>
        rw [h2] at q
        exact iteT ⟨_, rfl, _, _, rfl, rfl, q⟩
      | false =>
        rw [h2] at q
        exact iteF q
    | false =>
      rw [betw_not hk h1] at q
      exact iteF q
def spIsList : Sp := fun vs H Q _ => ∃ v k, vs = [v] ∧ KndOf H v k ∧ ∀ H', Ext H H' → Q (.bl k.isSeq) H'
theorem ok_isList {f : Addr} {fd : FuncData} (F : Fun K "is_list" "is_list" s_is_list f fd) (T : Txt K mg A) : FnOk P w K mg base CX0 1 f fd pm_is_list spIsList := by
  refine F.ok sc_is_list (fun vs H Q E h => ?_) (fun cdv A' outer s H vs Q E hr h => ?_)
  · obtain ⟨v, k, rfl, _⟩ := h
    rfl
  · obtain ⟨v, k, rfl, hk, q⟩ := h
    refine ⟨_, pss_one (ps_ret (pe_callB call_isiT (by rfl) T.n_isinstance (by decide +kernel) (pa_cons (pv 0) (pa_cons (pe_tup (pa_cons (pe_bltn (v := .ty "list") (by rfl) T.n_list (by decide +kernel) rfl) (pa_cons (pe_bltn (v := .ty "tuple") (by rfl) T.n_tuple (by decide +kernel) rfl) pa_nil))) pa_nil)))), ?_⟩
    refine ⟨v, rfl, by show 2 ≤ sizeLine; decide, fun p hp => ?_⟩
    exact ⟨v, p, [.ty "list", .ty "tuple"], .type k.name, [.type "list", .type "tuple"], k.isSeq, rfl, upd_same, .cons (.ty _) (.cons (.ty _) .nil), knd_ty (hk.ext (Ext.upd hp)), knd_seq, q _ (Ext.upd hp)⟩
def spListOf : Sp := fun vs H Q _ => ∃ v a b, vs = [v, .int a, .int b] ∧ ((∃ k, KndOf H v k ∧ k.isSeq = false ∧ ∀ H', Ext H H' → Q (.bl false) H') ∨
  ∃ p xs, v = .ref p ∧ Sq H p xs ∧ ∀ H', Ext H H' → Q (.bl (decide (a ≤ (xs.length : Int)) && decide ((xs.length : Int) ≤ b))) H')
theorem ok_listOf {f : Addr} {fd : FuncData} (F : Fun K "is_list_of" "is_list_of" s_is_list_of f fd) (T : Txt K mg A) (O_is_list : Own P w K mg base CX0 "is_list" 1 pm_is_list spIsList) : FnOk P w K mg base CX0 2 f fd pm_is_list_of spListOf := by
  refine F.ok sc_is_list_of (fun vs H Q E h => ?_) (fun cdv A' outer s H vs Q E hr h => ?_)
  · obtain ⟨v, a, b, rfl, _⟩ := h
    rfl
  · obtain ⟨v, a, b, rfl, h⟩ := h
    refine ⟨_, pss_one (ps_ret (pe_and (pe_own O_is_list (hr.mono (by decide)) pass0 (pa_cons (pv 0) pa_nil)) (pe_one (pe_chain op_le op_le (pv 1) (pe_callB call_len_seq (by rfl) T.n_len (by decide +kernel) (pa_cons (pv 0) pa_nil)) (pv 2))))), ?_⟩
    rcases h with ⟨k, hk, hs, q⟩ | ⟨p, xs, rfl, hx, q⟩
    · refine ⟨v, rfl, v, k, rfl, hk, fun H1 e1 => ⟨_, rfl, ?_⟩⟩
      rw [hs]
      exact iteF (q _ e1)
    · obtain ⟨k, hk, hs⟩ := hx.k
      refine ⟨_, rfl, _, k, rfl, hk, fun H1 e1 => ⟨_, rfl, ?_⟩⟩
      rw [hs]
      refine iteT ⟨_, rfl, _, rfl, p, xs, rfl, (hx.ext e1).l, _, _, rfl, rfl, _, rfl, ?_⟩
      have q1 := q H1 e1
      cases h2 : decide (a ≤ (xs.length : Int)) with
      | true =>
        rw [h2] at q1
        exact iteT ⟨_, rfl, _, _, rfl, rfl, q1⟩
      | false =>
        rw [h2] at q1
        exact iteF q1
theorem bt {v : V} {a b : Int} (h : betw v a b = true) : ∃ n, v = .int n ∧ a ≤ n ∧ n ≤ b := by
  cases v <;> first | (exact absurd h Bool.false_ne_true) | skip
  rename_i n
  have h' : (decide (a ≤ n) && decide (n ≤ b)) = true := h
  simp at h'
  exact ⟨n, rfl, h'.1, h'.2⟩
end
end K36

set_option Elab.async false
set_option maxRecDepth 100000
set_option maxHeartbeats 4000000
namespace K36
open PySem PySem.Spec PyProof.Rows L2
theorem dvi {a b : Int} : decide (V.int a = V.int b) = decide (a = b) := by
  rw [Bool.eq_iff_iff]
  simp
/-- what is handed in as a list: no list (none), or one that stands, with its items -/
def LAt (H : Hp) (v : V) : Option (List V) → Prop
  | none => ∃ k, KndOf H v k ∧ k.isSeq = false
  | some xs => ∃ p, v = .ref p ∧ H p = some (.lst xs) ∧ (∀ x ∈ xs, ∃ k, KndOf H x k) ∧ xs.length ≤ 100
theorem LAt.ext {H H' : Hp} {v : V} {r : Option (List V)} (h : LAt H v r) (e : Ext H H') : LAt H' v r := by
  cases r with
  | none =>
    obtain ⟨k, hk, hs⟩ := h
    exact ⟨k, hk.ext e, hs⟩
  | some xs =>
    obtain ⟨p, rfl, hx, hkx, hl⟩ := h
    exact ⟨p, rfl, e _ _ hx, fun x hm => by
      obtain ⟨k, hk⟩ := hkx x hm
      exact ⟨k, hk.ext e⟩, hl⟩
/-- two neighbours that stand wrongly: one, and the one ahead of it -/
def badV (up : Bool) : V → V → Bool
  | .int x, .int y => if up = true then decide (x ≤ y) else decide (x > y)
  | _, _ => false
def badAt (up : Bool) (xs : List V) (i : Nat) : Bool := match xs[i]?, xs[i - 1]? with
  | some a, some b => decide (1 ≤ i) && badV up a b
  | _, _ => false
def firstBad (up : Bool) (xs : List V) : Option Nat := (List.range xs.length).find? (badAt up xs)
theorem fb_some {up : Bool} {xs : List V} {i : Nat} (h0 : ∀ j, j < i → badAt up xs j = false) (hi : i < xs.length) (h : badAt up xs i = true) : firstBad up xs = some i :=
  List.find?_range_eq_some.mpr ⟨h, List.mem_range.mpr hi, fun j hj => by rw [h0 j hj]; rfl⟩
theorem fb_none {up : Bool} {xs : List V} (h : ∀ j, j < xs.length → badAt up xs j = false) : firstBad up xs = none :=
  List.find?_range_eq_none.mpr fun j hj => by rw [h j hj]; rfl
theorem bad_zero {up : Bool} {xs : List V} : badAt up xs 0 = false := by
  unfold badAt
  split
  · rw [decide_eq_false (by decide)]; rfl
  · rfl
theorem bad_at {up : Bool} {xs : List V} {i : Nat} {a b : V} (ha : xs[i + 1]? = some a) (hb : xs[i]? = some b) : badAt up xs (i + 1) = badV up a b := by
  unfold badAt
  rw [ha, Nat.add_sub_cancel, hb]
  show (decide (1 ≤ i + 1) && badV up a b) = badV up a b
  rw [decide_eq_true (by omega)]
  rfl
/-- what is raised for what is wrong -/
def EDue (A : Ad) (H : Hp) (E : XK) : Str ⊕ Nat → Prop
  | .inl s => ∀ H', Ext H H' → ∀ e, H' e = none → E (.ref A.BadPart) (some e) (upd H' e (.xd [("part", .str s)]))
  | .inr i => ∀ H', Ext H H' → ∀ e, H' e = none → E (.ref A.BadOrder) (some e) (upd H' e (.xd [("index", .int (i : Nat))]))
theorem EDue.to {A : Ad} {H H' : Hp} {E : XK} {r : Str ⊕ Nat} (h : EDue A H E r) (e : Ext H H') : EDue A H' E r := by
  cases r with
  | inl s => exact fun H2 e2 => h H2 (e.trans e2)
  | inr i => exact fun H2 e2 => h H2 (e.trans e2)
def listDue (word : Str) (ok : Nat → Bool) (M : Int) (up : Bool) : Option (List V) → Option (Str ⊕ Nat)
  | none => some (.inl word)
  | some xs => if ok xs.length = false then some (.inl word) else if xs.all (fun x => betw x 1 M) = false then some (.inl word) else (firstBad up xs).map .inr
def ok8 (n : Nat) : Bool := decide (1 ≤ n) && decide (n ≤ 8)
def okN (m n : Nat) : Bool := decide (n = m)
theorem all_map {xs : List V} {f : V → Bool} : xs.map (fun x => V.bl (f x)) = (xs.map f).map V.bl := by
  rw [List.map_map]
  rfl
theorem all_id {xs : List V} {f : V → Bool} : (xs.map f).all id = xs.all f := by
  rw [List.all_map]
  rfl
theorem all_int {xs : List V} {M : Int} (h : xs.all (fun x => betw x 1 M) = true) {i : Nat} {x : V} (hx : xs[i]? = some x) : ∃ n, x = .int n := by
  obtain ⟨n, e, _⟩ := bt (List.all_eq_true.mp h x (List.mem_of_getElem? hx))
  exact ⟨n, e⟩
section
variable {P : Program} {w : World} {K : PySem.W.Frag} {mg : Str → Option Value} {base : Heap} {A : Ad}
def spCheckWidths (A : Ad) : Sp := fun vs H Q E => ∃ v r, vs = [v] ∧ LAt H v r ∧ (∀ x, listDue "widths" ok8 100 true r = some x → EDue A H E x) ∧ (listDue "widths" ok8 100 true r = none → ∀ H', Ext H H' → Q .non H')
theorem ok_checkWidths {f : Addr} {fd : FuncData} (F : Fun K "check_widths" "check_widths" s_check_widths f fd) (T : Txt K mg A) (O_is_between : Own P w K mg base CX0 "is_between" 2 pm_is_between spBetween) (O_is_list_of : Own P w K mg base CX0 "is_list_of" 2 pm_is_list_of spListOf)
    (X_BadPart : XCls P w K mg base "BadPart" "part" A.BadPart) (X_BadOrder : XCls P w K mg base "BadOrder" "index" A.BadOrder) : FnOk P w K mg base (L2.CX P w) 4 f fd pm_check_widths (spCheckWidths A) := by
  refine F.okX sc_check_widths (fun vs H Q E h => ?_) (fun cdv A' outer s H vs Q E hr h => ?_)
  · obtain ⟨_, _, rfl, _⟩ := h
    rfl
  · obtain ⟨v, r, rfl, hv, hE, hQ⟩ := h
    refine ⟨_, pss_cons (ps_if (pt_not (pt_val (pe_own O_is_list_of (hr.mono (by decide)) pass0 (pa_cons (pv 0) (pa_cons (pe_int) (pa_cons (pe_gint T.g_MOST_WIDTHS) pa_nil)))))) (pss_one (ps_raise rfl (takes_of rfl rfl rfl rfl) (pmk_X X_BadPart (hr.mono (by decide)) (pe_str) rfl))) (pss_nil))
      (pss_cons (ps_if (pt_not (pt_val (pe_callB (cr_all rfl) (by rfl) T.n_all (by decide +kernel) (pa_cons (pe_lc (own := [("width", 2)]) (g := gName 2) (by rfl) sc_check_widths.nd (pi_sq (pv 0)) (blkOk_by (own := [("width", 2)]) (N := nm_check_widths) (sc := defScope s_check_widths) (by decide +kernel)) (fun _ _ _ _ _ => pg_name (i := 2) sc_check_widths.nd rfl (Or.inl rfl)) (fun s1 H1 C1 cl fp => pts_nil) (fun s1 H1 C1 cl fp => pe_own O_is_between (hr.mono (by decide)) pass0 (pa_cons (pv 2) (pa_cons (pe_int) (pa_cons (pe_gint T.g_MOST_WIDTH) pa_nil))))) pa_nil)))) (pss_one (ps_raise rfl (takes_of rfl rfl rfl rfl) (pmk_X X_BadPart (hr.mono (by decide)) (pe_str) rfl))) (pss_nil))
      (pss_one (ps_for (passes_of rfl) rfl (pi_range2 rfl T.n_range (pa_cons (pe_int) (pa_cons (pe_callB call_len_seq (by rfl) T.n_len (by decide +kernel) (pa_cons (pv 0) pa_nil)) pa_nil))) (pg_name (i := 1) sc_check_widths.nd rfl (Or.inl rfl)) (pss_one (ps_if (pt_cmpR op_le (pe_ix ix_list (pv 0) (pv 1) (fun _ _ => rfl)) (pe_ix ix_list (pv 0) (pe_op op_sub (pv 1) (pe_int)) (fun _ _ => rfl)) (nomark _)) (pss_one (ps_raise rfl (takes_of rfl rfl rfl rfl) (pmk_X X_BadOrder (hr.mono (by decide)) (pv 1) rfl))) (pss_nil)))))), ?_⟩
    cases r with
    | none =>
      obtain ⟨k, hk, hs⟩ := hv
      refine ⟨v, rfl, v, 1, 8, rfl, .inl ⟨k, hk, hs, fun H1 e1 => ⟨_, rfl, ?_⟩⟩⟩
      exact iteT (mkX_fin fun e he => hE (.inl "widths") rfl _ e1 e he)
    | some xs =>
      obtain ⟨p, rfl, hp, hkx, hl⟩ := hv
      refine ⟨_, rfl, _, 1, 8, rfl, .inr ⟨p, xs, rfl, .inl hp, fun H1 e1 => ⟨_, rfl, ?_⟩⟩⟩
      have ld : listDue "widths" ok8 100 true (some xs) = if ok8 xs.length = false then some (.inl "widths") else if xs.all (fun x => betw x 1 100) = false then some (.inl "widths") else (firstBad true xs).map .inr := rfl
      rw [ld] at hE hQ
      have ed : (decide ((1 : Int) ≤ (xs.length : Int)) && decide ((xs.length : Int) ≤ 8)) = ok8 xs.length := by
        unfold ok8
        rw [Bool.eq_iff_iff]
        simp
        omega
      rw [ed]
      cases h1 : ok8 xs.length with
      | false => exact iteT (mkX_fin fun e he => hE (.inl "widths") (by rw [if_pos h1]) _ e1 e he)
      | true =>
        refine iteF ?_
        rw [h1, if_neg (by decide)] at hE hQ
        refine ⟨_, rfl, p, rfl, lc_sqR (f := fun x => .bl (betw x 1 100)) (b := fun _ => true) (.inl (e1 _ _ hp)) (small1000 (by omega)) (fun x => rfl) (fun x hm H' e' Q' q' => q' _ Ext.rfl') (fun x hm _ H' e' Q' q' => ?_) (fun D H2 hD e2 hl' => ?_)⟩
        · obtain ⟨k, hk⟩ := hkx x hm
          exact ⟨x, rfl, x, k, 1, 100, rfl, hk.ext (e1.trans e'), q' _ Ext.rfl'⟩
        · rw [L2.filter_all, all_map] at hl'
          refine ⟨D, xs.map (fun x => betw x 1 100), rfl, SqL.of hl', _, rfl, ?_⟩
          rw [all_id]
          have e12 := e1.trans e2
          cases h2 : xs.all (fun x => betw x 1 100) with
          | false => exact iteT (mkX_fin fun e he => hE (.inl "widths") (by rw [if_pos h2]) _ e12 e he)
          | true =>
            refine iteF ?_
            rw [h2, if_neg (by decide)] at hE hQ
            have hp2 := e12 _ _ hp
            refine ⟨_, rfl, p, xs, rfl, .inl (SqL.of hp2), 1, (xs.length : Int), rfl, ⟨by decide, by decide, by omega, by omega⟩, ?_⟩
            refine for_range (fun i σ' H' => H' = H2 ∧ (∃ o1 o2, σ' = [some (.ref p), o1, o2]) ∧ ∀ j, j ≤ i → badAt true xs j = false) ⟨rfl, ⟨_, _, rfl⟩, fun j hj => by rw [show j = 0 by omega]; exact bad_zero⟩ (fun i σ' H' hi pv => ?_) (fun σ' H' pv => ?_)
            · obtain ⟨rfl, ⟨o1, o2, rfl⟩, hb⟩ := pv
              have hi1 : i + 1 < xs.length := by omega
              obtain ⟨a, ha⟩ : ∃ a, xs[i + 1]? = some a := ⟨_, List.getElem?_eq_getElem hi1⟩
              obtain ⟨b, hb'⟩ : ∃ b, xs[i]? = some b := ⟨_, List.getElem?_eq_getElem (by omega)⟩
              obtain ⟨na, rfl⟩ := all_int h2 ha
              obtain ⟨nb, rfl⟩ := all_int h2 hb'
              have hba : badAt true xs (i + 1) = decide (na ≤ nb) := bad_at ha hb'
              refine ⟨_, rfl, _, rfl, p, xs, _, .int na, rfl, rfl, SqL.of hp2, (by rw [show (1 : Int) + (i : Int) = ((i + 1 : Nat) : Int) by omega]; exact atI_nat ha), _, rfl, _, rfl, _, _, rfl, rfl, p, xs, _, .int nb, rfl, rfl, SqL.of hp2, (by rw [show (1 : Int) + (i : Int) - 1 = (i : Int) by omega]; exact atI_nat hb'), _, _, rfl, rfl, _, rfl, ?_⟩
              by_cases hle : na ≤ nb
              · rw [decide_eq_true hle] at hba ⊢
                refine iteT ⟨_, rfl, mkX_fin fun e he => ?_⟩
                have z := hE (.inr (i + 1)) (by rw [fb_some (fun j hj => hb j (by omega)) hi1 hba]; rfl) _ e12 e he
                rw [show (1 : Int) + (i : Int) = ((i + 1 : Nat) : Int) by omega]
                exact z
              · rw [decide_eq_false hle] at hba ⊢
                refine iteF ⟨rfl, ⟨_, _, rfl⟩, fun j hj => ?_⟩
                by_cases hj' : j ≤ i
                · exact hb j hj'
                · rw [show j = i + 1 by omega]
                  exact hba
            · obtain ⟨rfl, _, hb⟩ := pv
              have hl1 : 1 ≤ xs.length := by
                unfold ok8 at h1
                simp at h1
                omega
              exact hQ (by rw [fb_none (fun j hj => hb j (by omega))]; rfl) _ e12
def spCheckCounts (A : Ad) : Sp := fun vs H Q E => ∃ v r m, vs = [v, .int (m : Nat)] ∧ 1 ≤ m ∧ m ≤ 100 ∧ LAt H v r ∧ (∀ x, listDue "counts" (okN m) 5000 false r = some x → EDue A H E x) ∧ (listDue "counts" (okN m) 5000 false r = none → ∀ H', Ext H H' → Q .non H')
theorem ok_checkCounts {f : Addr} {fd : FuncData} (F : Fun K "check_counts" "check_counts" s_check_counts f fd) (T : Txt K mg A) (O_is_between : Own P w K mg base CX0 "is_between" 2 pm_is_between spBetween) (O_is_list_of : Own P w K mg base CX0 "is_list_of" 2 pm_is_list_of spListOf)
    (X_BadPart : XCls P w K mg base "BadPart" "part" A.BadPart) (X_BadOrder : XCls P w K mg base "BadOrder" "index" A.BadOrder) : FnOk P w K mg base (L2.CX P w) 4 f fd pm_check_counts (spCheckCounts A) := by
  refine F.okX sc_check_counts (fun vs H Q E h => ?_) (fun cdv A' outer s H vs Q E hr h => ?_)
  · obtain ⟨_, _, _, rfl, _⟩ := h
    rfl
  · obtain ⟨v, r, m, rfl, m1, m100, hv, hE, hQ⟩ := h
    refine ⟨_, pss_cons (ps_if (pt_not (pt_val (pe_own O_is_list_of (hr.mono (by decide)) pass0 (pa_cons (pv 0) (pa_cons (pv 1) (pa_cons (pv 1) pa_nil)))))) (pss_one (ps_raise rfl (takes_of rfl rfl rfl rfl) (pmk_X X_BadPart (hr.mono (by decide)) (pe_str) rfl))) (pss_nil))
      (pss_cons (ps_if (pt_not (pt_val (pe_callB (cr_all rfl) (by rfl) T.n_all (by decide +kernel) (pa_cons (pe_lc (own := [("count", 3)]) (g := gName 3) (by rfl) sc_check_counts.nd (pi_sq (pv 0)) (blkOk_by (own := [("count", 3)]) (N := nm_check_counts) (sc := defScope s_check_counts) (by decide +kernel)) (fun _ _ _ _ _ => pg_name (i := 3) sc_check_counts.nd rfl (Or.inl rfl)) (fun s1 H1 C1 cl fp => pts_nil) (fun s1 H1 C1 cl fp => pe_own O_is_between (hr.mono (by decide)) pass0 (pa_cons (pv 3) (pa_cons (pe_int) (pa_cons (pe_gint T.g_MOST_COUNT) pa_nil))))) pa_nil)))) (pss_one (ps_raise rfl (takes_of rfl rfl rfl rfl) (pmk_X X_BadPart (hr.mono (by decide)) (pe_str) rfl))) (pss_nil))
      (pss_one (ps_for (passes_of rfl) rfl (pi_range2 rfl T.n_range (pa_cons (pe_int) (pa_cons (pv 1) pa_nil))) (pg_name (i := 2) sc_check_counts.nd rfl (Or.inl rfl)) (pss_one (ps_if (pt_cmpR op_gt (pe_ix ix_list (pv 0) (pv 2) (fun _ _ => rfl)) (pe_ix ix_list (pv 0) (pe_op op_sub (pv 2) (pe_int)) (fun _ _ => rfl)) (nomark _)) (pss_one (ps_raise rfl (takes_of rfl rfl rfl rfl) (pmk_X X_BadOrder (hr.mono (by decide)) (pv 2) rfl))) (pss_nil)))))), ?_⟩
    cases r with
    | none =>
      obtain ⟨k, hk, hs⟩ := hv
      refine ⟨v, rfl, _, rfl, _, rfl, v, _, _, rfl, .inl ⟨k, hk, hs, fun H1 e1 => ⟨_, rfl, ?_⟩⟩⟩
      exact iteT (mkX_fin fun e he => hE (.inl "counts") rfl _ e1 e he)
    | some xs =>
      obtain ⟨p, rfl, hp, hkx, hl⟩ := hv
      refine ⟨_, rfl, _, rfl, _, rfl, _, _, _, rfl, .inr ⟨p, xs, rfl, .inl hp, fun H1 e1 => ⟨_, rfl, ?_⟩⟩⟩
      have ld : listDue "counts" (okN m) 5000 false (some xs) = if (okN m) xs.length = false then some (.inl "counts") else if xs.all (fun x => betw x 1 5000) = false then some (.inl "counts") else (firstBad false xs).map .inr := rfl
      rw [ld] at hE hQ
      have ed : (decide ((m : Int) ≤ (xs.length : Int)) && decide ((xs.length : Int) ≤ (m : Int))) = (okN m) xs.length := by
        unfold okN
        rw [Bool.eq_iff_iff]
        simp
        omega
      rw [ed]
      cases h1 : (okN m) xs.length with
      | false => exact iteT (mkX_fin fun e he => hE (.inl "counts") (by rw [if_pos h1]) _ e1 e he)
      | true =>
        refine iteF ?_
        rw [h1, if_neg (by decide)] at hE hQ
        refine ⟨_, rfl, p, rfl, lc_sqR (f := fun x => .bl (betw x 1 5000)) (b := fun _ => true) (.inl (e1 _ _ hp)) (small1000 (by omega)) (fun x => rfl) (fun x hm H' e' Q' q' => q' _ Ext.rfl') (fun x hm _ H' e' Q' q' => ?_) (fun D H2 hD e2 hl' => ?_)⟩
        · obtain ⟨k, hk⟩ := hkx x hm
          exact ⟨x, rfl, x, k, 1, 5000, rfl, hk.ext (e1.trans e'), q' _ Ext.rfl'⟩
        · rw [L2.filter_all, all_map] at hl'
          refine ⟨D, xs.map (fun x => betw x 1 5000), rfl, SqL.of hl', _, rfl, ?_⟩
          rw [all_id]
          have e12 := e1.trans e2
          cases h2 : xs.all (fun x => betw x 1 5000) with
          | false => exact iteT (mkX_fin fun e he => hE (.inl "counts") (by rw [if_pos h2]) _ e12 e he)
          | true =>
            refine iteF ?_
            rw [h2, if_neg (by decide)] at hE hQ
            have hp2 := e12 _ _ hp
            have hm : xs.length = m := by
              unfold okN at h1
              simpa using h1
            refine ⟨_, rfl, 1, (m : Int), rfl, ⟨by decide, by decide, by omega, by omega⟩, ?_⟩
            refine for_range (fun i σ' H' => H' = H2 ∧ (∃ o1 o2, σ' = [some (.ref p), some (.int (m : Nat)), o1, o2]) ∧ ∀ j, j ≤ i → badAt false xs j = false) ⟨rfl, ⟨_, _, rfl⟩, fun j hj => by rw [show j = 0 by omega]; exact bad_zero⟩ (fun i σ' H' hi pv => ?_) (fun σ' H' pv => ?_)
            · obtain ⟨rfl, ⟨o1, o2, rfl⟩, hb⟩ := pv
              have hi1 : i + 1 < xs.length := by omega
              obtain ⟨a, ha⟩ : ∃ a, xs[i + 1]? = some a := ⟨_, List.getElem?_eq_getElem hi1⟩
              obtain ⟨b, hb'⟩ : ∃ b, xs[i]? = some b := ⟨_, List.getElem?_eq_getElem (by omega)⟩
              obtain ⟨na, rfl⟩ := all_int h2 ha
              obtain ⟨nb, rfl⟩ := all_int h2 hb'
              have hba : badAt false xs (i + 1) = decide (na > nb) := bad_at ha hb'
              refine ⟨_, rfl, _, rfl, p, xs, _, .int na, rfl, rfl, SqL.of hp2, (by rw [show (1 : Int) + (i : Int) = ((i + 1 : Nat) : Int) by omega]; exact atI_nat ha), _, rfl, _, rfl, _, _, rfl, rfl, p, xs, _, .int nb, rfl, rfl, SqL.of hp2, (by rw [show (1 : Int) + (i : Int) - 1 = (i : Int) by omega]; exact atI_nat hb'), _, _, rfl, rfl, _, rfl, ?_⟩
              by_cases hle : na > nb
              · rw [decide_eq_true hle] at hba ⊢
                refine iteT ⟨_, rfl, mkX_fin fun e he => ?_⟩
                have z := hE (.inr (i + 1)) (by rw [fb_some (fun j hj => hb j (by omega)) hi1 hba]; rfl) _ e12 e he
                rw [show (1 : Int) + (i : Int) = ((i + 1 : Nat) : Int) by omega]
                exact z
              · rw [decide_eq_false hle] at hba ⊢
                refine iteF ⟨rfl, ⟨_, _, rfl⟩, fun j hj => ?_⟩
                by_cases hj' : j ≤ i
                · exact hb j hj'
                · rw [show j = i + 1 by omega]
                  exact hba
            · obtain ⟨rfl, _, hb⟩ := pv
              exact hQ (by rw [fb_none (fun j hj => hb j (by omega))]; rfl) _ e12
end
end K36

set_option Elab.async false
set_option maxRecDepth 100000
set_option maxHeartbeats 4000000
namespace K36
open PySem PySem.Spec PyProof.Rows L2
def gF (w c l m t o : V) : List (Str × V) := [("widths", w), ("counts", c), ("least", l), ("most", m), ("turn", t), ("losses", o)]
theorem gF_new (w c l m t o : V) : putF "losses" o (putF "turn" t (putF "most" m (putF "least" l (putF "counts" c (putF "widths" w []))))) = gF w c l m t o := by
  rfl
def iV : V → Int | .int n => n | _ => 0
def lenR : Option (List V) → Nat | some xs => xs.length | none => 0
def restDue (l m t o : V) : Option (Str ⊕ Nat) :=
  if betw l 1 50 = false then some (.inl "least") else if betw m (iV l) 50 = false then some (.inl "most") else if betw t 1 200 = false then some (.inl "turn") else if betw o 0 3 = false then some (.inl "losses") else none
def gameDue (w c : Option (List V)) (l m t o : V) : Option (Str ⊕ Nat) :=
  ((listDue "widths" ok8 100 true w).or (listDue "counts" (okN (lenR w)) 5000 false c)).or (restDue l m t o)
theorem due_none {word : Str} {ok : Nat → Bool} {M : Int} {up : Bool} {r : Option (List V)} (h : listDue word ok M up r = none) : ∃ xs, r = some xs ∧ ok xs.length = true ∧ xs.all (fun x => betw x 1 M) = true ∧ firstBad up xs = none := by
  cases r with
  | none => cases h
  | some xs =>
    have h' : (if ok xs.length = false then some (.inl word) else if xs.all (fun x => betw x 1 M) = false then some (.inl word) else (firstBad up xs).map .inr) = (none : Option (Str ⊕ Nat)) := h
    cases h1 : ok xs.length with
    | false => rw [if_pos h1] at h'; cases h'
    | true =>
      rw [h1, if_neg (by decide)] at h'
      cases h2 : xs.all (fun x => betw x 1 M) with
      | false => rw [if_pos h2] at h'; cases h'
      | true =>
        rw [h2, if_neg (by decide)] at h'
        refine ⟨xs, rfl, h1, h2, ?_⟩
        cases h3 : firstBad up xs with
        | none => rfl
        | some i => rw [h3] at h'; cases h'
section
variable {P : Program} {w : World} {K : PySem.W.Frag} {mg : Str → Option Value} {base : Heap} {A : Ad}
def spGameInit (A : Ad) : Sp := fun vs H Q E => ∃ (p dx : Addr) (vw vc l m t o : V) (rw rc : Option (List V)), vs = [.ref p, vw, vc, l, m, t, o] ∧ H p = some (.ins A.Game dx []) ∧ LAt H vw rw ∧ LAt H vc rc ∧ (∀ v ∈ [l, m, t, o], ∃ k, KndOf H v k) ∧
  (∀ x, gameDue rw rc l m t o = some x → EDue A H E x) ∧
  (gameDue rw rc l m t o = none → ∀ xs ys H', rw = some xs → rc = some ys → (∃ tw tc, H' p = some (.ins A.Game dx (gF (.ref tw) (.ref tc) l m t o)) ∧ H' tw = some (.tup xs) ∧ H' tc = some (.tup ys)) → (∀ x u, x ≠ p → H x = some u → H' x = some u) → Q .non H')
theorem ok_gameInit {f : Addr} {fd : FuncData} (F : Fun K "__init__" "Game.__init__" s_Game_init f fd) (T : Txt K mg A) (O_is_between : Own P w K mg base CX0 "is_between" 2 pm_is_between spBetween)
    (O_check_widths : Own P w K mg base (L2.CX P w) "check_widths" 4 pm_check_widths (spCheckWidths A)) (O_check_counts : Own P w K mg base (L2.CX P w) "check_counts" 4 pm_check_counts (spCheckCounts A))
    (X_BadPart : XCls P w K mg base "BadPart" "part" A.BadPart) : FnOk P w K mg base (L2.CX P w) 6 f fd pm_Game_init (spGameInit A) := by
  refine F.okX sc_Game_init (fun vs H Q E h => ?_) (fun cdv A' outer s H vs Q E hr h => ?_)
  · obtain ⟨_, _, _, _, _, _, _, _, _, _, rfl, _⟩ := h
    rfl
  · obtain ⟨p, dx, vw, vc, l, m, t, o, rw, rc, rfl, hp, hw, hc, hk, hE, hQ⟩ := h
    obtain ⟨kl, hkl⟩ := hk l (by simp)
    obtain ⟨km, hkm⟩ := hk m (by simp)
    obtain ⟨kt, hkt⟩ := hk t (by simp)
    obtain ⟨ko, hko⟩ := hk o (by simp)
    refine ⟨_, pss_cons (ps_expr (pe_ownS O_check_widths (hr.mono (by decide)) (takes_of rfl rfl rfl rfl) (pa_cons (pv 1) pa_nil)))
      (pss_cons (ps_expr (pe_ownS O_check_counts (hr.mono (by decide)) (takes_of rfl rfl rfl rfl) (pa_cons (pv 2) (pa_cons (pe_callB call_len_seq (by rfl) T.n_len (by decide +kernel) (pa_cons (pv 1) pa_nil)) pa_nil))))
      (pss_cons (ps_if (pt_not (pt_val (pe_own O_is_between (hr.mono (by decide)) pass0 (pa_cons (pv 3) (pa_cons (pe_int) (pa_cons (pe_gint T.g_MOST_DELAY) pa_nil)))))) (pss_one (ps_raise rfl (takes_of rfl rfl rfl rfl) (pmk_X X_BadPart (hr.mono (by decide)) (pe_str) rfl))) (pss_nil))
      (pss_cons (ps_if (pt_not (pt_val (pe_own O_is_between (hr.mono (by decide)) pass0 (pa_cons (pv 4) (pa_cons (pv 3) (pa_cons (pe_gint T.g_MOST_DELAY) pa_nil)))))) (pss_one (ps_raise rfl (takes_of rfl rfl rfl rfl) (pmk_X X_BadPart (hr.mono (by decide)) (pe_str) rfl))) (pss_nil))
      (pss_cons (ps_if (pt_not (pt_val (pe_own O_is_between (hr.mono (by decide)) pass0 (pa_cons (pv 5) (pa_cons (pe_int) (pa_cons (pe_gint T.g_MOST_TURN) pa_nil)))))) (pss_one (ps_raise rfl (takes_of rfl rfl rfl rfl) (pmk_X X_BadPart (hr.mono (by decide)) (pe_str) rfl))) (pss_nil))
      (pss_cons (ps_if (pt_not (pt_val (pe_own O_is_between (hr.mono (by decide)) pass0 (pa_cons (pv 6) (pa_cons (pe_int) (pa_cons (pe_gint T.g_MOST_LOSSES) pa_nil)))))) (pss_one (ps_raise rfl (takes_of rfl rfl rfl rfl) (pmk_X X_BadPart (hr.mono (by decide)) (pe_str) rfl))) (pss_nil))
      (pss_cons (ps_fld (pv 0) (pe_callTy call_tuple_of (by rfl) T.n_tuple (by decide +kernel) (pa_cons (pv 1) pa_nil)) rfl)
      (pss_cons (ps_fld (pv 0) (pe_callTy call_tuple_of (by rfl) T.n_tuple (by decide +kernel) (pa_cons (pv 2) pa_nil)) rfl)
      (pss_cons (ps_fld (pv 0) (pv 3) rfl)
      (pss_cons (ps_fld (pv 0) (pv 4) rfl)
      (pss_cons (ps_fld (pv 0) (pv 5) rfl)
      (pss_one (ps_fld (pv 0) (pv 6) rfl)))))))))))), ?_⟩
    unfold gameDue at hE hQ
    refine ⟨_, rfl, vw, rw, rfl, hw, fun x hx => hE x (by rw [hx]; rfl), fun hwn H1 e1 => ?_⟩
    rw [hwn] at hE hQ
    obtain ⟨xs, rfl, hx8, hxa, hxb⟩ := due_none hwn
    have x18 : 1 ≤ xs.length ∧ xs.length ≤ 8 := by
      unfold ok8 at hx8
      simpa using hx8
    obtain ⟨aw, rfl, haw, _, _⟩ := id hw
    refine ⟨_, rfl, _, rfl, aw, xs, rfl, .inl (SqL.of (e1 _ _ haw)), vc, rc, xs.length, rfl, x18.1, by omega, hc.ext e1, fun x hx => EDue.to (hE x (by show (listDue "counts" (okN xs.length) 5000 false rc).or _ = _; rw [hx]; rfl)) e1, fun hcn H2 e2 => ?_⟩
    have e12 := e1.trans e2
    obtain ⟨ys, rfl, _, _, _⟩ := due_none hcn
    obtain ⟨ac, rfl, hac, _, _⟩ := id hc
    have hcn' : listDue "counts" (okN (lenR (some xs))) 5000 false (some ys) = none := hcn
    rw [hcn'] at hE hQ
    have hE' : ∀ x, restDue l m t o = some x → EDue A H2 E x := fun x hx => EDue.to (hE x hx) e12
    have hQ' : restDue l m t o = none → _ := fun h => hQ h xs ys
    unfold restDue at hE' hQ'
    refine ⟨l, rfl, l, kl, 1, 50, rfl, hkl.ext e12, _, rfl, ?_⟩
    cases h1 : betw l 1 50 with
    | false => exact iteT (mkX_fin fun e he => hE' (.inl "least") (by rw [if_pos h1]) _ Ext.rfl' e he)
    | true =>
      refine iteF ?_
      rw [h1, if_neg (by decide)] at hE' hQ'
      obtain ⟨ln, rfl, _, _⟩ := bt h1
      have hiv : iV (.int ln) = ln := rfl
      rw [hiv] at hE' hQ'
      refine ⟨m, rfl, _, rfl, m, km, ln, 50, rfl, hkm.ext e12, _, rfl, ?_⟩
      cases h2 : betw m ln 50 with
      | false => exact iteT (mkX_fin fun e he => hE' (.inl "most") (by rw [if_pos h2]) _ Ext.rfl' e he)
      | true =>
        refine iteF ?_
        rw [h2, if_neg (by decide)] at hE' hQ'
        refine ⟨t, rfl, t, kt, 1, 200, rfl, hkt.ext e12, _, rfl, ?_⟩
        cases h3 : betw t 1 200 with
        | false => exact iteT (mkX_fin fun e he => hE' (.inl "turn") (by rw [if_pos h3]) _ Ext.rfl' e he)
        | true =>
          refine iteF ?_
          rw [h3, if_neg (by decide)] at hE' hQ'
          refine ⟨o, rfl, o, ko, 0, 3, rfl, hko.ext e12, _, rfl, ?_⟩
          cases h4 : betw o 0 3 with
          | false => exact iteT (mkX_fin fun e he => hE' (.inl "losses") (by rw [if_pos h4]) _ Ext.rfl' e he)
          | true =>
            refine iteF ?_
            rw [h4, if_neg (by decide)] at hQ'
            have hp2 := e12 _ _ hp
            have hw2 := e12 _ _ haw
            have hc2 := e12 _ _ hac
            have nwp : aw ≠ p := fun z => by rw [z, hp2] at hw2; cases hw2
            have ncp : ac ≠ p := fun z => by rw [z, hp2] at hc2; cases hc2
            refine ⟨_, rfl, aw, xs, rfl, .inl ⟨SqL.of hw2, fun tw htw => ?_⟩⟩
            have ntp : p ≠ tw := ne_of_none hp2 htw
            have nct : ac ≠ tw := ne_of_none hc2 htw
            refine ⟨_, rfl, p, A.Game, dx, [], rfl, (by rw [upd_ne ntp]; exact hp2), T.Game.cl, T.c_widths, (by show 0 < 1000; decide), ?_⟩
            refine ⟨_, rfl, ac, ys, rfl, .inl ⟨SqL.of (by rw [upd_ne ncp, upd_ne nct]; exact hc2), fun tc htc => ?_⟩⟩
            have ntcp : p ≠ tc := fun z => by rw [← z, upd_same] at htc; cases htc
            have ntcw : tw ≠ tc := fun z => by rw [← z, upd_ne ntp.symm, upd_same] at htc; cases htc
            refine ⟨_, rfl, p, A.Game, dx, _, rfl, (by rw [upd_ne ntcp, upd_same]), T.Game.cl, T.c_counts, (by show 1 < 1000; decide), ?_⟩
            refine ⟨_, rfl, _, rfl, p, A.Game, dx, _, rfl, upd_same, T.Game.cl, T.c_least, (by show 2 < 1000; decide), ?_⟩
            refine ⟨_, rfl, _, rfl, p, A.Game, dx, _, rfl, upd_same, T.Game.cl, T.c_most, (by show 3 < 1000; decide), ?_⟩
            refine ⟨_, rfl, _, rfl, p, A.Game, dx, _, rfl, upd_same, T.Game.cl, T.c_turn, (by show 4 < 1000; decide), ?_⟩
            refine ⟨_, rfl, _, rfl, p, A.Game, dx, _, rfl, upd_same, T.Game.cl, T.c_losses, (by show 5 < 1000; decide), ?_⟩
            refine hQ' rfl _ rfl rfl ⟨tw, tc, upd_same.trans (by rw [gF_new]), ?_, ?_⟩ fun x u hxp hu => ?_
            · rw [upd_ne ntp.symm, upd_ne ntp.symm, upd_ne ntp.symm, upd_ne ntp.symm, upd_ne ntp.symm, upd_ne ntcw, upd_ne ntp.symm, upd_same]
            · rw [upd_ne ntcp.symm, upd_ne ntcp.symm, upd_ne ntcp.symm, upd_ne ntcp.symm, upd_ne ntcp.symm, upd_same]
            · have h2 := e12 _ _ hu
              have nxw : x ≠ tw := ne_of_none h2 htw
              have nxc : x ≠ tc := fun z => by
                rw [← z, upd_ne hxp, upd_ne nxw, h2] at htc
                cases htc
              rw [upd_ne hxp, upd_ne hxp, upd_ne hxp, upd_ne hxp, upd_ne hxp, upd_ne nxc, upd_ne hxp, upd_ne nxw]
              exact h2
end
end K36

set_option Elab.async false
set_option maxRecDepth 100000
set_option maxHeartbeats 4000000
namespace K36
open PySem PySem.Spec PyProof.Rows L2
structure G where
  (ws cs : List Int) (l m t o : Int)
  deriving DecidableEq
theorem G.eq_iff {g g' : G} : g = g' ↔ g.ws = g'.ws ∧ g.cs = g'.cs ∧ g.l = g'.l ∧ g.m = g'.m ∧ g.t = g'.t ∧ g.o = g'.o := by
  cases g
  cases g'
  simp
section
variable {P : Program} {w : World} {K : PySem.W.Frag} {mg : Str → Option Value} {base : Heap} {A : Ad}
def GameAt (A : Ad) (H : Hp) (p : Addr) (g : G) : Prop := ∃ dx tw tc, H p = some (.ins A.Game dx (gF (.ref tw) (.ref tc) (.int g.l) (.int g.m) (.int g.t) (.int g.o))) ∧ H tw = some (.tup (g.ws.map V.int)) ∧ H tc = some (.tup (g.cs.map V.int))
theorem GameAt.ext {H H' : Hp} {p : Addr} {g : G} (h : GameAt A H p g) (e : Ext H H') : GameAt A H' p g := by
  obtain ⟨dx, tw, tc, h1, h2, h3⟩ := h
  exact ⟨dx, tw, tc, e _ _ h1, e _ _ h2, e _ _ h3⟩
def spGameLen (A : Ad) : Sp := fun vs H Q _ => ∃ p g, vs = [.ref p] ∧ GameAt A H p g ∧ Q (.int (g.ws.length : Int)) H
theorem ok_gameLen {f : Addr} {fd : FuncData} (F : Fun K "__len__" "Game.__len__" s_Game_len f fd) (T : Txt K mg A) : FnOk P w K mg base CX0 1 f fd pm_Game_len (spGameLen A) := by
  refine F.ok sc_Game_len (fun vs H Q E h => ?_) (fun cdv A' outer s H vs Q E hr h => ?_)
  · obtain ⟨_, _, rfl, _⟩ := h
    rfl
  · obtain ⟨p, g, rfl, ⟨dx, tw, tc, hp, hw, hc⟩, q⟩ := h
    refine ⟨_, pss_one (ps_ret (pe_callB call_len_seq (by rfl) T.n_len (by decide +kernel) (pa_cons (pe_fld (pv 0) rfl) pa_nil))), ?_⟩
    refine ⟨_, rfl, p, A.Game, dx, _, _, rfl, hp, T.Game.cl, T.c_widths, rfl, tw, _, rfl, .inr (SqT.of hw), ?_⟩
    rw [List.length_map]
    exact q
def spGameEq (A : Ad) : Sp := fun vs H Q _ => ∃ p g v, vs = [.ref p, v] ∧ GameAt A H p g ∧ ((∃ q g', v = .ref q ∧ GameAt A H q g' ∧ Q (.bl (decide (g = g'))) H) ∨ ∃ k, KndOf H v k ∧ Q (.bl false) H)
theorem ok_gameEq {f : Addr} {fd : FuncData} (F : Fun K "__eq__" "Game.__eq__" s_Game_eq f fd) (T : Txt K mg A) : FnOk P w K mg base CX0 1 f fd pm_Game_eq (spGameEq A) := by
  refine F.ok sc_Game_eq (fun vs H Q E h => ?_) (fun cdv A' outer s H vs Q E hr h => ?_)
  · obtain ⟨_, _, _, rfl, _⟩ := h
    rfl
  · obtain ⟨p, g, v, rfl, ⟨dx, tw, tc, hp, hw, hc⟩, h⟩ := h
    refine ⟨_, pss_cons (ps_if (PW.pt (pw_or (pt_not (pt_val (pe_callB call_isi (by rfl) T.n_isinstance (by decide +kernel) (pa_cons (pv 1) (pa_cons (pe_gcls T.Game.gC) pa_nil))))) (pw_or (pt_cmpR (op_neD hr.units) (pe_fld (pv 0) rfl) (pe_fld (pv 1) rfl) (nomark _)) (pw_or1 (pt_cmpR (op_neD hr.units) (pe_fld (pv 0) rfl) (pe_fld (pv 1) rfl) (nomark _)))))) (pss_one (ps_ret (pe_bl))) (pss_nil))
      (pss_cons (ps_if (PW.pt (pw_or (pt_cmpR op_ne (pe_fld (pv 0) rfl) (pe_fld (pv 1) rfl) (nomark _)) (pw_or1 (pt_cmpR op_ne (pe_fld (pv 0) rfl) (pe_fld (pv 1) rfl) (nomark _))))) (pss_one (ps_ret (pe_bl))) (pss_nil))
      (pss_one (ps_ret (pe_and (pe_cmpR op_eq (pe_fld (pv 0) rfl) (pe_fld (pv 1) rfl) (nomark _)) (pe_one (pe_cmpR op_eq (pe_fld (pv 0) rfl) (pe_fld (pv 1) rfl) (nomark _))))))), ?_⟩
    rcases h with ⟨q, g', rfl, ⟨dy, tw', tc', hq, hw', hc'⟩, k⟩ | ⟨k, hk, h⟩
    · rw [show decide (g = g') = decide (g.ws = g'.ws ∧ g.cs = g'.cs ∧ g.l = g'.l ∧ g.m = g'.m ∧ g.t = g'.t ∧ g.o = g'.o) from decide_eq_decide.mpr G.eq_iff] at k
      refine ⟨_, rfl, _, .ref A.Game, .ref A.Game, .ref A.Game, true, rfl, .own _, T.Game.tyOf hq, T.Game.me, _, rfl, ?_⟩
      refine iteF ?_
      refine ⟨_, rfl, p, A.Game, dx, _, _, rfl, hp, T.Game.cl, T.c_widths, rfl, _, rfl, q, A.Game, dy, _, _, rfl, hq, T.Game.cl, T.c_widths, rfl, ?_⟩
      refine ⟨_, _, .tup (SqT.of hw) (dp_all fl_ints), .tup (SqT.of hw') (dp_all fl_ints), shp_tup fl_ints, shp_tup fl_ints, _, rfl, ?_⟩
      show if (!PyData.eqvAll ((g.ws.map V.int).map pd) ((g'.ws.map V.int).map pd)) = true then _ else _
      rw [eqv_ints]
      by_cases h1 : g.ws = g'.ws
      · rw [decide_eq_true h1]
        refine iteF ?_
        refine ⟨_, rfl, p, A.Game, dx, _, _, rfl, hp, T.Game.cl, T.c_counts, rfl, _, rfl, q, A.Game, dy, _, _, rfl, hq, T.Game.cl, T.c_counts, rfl, ?_⟩
        refine ⟨_, _, .tup (SqT.of hc) (dp_all fl_ints), .tup (SqT.of hc') (dp_all fl_ints), shp_tup fl_ints, shp_tup fl_ints, _, rfl, ?_⟩
        show if (!PyData.eqvAll ((g.cs.map V.int).map pd) ((g'.cs.map V.int).map pd)) = true then _ else _
        rw [eqv_ints]
        by_cases h2 : g.cs = g'.cs
        · rw [decide_eq_true h2]
          refine iteF ?_
          refine ⟨_, rfl, p, A.Game, dx, _, _, rfl, hp, T.Game.cl, T.c_least, rfl, _, rfl, q, A.Game, dy, _, _, rfl, hq, T.Game.cl, T.c_least, rfl, rfl, _, rfl, ?_⟩
          rw [dvi]
          by_cases h3 : g.l = g'.l
          · rw [decide_eq_true h3]
            refine iteF ?_
            refine ⟨_, rfl, p, A.Game, dx, _, _, rfl, hp, T.Game.cl, T.c_most, rfl, _, rfl, q, A.Game, dy, _, _, rfl, hq, T.Game.cl, T.c_most, rfl, rfl, _, rfl, ?_⟩
            rw [dvi]
            by_cases h4 : g.m = g'.m
            · rw [decide_eq_true h4]
              refine iteF ?_
              refine ⟨_, rfl, p, A.Game, dx, _, _, rfl, hp, T.Game.cl, T.c_turn, rfl, _, rfl, q, A.Game, dy, _, _, rfl, hq, T.Game.cl, T.c_turn, rfl, rfl, _, rfl, ?_⟩
              rw [dvi]
              by_cases h5 : g.t = g'.t
              · rw [decide_eq_true h5]
                refine iteT ⟨_, rfl, p, A.Game, dx, _, _, rfl, hp, T.Game.cl, T.c_losses, rfl, _, rfl, q, A.Game, dy, _, _, rfl, hq, T.Game.cl, T.c_losses, rfl, rfl, ?_⟩
                rw [dvi]
                rw [show decide (g.ws = g'.ws ∧ g.cs = g'.cs ∧ g.l = g'.l ∧ g.m = g'.m ∧ g.t = g'.t ∧ g.o = g'.o) = decide (g.o = g'.o) from decide_eq_decide.mpr (by simp [h1, h2, h3, h4, h5])] at k
                exact k
              · rw [decide_eq_false h5]
                rw [decide_eq_false (by simp [h5])] at k
                exact iteF k
            · rw [decide_eq_false h4]
              rw [decide_eq_false (by simp [h4])] at k
              exact iteT k
          · rw [decide_eq_false h3]
            rw [decide_eq_false (by simp [h3])] at k
            exact iteT k
        · rw [decide_eq_false h2]
          rw [decide_eq_false (by simp [h2])] at k
          exact iteT k
      · rw [decide_eq_false h1]
        rw [decide_eq_false (by simp [h1])] at k
        exact iteT k
    · refine ⟨_, rfl, _, .ref A.Game, .type k.name, .ref A.Game, false, rfl, .own _, knd_ty hk, T.Game.kitK k, _, rfl, ?_⟩
      exact iteT h
/-! ### bases -/
def spCheckGame (A : Ad) : Sp := fun vs H Q E => ∃ v, vs = [v] ∧ ((∃ p g, v = .ref p ∧ GameAt A H p g ∧ Q .non H) ∨ ∃ k, KndOf H v k ∧ EDue A H E (.inl "game"))
theorem ok_checkGame {f : Addr} {fd : FuncData} (F : Fun K "check_game" "check_game" s_check_game f fd) (T : Txt K mg A) (X_BadPart : XCls P w K mg base "BadPart" "part" A.BadPart) : FnOk P w K mg base (L2.CX P w) 3 f fd pm_check_game (spCheckGame A) := by
  refine F.okX sc_check_game (fun vs H Q E h => ?_) (fun cdv A' outer s H vs Q E hr h => ?_)
  · obtain ⟨_, rfl, _⟩ := h
    rfl
  · obtain ⟨v, rfl, h⟩ := h
    refine ⟨_, pss_one (ps_if (pt_not (pt_val (pe_callB call_isi (by rfl) T.n_isinstance (by decide +kernel) (pa_cons (pv 0) (pa_cons (pe_gcls T.Game.gC) pa_nil))))) (pss_one (ps_raise rfl (takes_of rfl rfl rfl rfl) (pmk_X X_BadPart (hr.mono (by decide)) (pe_str) rfl))) (pss_nil)), ?_⟩
    rcases h with ⟨p, g, rfl, ⟨dx, tw, tc, hp, hw, hc⟩, q⟩ | ⟨k, hk, hE⟩
    · refine ⟨_, rfl, _, .ref A.Game, .ref A.Game, .ref A.Game, true, rfl, .own _, T.Game.tyOf hp, T.Game.me, _, rfl, ?_⟩
      exact iteF q
    · refine ⟨_, rfl, _, .ref A.Game, .type k.name, .ref A.Game, false, rfl, .own _, knd_ty hk, T.Game.kitK k, _, rfl, ?_⟩
      exact iteT (mkX_fin fun e he => hE _ Ext.rfl' e he)
def going (g : G) (n : Int) : Int := (2 * n - 1) * g.m + g.o * g.t
def spGoing (A : Ad) : Sp := fun vs H Q _ => ∃ p g n, vs = [.ref p, .int n, .int g.o] ∧ GameAt A H p g ∧ 0 ≤ g.m ∧ g.m ≤ 1000 ∧ 0 ≤ g.t ∧ g.t ≤ 1000 ∧ Q (.int (going g n)) H
theorem ok_going {f : Addr} {fd : FuncData} (F : Fun K "greatest_going" "greatest_going" s_greatest_going f fd) (T : Txt K mg A) : FnOk P w K mg base CX0 1 f fd pm_greatest_going (spGoing A) := by
  refine F.ok sc_greatest_going (fun vs H Q E h => ?_) (fun cdv A' outer s H vs Q E hr h => ?_)
  · obtain ⟨_, _, _, rfl, _⟩ := h
    rfl
  · obtain ⟨p, g, n, rfl, ⟨dx, tw, tc, hp, hw, hc⟩, m0, m1, t0, t1, q⟩ := h
    refine ⟨_, pss_one (ps_ret (pe_op op_add (pe_op op_mul (pe_op op_sub (pe_op op_mul (pe_int) (pv 1)) (pe_int)) (pe_fld (pv 0) rfl)) (pe_op op_mul (pv 2) (pe_fld (pv 0) rfl)))), ?_⟩
    refine ⟨_, rfl, _, _, rfl, rfl, .inl ⟨by decide, by decide⟩, _, _, rfl, rfl, _, rfl, p, A.Game, dx, _, _, rfl, hp, T.Game.cl, T.c_most, rfl, _, _, rfl, rfl, .inr ⟨by omega, by omega⟩, ?_⟩
    refine ⟨_, rfl, _, rfl, p, A.Game, dx, _, _, rfl, hp, T.Game.cl, T.c_turn, rfl, _, _, rfl, rfl, .inr ⟨by omega, by omega⟩, _, _, rfl, rfl, ?_⟩
    exact q
def spBasesOf (A : Ad) : Sp := fun vs H Q _ => ∃ p g, vs = [.ref p] ∧ GameAt A H p g ∧ 0 ≤ g.m ∧ g.m ≤ 1000 ∧ 0 ≤ g.t ∧ g.t ≤ 1000 ∧ g.cs.length ≤ 1000 ∧ ∀ t H', Ext H H' → H' t = some (.tup ((g.cs.map (going g)).map V.int)) → Q (.ref t) H'
theorem ok_basesOf {f : Addr} {fd : FuncData} (F : Fun K "bases_of" "bases_of" s_bases_of f fd) (T : Txt K mg A) (O_greatest_going : Own P w K mg base CX0 "greatest_going" 1 pm_greatest_going (spGoing A)) : FnOk P w K mg base CX0 2 f fd pm_bases_of (spBasesOf A) := by
  refine F.ok sc_bases_of (fun vs H Q E h => ?_) (fun cdv A' outer s H vs Q E hr h => ?_)
  · obtain ⟨_, _, rfl, _⟩ := h
    rfl
  · obtain ⟨p, g, rfl, hg, m0, m1, t0, t1, hl, q⟩ := h
    obtain ⟨dx, tw, tc, hp, hw, hc⟩ := id hg
    refine ⟨_, pss_one (ps_ret (pe_callTy call_tuple_of (by rfl) T.n_tuple (by decide +kernel) (pa_cons (pe_lc (te := tCall (spGoing A) [] E0 (tCons (tVar 0) (tCons (tVar 1) (tCons (tFld K (tVar 0) "losses") tNil)))) (own := [("count", 1)]) (g := gName 1) (by rfl) sc_bases_of.nd (pi_tup (pe_fld (pv 0) rfl)) (blkOk_by (own := [("count", 1)]) (N := nm_bases_of) (sc := defScope s_bases_of) (by decide +kernel)) (fun _ _ _ _ _ => pg_name (i := 1) sc_bases_of.nd rfl (Or.inl rfl)) (fun s1 H1 C1 cl fp => pts_nil) (fun s1 H1 C1 cl fp => pe_own O_greatest_going (hr.mono (by decide)) pass0 (pa_cons (pv 0) (pa_cons (pv 1) (pa_cons (pe_fldK (K := K) rfl (pv 0) rfl) pa_nil))))) pa_nil))), ?_⟩
    refine ⟨_, rfl, p, A.Game, dx, _, _, rfl, hp, T.Game.cl, T.c_counts, rfl, tc, rfl, ⟨_, SqT.of hc⟩, fun D hD => ?_⟩
    refine lc_tup (xs := g.cs.map V.int) (fun i H' => Ext H H' ∧ H' D = some (.lst (((g.cs.take i).map (going g)).map V.int))) ⟨Ext.upd hD, upd_same⟩ (fun i H' _ pv => SqT.of (pv.1 _ _ hc)) (fun i x H' hi pv => ?_) (fun H' pv => ?_)
    · obtain ⟨e1, hl'⟩ := pv
      obtain ⟨n, hn, rfl⟩ : ∃ n, g.cs[i]? = some n ∧ x = .int n := by
        rw [List.getElem?_map] at hi
        cases hn : g.cs[i]? with
        | none => rw [hn] at hi; cases hi
        | some n => rw [hn] at hi; cases hi; exact ⟨n, rfl, rfl⟩
      refine ⟨rfl, _, rfl, _, rfl, _, rfl, p, A.Game, dx, _, _, rfl, e1 _ _ hp, T.Game.cl, T.c_losses, rfl, p, g, n, rfl, hg.ext e1, m0, m1, t0, t1, _, hl', small1000 (by rw [List.length_map, List.length_map, List.length_take]; omega), ext_mut e1 hD, ?_⟩
      rw [upd_same, List.take_add_one, hn]
      simp
    · obtain ⟨e1, hl'⟩ := pv
      rw [List.length_map, List.take_length] at hl'
      exact ⟨D, _, rfl, .inl ⟨SqL.of hl', fun t ht => q t _ (e1.upd' ht) upd_same⟩⟩
def spBases (A : Ad) : Sp := fun vs H Q E => ∃ v, vs = [v] ∧ ((∃ p g, v = .ref p ∧ GameAt A H p g ∧ 0 ≤ g.m ∧ g.m ≤ 1000 ∧ 0 ≤ g.t ∧ g.t ≤ 1000 ∧ g.cs.length ≤ 1000 ∧ ∀ t H', Ext H H' → H' t = some (.tup ((g.cs.map (going g)).map V.int)) → Q (.ref t) H') ∨ ∃ k, KndOf H v k ∧ EDue A H E (.inl "game"))
theorem ok_bases {f : Addr} {fd : FuncData} (F : Fun K "bases" "bases" s_bases f fd) (T : Txt K mg A) (O_check_game : Own P w K mg base (L2.CX P w) "check_game" 3 pm_check_game (spCheckGame A)) (O_bases_of : Own P w K mg base CX0 "bases_of" 2 pm_bases_of (spBasesOf A)) : FnOk P w K mg base (L2.CX P w) 5 f fd pm_bases (spBases A) := by
  refine F.okX sc_bases (fun vs H Q E h => ?_) (fun cdv A' outer s H vs Q E hr h => ?_)
  · obtain ⟨_, rfl, _⟩ := h
    rfl
  · obtain ⟨v, rfl, h⟩ := h
    refine ⟨_, pss_cons (ps_expr (pe_ownS O_check_game (hr.mono (by decide)) (takes_of rfl rfl rfl rfl) (pa_cons (pv 0) pa_nil)))
      (pss_one (ps_ret (pe_own O_bases_of (hr.mono (by decide)) pass0 (pa_cons (pv 0) pa_nil)))), ?_⟩
    rcases h with ⟨p, g, rfl, hg, m0, m1, t0, t1, hl, q⟩ | ⟨k, hk, hE⟩
    · exact ⟨_, rfl, _, rfl, .inl ⟨p, g, rfl, hg, _, rfl, p, g, rfl, hg, m0, m1, t0, t1, hl, q⟩⟩
    · exact ⟨_, rfl, v, rfl, .inr ⟨k, hk, hE⟩⟩
end
end K36

set_option Elab.async false
set_option maxRecDepth 100000
set_option maxHeartbeats 4000000
namespace K36
open PySem PySem.Spec PyProof.Rows L2
/-! ### the state that is drawn by: four ints in a list; the script -/
def StD (H : Hp) (st : Addr) (N : Nat) : Prop := ∃ a b c d : Int, H st = some (.lst [.int a, .int b, .int c, .int d]) ∧ 0 ≤ c ∧ c ≤ N ∧ 0 ≤ d ∧ d ≤ N
def ExtM (st : Addr) (H H' : Hp) : Prop := ∀ x o, x ≠ st → H x = some o → H' x = some o
theorem ExtM.rfl' {st : Addr} {H : Hp} : ExtM st H H := fun _ _ _ h => h
theorem ExtM.trans {st : Addr} {H H1 H2 : Hp} (a : ExtM st H H1) (c : ExtM st H1 H2) : ExtM st H H2 := fun x o h e => c x o h (a x o h e)
theorem Ext.m {st : Addr} {H H' : Hp} (h : Ext H H') : ExtM st H H' := fun x o _ e => h x o e
theorem StD.ext {st : Addr} {H H' : Hp} {N : Nat} (h : StD H st N) (e : Ext H H') : StD H' st N := by
  obtain ⟨a, b, c, d, hs, h⟩ := h
  exact ⟨a, b, c, d, e _ _ hs, h⟩
theorem StD.le {st : Addr} {H : Hp} {N M : Nat} (h : StD H st N) (e : N ≤ M) : StD H st M := by
  obtain ⟨a, b, c, d, hs, h1, h2, h3, h4⟩ := h
  exact ⟨a, b, c, d, hs, h1, by omega, h3, by omega⟩
theorem StD.new {st l : Addr} {H : Hp} {N : Nat} (h : StD H st N) (hl : H l = none) : l ≠ st := by
  obtain ⟨a, b, c, d, hs, _⟩ := h
  exact (ne_of_none hs hl).symm
theorem StD.upd {st l : Addr} {H : Hp} {N : Nat} {o : HO} (h : StD H st N) (hl : l ≠ st) : StD (L2.upd H l o) st N := by
  obtain ⟨a, b, c, d, hs, h⟩ := h
  exact ⟨a, b, c, d, by rw [upd_ne hl.symm]; exact hs, h⟩
theorem ExtM.mut {st l : Addr} {H H' : Hp} {o : HO} (e : ExtM st H H') (hl : H l = none) : ExtM st H (L2.upd H' l o) := fun x u h1 h => by
  rw [upd_ne (ne_of_none h hl)]
  exact e x u h1 h
theorem ExtM.none {st t : Addr} {H H' : Hp} (e : ExtM st H H') (h1 : t ≠ st) (h : H' t = none) : H t = none := by
  cases z : H t with
  | none => rfl
  | some o =>
    rw [e t o h1 z] at h
    cases h
def Scr (K : PySem.W.Frag) (st sc : Addr) (ns : List Int) (H : Hp) : Prop := ns.length ≤ 63 ∧ ∀ H', ExtM st H H' → SqL K H' sc (ns.map V.int)
theorem Scr.to {K : PySem.W.Frag} {st sc : Addr} {ns : List Int} {H H' : Hp} (h : Scr K st sc ns H) (e : ExtM st H H') : Scr K st sc ns H' := ⟨h.1, fun H2 e2 => h.2 H2 (e.trans e2)⟩
theorem Scr.at {K : PySem.W.Frag} {st sc : Addr} {ns : List Int} {H : Hp} (h : Scr K st sc ns H) : SqL K H sc (ns.map V.int) := h.2 H ExtM.rfl'
theorem Scr.new {K : PySem.W.Frag} {st sc : Addr} {ns : List Int} {H H' : Hp} (hl : ns.length ≤ 63) (h : SqL K H sc (ns.map V.int)) (hs : H st = none) (e : ExtM st H H') : Scr K st sc ns H' := ⟨hl, fun H2 e2 => by
  have e' := e.trans e2
  rcases h with (h | ⟨o, h⟩) | h
  · exact .inl (.inl (e' _ _ (ne_of_none h hs) h))
  · exact .inl (.inr ⟨o, e' _ _ (ne_of_none h hs) h⟩)
  · exact .inr h⟩
section
variable {P : Program} {w : World} {K : PySem.W.Frag} {mg : Str → Option Value} {base : Heap} {A : Ad}
def spStart (K : PySem.W.Frag) : Sp := fun vs H Q _ => ∃ (sc : Addr) (ns : List Int), vs = [.ref sc] ∧ SqL K H sc (ns.map V.int) ∧ ns.length ≤ 63 ∧ ∀ st H', Ext H H' → H st = none → StD H' st 1 → Q (.ref st) H'
theorem ok_start {f : Addr} {fd : FuncData} (F : Fun K "_law_start" "_law_start" s__law_start f fd) (T : Txt K mg A) : FnOk P w K mg base CX0 1 f fd pm__law_start (spStart K) := by
  refine F.ok sc__law_start (fun vs H Q E h => ?_) (fun cdv A' outer s H vs Q E hr h => ?_)
  · obtain ⟨_, _, rfl, _⟩ := h
    rfl
  · obtain ⟨sc, ns, rfl, hs, hl, k⟩ := h
    refine ⟨_, pss_cons (ps_set (i := 1) sc__law_start.nd rfl (Or.inl rfl) (pe_int))
      (Evl.pss_cut (ps_if (pt_cmpR op_gt (pe_callB call_len_seq (by rfl) T.n_len (by decide +kernel) (pa_cons (pv 0) pa_nil)) (pe_int) (nomark _)) (pss_one (ps_set (i := 1) sc__law_start.nd rfl (Or.inl rfl) (pe_ix ix_list (pv 0) (pe_int) (fun _ _ => rfl)))) (pss_nil))
      (pss_one (ps_ret (pe_lst (pa_cons (pe_callB call_abs (by rfl) T.n_abs (by decide +kernel) (pa_cons (pe_callTy call_int1 (by rfl) T.n_int (by decide +kernel) (pa_cons (pv 1) pa_nil)) pa_nil)) (pa_cons (pe_callTy call_int1 (by rfl) T.n_int (by decide +kernel) (pa_cons (pe_cmpR op_ge (pe_callB call_abs (by rfl) T.n_abs (by decide +kernel) (pa_cons (pe_callTy call_int1 (by rfl) T.n_int (by decide +kernel) (pa_cons (pv 1) pa_nil)) pa_nil)) (pe_op op_pow (pe_int) (pe_int)) (nomark _)) pa_nil)) (pa_cons (pe_int) (pa_cons (pe_int) pa_nil)))))))), ?_⟩
    refine ⟨fun σ H' => ∃ n, σ = [some (.ref sc), some (.int n)] ∧ H' = H, ?_, ?_⟩
    · refine ⟨_, rfl, sc, _, rfl, .inl hs, _, _, rfl, rfl, _, rfl, ?_⟩
      rw [List.length_map]
      by_cases hl0 : (ns.length : Int) > 0
      · rw [decide_eq_true hl0]
        obtain ⟨n, hn⟩ : ∃ n, (ns.map V.int)[0]? = some (.int n) := ⟨ns[0]'(by omega), by rw [List.getElem?_map, List.getElem?_eq_getElem (by omega)] <;> rfl⟩
        exact iteT ⟨_, rfl, sc, _, 0, .int n, rfl, rfl, hs, atI_nat (j := 0) hn, n, rfl, rfl⟩
      · rw [decide_eq_false hl0]
        exact iteF ⟨0, rfl, rfl⟩
    · rintro σ H' ⟨n, rfl, rfl⟩
      refine ⟨_, rfl, .inl ⟨_, rfl, _, rfl, _, rfl, .inl ⟨_, rfl, _, rfl, _, _, rfl, rfl, ⟨by decide, by decide, by decide⟩, _, _, rfl, rfl, .inr ⟨_, rfl, by show 4 ≤ sizeLine; decide, fun st hst => ?_⟩⟩⟩⟩
      exact k st _ (Ext.upd hst) hst ⟨_, _, _, _, upd_same, by decide, by decide, by decide, by decide⟩
/-! one draw -/
def spDraw (K : PySem.W.Frag) : Sp := fun vs H Q _ => ∃ (sc st : Addr) (ns : List Int) (N : Nat) (L : Int), vs = [.ref sc, .ref st, .int L] ∧ Scr K st sc ns H ∧ StD H st N ∧ N ≤ 1000000 ∧ 1 ≤ L ∧ L ≤ 100000 ∧
  ∀ n H', 0 ≤ n → n < L → StD H' st (N + 1) → ExtM st H H' → Q (.int n) H'
theorem ok_draw {f : Addr} {fd : FuncData} (F : Fun K "_law_draw" "_law_draw" s__law_draw f fd) (T : Txt K mg A) : FnOk P w K mg base CX0 1 f fd pm__law_draw (spDraw K) := by
  refine F.ok sc__law_draw (fun vs H Q E h => ?_) (fun cdv A' outer s H vs Q E hr h => ?_)
  · obtain ⟨_, _, _, _, _, rfl, _⟩ := h
    rfl
  · obtain ⟨sc, st, ns, N, L, rfl, hsc, ⟨a, b, c, d, hst, c0, cN, d0, dN⟩, hN, hL, hL2, k⟩ := h
    refine ⟨_, pss_cons (ps_asg (pe_op op_add (pe_ix ix_list (pv 1) (pe_int) (fun _ _ => rfl)) (pe_int)) (pg_sub (pv 1) (pe_int) set_list))
      (Evl.pss_cut (ps_if (PW.pt (pw_and (pt_cmpR op_eq (pe_ix ix_list (pv 1) (pe_int) (fun _ _ => rfl)) (pe_int) (nomark _)) (pw_and1 (pt_cmpR op_gt (pe_ix ix_list (pv 1) (pe_int) (fun _ _ => rfl)) (pe_int) (nomark _))))) (pss_cons (ps_set (i := 3) sc__law_draw.nd rfl (Or.inl rfl) (pe_op op_modN (pe_callTy call_int1 (by rfl) T.n_int (by decide +kernel) (pa_cons (pe_ix ix_list (pv 1) (pe_int) (fun _ _ => rfl)) pa_nil)) (pv 2)))
      (pss_cons (ps_asg (pe_op op_fdivN (pe_ix ix_list (pv 1) (pe_int) (fun _ _ => rfl)) (pv 2)) (pg_sub (pv 1) (pe_int) set_list))
      (pss_one (ps_ret (pv 3))))) (pss_nil))
      (pss_cons (ps_asg (pe_int) (pg_sub (pv 1) (pe_int) set_list))
      (pss_cons (ps_set (i := 4) sc__law_draw.nd rfl (Or.inl rfl) (pe_int))
      (Evl.pss_cut (ps_if (pt_cmpR op_gt (pe_callB call_len_seq (by rfl) T.n_len (by decide +kernel) (pa_cons (pv 0) pa_nil)) (pe_int) (nomark _)) (pss_one (ps_set (i := 4) sc__law_draw.nd rfl (Or.inl rfl) (pe_ix ix_list (pv 0) (pe_op op_modN (pe_callTy call_int1 (by rfl) T.n_int (by decide +kernel) (pa_cons (pe_ix ix_list (pv 1) (pe_int) (fun _ _ => rfl)) pa_nil)) (pe_callB call_len_seq (by rfl) T.n_len (by decide +kernel) (pa_cons (pv 0) pa_nil))) (fun _ _ => rfl)))) (pss_nil))
      (pss_cons (ps_asg (pe_op op_add (pe_ix ix_list (pv 1) (pe_int) (fun _ _ => rfl)) (pe_int)) (pg_sub (pv 1) (pe_int) set_list))
      (pss_cons (ps_set (i := 5) sc__law_draw.nd rfl (Or.inl rfl) (pe_op op_mul (pe_op op_mod (pe_callTy call_int1 (by rfl) T.n_int (by decide +kernel) (pa_cons (pe_ix ix_list (pv 1) (pe_int) (fun _ _ => rfl)) pa_nil)) (pe_int)) (pe_int)))
      (pss_cons (ps_set (i := 5) sc__law_draw.nd rfl (Or.inl rfl) (pe_op op_add (pe_op op_add (pe_op op_add (pv 5) (pe_op op_mod (pe_callTy call_int1 (by rfl) T.n_int (by decide +kernel) (pa_cons (pv 4) pa_nil)) (pe_int))) (pe_op op_mul (pe_int) (pe_ix ix_list (pv 1) (pe_int) (fun _ _ => rfl)))) (pe_int)))
      (pss_cons (ps_asg (pe_op op_mod (pe_callTy call_int1 (by rfl) T.n_int (by decide +kernel) (pa_cons (pv 5) pa_nil)) (pe_int)) (pg_sub (pv 1) (pe_int) set_list))
      (pss_cons (ps_set (i := 5) sc__law_draw.nd rfl (Or.inl rfl) (pe_op op_mod (pe_callTy call_int1 (by rfl) T.n_int (by decide +kernel) (pa_cons (pe_op op_add (pe_op op_mul (pe_ix ix_list (pv 1) (pe_int) (fun _ _ => rfl)) (pe_int)) (pe_ix ix_list (pv 1) (pe_int) (fun _ _ => rfl))) pa_nil)) (pe_int)))
      (pss_one (ps_ret (pe_op op_modN (pe_callTy call_int1 (by rfl) T.n_int (by decide +kernel) (pa_cons (pe_op op_fdiv (pv 5) (pe_int)) pa_nil)) (pv 2))))))))))))), ?_⟩
    refine ⟨_, rfl, st, _, 3, .int d, rfl, rfl, SqL.of hst, rfl, _, _, rfl, rfl, _, rfl, st, _, 3, 3, rfl, rfl, hst, rfl, ?_⟩
    have mut1 : ∀ (o : HO) (H1 : Hp), ExtM st H1 (upd H1 st o) := fun o H1 x u hx h => by
      rw [upd_ne hx]
      exact h
    have hs1 : upd H st (.lst ([V.int a, .int b, .int c, .int d].set 3 (.int (d + 1)))) st = some (.lst [.int a, .int b, .int c, .int (d + 1)]) := upd_same
    have x1 : ExtM st H (upd H st (.lst ([V.int a, .int b, .int c, .int d].set 3 (.int (d + 1))))) := mut1 _ _
    generalize upd H st (.lst ([V.int a, .int b, .int c, .int d].set 3 (.int (d + 1)))) = H1 at hs1 x1 ⊢
    refine ⟨fun σ H' => σ = [some (.ref sc), some (.ref st), some (.int L), Option.none, Option.none, Option.none] ∧ H' = H1, ?_, ?_⟩
    · refine ⟨_, rfl, st, _, 1, .int b, rfl, rfl, SqL.of hs1, rfl, rfl, _, rfl, ?_⟩
      rw [dvi]
      by_cases hb : b = 1
      · rw [decide_eq_true hb]
        refine iteT ⟨_, rfl, st, _, 0, .int a, rfl, rfl, SqL.of hs1, rfl, _, _, rfl, rfl, _, rfl, ?_⟩
        by_cases ha : a > 0
        · rw [decide_eq_true ha]
          refine iteT ⟨_, rfl, st, _, 0, .int a, rfl, rfl, SqL.of hs1, rfl, .inl ⟨_, rfl, _, rfl, _, _, rfl, rfl, (by show L ≠ 0; omega), ?_⟩⟩
          refine ⟨_, rfl, st, _, 0, .int a, rfl, rfl, SqL.of hs1, rfl, _, rfl, _, _, rfl, rfl, ⟨by omega, by omega⟩, _, rfl, st, _, 0, 0, rfl, rfl, hs1, rfl, ?_⟩
          refine ⟨_, rfl, k _ _ (Int.fmod_nonneg_of_pos _ (by omega)) (Int.fmod_lt_of_pos _ (by omega)) ⟨_, _, _, _, upd_same, c0, by omega, by omega, by omega⟩ (x1.trans (mut1 _ _))⟩
        · rw [decide_eq_false ha]
          exact iteF ⟨rfl, rfl⟩
      · rw [decide_eq_false hb]
        exact iteF (iteF ⟨rfl, rfl⟩)
    · rintro σ H' ⟨rfl, rfl⟩
      refine ⟨_, rfl, st, _, 1, 1, rfl, rfl, hs1, rfl, ?_⟩
      have hs2 : upd H' st (.lst ([V.int a, .int b, .int c, .int (d + 1)].set 1 (.int 0))) st = some (.lst [.int a, .int 0, .int c, .int (d + 1)]) := upd_same
      have x2 := x1.trans (mut1 (.lst ([V.int a, .int b, .int c, .int (d + 1)].set 1 (.int 0))) H')
      generalize upd H' st (.lst ([V.int a, .int b, .int c, .int (d + 1)].set 1 (.int 0))) = H2 at hs2 x2 ⊢
      refine ⟨fun σ H' => ∃ n, σ = [some (.ref sc), some (.ref st), some (.int L), Option.none, some (.int n), Option.none] ∧ H' = H2, ?_, ?_⟩
      · have hs := (hsc.to x2).at
        refine ⟨_, rfl, sc, _, rfl, .inl hs, _, _, rfl, rfl, _, rfl, ?_⟩
        rw [List.length_map]
        by_cases hl : (ns.length : Int) > 0
        · rw [decide_eq_true hl]
          obtain ⟨j, hj⟩ : ∃ j : Nat, c.fmod (ns.length : Int) = (j : Int) := ⟨(c.fmod (ns.length : Int)).toNat, (Int.toNat_of_nonneg (Int.fmod_nonneg_of_pos _ hl)).symm⟩
          have hjl : j < ns.length := by
            have z := Int.fmod_lt_of_pos c hl
            omega
          have hjv : (ns.map V.int)[j]? = some (.int ns[j]) := by rw [List.getElem?_map, List.getElem?_eq_getElem hjl] <;> rfl
          refine iteT ⟨_, rfl, _, rfl, st, _, 2, .int c, rfl, rfl, SqL.of hs2, rfl, .inl ⟨_, rfl, _, rfl, sc, _, rfl, .inl hs, _, _, rfl, rfl, (by show ((ns.map V.int).length : Int) ≠ 0; rw [List.length_map]; omega), sc, _, _, .int ns[j], rfl, rfl, hs, (by rw [List.length_map, hj]; exact atI_nat hjv), _, rfl, rfl⟩⟩
        · rw [decide_eq_false hl]
          exact iteF ⟨0, rfl, rfl⟩
      · rintro σ H3 ⟨n, rfl, rfl⟩
        refine ⟨_, rfl, st, _, 2, .int c, rfl, rfl, SqL.of hs2, rfl, _, _, rfl, rfl, _, rfl, st, _, 2, 2, rfl, rfl, hs2, rfl, ?_⟩
        have hs4 : upd H3 st (.lst ([V.int a, .int 0, .int c, .int (d + 1)].set 2 (.int (c + 1)))) st = some (.lst [.int a, .int 0, .int (c + 1), .int (d + 1)]) := upd_same
        have x4 := x2.trans (mut1 (.lst ([V.int a, .int 0, .int c, .int (d + 1)].set 2 (.int (c + 1)))) H3)
        generalize upd H3 st (.lst ([V.int a, .int 0, .int c, .int (d + 1)].set 2 (.int (c + 1)))) = H4 at hs4 x4 ⊢
        refine ⟨_, rfl, st, _, 0, .int a, rfl, rfl, SqL.of hs4, rfl, .inl ⟨_, rfl, _, _, rfl, rfl, (show (0 : Int) < 2147483647 by decide), _, _, rfl, rfl, .inr ⟨by decide, by decide⟩, ?_⟩⟩
        refine ⟨_, rfl, _, rfl, .inl ⟨_, rfl, _, _, rfl, rfl, (show (0 : Int) < 2147483629 by decide), _, _, rfl, rfl, _, rfl, st, _, 3, .int (d + 1), rfl, rfl, SqL.of hs4, rfl, _, _, rfl, rfl, .inl ⟨by decide, by decide⟩, _, _, rfl, rfl, _, _, rfl, rfl, ?_⟩⟩
        refine ⟨_, rfl, .inl ⟨_, rfl, _, _, rfl, rfl, (show (0 : Int) < 2147483647 by decide), _, rfl, st, _, 0, 0, rfl, rfl, hs4, rfl, ?_⟩⟩
        generalize hz : upd H4 st _ = H5
        obtain ⟨z, hs5⟩ : ∃ z : Int, H5 st = some (.lst [.int z, .int 0, .int (c + 1), .int (d + 1)]) := ⟨_, by rw [← hz]; exact upd_same⟩
        have x5 : ExtM st H H5 := by
          rw [← hz]
          exact x4.trans (mut1 _ _)
        clear hz
        refine ⟨_, rfl, st, _, 0, .int z, rfl, rfl, SqL.of hs5, rfl, _, _, rfl, rfl, .inr ⟨by decide, by decide⟩, _, rfl, st, _, 3, .int (d + 1), rfl, rfl, SqL.of hs5, rfl, _, _, rfl, rfl, .inl ⟨_, rfl, _, _, rfl, rfl, (show (0 : Int) < 2147483629 by decide), ?_⟩⟩
        refine ⟨_, rfl, _, _, rfl, rfl, ⟨by decide, by decide⟩, .inl ⟨_, rfl, _, rfl, _, _, rfl, rfl, (by show L ≠ 0; omega), ?_⟩⟩
        exact k _ _ (Int.fmod_nonneg_of_pos _ (by omega)) (Int.fmod_lt_of_pos _ (by omega)) ⟨_, _, _, _, hs5, by omega, by omega, by omega, by omega⟩ x5
end
end K36

set_option Elab.async false
set_option maxRecDepth 100000
set_option maxHeartbeats 4000000
namespace K36
open PySem PySem.Spec PyProof.Rows L2
/-- widths that rise, the last at most w; counts that don't, the first at most c -/
def RiseW (ws : List Int) (w : Int) : Prop := (∀ a ∈ ws, 1 ≤ a ∧ a ≤ w) ∧ ∀ (i : Nat) (a b : Int), ws[i]? = some a → ws[i + 1]? = some b → a < b
def FallC (cs : List Int) (c : Int) : Prop := (∀ a ∈ cs, 1 ≤ a ∧ a ≤ c) ∧ ∀ (i : Nat) (a b : Int), cs[i]? = some a → cs[i + 1]? = some b → b ≤ a
theorem rise_snoc {ws : List Int} {w v : Int} (h : RiseW ws w) (hw : 0 ≤ w) (hv : w < v) : RiseW (ws ++ [v]) v := by
  refine ⟨fun a ha => ?_, fun i a b h1 h2 => ?_⟩
  · rcases List.mem_append.mp ha with ha | ha
    · have := h.1 a ha
      omega
    · rw [List.mem_singleton.mp ha]
      omega
  · by_cases hi : i + 1 < ws.length
    · rw [List.getElem?_append_left (by omega)] at h1
      rw [List.getElem?_append_left hi] at h2
      exact h.2 i a b h1 h2
    · have hb : i + 1 = ws.length := by
        have := (List.getElem?_eq_some_iff.mp h2).1
        rw [List.length_append] at this
        have : [v].length = 1 := rfl
        omega
      rw [List.getElem?_append_left (by omega)] at h1
      rw [List.getElem?_append_right (by omega), hb, Nat.sub_self] at h2
      cases h2
      have := h.1 a (List.mem_of_getElem? h1)
      omega
theorem fall_cons {cs : List Int} {c d : Int} (h : FallC cs c) (hc : 1 ≤ c) (hd : c ≤ d) : FallC (c :: cs) d := by
  refine ⟨fun a ha => ?_, fun i a b h1 h2 => ?_⟩
  · rcases List.mem_cons.mp ha with rfl | ha
    · omega
    · have := h.1 a ha
      omega
  · cases i with
    | zero =>
      cases h1
      have h2' : cs[0]? = some b := h2
      exact (h.1 b (List.mem_of_getElem? h2')).2
    | succ i => exact h.2 i a b h1 h2
structure Good (g : G) : Prop where
  w1 : 1 ≤ g.ws.length
  w8 : g.ws.length ≤ 5
  cw : g.cs.length = g.ws.length
  w : RiseW g.ws 100
  c : FallC g.cs 100
  l1 : 1 ≤ g.l
  lm : g.l ≤ g.m
  m50 : g.m ≤ 50
  t1 : 1 ≤ g.t
  t2 : g.t ≤ 199
  o0 : 0 ≤ g.o
  o3 : g.o ≤ 3
def RawAt (H : Hp) (t pw pc : Addr) (g : G) : Prop := H t = some (.tup [.ref pw, .ref pc, .int g.l, .int g.m, .int g.t, .int g.o]) ∧ H pw = some (.lst (g.ws.map V.int)) ∧ H pc = some (.lst (g.cs.map V.int))
theorem RawAt.ext {H H' : Hp} {t pw pc : Addr} {g : G} (h : RawAt H t pw pc g) (e : Ext H H') : RawAt H' t pw pc g := ⟨e _ _ h.1, e _ _ h.2.1, e _ _ h.2.2⟩
section
variable {P : Program} {w : World} {K : PySem.W.Frag} {mg : Str → Option Value} {base : Heap} {A : Ad}
def spRaw (K : PySem.W.Frag) : Sp := fun vs H Q _ => ∃ (sc st : Addr) (ns : List Int) (N : Nat), vs = [.ref sc, .ref st, .int 5] ∧ Scr K st sc ns H ∧ StD H st N ∧ N ≤ 900000 ∧
  ∀ t pw pc g H', Good g → RawAt H' t pw pc g → t ≠ st → pw ≠ st → pc ≠ st → StD H' st (N + 40) → ExtM st H H' → Q (.ref t) H'
theorem ok_raw {f : Addr} {fd : FuncData} (F : Fun K "_law_raw" "_law_raw" s__law_raw f fd) (T : Txt K mg A) (O__law_draw : Own P w K mg base CX0 "_law_draw" 1 pm__law_draw (spDraw K)) : FnOk P w K mg base CX0 2 f fd pm__law_raw (spRaw K) := by
  refine F.ok sc__law_raw (fun vs H Q E h => ?_) (fun cdv A' outer s H vs Q E hr h => ?_)
  · obtain ⟨_, _, _, _, rfl, _⟩ := h
    rfl
  · obtain ⟨sc, st, ns, N, rfl, hsc, hst, hN, k⟩ := h
    refine ⟨_, pss_cons (ps_set (i := 3) sc__law_raw.nd rfl (Or.inl rfl) (pe_lst (pa_nil)))
      (pss_cons (ps_set (i := 4) sc__law_raw.nd rfl (Or.inl rfl) (pe_lst (pa_nil)))
      (pss_cons (ps_set (i := 5) sc__law_raw.nd rfl (Or.inl rfl) (pe_int))
      (pss_cons (ps_set (i := 6) sc__law_raw.nd rfl (Or.inl rfl) (pe_op op_add (pe_int) (pe_own O__law_draw (hr.mono (by decide)) pass0 (pa_cons (pv 0) (pa_cons (pv 1) (pa_cons (pe_int) pa_nil))))))
      (pss_cons (ps_for PassesOwn.never rfl (pi_range1 rfl T.n_range (pa_cons (pe_op op_add (pe_int) (pe_own O__law_draw (hr.mono (by decide)) pass0 (pa_cons (pv 0) (pa_cons (pv 1) (pa_cons (pv 2) pa_nil))))) pa_nil)) (pg_name (i := 7) sc__law_raw.nd rfl (Or.inl rfl)) (pss_cons (ps_set (i := 5) sc__law_raw.nd rfl (Or.inl rfl) (pe_op op_add (pe_op op_add (pv 5) (pe_int)) (pe_own O__law_draw (hr.mono (by decide)) pass0 (pa_cons (pv 0) (pa_cons (pv 1) (pa_cons (pe_int) pa_nil))))))
      (pss_cons (ps_expr (pe_bm PySem.F.plainAttrs_list PySem.F.slot_list_append PySem.F.type_list_append mt_append (pv 3) (pa_cons (pv 5) pa_nil)))
      (pss_cons (ps_set (i := 4) sc__law_raw.nd rfl (Or.inl rfl) (pe_op op_cat (pe_lst (pa_cons (pv 6) pa_nil)) (pv 4)))
      (pss_one (ps_set (i := 6) sc__law_raw.nd rfl (Or.inl rfl) (pe_op op_add (pv 6) (pe_own O__law_draw (hr.mono (by decide)) pass0 (pa_cons (pv 0) (pa_cons (pv 1) (pa_cons (pe_int) pa_nil)))))))))))
      (pss_cons (ps_set (i := 8) sc__law_raw.nd rfl (Or.inl rfl) (pe_op op_add (pe_int) (pe_own O__law_draw (hr.mono (by decide)) pass0 (pa_cons (pv 0) (pa_cons (pv 1) (pa_cons (pe_int) pa_nil))))))
      (pss_cons (ps_set (i := 9) sc__law_raw.nd rfl (Or.inl rfl) (pe_op op_add (pv 8) (pe_own O__law_draw (hr.mono (by decide)) pass0 (pa_cons (pv 0) (pa_cons (pv 1) (pa_cons (pe_int) pa_nil))))))
      (pss_one (ps_ret (pe_tup (pa_cons (pv 3) (pa_cons (pv 4) (pa_cons (pv 8) (pa_cons (pv 9) (pa_cons (pe_op op_add (pe_int) (pe_own O__law_draw (hr.mono (by decide)) pass0 (pa_cons (pv 0) (pa_cons (pv 1) (pa_cons (pe_int) pa_nil))))) (pa_cons (pe_own O__law_draw (hr.mono (by decide)) pass0 (pa_cons (pv 0) (pa_cons (pv 1) (pa_cons (pe_int) pa_nil)))) pa_nil))))))))))))))), ?_⟩
    refine ⟨by show 0 ≤ sizeLine; decide, fun pw hpw => ⟨by show 0 ≤ sizeLine; decide, fun pc0 hpc0 => ?_⟩⟩
    have e1 := Ext.upd (o := .lst []) hpw
    have e2 := Ext.upd (o := .lst []) hpc0
    have e12 := e1.trans e2
    have npw := hst.new hpw
    have npc := (hst.ext e1).new hpc0
    have nwc : pw ≠ pc0 := ne_of_none upd_same hpc0
    refine ⟨_, rfl, _, rfl, sc, st, ns, N, 4, rfl, hsc.to (Ext.m e12), hst.ext e12, by omega, by omega, by omega, fun d3 H3 d30 d34 st3 x3 => ⟨_, _, rfl, rfl, ?_⟩⟩
    have x03 : ExtM st H H3 := (Ext.m e12).trans x3
    have hw3 := x3 pw _ npw (e2 _ _ upd_same)
    have hc3 := x3 pc0 _ npc upd_same
    refine ⟨_, rfl, _, rfl, _, rfl, sc, st, ns, N + 1, 5, rfl, hsc.to x03, st3, by omega, by omega, by omega, fun n H4 n0 n5 st4 x4 => ⟨_, _, rfl, rfl, 1 + n, rfl, by omega, by omega, ?_⟩⟩
    have x04 := x03.trans x4
    have hw4 := x4 pw _ npw hw3
    have hc4 := x4 pc0 _ npc hc3
    refine for_range (fun i σ' H' => ∃ pc ws cs wi co o7, σ' = [some (.ref sc), some (.ref st), some (.int 5), some (.ref pw), some (.ref pc), some (.int wi), some (.int co), o7, Option.none, Option.none] ∧ H' pw = some (.lst (ws.map V.int)) ∧ H' pc = some (.lst (cs.map V.int)) ∧ pc ≠ st ∧ pc ≠ pw ∧
      ws.length = i ∧ cs.length = i ∧ RiseW ws wi ∧ FallC cs co ∧ 0 ≤ wi ∧ wi ≤ 9 * (i : Int) ∧ 1 ≤ co ∧ co ≤ 4 + 5 * (i : Int) ∧ StD H' st (N + 2 + 2 * i) ∧ ExtM st H H') ?_ (fun i σ' H' hi pv => ?_) (fun σ' H' pv => ?_)
    · exact ⟨pc0, [], [], 0, _, _, rfl, hw4, hc4, npc, nwc.symm, rfl, rfl, ⟨(fun _ h => nomatch h), (fun _ _ _ h => nomatch h)⟩, ⟨(fun _ h => nomatch h), (fun _ _ _ h => nomatch h)⟩, by omega, by omega, by omega, by omega, st4, x04⟩
    · obtain ⟨pc, ws, cs, wi, co, o7, rfl, hw, hc, nps, npw', lw, lc, rw, fc, w0, w9, co1, co5, sti, xi⟩ := pv
      have hi' : i < 5 := by omega
      refine ⟨_, rfl, _, _, rfl, rfl, _, rfl, _, rfl, sc, st, ns, _, 9, rfl, hsc.to xi, sti, by omega, by omega, by omega, fun d5 H5 d50 d59 st5 x5 => ⟨_, _, rfl, rfl, ?_⟩⟩
      have hw5 := x5 pw _ npw hw
      have hc5 := x5 pc _ nps hc
      refine ⟨_, rfl, .inl ⟨rfl, _, SqL.of hw5⟩, _, rfl, pw, _, .int (wi + 1 + d5), rfl, rfl, hw5, small1000 (by rw [List.length_map]; omega), ?_⟩
      have hw6 : upd H5 pw (.lst (ws.map V.int ++ [.int (wi + 1 + d5)])) pw = some (.lst ((ws ++ [wi + 1 + d5]).map V.int)) := by rw [upd_same, List.map_append]; rfl
      have hc6 : upd H5 pw (.lst (ws.map V.int ++ [.int (wi + 1 + d5)])) pc = some (.lst (cs.map V.int)) := by rw [upd_ne npw']; exact hc5
      have st6 := st5.upd (o := .lst (ws.map V.int ++ [.int (wi + 1 + d5)])) npw
      have x6 : ExtM st H (upd H5 pw (.lst (ws.map V.int ++ [.int (wi + 1 + d5)]))) := (xi.trans x5).mut hpw
      generalize upd H5 pw (.lst (ws.map V.int ++ [.int (wi + 1 + d5)])) = H6 at hw6 hc6 st6 x6 ⊢
      refine ⟨_, rfl, by show 1 ≤ sizeLine; decide, fun l hl => ⟨_, rfl, l, pc, _, _, rfl, rfl, upd_same, Ext.upd hl _ _ hc6, Nat.le_trans (show [V.int co].length + (cs.map V.int).length ≤ 100 by rw [List.length_map]; show 1 + cs.length ≤ 100; omega) (by decide), fun q hq => ?_⟩⟩
      have el := Ext.upd (o := .lst [.int co]) hl
      have eq := Ext.upd (o := .lst ([.int co] ++ cs.map V.int)) hq
      have nq := (st6.ext el).new hq
      have nqw : q ≠ pw := (ne_of_none (el _ _ hw6) hq).symm
      have x7 : ExtM st H _ := x6.trans (Ext.m (el.trans eq))
      have hq7 : upd (upd H6 l (.lst [.int co])) q (.lst ([.int co] ++ cs.map V.int)) q = some (.lst ((co :: cs).map V.int)) := upd_same
      refine ⟨_, rfl, _, rfl, _, rfl, sc, st, ns, _, 6, rfl, hsc.to x7, (st6.ext el).ext eq, by omega, by omega, by omega, fun d8 H8 d80 d86 st8 x8 => ⟨_, _, rfl, rfl, ?_⟩⟩
      exact ⟨q, ws ++ [wi + 1 + d5], co :: cs, _, _, _, rfl, x8 pw _ npw (eq _ _ (el _ _ hw6)), x8 q _ nq hq7, nq, nqw, by rw [List.length_append, lw]; rfl, by rw [List.length_cons, lc], rise_snoc rw w0 (by omega), fall_cons fc co1 (by omega), by omega, by omega, by omega, by omega, st8.le (by omega), x7.trans x8⟩
    · obtain ⟨pc, ws, cs, wi, co, o7, rfl, hw, hc, nps, npw', lw, lc, rw, fc, w0, w9, co1, co5, sti, xi⟩ := pv
      have sti := sti.le (show N + 2 + 2 * (1 + n).toNat ≤ N + 12 by omega)
      refine ⟨_, rfl, _, rfl, sc, st, ns, N + 12, 3, rfl, hsc.to xi, sti, by omega, by omega, by omega, fun d5 H5 d50 d59 st5 x5 => ⟨_, _, rfl, rfl, ?_⟩⟩
      have x05 := xi.trans x5
      refine ⟨_, rfl, _, rfl, _, rfl, sc, st, ns, N + 13, 4, rfl, hsc.to x05, st5, by omega, by omega, by omega, fun d6 H6 d60 d69 st6 x6 => ⟨_, _, rfl, rfl, ?_⟩⟩
      have x06 := x05.trans x6
      refine ⟨_, rfl, _, rfl, _, rfl, _, rfl, _, rfl, _, rfl, sc, st, ns, N + 14, 9, rfl, hsc.to x06, st6, by omega, by omega, by omega, fun d7 H7 d70 d79 st7 x7 => ⟨_, _, rfl, rfl, ?_⟩⟩
      have x07 := x06.trans x7
      refine ⟨_, rfl, _, rfl, sc, st, ns, N + 15, 3, rfl, hsc.to x07, st7, by omega, by omega, by omega, fun d8 H8 d80 d89 st8 x8 => ⟨by show 6 ≤ sizeLine; decide, fun t ht => ?_⟩⟩
      have x58 := ((x5.trans x6).trans x7).trans x8
      have et := Ext.upd (o := .tup [.ref pw, .ref pc, .int (1 + d5), .int (1 + d5 + d6), .int (1 + d7), .int d8]) ht
      have nt := st8.new ht
      refine k t pw pc ⟨ws, cs, 1 + d5, 1 + d5 + d6, 1 + d7, d8⟩ _ ⟨?_, ?_, ?_, ⟨fun a ha => ?_, rw.2⟩, ⟨fun a ha => ?_, fc.2⟩, ?_, ?_, ?_, ?_, ?_, d80, ?_⟩ ⟨upd_same, et _ _ (x58 pw _ npw hw), et _ _ (x58 pc _ nps hc)⟩ nt npw nps ((st8.ext et).le (by omega)) ((x07.trans x8).trans (Ext.m et))
      all_goals first | (show _ ≤ _; dsimp only; omega) | skip
      · exact lc.trans lw.symm
      · have := rw.1 a ha
        omega
      · have := fc.1 a ha
        omega
end
end K36

set_option Elab.async false
set_option maxRecDepth 100000
set_option maxHeartbeats 4000000
namespace K36
open PySem PySem.Spec PyProof.Rows L2
section
variable {P : Program} {w : World} {K : PySem.W.Frag} {mg : Str → Option Value} {base : Heap} {A : Ad}
/-! ### made, and what is told of it -/
def GObj (A : Ad) (H : Hp) (p : Addr) (xs ys : List V) (l m t o : V) : Prop := ∃ dx tw tc, H p = some (.ins A.Game dx (gF (.ref tw) (.ref tc) l m t o)) ∧ H tw = some (.tup xs) ∧ H tc = some (.tup ys)
def spMade (K : PySem.W.Frag) (A : Ad) : Sp := fun vs H Q E => ∃ (t : Addr) (vw vc l m tn o : V) (rw rc : Option (List V)), vs = [.ref t] ∧ SqT K H t [vw, vc, l, m, tn, o] ∧ LAt H vw rw ∧ LAt H vc rc ∧ (∀ v ∈ [l, m, tn, o], ∃ k, KndOf H v k) ∧
  (∀ x, gameDue rw rc l m tn o = some x → EDue A H E x) ∧ (gameDue rw rc l m tn o = none → ∀ p xs ys H', rw = some xs → rc = some ys → Ext H H' → GObj A H' p xs ys l m tn o → Q (.ref p) H')
theorem ok_made {f : Addr} {fd : FuncData} (F : Fun K "_law_made" "_law_made" s__law_made f fd) (T : Txt K mg A) (O_Game : OwnCK P w K mg base (L2.CX P w) "Game" A.Game 6 pm_Game_init 2 ["least", "most", "turn", "losses"] (spGameInit A)) : FnOk P w K mg base (L2.CX P w) 8 f fd pm__law_made (spMade K A) := by
  refine F.okX sc__law_made (fun vs H Q E h => ?_) (fun cdv A' outer s H vs Q E hr h => ?_)
  · obtain ⟨_, _, _, _, _, _, _, _, _, rfl, _⟩ := h
    rfl
  · obtain ⟨t, vw, vc, l, m, tn, o, rw, rc, rfl, ht, hw, hc, hk, hE, hQ⟩ := h
    refine ⟨_, pss_one (ps_ret (pe_newKS O_Game (hr.mono (by decide)) (takes_of rfl rfl rfl rfl) (pa_cons (pe_ix ix_tup (pv 0) (pe_int) (fun _ _ => rfl)) (pa_cons (pe_ix ix_tup (pv 0) (pe_int) (fun _ _ => rfl)) pa_nil)) (pk_cons (pe_ix ix_tup (pv 0) (pe_int) (fun _ _ => rfl)) (pk_cons (pe_ix ix_tup (pv 0) (pe_int) (fun _ _ => rfl)) (pk_cons (pe_ix ix_tup (pv 0) (pe_int) (fun _ _ => rfl)) (pk_cons (pe_ix ix_tup (pv 0) (pe_int) (fun _ _ => rfl)) (pk_nil))))))), ?_⟩
    refine ⟨_, rfl, t, _, 0, vw, rfl, rfl, ht, rfl, _, rfl, t, _, 1, vc, rfl, rfl, ht, rfl, _, rfl, t, _, 2, l, rfl, rfl, ht, rfl, _, rfl, t, _, 3, m, rfl, rfl, ht, rfl, _, rfl, t, _, 4, tn, rfl, rfl, ht, rfl, _, rfl, t, _, 5, o, rfl, rfl, ht, rfl, rfl, rfl, fun x0 dx hx0 hdx hne => ?_⟩
    have e0 := (Ext.upd (o := .own x0) hdx).upd' (o := .ins A.Game dx []) (by rw [upd_ne hne.symm]; exact hx0)
    refine ⟨x0, dx, vw, vc, l, m, tn, o, rw, rc, rfl, upd_same, hw.ext e0, hc.ext e0, fun v hv => ?_, fun x hx => EDue.to (hE x hx) e0, fun hn xs ys H' h1 h2 hg hB => ⟨rfl, ?_⟩⟩
    · obtain ⟨k, h⟩ := hk v hv
      exact ⟨k, h.ext e0⟩
    · obtain ⟨tw, tc, g1, g2, g3⟩ := hg
      exact hQ hn x0 xs ys H' h1 h2 (fun a u h => hB a u (ne_of_none h hx0) (e0 a u h)) ⟨dx, tw, tc, g1, g2, g3⟩
def dueV : Str ⊕ Nat → List V | .inl s => [.str "part", .str s] | .inr i => [.str "order", .int (i : Nat)]
def ResQ (H : Hp) (Q : VK) : Option (Str ⊕ Nat) → Prop
  | none => ∀ H', Ext H H' → Q .non H'
  | some x => ∀ t H', Ext H H' → H' t = some (.tup (dueV x)) → Q (.ref t) H'
theorem ResQ.to {H H' : Hp} {Q : VK} {r : Option (Str ⊕ Nat)} (h : ResQ H Q r) (e : Ext H H') : ResQ H' Q r := by
  cases r with
  | none => exact fun H2 e2 => h H2 (e.trans e2)
  | some x => exact fun t H2 e2 => h t H2 (e.trans e2)
def tbTold (K : PySem.W.Frag) (A : Ad) (W : WX) : TS := fun D σ H => tCallS (spMade K A) (WE W) (tCons (tVar 0) tNil) σ H fun _ H' => D.nx σ H'
def tsP (A : Ad) : SuT := fun a cls d => tRet (tTup (tCons (tC (.str "part")) (tCons (tXf a cls d A.BadPart "part" (tVar 1)) tNil)))
def tsO (A : Ad) : SuT := fun a cls d => tRet (tTup (tCons (tC (.str "order")) (tCons (tXf a cls d A.BadOrder "index" (tVar 1)) tNil)))
def spTold (K : PySem.W.Frag) : Sp := fun vs H Q _ => ∃ (t : Addr) (vw vc l m tn o : V) (rw rc : Option (List V)), vs = [.ref t] ∧ SqT K H t [vw, vc, l, m, tn, o] ∧ LAt H vw rw ∧ LAt H vc rc ∧ (∀ v ∈ [l, m, tn, o], ∃ k, KndOf H v k) ∧ ResQ H Q (gameDue rw rc l m tn o)
theorem ok_told {f : Addr} {fd : FuncData} (F : Fun K "_law_told" "_law_told" s__law_told f fd) (T : Txt K mg A) (O__law_made : Own P w K mg base (L2.CX P w) "_law_made" 8 pm__law_made (spMade K A)) : FnOk P w K mg base CX0 9 f fd pm__law_told (spTold K) := by
  refine F.ok sc__law_told (fun vs H Q E h => ?_) (fun cdv A' outer s H vs Q E hr h => ?_)
  · obtain ⟨_, _, _, _, _, _, _, _, _, rfl, _⟩ := h
    rfl
  · obtain ⟨t, vw, vc, l, m, tn, o, rw, rc, rfl, ht, hw, hc, hk, hR⟩ := h
    refine ⟨_, pss_cons (ps_try_manyA (tb := tbTold K A) (l := [(.ref A.BadPart, 1, tsP A), (.ref A.BadOrder, 1, tsO A)]) (Wo := fun _ _ _ _ => False) rfl rfl sc__law_told.nd takes0
        (fun W pn xe tk _ => pss_one (ps_expr (by exact (pe_ownS O__law_made (hr.mono (by decide)) tk (pa_cons (pv 0) pa_nil)))))
        (.cons rfl rfl ⟨rfl, by decide, Or.inl T.BadPart.gC⟩ (fun a oe cls d pn hz hf => pss_one (ps_ret (pe_tup (pa_cons pe_str (pa_cons (by exact (pe_xf ⟨T.BadPart.ec.hg, T.BadPart.ec.hk, T.BadPart.ec.hs, T.BadPart.ec.hd⟩ T.BadPart.noA hz hf (pv 1))) pa_nil)))))
        (.cons rfl rfl ⟨rfl, by decide, Or.inl T.BadOrder.gC⟩ (fun a oe cls d pn hz hf => pss_one (ps_ret (pe_tup (pa_cons pe_str (pa_cons (by exact (pe_xf ⟨T.BadOrder.ec.hg, T.BadOrder.ec.hk, T.BadOrder.ec.hs, T.BadOrder.ec.hd⟩ T.BadOrder.noA hz hf (pv 1))) pa_nil))))) .nil)))
      (pss_one (ps_ret (pe_non))), ?_⟩
    refine ⟨_, rfl, t, vw, vc, l, m, tn, o, rw, rc, rfl, ht, hw, hc, hk, fun x hx => ?_, fun hn p xs ys H' h1 h2 e hg => ?_⟩
    · rw [hx] at hR
      cases x with
      | inl s =>
        refine fun H' e1 e he => ⟨true, T.x_pp, fun _ ae hae => ?_, fun z => nomatch z⟩
        refine ⟨_, rfl, rfl, rfl, e, _, _, rfl, upd_same, rfl, by show 2 ≤ sizeLine; decide, fun t2 ht2 => ?_⟩
        exact hR t2 _ ((e1.upd' he).upd' ht2) upd_same
      | inr i =>
        refine fun H' e1 e he => ⟨false, T.x_op, (fun z => nomatch z), fun _ => ⟨true, T.x_oo, fun _ ae hae => ?_, fun z => nomatch z⟩⟩
        refine ⟨_, rfl, rfl, rfl, e, _, _, rfl, upd_same, rfl, by show 2 ≤ sizeLine; decide, fun t2 ht2 => ?_⟩
        exact hR t2 _ ((e1.upd' he).upd' ht2) upd_same
    · rw [hn] at hR
      exact hR _ e
/-! ### the law's own look -/
theorem ok_is {f : Addr} {fd : FuncData} (F : Fun K "_law_is" "_law_is" s__law_is f fd) (T : Txt K mg A) : FnOk P w K mg base CX0 1 f fd pm__law_is spBetween := by
  refine F.ok sc__law_is (fun vs H Q E h => ?_) (fun cdv A' outer s H vs Q E hr h => ?_)
  · obtain ⟨v, k, a, b, rfl, _⟩ := h
    rfl
  · obtain ⟨v, k, a, b, rfl, hk, q⟩ := h
    refine ⟨_, pss_one (ps_ret (pe_and (pe_callB call_isi (by rfl) T.n_isinstance (by decide +kernel) (pa_cons (pv 0) (pa_cons (pe_bltn (v := .ty "int") (by rfl) T.n_int (by decide +kernel) rfl) pa_nil))) (pe_and (pe_not (pe_callB call_isi (by rfl) T.n_isinstance (by decide +kernel) (pa_cons (pv 0) (pa_cons (pe_bltn (v := .ty "bool") (by rfl) T.n_bool (by decide +kernel) rfl) pa_nil)))) (pe_one (pe_chain op_le op_le (pv 1) (pv 0) (pv 2)))))), ?_⟩
    refine ⟨v, rfl, v, .ty "int", .type k.name, .type "int", k.isInt, rfl, .ty _, knd_ty hk, knd_int, _, rfl, ?_⟩
    cases h1 : k.isInt with
    | false =>
      rw [betw_not hk (by rw [h1]; rfl)] at q
      exact iteF q
    | true =>
      refine iteT ⟨v, rfl, v, .ty "bool", .type k.name, .type "bool", k.isBool, rfl, .ty _, knd_ty hk, knd_bool, _, rfl, _, rfl, ?_⟩
      cases h2 : k.isBool with
      | true =>
        rw [betw_not hk (by rw [h1, h2]; rfl)] at q
        exact iteF q
      | false =>
        cases knd_yes (show (k.isInt && !k.isBool) = true by rw [h1, h2]; rfl)
        obtain ⟨n, rfl⟩ := hk
        refine iteT ⟨_, rfl, _, rfl, _, _, rfl, rfl, _, rfl, ?_⟩
        rw [betw_int] at q
        cases h3 : decide (a ≤ n) with
        | true =>
          rw [h3] at q
          exact iteT ⟨_, rfl, _, _, rfl, rfl, q⟩
        | false =>
          rw [h3] at q
          exact iteF q
end
end K36

set_option Elab.async false
set_option maxRecDepth 100000
set_option maxHeartbeats 4000000
namespace K36
open PySem PySem.Spec PyProof.Rows L2
/-- the number of items that is asked for: 1 to 8, and just as many as m -/
def okL (m : Option Nat) (n : Nat) : Bool := ok8 n && (match m with | none => true | some m => decide (n = m))
theorem okL_some {m : Nat} (h1 : 1 ≤ m) (h8 : m ≤ 8) : okL (some m) = okN m := by
  funext n
  unfold okL okN ok8
  by_cases h : n = m
  · subst h
    simp
    omega
  · simp [h]
theorem okL_none : okL none = ok8 := by
  funext n
  unfold okL
  simp
def manyV : Option Nat → V | none => .non | some m => .int (m : Nat)
theorem kn_list {k : Knd} (h : k.isSeq = false) : k.isList = false := by cases k <;> first | rfl | cases h
section
variable {P : Program} {w : World} {K : PySem.W.Frag} {mg : Str → Option Value} {base : Heap} {A : Ad}
def spListDue : Sp := fun vs H Q _ => ∃ (word : Str) (v : V) (r : Option (List V)) (mo : Option Nat) (M : Int) (up : Bool), vs = [.str word, v, manyV mo, .int M, .bl up] ∧ LAt H v r ∧ ResQ H Q (listDue word (okL mo) M up r)
theorem ok_listDue {f : Addr} {fd : FuncData} (F : Fun K "_law_list_due" "_law_list_due" s__law_list_due f fd) (T : Txt K mg A) (O__law_is : Own P w K mg base CX0 "_law_is" 1 pm__law_is spBetween) : FnOk P w K mg base CX0 3 f fd pm__law_list_due spListDue := by
  refine F.ok sc__law_list_due (fun vs H Q E h => ?_) (fun cdv A' outer s H vs Q E hr h => ?_)
  · obtain ⟨_, _, _, _, _, _, rfl, _⟩ := h
    rfl
  · obtain ⟨word, v, r, mo, M, up, rfl, hv, hR⟩ := h
    refine ⟨_, Evl.pss_cut (ps_if (PW.pt (pw_or (pt_not (pt_val (pe_callB call_isi (by rfl) T.n_isinstance (by decide +kernel) (pa_cons (pv 1) (pa_cons (pe_bltn (v := .ty "list") (by rfl) T.n_list (by decide +kernel) rfl) pa_nil))))) (pw_or (pt_not (pt_chain op_le op_le (pe_int) (pe_callB call_len_seq (by rfl) T.n_len (by decide +kernel) (pa_cons (pv 1) pa_nil)) (pe_int))) (pw_or1 (PW.pt (pw_and (pt_cmpR op_notN (pv 2) (pe_non) (nomark _)) (pw_and1 (pt_cmpR op_ne (pe_callB call_len_seq (by rfl) T.n_len (by decide +kernel) (pa_cons (pv 1) pa_nil)) (pv 2) (nomark _))))))))) (pss_one (ps_ret (pe_tup (pa_cons (pe_str) (pa_cons (pv 0) pa_nil))))) (pss_nil))
      (pss_cons (ps_if (pt_not (pt_val (pe_callB (cr_all rfl) (by rfl) T.n_all (by decide +kernel) (pa_cons (pe_lc (own := [("_law_value", 6)]) (g := gName 6) (by rfl) sc__law_list_due.nd (pi_sq (pv 1)) (blkOk_by (own := [("_law_value", 6)]) (N := nm__law_list_due) (sc := defScope s__law_list_due) (by decide +kernel)) (fun _ _ _ _ _ => pg_name (i := 6) sc__law_list_due.nd rfl (Or.inl rfl)) (fun s1 H1 C1 cl fp => pts_nil) (fun s1 H1 C1 cl fp => pe_own O__law_is (hr.mono (by decide)) pass0 (pa_cons (pv 6) (pa_cons (pe_int) (pa_cons (pv 3) pa_nil))))) pa_nil)))) (pss_one (ps_ret (pe_tup (pa_cons (pe_str) (pa_cons (pv 0) pa_nil))))) (pss_nil))
      (pss_cons (ps_for PassesOwn.never rfl (pi_range2 rfl T.n_range (pa_cons (pe_int) (pa_cons (pe_callB call_len_seq (by rfl) T.n_len (by decide +kernel) (pa_cons (pv 1) pa_nil)) pa_nil))) (pg_name (i := 5) sc__law_list_due.nd rfl (Or.inl rfl)) (pss_one (ps_if (PW.pt (pw_or (PW.pt (pw_and (pt_truth (pv 4) (by intro _; rfl)) (pw_and1 (pt_cmpR op_le (pe_ix ix_list (pv 1) (pv 5) (fun _ _ => rfl)) (pe_ix ix_list (pv 1) (pe_op op_sub (pv 5) (pe_int)) (fun _ _ => rfl)) (nomark _))))) (pw_or1 (PW.pt (pw_and (pt_not (pt_truth (pv 4) (by intro _; rfl))) (pw_and1 (pt_cmpR op_gt (pe_ix ix_list (pv 1) (pv 5) (fun _ _ => rfl)) (pe_ix ix_list (pv 1) (pe_op op_sub (pv 5) (pe_int)) (fun _ _ => rfl)) (nomark _)))))))) (pss_one (ps_ret (pe_tup (pa_cons (pe_str) (pa_cons (pv 5) pa_nil))))) (pss_nil))))
      (pss_one (ps_ret (pe_non))))), ?_⟩
    refine ⟨fun σ H' => ∃ p xs, r = some xs ∧ v = .ref p ∧ σ = [some (.str word), some v, some (manyV mo), some (.int M), some (.bl up), Option.none, Option.none] ∧ H' = H ∧ okL mo xs.length = true, ?_, ?_⟩
    · cases r with
      | none =>
        obtain ⟨k, hk, hs⟩ := hv
        refine ⟨_, rfl, v, .ty "list", .type k.name, .type "list", k.isList, rfl, .ty _, knd_ty hk, knd_list, _, rfl, ?_⟩
        rw [kn_list hs]
        refine iteT (iteT ⟨_, rfl, by show 2 ≤ sizeLine; decide, fun t ht => ?_⟩)
        exact hR t _ (Ext.upd ht) upd_same
      | some xs =>
        obtain ⟨p, rfl, hp, hkx, hl⟩ := hv
        have ld : listDue word (okL mo) M up (some xs) = if okL mo xs.length = false then some (.inl word) else if xs.all (fun x => betw x 1 M) = false then some (.inl word) else (firstBad up xs).map .inr := rfl
        rw [ld] at hR
        refine ⟨_, rfl, .ref p, .ty "list", .type "list", .type "list", true, rfl, .ty _, .base (.lst hp), knd_list (k := .list), _, rfl, ?_⟩
        have bad : okL mo xs.length = false → ∀ t H', Ext H H' → H' t = some (.tup [.str "part", .str word]) → Q (.ref t) H' := fun h => by
          rw [if_pos h] at hR
          exact hR
        refine iteF ⟨_, rfl, p, xs, rfl, .inl (SqL.of hp), _, _, rfl, rfl, _, rfl, ?_⟩
        by_cases a1 : (1 : Int) ≤ (xs.length : Int)
        case neg =>
          rw [decide_eq_false a1]
          refine iteF ⟨_, rfl, iteT (iteT ⟨_, rfl, by show 2 ≤ sizeLine; decide, fun t ht => ?_⟩)⟩
          exact bad (by unfold okL ok8; rw [decide_eq_false (by omega)]; rfl) t _ (Ext.upd ht) upd_same
        rw [decide_eq_true a1]
        refine iteT ⟨_, _, rfl, rfl, _, rfl, ?_⟩
        by_cases a8 : (xs.length : Int) ≤ 8
        case neg =>
          rw [decide_eq_false a8]
          refine iteT (iteT ⟨_, rfl, by show 2 ≤ sizeLine; decide, fun t ht => ?_⟩)
          exact bad (by unfold okL ok8; rw [decide_eq_false (show ¬ xs.length ≤ 8 by omega), Bool.and_false]; rfl) t _ (Ext.upd ht) upd_same
        rw [decide_eq_true a8]
        have h8 : ok8 xs.length = true := by
          unfold ok8
          rw [decide_eq_true (show 1 ≤ xs.length by omega), decide_eq_true (show xs.length ≤ 8 by omega)]
          rfl
        cases mo with
        | none => exact iteF ⟨_, rfl, rfl, _, rfl, iteF (iteF ⟨p, xs, rfl, rfl, rfl, rfl, by unfold okL; rw [h8]; rfl⟩)⟩
        | some m =>
          refine iteF ⟨_, rfl, rfl, _, rfl, iteT ⟨_, rfl, p, xs, rfl, .inl (SqL.of hp), _, rfl, rfl, _, rfl, ?_⟩⟩
          rw [show decide (V.int (xs.length : Int) = manyV (some m)) = decide ((xs.length : Int) = (m : Int)) from dvi]
          by_cases hm : (xs.length : Int) = (m : Int)
          · rw [decide_eq_true hm]
            exact iteF ⟨p, xs, rfl, rfl, rfl, rfl, by show (ok8 xs.length && decide (xs.length = m)) = true; rw [h8, decide_eq_true (by omega)]; rfl⟩
          · rw [decide_eq_false hm]
            refine iteT ⟨_, rfl, by show 2 ≤ sizeLine; decide, fun t ht => ?_⟩
            exact bad (by show (ok8 xs.length && decide (xs.length = m)) = false; rw [h8, decide_eq_false (by omega)]; rfl) t _ (Ext.upd ht) upd_same
    · rintro σ H' ⟨p, xs, rfl, rfl, rfl, rfl, hok⟩
      obtain ⟨p', e, hp, hkx, hl⟩ := hv
      cases e
      have ld : listDue word (okL mo) M up (some xs) = if okL mo xs.length = false then some (.inl word) else if xs.all (fun x => betw x 1 M) = false then some (.inl word) else (firstBad up xs).map .inr := rfl
      rw [ld, hok, if_neg (by decide)] at hR
      refine ⟨_, rfl, p, rfl, lc_sqR (f := fun x => .bl (betw x 1 M)) (b := fun _ => true) (.inl hp) (small1000 (by omega)) (fun x => rfl) (fun x hm H' e' Q' q' => q' _ Ext.rfl') (fun x hm _ H' e' Q' q' => ?_) (fun D H2 hD e2 hl' => ?_)⟩
      · obtain ⟨k, hk⟩ := hkx x hm
        exact ⟨x, rfl, _, rfl, x, k, 1, M, rfl, hk.ext e', q' _ Ext.rfl'⟩
      · rw [L2.filter_all, all_map] at hl'
        refine ⟨D, xs.map (fun x => betw x 1 M), rfl, SqL.of hl', _, rfl, ?_⟩
        rw [all_id]
        cases h2 : xs.all (fun x => betw x 1 M) with
        | false =>
          rw [if_pos h2] at hR
          exact iteT ⟨_, rfl, by show 2 ≤ sizeLine; decide, fun t ht => hR t _ (e2.trans (Ext.upd ht)) upd_same⟩
        | true =>
          refine iteF ?_
          rw [h2, if_neg (by decide)] at hR
          have hp2 := e2 _ _ hp
          have hl1 : 1 ≤ xs.length := by
            unfold okL ok8 at hok
            simp at hok
            omega
          refine ⟨_, rfl, p, xs, rfl, .inl (SqL.of hp2), 1, (xs.length : Int), rfl, ⟨by decide, by decide, by omega, by omega⟩, ?_⟩
          refine for_range (fun i σ' H3 => H3 = H2 ∧ (∃ o1 o2, σ' = [some (.str word), some (.ref p), some (manyV mo), some (.int M), some (.bl up), o1, o2]) ∧ ∀ j, j ≤ i → badAt up xs j = false) ⟨rfl, ⟨_, _, rfl⟩, fun j hj => by rw [show j = 0 by omega]; exact bad_zero⟩ (fun i σ' H3 hi pv => ?_) (fun σ' H3 pv => ?_)
          · obtain ⟨rfl, ⟨o1, o2, rfl⟩, hb⟩ := pv
            have hi1 : i + 1 < xs.length := by omega
            obtain ⟨a, ha⟩ : ∃ a, xs[i + 1]? = some a := ⟨_, List.getElem?_eq_getElem hi1⟩
            obtain ⟨b, hb'⟩ : ∃ b, xs[i]? = some b := ⟨_, List.getElem?_eq_getElem (by omega)⟩
            obtain ⟨na, rfl⟩ := all_int h2 ha
            obtain ⟨nb, rfl⟩ := all_int h2 hb'
            have hba : badAt up xs (i + 1) = badV up (.int na) (.int nb) := bad_at ha hb'
            have ix1 : atI xs (1 + (i : Int)) = some (.int na) := by rw [show (1 : Int) + (i : Int) = ((i + 1 : Nat) : Int) by omega]; exact atI_nat ha
            have ix0 : atI xs (1 + (i : Int) - 1) = some (.int nb) := by rw [show (1 : Int) + (i : Int) - 1 = (i : Int) by omega]; exact atI_nat hb'
            have yes : badV up (.int na) (.int nb) = true → ∀ t H', Ext H3 H' → H' t = some (.tup [.str "order", .int (1 + (i : Int))]) → Q (.ref t) H' := fun h t H' e ht => by
              rw [fb_some (fun j hj => hb j (by omega)) hi1 (by rw [hba]; exact h)] at hR
              refine hR t H' (e2.trans e) ?_
              rw [ht, show (1 : Int) + (i : Int) = ((i + 1 : Nat) : Int) by omega]
              rfl
            have no : badV up (.int na) (.int nb) = false → ∀ j, j ≤ i + 1 → badAt up xs j = false := fun h j hj => by
              by_cases hj' : j ≤ i
              · exact hb j hj'
              · rw [show j = i + 1 by omega, hba]
                exact h
            cases up with
            | true =>
              have hv : badV true (.int na) (.int nb) = decide (na ≤ nb) := rfl
              rw [hv] at yes no
              refine ⟨_, rfl, true, rfl, iteT ⟨_, rfl, _, rfl, p, xs, _, .int na, rfl, rfl, SqL.of hp2, ix1, _, rfl, _, rfl, _, _, rfl, rfl, p, xs, _, .int nb, rfl, rfl, SqL.of hp2, ix0, _, _, rfl, rfl, _, rfl, ?_⟩⟩
              cases hd : decide (na ≤ nb) with
              | true => exact iteT (iteT ⟨_, rfl, by show 2 ≤ sizeLine; decide, fun t ht => yes hd t _ (Ext.upd ht) upd_same⟩)
              | false => exact iteF ⟨_, rfl, true, rfl, iteF (iteF ⟨rfl, ⟨_, _, rfl⟩, no hd⟩)⟩
            | false =>
              have hv : badV false (.int na) (.int nb) = decide (na > nb) := rfl
              rw [hv] at yes no
              refine ⟨_, rfl, false, rfl, iteF (iteF ⟨_, rfl, false, rfl, iteT ⟨_, rfl, _, rfl, p, xs, _, .int na, rfl, rfl, SqL.of hp2, ix1, _, rfl, _, rfl, _, _, rfl, rfl, p, xs, _, .int nb, rfl, rfl, SqL.of hp2, ix0, _, _, rfl, rfl, _, rfl, ?_⟩⟩)⟩
              cases hd : decide (na > nb) with
              | true => exact iteT ⟨_, rfl, by show 2 ≤ sizeLine; decide, fun t ht => yes hd t _ (Ext.upd ht) upd_same⟩
              | false => exact iteF ⟨rfl, ⟨_, _, rfl⟩, no hd⟩
          · obtain ⟨rfl, _, hb⟩ := pv
            rw [fb_none (fun j hj => hb j (by omega))] at hR
            exact hR _ e2
/-! the rest: ints one after the other -/
def ValR (H : Hp) (v : V) : Option (Str ⊕ Nat) → Prop
  | none => v = .non
  | some y => ∃ t1, v = .ref t1 ∧ H t1 = some (.tup (dueV y))
theorem resQ_of {H : Hp} {Q : VK} {r : Option (Str ⊕ Nat)} (h : ∀ v H1, Ext H H1 → ValR H1 v r → Q v H1) : ResQ H Q r := by
  cases r with
  | none => exact fun H1 e => h _ _ e rfl
  | some y => exact fun t H1 e ht => h _ _ e ⟨t, rfl, ht⟩
def spDue (K : PySem.W.Frag) : Sp := fun vs H Q _ => ∃ (t : Addr) (vw vc l m tn o : V) (rw rc : Option (List V)), vs = [.ref t] ∧ SqT K H t [vw, vc, l, m, tn, o] ∧ LAt H vw rw ∧ LAt H vc rc ∧ (∀ v ∈ [l, m, tn, o], ∃ k, KndOf H v k) ∧ ResQ H Q (gameDue rw rc l m tn o)
theorem lenL {H : Hp} {v : V} {r : Option (List V)} {word : Str} (h : LAt H v r) (hn : listDue word ok8 100 true r = none) : ∃ p xs, v = .ref p ∧ r = some xs ∧ H p = some (.lst xs) ∧ 1 ≤ xs.length ∧ xs.length ≤ 8 := by
  obtain ⟨xs, rfl, h8, _, _⟩ := due_none hn
  obtain ⟨p, rfl, hp, _, _⟩ := h
  unfold ok8 at h8
  simp at h8
  exact ⟨p, xs, rfl, rfl, hp, h8.1, h8.2⟩
theorem ok_due {f : Addr} {fd : FuncData} (F : Fun K "_law_due" "_law_due" s__law_due f fd) (T : Txt K mg A) (O__law_is : Own P w K mg base CX0 "_law_is" 1 pm__law_is spBetween) (O__law_list_due : Own P w K mg base CX0 "_law_list_due" 3 pm__law_list_due spListDue) : FnOk P w K mg base CX0 4 f fd pm__law_due (spDue K) := by
  refine F.ok sc__law_due (fun vs H Q E h => ?_) (fun cdv A' outer s H vs Q E hr h => ?_)
  · obtain ⟨_, _, _, _, _, _, _, _, _, rfl, _⟩ := h
    rfl
  · obtain ⟨t, vw, vc, l, m, tn, o, rw, rc, rfl, ht, hw, hc, hk, hR⟩ := h
    obtain ⟨kl, hkl⟩ := hk l (by simp)
    obtain ⟨km, hkm⟩ := hk m (by simp)
    obtain ⟨kt, hkt⟩ := hk tn (by simp)
    obtain ⟨ko, hko⟩ := hk o (by simp)
    refine ⟨_, pss_cons (ps_set (i := 1) sc__law_due.nd rfl (Or.inl rfl) (pe_own O__law_list_due (hr.mono (by decide)) pass0 (pa_cons (pe_str) (pa_cons (pe_ix ix_tup (pv 0) (pe_int) (fun _ _ => rfl)) (pa_cons (pe_non) (pa_cons (pe_int) (pa_cons (pe_bl) pa_nil)))))))
      (Evl.pss_cut (ps_if (pt_cmpR op_isN (pv 1) (pe_non) (nomark _)) (pss_one (ps_set (i := 1) sc__law_due.nd rfl (Or.inl rfl) (pe_own O__law_list_due (hr.mono (by decide)) pass0 (pa_cons (pe_str) (pa_cons (pe_ix ix_tup (pv 0) (pe_int) (fun _ _ => rfl)) (pa_cons (pe_callB call_len_seq (by rfl) T.n_len (by decide +kernel) (pa_cons (pe_ix ix_tup (pv 0) (pe_int) (fun _ _ => rfl)) pa_nil)) (pa_cons (pe_int) (pa_cons (pe_bl) pa_nil)))))))) (pss_nil))
      (pss_cons (ps_if (pt_cmpR op_notN (pv 1) (pe_non) (nomark _)) (pss_one (ps_ret (pv 1))) (pss_nil))
      (pss_cons (ps_if (pt_not (pt_val (pe_own O__law_is (hr.mono (by decide)) pass0 (pa_cons (pe_ix ix_tup (pv 0) (pe_int) (fun _ _ => rfl)) (pa_cons (pe_int) (pa_cons (pe_int) pa_nil)))))) (pss_one (ps_ret (pe_tup (pa_cons (pe_str) (pa_cons (pe_str) pa_nil))))) (pss_nil))
      (pss_cons (ps_for PassesOwn.never rfl (pi_list (pe_lst (pa_cons (pe_tup (pa_cons (pe_str) (pa_cons (pe_ix ix_tup (pv 0) (pe_int) (fun _ _ => rfl)) (pa_cons (pe_ix ix_tup (pv 0) (pe_int) (fun _ _ => rfl)) (pa_cons (pe_int) pa_nil))))) (pa_cons (pe_tup (pa_cons (pe_str) (pa_cons (pe_ix ix_tup (pv 0) (pe_int) (fun _ _ => rfl)) (pa_cons (pe_int) (pa_cons (pe_int) pa_nil))))) (pa_cons (pe_tup (pa_cons (pe_str) (pa_cons (pe_ix ix_tup (pv 0) (pe_int) (fun _ _ => rfl)) (pa_cons (pe_int) (pa_cons (pe_int) pa_nil))))) pa_nil))))) (pg_tup rfl (pgs_cons (pg_name (i := 2) sc__law_due.nd rfl (Or.inl rfl)) (pgs_cons (pg_name (i := 3) sc__law_due.nd rfl (Or.inl rfl)) (pgs_cons (pg_name (i := 4) sc__law_due.nd rfl (Or.inl rfl)) (pgs_cons (pg_name (i := 5) sc__law_due.nd rfl (Or.inl rfl)) (pgs_nil)))))) (pss_one (ps_if (pt_not (pt_val (pe_own O__law_is (hr.mono (by decide)) pass0 (pa_cons (pv 3) (pa_cons (pv 4) (pa_cons (pv 5) pa_nil)))))) (pss_one (ps_ret (pe_tup (pa_cons (pe_str) (pa_cons (pv 2) pa_nil))))) (pss_nil))))
      (pss_one (ps_ret (pe_non))))))), ?_⟩
    unfold gameDue at hR
    refine ⟨_, rfl, t, _, 0, vw, rfl, rfl, ht, rfl, "widths", vw, rw, none, 100, true, rfl, hw, ?_⟩
    rw [okL_none]
    refine resQ_of fun v1 H1 e1 hv1 => ?_
    refine ⟨fun σ H' => ∃ v, σ = [some (.ref t), some v, Option.none, Option.none, Option.none, Option.none] ∧ Ext H H' ∧ ValR H' v ((listDue "widths" ok8 100 true rw).or (listDue "counts" (okN (lenR rw)) 5000 false rc)), ?_, ?_⟩
    · cases hw0 : listDue "widths" ok8 100 true rw with
      | some y =>
        rw [hw0] at hv1
        obtain ⟨t1, rfl, ht1⟩ := hv1
        exact ⟨_, rfl, rfl, _, rfl, iteF ⟨_, rfl, e1, t1, rfl, ht1⟩⟩
      | none =>
        rw [hw0] at hv1
        have hv1' : v1 = .non := hv1
        subst hv1'
        obtain ⟨p, xs, rfl, rfl, hp, x1, x8⟩ := lenL hw hw0
        refine ⟨_, rfl, rfl, _, rfl, iteT ⟨_, rfl, t, _, 1, vc, rfl, rfl, ht.ext e1, rfl, _, rfl, t, _, 0, .ref p, rfl, rfl, ht.ext e1, rfl, p, xs, rfl, .inl (SqL.of (e1 _ _ hp)), "counts", vc, rc, some xs.length, 5000, false, rfl, hc.ext e1, ?_⟩⟩
        rw [okL_some x1 x8]
        exact resQ_of fun v2 H2 e2 hv2 => ⟨v2, rfl, e1.trans e2, hv2⟩
    · rintro σ H' ⟨v, rfl, e, hv⟩
      cases hx : (listDue "widths" ok8 100 true rw).or (listDue "counts" (okN (lenR rw)) 5000 false rc) with
      | some y =>
        rw [hx] at hv hR
        obtain ⟨t1, rfl, ht1⟩ := hv
        refine ⟨_, rfl, rfl, _, rfl, iteT ⟨_, rfl, ?_⟩⟩
        exact hR t1 H' e ht1
      | none =>
        rw [hx] at hv hR
        have hv' : v = .non := hv
        subst hv'
        have hR' : ResQ H' Q (restDue l m tn o) := ResQ.to hR e
        unfold restDue at hR'
        have ht' := ht.ext e
        refine ⟨_, rfl, rfl, _, rfl, iteF ⟨_, rfl, t, _, 2, l, rfl, rfl, ht', rfl, l, kl, 1, 50, rfl, hkl.ext e, _, rfl, ?_⟩⟩
        cases h1 : betw l 1 50 with
        | false =>
          rw [if_pos h1] at hR'
          exact iteT ⟨by show 2 ≤ sizeLine; decide, fun t2 ht2 => hR' t2 _ (Ext.upd ht2) upd_same⟩
        | true =>
          rw [h1, if_neg (by decide)] at hR'
          obtain ⟨ln, rfl, _, _⟩ := bt h1
          have hiv : iV (.int ln) = ln := rfl
          rw [hiv] at hR'
          refine iteF ⟨_, rfl, t, _, 3, m, rfl, rfl, ht', rfl, _, rfl, t, _, 2, .int ln, rfl, rfl, ht', rfl, by show 4 ≤ sizeLine; decide, fun q1 hq1 => ?_⟩
          have f1 := Ext.upd (o := .tup [.str "most", m, .int ln, .int 50]) hq1
          refine ⟨_, rfl, t, _, 4, tn, rfl, rfl, ht'.ext f1, rfl, by show 4 ≤ sizeLine; decide, fun q2 hq2 => ?_⟩
          have f2 := Ext.upd (o := .tup [.str "turn", tn, .int 1, .int 200]) hq2
          refine ⟨_, rfl, t, _, 5, o, rfl, rfl, (ht'.ext f1).ext f2, rfl, by show 4 ≤ sizeLine; decide, fun q3 hq3 => ⟨by show 3 ≤ sizeLine; decide, fun L hL => ?_⟩⟩
          have f3 := Ext.upd (o := .tup [.str "losses", o, .int 0, .int 3]) hq3
          have f4 := Ext.upd (o := .lst [.ref q1, .ref q2, .ref q3]) hL
          have g1 := f4 _ _ (f3 _ _ (f2 _ _ (upd_same (H := H') (a := q1) (o := .tup [.str "most", m, .int ln, .int 50]))))
          have g2 := f4 _ _ (f3 _ _ (upd_same (H := upd H' q1 (.tup [.str "most", m, .int ln, .int 50])) (a := q2) (o := .tup [.str "turn", tn, .int 1, .int 200])))
          have g3 := f4 _ _ (upd_same (H := upd (upd H' q1 (.tup [.str "most", m, .int ln, .int 50])) q2 (.tup [.str "turn", tn, .int 1, .int 200])) (a := q3) (o := .tup [.str "losses", o, .int 0, .int 3]))
          have gL : upd (upd (upd (upd H' q1 (.tup [.str "most", m, .int ln, .int 50])) q2 (.tup [.str "turn", tn, .int 1, .int 200])) q3 (.tup [.str "losses", o, .int 0, .int 3])) L (.lst [.ref q1, .ref q2, .ref q3]) L = some (.lst [.ref q1, .ref q2, .ref q3]) := upd_same
          have f14 : Ext H' (upd (upd (upd (upd H' q1 (.tup [.str "most", m, .int ln, .int 50])) q2 (.tup [.str "turn", tn, .int 1, .int 200])) q3 (.tup [.str "losses", o, .int 0, .int 3])) L (.lst [.ref q1, .ref q2, .ref q3])) := ((f1.trans f2).trans f3).trans f4
          generalize upd (upd (upd (upd H' q1 (.tup [.str "most", m, .int ln, .int 50])) q2 (.tup [.str "turn", tn, .int 1, .int 200])) q3 (.tup [.str "losses", o, .int 0, .int 3])) L (.lst [.ref q1, .ref q2, .ref q3]) = H4 at g1 g2 g3 gL f14 ⊢
          have e4 := e.trans f14
          have tel : ∀ (i : Nat) (x : V), [V.ref q1, .ref q2, .ref q3][i]? = some x → ∃ (q : Addr) (word : Str) (v : V) (kv : Knd) (lo hi : Int), x = .ref q ∧ H4 q = some (.tup [.str word, v, .int lo, .int hi]) ∧ KndOf H4 v kv ∧
              ((i = 0 ∧ word = "most" ∧ v = m ∧ lo = ln ∧ hi = 50) ∨ (i = 1 ∧ word = "turn" ∧ v = tn ∧ lo = 1 ∧ hi = 200) ∨ (i = 2 ∧ word = "losses" ∧ v = o ∧ lo = 0 ∧ hi = 3)) := fun i x h => by
            match i, h with
            | 0, h => cases h; exact ⟨q1, _, _, km, _, _, rfl, g1, hkm.ext e4, .inl ⟨rfl, rfl, rfl, rfl, rfl⟩⟩
            | 1, h => cases h; exact ⟨q2, _, _, kt, _, _, rfl, g2, hkt.ext e4, .inr (.inl ⟨rfl, rfl, rfl, rfl, rfl⟩)⟩
            | 2, h => cases h; exact ⟨q3, _, _, ko, _, _, rfl, g3, hko.ext e4, .inr (.inr ⟨rfl, rfl, rfl, rfl, rfl⟩)⟩
            | n + 3, h => cases h
          refine ⟨L, rfl, ⟨_, SqL.of gL⟩, ?_⟩
          refine for_it (walk_list (xs := [V.ref q1, .ref q2, .ref q3])) (fun i σ' H5 => H5 = H4 ∧ (∃ o2 o3 o4 o5, σ' = [some (.ref t), some .non, o2, o3, o4, o5]) ∧ (1 ≤ i → betw m ln 50 = true) ∧ (2 ≤ i → betw tn 1 200 = true) ∧ (3 ≤ i → betw o 0 3 = true))
            ⟨rfl, ⟨_, _, _, _, rfl⟩, (fun h => absurd h (by decide)), (fun h => absurd h (by decide)), (fun h => absurd h (by decide))⟩ (fun i σ' H5 _ pv => by rw [pv.1]; exact SqL.of gL) (fun i x σ' H5 H6 hi pv hy => ?_) (fun σ' H5 pv => ?_)
          · obtain ⟨rfl, ⟨o2, o3, o4, o5, rfl⟩, p1, p2, p3⟩ := pv
            obtain ⟨rfl, hx'⟩ := hy
            obtain ⟨q, word, v, kv, lo, hi', rfl, hq, hkv, hcase⟩ := tel i x hx'
            refine ⟨q, _, rfl, SqT.of hq, rfl, _, _, rfl, _, _, rfl, _, _, rfl, _, _, rfl, rfl, ?_⟩
            refine ⟨_, rfl, _, rfl, _, rfl, v, kv, lo, hi', rfl, hkv, _, rfl, ?_⟩
            cases hb : betw v lo hi' with
            | false =>
              refine iteT ⟨_, rfl, by show 2 ≤ sizeLine; decide, fun t2 ht2 => ?_⟩
              have e2 := Ext.upd (o := .tup [.str "part", .str word]) ht2
              rcases hcase with ⟨rfl, rfl, rfl, rfl, rfl⟩ | ⟨rfl, rfl, rfl, rfl, rfl⟩ | ⟨rfl, rfl, rfl, rfl, rfl⟩
              · rw [if_pos hb] at hR'
                exact hR' t2 _ (f14.trans e2) upd_same
              · rw [p1 (by decide), if_neg (by decide), if_pos hb] at hR'
                exact hR' t2 _ (f14.trans e2) upd_same
              · rw [p1 (by decide), if_neg (by decide), p2 (by decide), if_neg (by decide), if_pos hb] at hR'
                exact hR' t2 _ (f14.trans e2) upd_same
            | true =>
              refine iteF ⟨rfl, ⟨_, _, _, _, rfl⟩, ?_, ?_, ?_⟩
              · intro h
                rcases hcase with ⟨rfl, rfl, rfl, rfl, rfl⟩ | ⟨rfl, rfl, rfl, rfl, rfl⟩ | ⟨rfl, rfl, rfl, rfl, rfl⟩
                · exact hb
                · exact p1 (by decide)
                · exact p1 (by decide)
              · intro h
                rcases hcase with ⟨rfl, rfl, rfl, rfl, rfl⟩ | ⟨rfl, rfl, rfl, rfl, rfl⟩ | ⟨rfl, rfl, rfl, rfl, rfl⟩
                · exact absurd h (by decide)
                · exact hb
                · exact p2 (by decide)
              · intro h
                rcases hcase with ⟨rfl, rfl, rfl, rfl, rfl⟩ | ⟨rfl, rfl, rfl, rfl, rfl⟩ | ⟨rfl, rfl, rfl, rfl, rfl⟩
                · exact absurd h (by decide)
                · exact absurd h (by decide)
                · exact hb
          · obtain ⟨rfl, _, p1, p2, p3⟩ := pv
            rw [p1 (show 1 ≤ 3 by decide), if_neg (by decide), p2 (show 2 ≤ 3 by decide), if_neg (by decide), p3 (show 3 ≤ 3 by decide), if_neg (by decide)] at hR'
            exact hR' _ f14
end
end K36

set_option Elab.async false
set_option maxRecDepth 100000
set_option maxHeartbeats 4000000
namespace K36
open PySem PySem.Spec PyProof.Rows L2
theorem fl_knd {v : V} (h : Fl v) (H : Hp) : ∃ k, KndOf H v k ∧ k.isSeq = false := by
  cases v <;> first | exact ⟨.int, ⟨_, rfl⟩, rfl⟩ | exact ⟨.bool, ⟨_, rfl⟩, rfl⟩ | exact ⟨.none, rfl, rfl⟩ | exact ⟨.str, ⟨_, rfl⟩, rfl⟩ | exact h.elim
def LF (st : Addr) (H : Hp) (v : V) : Option (List V) → Prop
  | none => Fl v
  | some xs => ∃ p, v = .ref p ∧ p ≠ st ∧ H p = some (.lst xs) ∧ (∀ x ∈ xs, Fl x) ∧ xs.length ≤ 100
theorem LF.to {st : Addr} {H H' : Hp} {v : V} {r : Option (List V)} (h : LF st H v r) (e : ∀ p xs, v = .ref p → p ≠ st → H p = some (.lst xs) → H' p = some (.lst xs)) : LF st H' v r := by
  cases r with
  | none => exact h
  | some xs =>
    obtain ⟨p, rfl, hp, h1, h2, h3⟩ := h
    exact ⟨p, rfl, hp, e p xs rfl hp h1, h2, h3⟩
theorem LF.at {st : Addr} {H : Hp} {v : V} {r : Option (List V)} (h : LF st H v r) : LAt H v r := by
  cases r with
  | none =>
    obtain ⟨k, h1, h2⟩ := fl_knd h H
    exact ⟨k, h1, h2⟩
  | some xs =>
    obtain ⟨p, rfl, hp, h1, h2, h3⟩ := h
    exact ⟨p, rfl, h1, fun x hx => by
      obtain ⟨k, h, _⟩ := fl_knd (h2 x hx) H
      exact ⟨k, h⟩, h3⟩
/-- the parts as they stand in a list at P -/
def PartsAt (st : Addr) (H : Hp) (P : Addr) : Prop := ∃ vw vc l m tn o rw rc, H P = some (.lst [vw, vc, l, m, tn, o]) ∧ LF st H vw rw ∧ LF st H vc rc ∧ Fl l ∧ Fl m ∧ Fl tn ∧ Fl o
theorem odds {n : Int} (h0 : 0 ≤ n) (h9 : n < 9) : ∃ v, atI [V.int 0, .int (-1), .bl true, .non, .int 101, .int 5001, .int 51, .int 201, .int 4] n = some v ∧ Fl v := by
  have hd : n = 0 ∨ n = 1 ∨ n = 2 ∨ n = 3 ∨ n = 4 ∨ n = 5 ∨ n = 6 ∨ n = 7 ∨ n = 8 := by omega
  rcases hd with rfl | rfl | rfl | rfl | rfl | rfl | rfl | rfl | rfl <;> exact ⟨_, rfl, trivial⟩
theorem atI_ex {xs : List V} {i : Int} (h1 : -(xs.length : Int) ≤ i) (h2 : i < xs.length) : ∃ v, atI xs i = some v ∧ v ∈ xs := by
  unfold atI ixN
  by_cases h0 : 0 ≤ i
  · rw [if_pos h0, if_pos h2]
    have hl : i.toNat < xs.length := by omega
    exact ⟨xs[i.toNat], by show xs[i.toNat]? = _; rw [List.getElem?_eq_getElem hl], List.getElem_mem hl⟩
  · rw [if_neg h0, if_pos h1]
    have hl : (i + xs.length).toNat < xs.length := by omega
    exact ⟨xs[(i + xs.length).toNat], by show xs[(i + xs.length).toNat]? = _; rw [List.getElem?_eq_getElem hl], List.getElem_mem hl⟩
theorem cut_mem {xs : List V} {lo hi : Option Int} : ∀ x ∈ cutV xs lo hi, x ∈ xs := fun x hx => by
  unfold cutV at hx
  exact List.mem_of_mem_drop (List.mem_of_mem_take hx)
section
variable {P : Program} {w : World} {K : PySem.W.Frag} {mg : Str → Option Value} {base : Heap} {A : Ad}
def spTurned (K : PySem.W.Frag) : Sp := fun vs H Q _ => ∃ (sc st : Addr) (ns : List Int) (N : Nat) (t pw pc : Addr) (g : G), vs = [.ref sc, .ref st, .ref t] ∧ Scr K st sc ns H ∧ StD H st N ∧ N ≤ 900000 ∧ Good g ∧ RawAt H t pw pc g ∧ t ≠ st ∧ pw ≠ st ∧ pc ≠ st ∧
  ∀ u vw vc l m tn o rw rc H', H' u = some (.tup [vw, vc, l, m, tn, o]) → LAt H' vw rw → LAt H' vc rc → (∀ v ∈ [l, m, tn, o], ∃ k, KndOf H' v k) → StD H' st (N + 10) → ExtM st H H' → Q (.ref u) H'
theorem ok_turned {f : Addr} {fd : FuncData} (F : Fun K "_law_turned" "_law_turned" s__law_turned f fd) (T : Txt K mg A) (O__law_draw : Own P w K mg base CX0 "_law_draw" 1 pm__law_draw (spDraw K)) : FnOk P w K mg base CX0 2 f fd pm__law_turned (spTurned K) := by
  refine F.ok sc__law_turned (fun vs H Q E h => ?_) (fun cdv A' outer s H vs Q E hr h => ?_)
  · obtain ⟨_, _, _, _, _, _, _, _, rfl, _⟩ := h
    rfl
  · obtain ⟨sc, st, ns, N, t, pw, pc, g, rfl, hsc, hst, hN, hg, ⟨ht, hw, hc⟩, nt, npw, npc, k⟩ := h
    refine ⟨_, pss_cons (ps_set (i := 3) sc__law_turned.nd rfl (Or.inl rfl) (pe_lst (pa_cons (pe_callTy call_list_of (by rfl) T.n_list (by decide +kernel) (pa_cons (pe_ix ix_tup (pv 2) (pe_int) (fun _ _ => rfl)) pa_nil)) (pa_cons (pe_callTy call_list_of (by rfl) T.n_list (by decide +kernel) (pa_cons (pe_ix ix_tup (pv 2) (pe_int) (fun _ _ => rfl)) pa_nil)) (pa_cons (pe_ix ix_tup (pv 2) (pe_int) (fun _ _ => rfl)) (pa_cons (pe_ix ix_tup (pv 2) (pe_int) (fun _ _ => rfl)) (pa_cons (pe_ix ix_tup (pv 2) (pe_int) (fun _ _ => rfl)) (pa_cons (pe_ix ix_tup (pv 2) (pe_int) (fun _ _ => rfl)) pa_nil))))))))
      (pss_cons (ps_set (i := 4) sc__law_turned.nd rfl (Or.inl rfl) (pe_own O__law_draw (hr.mono (by decide)) pass0 (pa_cons (pv 0) (pa_cons (pv 1) (pa_cons (pe_int) pa_nil)))))
      (pss_cons (ps_set (i := 5) sc__law_turned.nd rfl (Or.inl rfl) (pe_ix ix_list (pe_lst (pa_cons (pe_int) (pa_cons (pe_un un_neg (pe_int)) (pa_cons (pe_bl) (pa_cons (pe_non) (pa_cons (pe_int) (pa_cons (pe_int) (pa_cons (pe_int) (pa_cons (pe_int) (pa_cons (pe_int) pa_nil)))))))))) (pe_own O__law_draw (hr.mono (by decide)) pass0 (pa_cons (pv 0) (pa_cons (pv 1) (pa_cons (pe_int) pa_nil)))) (fun _ _ => rfl)))
      (Evl.pss_cut (ps_if (pt_cmpR op_lt (pv 4) (pe_int) (nomark _)) (pss_cons (ps_set (i := 6) sc__law_turned.nd rfl (Or.inl rfl) (pe_own O__law_draw (hr.mono (by decide)) pass0 (pa_cons (pv 0) (pa_cons (pv 1) (pa_cons (pe_callB call_len_seq (by rfl) T.n_len (by decide +kernel) (pa_cons (pe_ix ix_list (pv 3) (pv 4) (fun _ _ => rfl)) pa_nil)) pa_nil)))))
      (pss_one (ps_asg (pe_ix ix_list (pe_lst (pa_cons (pv 5) (pa_cons (pe_ix ix_list (pe_ix ix_list (pv 3) (pv 4) (fun _ _ => rfl)) (pe_op op_sub (pv 6) (pe_int)) (fun _ _ => rfl)) (pa_cons (pe_int) (pa_cons (pe_int) pa_nil))))) (pe_own O__law_draw (hr.mono (by decide)) pass0 (pa_cons (pv 0) (pa_cons (pv 1) (pa_cons (pe_int) pa_nil)))) (fun _ _ => rfl)) (pg_sub (pe_ix ix_list (pv 3) (pv 4) (fun _ _ => rfl)) (pv 6) set_list)))) (pss_one (ps_if (pt_cmpR op_lt (pv 4) (pe_int) (nomark _)) (pss_one (ps_asg (pv 5) (pg_sub (pv 3) (pv 4) set_list))) (pss_one (ps_if (pt_cmpR op_eq (pv 4) (pe_int) (nomark _)) (pss_one (ps_asg (pe_op op_cat (pe_ix ix_list (pv 3) (pe_int) (fun _ _ => rfl)) (pe_slice sl_list (pe_ix ix_list (pv 3) (pe_int) (fun _ _ => rfl)) (po_some (pe_un un_neg (pe_int))) po_none)) (pg_sub (pv 3) (pe_int) set_list))) (pss_one (ps_asg (pe_ix ix_list (pe_lst (pa_cons (pe_non) (pa_cons (pe_lst (pa_nil)) (pa_cons (pe_int) pa_nil)))) (pe_own O__law_draw (hr.mono (by decide)) pass0 (pa_cons (pv 0) (pa_cons (pv 1) (pa_cons (pe_int) pa_nil)))) (fun _ _ => rfl)) (pg_sub (pv 3) (pe_own O__law_draw (hr.mono (by decide)) pass0 (pa_cons (pv 0) (pa_cons (pv 1) (pa_cons (pe_int) pa_nil)))) set_list))))))))
      (pss_one (ps_ret (pe_callTy call_tuple_of (by rfl) T.n_tuple (by decide +kernel) (pa_cons (pv 3) pa_nil))))))), ?_⟩
    have hgl := hg.w1
    have hgl8 := hg.w8
    have hcl := hg.cw
    refine ⟨_, rfl, t, _, 0, .ref pw, rfl, rfl, SqT.of ht, rfl, pw, _, rfl, .inl (SqL.of hw), fun lw hlw => ?_⟩
    have e1 := Ext.upd (o := .lst (g.ws.map V.int)) hlw
    refine ⟨_, rfl, t, _, 1, .ref pc, rfl, rfl, SqT.of (e1 _ _ ht), rfl, pc, _, rfl, .inl (SqL.of (e1 _ _ hc)), fun lc hlc => ?_⟩
    have e2 := Ext.upd (o := .lst (g.cs.map V.int)) hlc
    have ht2 := e2 _ _ (e1 _ _ ht)
    refine ⟨_, rfl, t, _, 2, .int g.l, rfl, rfl, SqT.of ht2, rfl, _, rfl, t, _, 3, .int g.m, rfl, rfl, SqT.of ht2, rfl, _, rfl, t, _, 4, .int g.t, rfl, rfl, SqT.of ht2, rfl, _, rfl, t, _, 5, .int g.o, rfl, rfl, SqT.of ht2, rfl, by show 6 ≤ sizeLine; decide, fun P0 hP0 => ?_⟩
    have e3 := Ext.upd (o := .lst [.ref lw, .ref lc, .int g.l, .int g.m, .int g.t, .int g.o]) hP0
    have e13 := (e1.trans e2).trans e3
    have hlw3 := e3 _ _ (e2 _ _ (upd_same (H := H) (a := lw) (o := .lst (g.ws.map V.int))))
    have hlc3 := e3 _ _ (upd_same (H := upd H lw (.lst (g.ws.map V.int))) (a := lc) (o := .lst (g.cs.map V.int)))
    have nlw := hst.new hlw
    have nlc := (hst.ext e1).new hlc
    have nP := ((hst.ext e1).ext e2).new hP0
    have nwP : lw ≠ P0 := ne_of_none (e2 _ _ upd_same) hP0
    have ncP : lc ≠ P0 := ne_of_none upd_same hP0
    have nwc : lw ≠ lc := ne_of_none upd_same hlc
    have hlcH : H lc = none := by rw [upd_ne nwc.symm] at hlc; exact hlc
    have hPH : H P0 = none := (Ext.m (e1.trans e2) : ExtM st H _).none nP hP0
    have hP3 : upd (upd (upd H lw (.lst (g.ws.map V.int))) lc (.lst (g.cs.map V.int))) P0 (.lst [.ref lw, .ref lc, .int g.l, .int g.m, .int g.t, .int g.o]) P0 = some (.lst [.ref lw, .ref lc, .int g.l, .int g.m, .int g.t, .int g.o]) := upd_same
    have st3 := hst.ext e13
    have x3 : ExtM st H _ := Ext.m e13
    generalize upd (upd (upd H lw (.lst (g.ws.map V.int))) lc (.lst (g.cs.map V.int))) P0 (.lst [.ref lw, .ref lc, .int g.l, .int g.m, .int g.t, .int g.o]) = H3 at e13 hlw3 hlc3 hP3 st3 x3 ⊢
    -- the kind, an odd value
    refine ⟨_, rfl, _, rfl, sc, st, ns, N, 8, rfl, hsc.to x3, st3, by omega, by omega, by omega, fun kd H4 kd0 kd8 st4 x4 => ?_⟩
    refine ⟨_, rfl, by show 9 ≤ sizeLine; decide, fun ol hol => ?_⟩
    have eo := Ext.upd (o := .lst [.int 0, .int (-1), .bl true, .non, .int 101, .int 5001, .int 51, .int 201, .int 4]) hol
    have nol := st4.new hol
    have x04 := (x3.trans x4).trans (Ext.m eo)
    refine ⟨_, rfl, _, rfl, sc, st, ns, N + 1, 9, rfl, hsc.to x04, st4.ext eo, by omega, by omega, by omega, fun od H5 od0 od9 st5 x5 => ?_⟩
    have x05 := x04.trans x5
    obtain ⟨ov, hov, fov⟩ := odds od0 od9
    refine ⟨ol, _, od, ov, rfl, rfl, SqL.of (x5 ol _ nol upd_same), hov, ?_⟩
    have x35 : ExtM st H3 H5 := (x4.trans (Ext.m eo)).trans x5
    have hlw5 := x35 lw _ nlw hlw3
    have hlc5 := x35 lc _ nlc hlc3
    have hP5 := x35 P0 _ nP hP3
    have fi : ∀ (zs : List Int), ∀ x ∈ zs.map V.int, Fl x := fun zs x hx => fl_ints x hx
    have small : ∀ (zs : List Int), zs.length ≤ 5 → (zs.map V.int).length ≤ 100 := fun zs h => by rw [List.length_map]; omega
    refine ⟨fun σ H' => ∃ o6, σ = [some (.ref sc), some (.ref st), some (.ref t), some (.ref P0), some (.int kd), some ov, o6] ∧ PartsAt st H' P0 ∧ StD H' st (N + 9) ∧ ExtM st H H', ?_, ?_⟩
    · refine ⟨_, rfl, _, _, rfl, rfl, _, rfl, ?_⟩
      by_cases k2 : kd < 2
      · rw [decide_eq_true k2]
        refine iteT ?_
        obtain ⟨L, zs, hix, hL, nL, nLH, z1, z5, fin⟩ : ∃ (L : Addr) (zs : List Int), atI [V.ref lw, .ref lc, .int g.l, .int g.m, .int g.t, .int g.o] kd = some (.ref L) ∧ H5 L = some (.lst (zs.map V.int)) ∧ L ≠ st ∧ H L = none ∧ 1 ≤ zs.length ∧ zs.length ≤ 5 ∧
            ∀ (H' : Hp) (ys : List V), (∀ y o, y ≠ L → y ≠ st → H5 y = some o → H' y = some o) → H' L = some (.lst ys) → (∀ x ∈ ys, Fl x) → ys.length ≤ 100 → PartsAt st H' P0 := by
          have hk : kd = 0 ∨ kd = 1 := by omega
          rcases hk with rfl | rfl
          · refine ⟨lw, g.ws, rfl, hlw5, nlw, hlw, hgl, hgl8, fun H' ys e h1 h2 h3 => ⟨_, _, _, _, _, _, some ys, some (g.cs.map V.int), e P0 _ nwP.symm nP hP5, ⟨lw, rfl, nlw, h1, h2, h3⟩, ⟨lc, rfl, nlc, e lc _ nwc.symm nlc hlc5, fi _, small _ (by omega)⟩, trivial, trivial, trivial, trivial⟩⟩
          · refine ⟨lc, g.cs, rfl, hlc5, nlc, hlcH, by omega, by omega, fun H' ys e h1 h2 h3 => ⟨_, _, _, _, _, _, some (g.ws.map V.int), some ys, e P0 _ ncP.symm nP hP5, ⟨lw, rfl, nlw, e lw _ nwc nlw hlw5, fi _, small _ (by omega)⟩, ⟨lc, rfl, nlc, h1, h2, h3⟩, trivial, trivial, trivial, trivial⟩⟩
        refine ⟨_, rfl, _, rfl, _, rfl, _, rfl, P0, _, kd, .ref L, rfl, rfl, SqL.of hP5, hix, L, _, rfl, .inl (SqL.of hL), sc, st, ns, N + 2, _, rfl, hsc.to x05, st5, by omega, by rw [List.length_map]; omega, by rw [List.length_map]; omega, fun j H6 j0 jl st6 x6 => ?_⟩
        rw [List.length_map] at jl
        have x06 := x05.trans x6
        have hP6 := x6 P0 _ nP hP5
        have hL6 := x6 L _ nL hL
        obtain ⟨pv', hpv, mpv⟩ := atI_ex (xs := zs.map V.int) (i := j - 1) (by rw [List.length_map]; omega) (by rw [List.length_map]; omega)
        refine ⟨_, rfl, _, rfl, _, rfl, P0, _, kd, .ref L, rfl, rfl, SqL.of hP6, hix, _, rfl, _, _, rfl, rfl, L, _, _, pv', rfl, rfl, SqL.of hL6, hpv, by show 4 ≤ sizeLine; decide, fun l4 hl4 => ?_⟩
        have e7 := Ext.upd (o := .lst [ov, pv', .int 1, .int 100]) hl4
        have n4 := st6.new hl4
        have x07 := x06.trans (Ext.m e7)
        refine ⟨_, rfl, _, rfl, sc, st, ns, N + 3, 4, rfl, hsc.to x07, st6.ext e7, by omega, by omega, by omega, fun c H8 c0 c4 st8 x8 => ?_⟩
        have h48 := x8 l4 _ n4 upd_same
        have x68 : ExtM st H6 H8 := (Ext.m e7).trans x8
        have hP8 := x68 P0 _ nP hP6
        have hL8 := x68 L _ nL hL6
        obtain ⟨x, hx, fx⟩ : ∃ x, atI [ov, pv', V.int 1, .int 100] c = some x ∧ Fl x := by
          have hc : c = 0 ∨ c = 1 ∨ c = 2 ∨ c = 3 := by omega
          rcases hc with rfl | rfl | rfl | rfl
          · exact ⟨_, rfl, fov⟩
          · exact ⟨_, rfl, fi zs _ mpv⟩
          · exact ⟨_, rfl, trivial⟩
          · exact ⟨_, rfl, trivial⟩
        obtain ⟨jn, rfl⟩ : ∃ jn : Nat, j = (jn : Int) := ⟨j.toNat, by omega⟩
        refine ⟨l4, _, c, x, rfl, rfl, SqL.of h48, hx, _, rfl, _, rfl, P0, _, kd, .ref L, rfl, rfl, SqL.of hP8, hix, _, rfl, L, _, _, jn, rfl, rfl, hL8, Evl.ixN_nat (by rw [List.length_map]; omega), _, rfl, ?_, (st8.upd nL).le (by omega), ?_⟩
        · refine fin _ _ (fun y o h1 h2 h => ?_) upd_same (fun z hz => ?_) (by rw [List.length_set]; exact small _ z5)
          · rw [upd_ne h1]
            exact x68 y _ h2 (x6 y _ h2 h)
          · rcases List.mem_or_eq_of_mem_set hz with h | rfl
            · exact fi zs _ h
            · exact fx
        · exact ExtM.mut (x07.trans x8) nLH
      · rw [decide_eq_false k2]
        refine iteF ⟨_, rfl, _, _, rfl, rfl, _, rfl, ?_⟩
        by_cases k6 : kd < 6
        · rw [decide_eq_true k6]
          refine iteT ⟨_, rfl, _, rfl, _, rfl, P0, _, kd, kd.toNat, rfl, rfl, hP5, ?_, Option.none, rfl, ?_, (st5.upd nP).le (by omega), ExtM.mut x05 hPH⟩
          · have hk : kd = 2 ∨ kd = 3 ∨ kd = 4 ∨ kd = 5 := by omega
            rcases hk with rfl | rfl | rfl | rfl <;> rfl
          · have lf1 : ∀ q, LF st (upd H5 P0 q) (.ref lw) (some (g.ws.map V.int)) := fun q => ⟨lw, rfl, nlw, by rw [upd_ne nwP]; exact hlw5, fi _, small _ (by omega)⟩
            have lf2 : ∀ q, LF st (upd H5 P0 q) (.ref lc) (some (g.cs.map V.int)) := fun q => ⟨lc, rfl, nlc, by rw [upd_ne ncP]; exact hlc5, fi _, small _ (by omega)⟩
            have hk : kd = 2 ∨ kd = 3 ∨ kd = 4 ∨ kd = 5 := by omega
            rcases hk with rfl | rfl | rfl | rfl
            · exact ⟨_, _, _, _, _, _, _, _, upd_same, lf1 _, lf2 _, fov, trivial, trivial, trivial⟩
            · exact ⟨_, _, _, _, _, _, _, _, upd_same, lf1 _, lf2 _, trivial, fov, trivial, trivial⟩
            · exact ⟨_, _, _, _, _, _, _, _, upd_same, lf1 _, lf2 _, trivial, trivial, fov, trivial⟩
            · exact ⟨_, _, _, _, _, _, _, _, upd_same, lf1 _, lf2 _, trivial, trivial, trivial, fov⟩
        · rw [decide_eq_false k6]
          refine iteF ⟨_, rfl, rfl, _, rfl, ?_⟩
          rw [dvi]
          by_cases ks : kd = 6
          · rw [decide_eq_true ks]
            refine iteT ⟨_, rfl, P0, _, 1, .ref lc, rfl, rfl, SqL.of hP5, rfl, _, rfl, P0, _, 1, .ref lc, rfl, rfl, SqL.of hP5, rfl, _, rfl, -1, rfl, lc, _, rfl, SqL.of hlc5, fun q1 hq1 => ?_⟩
            have f1 := Ext.upd (o := .lst (cutV (g.cs.map V.int) (some (-1)) Option.none)) hq1
            have lcut : (cutV (g.cs.map V.int) (some (-1)) Option.none).length ≤ 5 := Nat.le_trans (cutV_length _ _ _) (by rw [List.length_map]; omega)
            have lcs : (g.cs.map V.int).length ≤ 5 := by rw [List.length_map]; omega
            refine ⟨lc, q1, _, _, rfl, rfl, f1 _ _ hlc5, upd_same, Nat.le_trans (show _ ≤ 1000 by omega) (by decide), fun q2 hq2 => ?_⟩
            have f2 := Ext.upd (o := .lst (g.cs.map V.int ++ cutV (g.cs.map V.int) (some (-1)) Option.none)) hq2
            have f12 := f1.trans f2
            have hP7 := f12 _ _ hP5
            have n2 := (st5.ext f1).new hq2
            have n2P : q2 ≠ P0 := (ne_of_none (f1 _ _ hP5) hq2).symm
            refine ⟨_, rfl, P0, _, 1, 1, rfl, rfl, hP7, rfl, Option.none, rfl, ?_, ((st5.ext f12).upd nP).le (by omega), ExtM.mut (x05.trans (Ext.m f12)) hPH⟩
            refine ⟨_, _, _, _, _, _, some (g.ws.map V.int), some (g.cs.map V.int ++ cutV (g.cs.map V.int) (some (-1)) Option.none), upd_same, ⟨lw, rfl, nlw, by rw [upd_ne nwP]; exact f12 _ _ hlw5, fi _, small _ (by omega)⟩, ⟨q2, rfl, n2, by rw [upd_ne n2P]; exact upd_same, fun x hx => ?_, by rw [List.length_append]; omega⟩, trivial, trivial, trivial, trivial⟩
            rcases List.mem_append.mp hx with h | h
            · exact fi _ _ h
            · exact fi _ _ (cut_mem _ h)
          · rw [decide_eq_false ks]
            refine iteF ⟨by show 0 ≤ sizeLine; decide, fun q1 hq1 => ⟨by show 3 ≤ sizeLine; decide, fun q2 hq2 => ?_⟩⟩
            have f1 := Ext.upd (o := .lst []) hq1
            have f2 := Ext.upd (o := .lst [.non, .ref q1, .int 5]) hq2
            have f12 := f1.trans f2
            have n1 := st5.new hq1
            have n2 := (st5.ext f1).new hq2
            have n1P : q1 ≠ P0 := (ne_of_none hP5 hq1).symm
            refine ⟨_, rfl, _, rfl, sc, st, ns, N + 2, 3, rfl, hsc.to (x05.trans (Ext.m f12)), st5.ext f12, by omega, by omega, by omega, fun c H8 c0 c3 st8 x8 => ?_⟩
            have h18 := x8 q1 _ n1 (f2 _ _ upd_same)
            have h28 := x8 q2 _ n2 upd_same
            have x58 : ExtM st H5 H8 := (Ext.m f12).trans x8
            obtain ⟨x, r, hx, hr⟩ : ∃ x r, atI [V.non, .ref q1, .int 5] c = some x ∧ ∀ H', (∀ o, H8 q1 = some o → H' q1 = some o) → LF st H' x r := by
              have hc : c = 0 ∨ c = 1 ∨ c = 2 := by omega
              rcases hc with rfl | rfl | rfl
              · exact ⟨_, none, rfl, fun _ _ => trivial⟩
              · exact ⟨_, some [], rfl, fun H' e => ⟨q1, rfl, n1, e _ h18, (fun _ h => nomatch h), Nat.zero_le _⟩⟩
              · exact ⟨_, none, rfl, fun _ _ => trivial⟩
            refine ⟨q2, _, c, x, rfl, rfl, SqL.of h28, hx, ?_⟩
            refine ⟨_, rfl, _, rfl, _, rfl, sc, st, ns, N + 3, 2, rfl, hsc.to (x05.trans x58), st8, by omega, by omega, by omega, fun j H9 j0 j2 st9 x9 => ?_⟩
            have x59 := x58.trans x9
            have hP9 := x59 P0 _ nP hP5
            have lw9 : LF st (upd H9 P0 (.lst ([V.ref lw, .ref lc, .int g.l, .int g.m, .int g.t, .int g.o].set j.toNat x))) (.ref lw) (some (g.ws.map V.int)) := ⟨lw, rfl, nlw, by rw [upd_ne nwP]; exact x59 lw _ nlw hlw5, fi _, small _ (by omega)⟩
            have lc9 : LF st (upd H9 P0 (.lst ([V.ref lw, .ref lc, .int g.l, .int g.m, .int g.t, .int g.o].set j.toNat x))) (.ref lc) (some (g.cs.map V.int)) := ⟨lc, rfl, nlc, by rw [upd_ne ncP]; exact x59 lc _ nlc hlc5, fi _, small _ (by omega)⟩
            have hr9 := hr (upd H9 P0 (.lst ([V.ref lw, .ref lc, .int g.l, .int g.m, .int g.t, .int g.o].set j.toNat x))) (fun o h => by rw [upd_ne n1P]; exact x9 q1 _ n1 h)
            refine ⟨P0, _, j, j.toNat, rfl, rfl, hP9, ?_, Option.none, rfl, ?_, (st9.upd nP).le (by omega), ExtM.mut (x05.trans x59) hPH⟩
            · have hj : j = 0 ∨ j = 1 := by omega
              rcases hj with rfl | rfl <;> rfl
            · have hj : j = 0 ∨ j = 1 := by omega
              rcases hj with rfl | rfl
              · exact ⟨_, _, _, _, _, _, _, _, upd_same, hr9, lc9, trivial, trivial, trivial, trivial⟩
              · exact ⟨_, _, _, _, _, _, _, _, upd_same, lw9, hr9, trivial, trivial, trivial, trivial⟩
    · rintro σ H' ⟨o6, rfl, ⟨vw, vc, l, m, tn, o, rw, rc, hP, h1, h2, f1, f2, f3, f4⟩, st', x'⟩
      refine ⟨_, rfl, P0, _, rfl, .inl ⟨SqL.of hP, fun u hu => ?_⟩⟩
      have eu := Ext.upd (o := .tup [vw, vc, l, m, tn, o]) hu
      refine k u vw vc l m tn o rw rc _ upd_same (h1.at.ext eu) (h2.at.ext eu) (fun v hv => ?_) ((st'.ext eu).le (by omega)) (x'.trans (Ext.m eu))
      have fv : Fl v := by
        simp only [List.mem_cons, List.not_mem_nil, or_false] at hv
        rcases hv with rfl | rfl | rfl | rfl <;> assumption
      obtain ⟨kv, h, _⟩ := fl_knd fv (upd H' u (.tup [vw, vc, l, m, tn, o]))
      exact ⟨kv, h⟩
end
end K36

set_option Elab.async false
set_option maxRecDepth 100000
set_option maxHeartbeats 4000000
namespace K36
open PySem PySem.Spec PyProof.Rows L2
theorem good_list {word : Str} {ok : Nat → Bool} {M : Int} {up : Bool} {zs : List Int} (h1 : ok zs.length = true) (h2 : ∀ a ∈ zs, 1 ≤ a ∧ a ≤ M) (h3 : ∀ (i : Nat) (a b : Int), zs[i]? = some a → zs[i + 1]? = some b → badV up (.int b) (.int a) = false) :
    listDue word ok M up (some (zs.map V.int)) = none := by
  have e : listDue word ok M up (some (zs.map V.int)) = if ok (zs.map V.int).length = false then some (.inl word) else if (zs.map V.int).all (fun x => betw x 1 M) = false then some (.inl word) else (firstBad up (zs.map V.int)).map .inr := rfl
  have ha : (zs.map V.int).all (fun x => betw x 1 M) = true := by
    rw [List.all_eq_true]
    intro x hx
    obtain ⟨n, hn, rfl⟩ := List.mem_map.mp hx
    rw [betw_int, decide_eq_true (h2 n hn).1, decide_eq_true (h2 n hn).2]
    rfl
  rw [e, List.length_map, h1, if_neg (by decide), ha, if_neg (by decide), fb_none]
  · rfl
  · intro j hj
    cases j with
    | zero => exact bad_zero
    | succ i =>
      rw [List.length_map] at hj
      have g1 : (zs.map V.int)[i + 1]? = some (.int zs[i + 1]) := by rw [List.getElem?_map, List.getElem?_eq_getElem hj] <;> rfl
      have g0 : (zs.map V.int)[i]? = some (.int (zs[i]'(by omega))) := by rw [List.getElem?_map, List.getElem?_eq_getElem (by omega)] <;> rfl
      rw [bad_at g1 g0]
      exact h3 i _ _ (List.getElem?_eq_getElem (by omega)) (List.getElem?_eq_getElem hj)
theorem bw {n a b : Int} (h1 : a ≤ n) (h2 : n ≤ b) : betw (.int n) a b = true := by
  rw [betw_int, decide_eq_true h1, decide_eq_true h2]
  rfl
theorem good_due {g : G} {t' : Int} (h : Good g) (t1 : 1 ≤ t') (t2 : t' ≤ 200) : gameDue (some (g.ws.map V.int)) (some (g.cs.map V.int)) (.int g.l) (.int g.m) (.int t') (.int g.o) = none := by
  have h1 := h.w1
  have h8 := h.w8
  have hc := h.cw
  unfold gameDue restDue
  rw [good_list (zs := g.ws) (by unfold ok8; rw [decide_eq_true h1, decide_eq_true (show g.ws.length ≤ 8 by omega)]; rfl) h.w.1 fun i a b ha hb => ?_, good_list (zs := g.cs) (by unfold okN; show decide (g.cs.length = (g.ws.map V.int).length) = true; rw [List.length_map]; exact decide_eq_true hc) (fun a ha => ⟨(h.c.1 a ha).1, by have := (h.c.1 a ha).2; omega⟩) fun i a b ha hb => ?_,
    bw h.l1 (by have := h.lm; have := h.m50; omega), show iV (.int g.l) = g.l from rfl, bw h.lm h.m50, bw t1 t2, bw h.o0 h.o3]
  · rfl
  · have := h.c.2 i a b ha hb
    show decide (b > a) = false
    exact decide_eq_false (by omega)
  · have := h.w.2 i a b ha hb
    show decide (b ≤ a) = false
    exact decide_eq_false (by omega)
def LayS (x : Str ⊕ Nat) : Prop := ∀ s, x = .inl s → PySem.PyData.canLay0 (.str s) = true
theorem list_lay {word : Str} {ok : Nat → Bool} {M : Int} {up : Bool} {r : Option (List V)} {x : Str ⊕ Nat} (hw : PySem.PyData.canLay0 (.str word) = true) (h : listDue word ok M up r = some x) : LayS x := by
  intro s e
  subst e
  cases r with
  | none => cases h; exact hw
  | some xs =>
    have h' : (if ok xs.length = false then some (.inl word) else if xs.all (fun x => betw x 1 M) = false then some (.inl word) else (firstBad up xs).map .inr) = (some (.inl s) : Option (Str ⊕ Nat)) := h
    split at h'
    · cases h'; exact hw
    · split at h'
      · cases h'; exact hw
      · rw [Option.map_eq_some_iff] at h'
        obtain ⟨_, _, h'⟩ := h'
        cases h'
theorem rest_lay {l m t o : V} {x : Str ⊕ Nat} (h : restDue l m t o = some x) : LayS x := by
  intro s e
  subst e
  unfold restDue at h
  split at h
  · cases h; decide +kernel
  · split at h
    · cases h; decide +kernel
    · split at h
      · cases h; decide +kernel
      · split at h
        · cases h; decide +kernel
        · cases h
theorem due_lay {w c : Option (List V)} {l m t o : V} {x : Str ⊕ Nat} (h : gameDue w c l m t o = some x) : LayS x := by
  unfold gameDue at h
  cases h1 : listDue "widths" ok8 100 true w with
  | some y =>
    rw [h1] at h
    cases h
    exact list_lay (by decide +kernel) h1
  | none =>
    rw [h1] at h
    cases h2 : listDue "counts" (okN (lenR w)) 5000 false c with
    | some y =>
      rw [h2] at h
      cases h
      exact list_lay (by decide +kernel) h2
    | none =>
      rw [h2] at h
      exact rest_lay h
theorem due_fl {x : Str ⊕ Nat} (h : LayS x) : ∀ v ∈ dueV x, Fl v := fun v hv => by
  cases x with
  | inl s =>
    simp only [dueV, List.mem_cons, List.not_mem_nil, or_false] at hv
    rcases hv with rfl | rfl
    · show PySem.PyData.canLay0 (.str "part") = true
      decide +kernel
    · exact h s rfl
  | inr i =>
    simp only [dueV, List.mem_cons, List.not_mem_nil, or_false] at hv
    rcases hv with rfl | rfl
    · show PySem.PyData.canLay0 (.str "order") = true
      decide +kernel
    · exact trivial
/-- two tuples of ints in a tuple -/
def p2 (ws cs : List Int) : PyData := .tuple [.tuple ((ws.map V.int).map pd), .tuple ((cs.map V.int).map pd)]
theorem p2_shp (ws cs : List Int) : SeqAt.shaped (p2 ws cs) = true := by
  obtain ⟨a1, b1⟩ := lay_all (vs := ws.map V.int) fl_ints
  obtain ⟨a2, b2⟩ := lay_all (vs := cs.map V.int) fl_ints
  show ((PyData.canLayAll0 ((ws.map V.int).map pd) && (PyData.canLayAll0 ((cs.map V.int).map pd) && true)) && decide (max (PyData.depthAll ((ws.map V.int).map pd) + 1) (max (PyData.depthAll ((cs.map V.int).map pd) + 1) 0) + 1 ≤ 64)) = true
  rw [a1, a2, b1, b2]
  rfl
theorem p2_same (ws cs : List Int) : PyData.eqv (p2 ws cs) (p2 ws cs) = true := by
  show (PyData.eqvAll ((ws.map V.int).map pd) ((ws.map V.int).map pd) && (PyData.eqvAll ((cs.map V.int).map pd) ((cs.map V.int).map pd) && true)) = true
  rw [eqv_ints, eqv_ints, decide_eq_true rfl, decide_eq_true rfl]
  rfl
section
variable {P : Program} {w : World} {K : PySem.W.Frag} {mg : Str → Option Value} {base : Heap} {A : Ad}
def tbLaw (A : Ad) (K : PySem.W.Frag) (W : WX) : TS := tRet (tOp rIsN (tCallS (spBases A) (WE W) (tCons (tVar 2) tNil)) (tC .non))
def tsLaw (A : Ad) (a : Addr) (cls : Value) (d : Option Addr) : TS := tRet (tOp rEq (tXf a cls d A.BadPart "part" (tVar 7)) (tC (.str "game")))
def spLaw (K : PySem.W.Frag) : Sp := fun vs H Q _ => ∃ (a : Addr) (ns : List Int), vs = [.ref a] ∧ SqL K H a (ns.map V.int) ∧ ns.length ≤ 63 ∧ ∀ H', Q (.bl true) H'
theorem ok_law {f : Addr} {fd : FuncData} (F : Fun K "law" "law" s_law f fd) (T : Txt K mg A) (O__law_start : Own P w K mg base CX0 "_law_start" 1 pm__law_start (spStart K)) (O__law_raw : Own P w K mg base CX0 "_law_raw" 2 pm__law_raw (spRaw K)) (O__law_made : Own P w K mg base (L2.CX P w) "_law_made" 8 pm__law_made (spMade K A))
    (O_Game_len : OwnM P w K mg base CX0 A.Game "__len__" 1 pm_Game_len (spGameLen A)) (O_Game_eq : OwnM P w K mg base CX0 A.Game "__eq__" 1 pm_Game_eq (spGameEq A)) (O_bases : Own P w K mg base (L2.CX P w) "bases" 5 pm_bases (spBases A)) (O__law_turned : Own P w K mg base CX0 "_law_turned" 2 pm__law_turned (spTurned K))
    (O__law_told : Own P w K mg base CX0 "_law_told" 9 pm__law_told (spTold K)) (O__law_due : Own P w K mg base CX0 "_law_due" 4 pm__law_due (spDue K)) : FnOk P w K mg base CX0 12 f fd pm_law (spLaw K) := by
  refine F.ok sc_law (fun vs H Q E h => ?_) (fun cdv A' outer sh H vs Q E hr h => ?_)
  · obtain ⟨_, _, rfl, _⟩ := h
    rfl
  · obtain ⟨sc, ns, rfl, hS, hlen, k⟩ := h
    have hIxT : ∀ s1 H1 sc ce fp, IxR ((cxOf CX0 P w K mg base nm_law "law" (defScope s_law) f cdv A' outer sh H E).nox.blk s1 H1 sc ce fp) (rIxT K) := fun s1 H1 sc ce fp => ix_tup (X := (cxOf CX0 P w K mg base nm_law "law" (defScope s_law) f cdv A' outer sh H E).nox.blk s1 H1 sc ce fp)
    refine ⟨_, pss_cons (ps_set (i := 1) sc_law.nd rfl (Or.inl rfl) (pe_own O__law_start (hr.mono (by decide)) pass0 (pa_cons (pv 0) pa_nil)))
      (pss_cons (ps_set (i := 2) sc_law.nd rfl (Or.inr rfl) (pe_own O__law_raw (hr.mono (by decide)) pass0 (pa_cons (pv 0) (pa_cons (pv 1) (pa_cons (pe_int) pa_nil)))))
      (pss_cons (ps_set (i := 3) sc_law.nd rfl (Or.inl rfl) (pe_own O__law_made (hr.mono (by decide)) passL (pa_cons (pv 2) pa_nil)))
      (pss_cons (ps_if (PW.pt (pw_or (pt_cmpR (op_neD hr.units) (pe_tup (pa_cons (pe_fld (pv 3) rfl) (pa_cons (pe_fld (pv 3) rfl) pa_nil))) (pe_tup (pa_cons (pe_callTy call_tuple_of (by rfl) T.n_tuple (by decide +kernel) (pa_cons (pe_ix ix_tup (pv 2) (pe_int) (fun _ _ => rfl)) pa_nil)) (pa_cons (pe_callTy call_tuple_of (by rfl) T.n_tuple (by decide +kernel) (pa_cons (pe_ix ix_tup (pv 2) (pe_int) (fun _ _ => rfl)) pa_nil)) pa_nil))) (nomark _)) (pw_or1 (pt_cmpR op_ne (pe_callB (lenO O_Game_len (hr.mono (by decide)) pass0) (by rfl) T.n_len (by decide +kernel) (pa_cons (pv 3) pa_nil)) (pe_callB call_len_seq (by rfl) T.n_len (by decide +kernel) (pa_cons (pe_ix ix_tup (pv 2) (pe_int) (fun _ _ => rfl)) pa_nil)) (nomark _))))) (pss_one (ps_ret (pe_bl))) (pss_nil))
      (pss_cons (ps_if (pt_cmpR (op_neD hr.units) (pe_tup (pa_cons (pe_fld (pv 3) rfl) (pa_cons (pe_fld (pv 3) rfl) (pa_cons (pe_fld (pv 3) rfl) (pa_cons (pe_fld (pv 3) rfl) pa_nil))))) (pe_slice sl_tupE (pv 2) (po_some (pe_int)) po_none) (nomark _)) (pss_one (ps_ret (pe_bl))) (pss_nil))
      (pss_cons (ps_if (pt_cmpR (op_neD hr.units) (pe_own O_bases (hr.mono (by decide)) passL (pa_cons (pv 3) pa_nil)) (pe_callTy call_tuple_of (by rfl) T.n_tuple (by decide +kernel) (pa_cons (pe_lc (own := [("_law_count", 8)]) (g := gName 8) (by rfl) sc_law.nd (pi_list (pe_ix ix_tup (pv 2) (pe_int) (fun _ _ => rfl))) (blkOk_by (own := [("_law_count", 8)]) (N := nm_law) (sc := defScope s_law) (by decide +kernel)) (fun _ _ _ _ _ => pg_name (i := 8) sc_law.nd rfl (Or.inl rfl)) (fun s1 H1 C1 cl fp => pts_nil) (fun s1 H1 C1 cl fp => pe_op op_add (pe_op op_mul (pe_op op_sub (pe_op op_mul (pe_int) (pv 8)) (pe_int)) (pe_ix (hIxT s1 H1 _ _ fp) (pv 2) (pe_int) (fun _ _ => rfl))) (pe_op op_mul (pe_ix (hIxT s1 H1 _ _ fp) (pv 2) (pe_int) (fun _ _ => rfl)) (pe_ix (hIxT s1 H1 _ _ fp) (pv 2) (pe_int) (fun _ _ => rfl))))) pa_nil)) (nomark _)) (pss_one (ps_ret (pe_bl))) (pss_nil))
      (pss_cons (ps_set (i := 4) sc_law.nd rfl (Or.inl rfl) (pe_tup (pa_cons (pe_ix ix_tup (pv 2) (pe_int) (fun _ _ => rfl)) (pa_cons (pe_ix ix_tup (pv 2) (pe_int) (fun _ _ => rfl)) (pa_cons (pe_ix ix_tup (pv 2) (pe_int) (fun _ _ => rfl)) (pa_cons (pe_ix ix_tup (pv 2) (pe_int) (fun _ _ => rfl)) (pa_cons (pe_op op_add (pe_ix ix_tup (pv 2) (pe_int) (fun _ _ => rfl)) (pe_int)) (pa_cons (pe_ix ix_tup (pv 2) (pe_int) (fun _ _ => rfl)) pa_nil))))))))
      (pss_cons (ps_if (PW.pt (pw_or (pt_cmpR (neO O_Game_eq T.Game.neM (hr.mono (by decide)) pass0) (pv 3) (pe_own O__law_made (hr.mono (by decide)) passL (pa_cons (pv 2) pa_nil)) (nomark _)) (pw_or (pt_cmpR (eqO O_Game_eq T.Game.neM (hr.mono (by decide)) pass0) (pv 3) (pe_own O__law_made (hr.mono (by decide)) passL (pa_cons (pv 4) pa_nil)) (nomark _)) (pw_or1 (pt_cmpR (eqO O_Game_eq T.Game.neM (hr.mono (by decide)) pass0) (pv 3) (pv 2) (nomark _)))))) (pss_one (ps_ret (pe_bl))) (pss_nil))
      (pss_cons (ps_for PassesOwn.never rfl (pi_range1 rfl T.n_range (pa_cons (pe_int) pa_nil)) (pg_name (i := 5) sc_law.nd rfl (Or.inl rfl)) (pss_cons (ps_set (i := 6) sc_law.nd rfl (Or.inl rfl) (pe_own O__law_turned (hr.mono (by decide)) pass0 (pa_cons (pv 0) (pa_cons (pv 1) (pa_cons (pv 2) pa_nil)))))
      (pss_one (ps_if (pt_cmpR (op_neD hr.units) (pe_own O__law_told (hr.mono (by decide)) pass0 (pa_cons (pv 6) pa_nil)) (pe_own O__law_due (hr.mono (by decide)) pass0 (pa_cons (pv 6) pa_nil)) (nomark _)) (pss_one (ps_ret (pe_bl))) (pss_nil)))))
      (pss_one (ps_try_as (i := 7) (tb := tbLaw A K) (ts := tsLaw A) (Wout := fun _ _ _ _ => False) rfl rfl sc_law.nd rfl rfl ⟨rfl, by decide, Or.inl T.BadPart.gC⟩ takes0
        (fun W pn xe tk _ => pss_one (ps_ret (by exact (pe_cmpR op_isN1 (pe_ownS O_bases (hr.mono (by decide)) tk (pa_cons (pv 2) pa_nil)) pe_non (nomark _)))))
        (fun a oe cls d pn hz hf => pss_one (ps_ret (by exact (pe_cmpR op_eq (pe_xf ⟨T.BadPart.ec.hg, T.BadPart.ec.hk, T.BadPart.ec.hs, T.BadPart.ec.hd⟩ T.BadPart.noA hz hf (pv 7)) pe_str (nomark _))))))))))))))), ?_⟩
    refine ⟨_, rfl, sc, ns, rfl, hS, hlen, fun st H1 e1 hst0 st1 => ?_⟩
    have hsc : Scr K st sc ns H1 := Scr.new hlen hS hst0 (Ext.m e1)
    refine ⟨_, rfl, _, rfl, sc, st, ns, 1, rfl, hsc, st1, by omega, fun t pw pc g H2 hg hraw nt npw npc st2 x2 => ?_⟩
    obtain ⟨ht, hw, hc⟩ := id hraw
    have lat : ∀ (H' : Hp) (p : Addr) (zs : List Int), H' p = some (.lst (zs.map V.int)) → zs.length ≤ 5 → LAt H' (.ref p) (some (zs.map V.int)) := fun H' p zs h hl => ⟨p, rfl, h, fun x hx => by
      obtain ⟨n, _, rfl⟩ := List.mem_map.mp hx
      exact ⟨.int, n, rfl⟩, by rw [List.length_map]; omega⟩
    have ki4 : ∀ (H' : Hp) (a b c d : Int), ∀ v ∈ [V.int a, .int b, .int c, .int d], ∃ k, KndOf H' v k := fun H' a b c d v hv => by
      simp only [List.mem_cons, List.not_mem_nil, or_false] at hv
      rcases hv with rfl | rfl | rfl | rfl <;> exact ⟨.int, _, rfl⟩
    have hw8 := hg.w8
    have hcw := hg.cw
    have due := good_due hg hg.t1 (by have := hg.t2; omega)
    have ht200 : g.t ≤ 199 := hg.t2
    have due2 := good_due (t' := g.t + 1) hg (by have := hg.t1; omega) (by omega)
    refine ⟨_, rfl, t, _, _, _, _, _, _, some (g.ws.map V.int), some (g.cs.map V.int), rfl, SqT.of ht, lat _ _ _ hw hw8, lat _ _ _ hc (by omega), ki4 _ _ _ _ _, fun x hx => (by rw [due] at hx; cases hx), fun _ p xs ys H3 q1 q2 e3 hg3 => ?_⟩
    cases q1
    cases q2
    have hp : GameAt A H3 p g := hg3
    obtain ⟨dx, tw, tc, hpi, hptw, hptc⟩ := id hp
    have ht3 := e3 _ _ ht
    have hw3 := e3 _ _ hw
    have hc3 := e3 _ _ hc
    have ltw : g.ws.length ≤ 5 := hw8
    -- what it holds
    refine ⟨_, rfl, p, A.Game, dx, _, _, rfl, hpi, T.Game.cl, T.c_widths, rfl, _, rfl, p, A.Game, dx, _, _, rfl, hpi, T.Game.cl, T.c_counts, rfl, by show 2 ≤ sizeLine; decide, fun u1 hu1 => ?_⟩
    have f1 := Ext.upd (o := .tup [.ref tw, .ref tc]) hu1
    refine ⟨_, rfl, t, _, 0, .ref pw, rfl, rfl, SqT.of (f1 _ _ ht3), rfl, pw, _, rfl, .inl ⟨SqL.of (f1 _ _ hw3), fun u2 hu2 => ?_⟩⟩
    have f2 := Ext.upd (o := .tup (g.ws.map V.int)) hu2
    refine ⟨_, rfl, t, _, 1, .ref pc, rfl, rfl, SqT.of (f2 _ _ (f1 _ _ ht3)), rfl, pc, _, rfl, .inl ⟨SqL.of (f2 _ _ (f1 _ _ hc3)), fun u3 hu3 => ?_⟩⟩
    have f3 := Ext.upd (o := .tup (g.cs.map V.int)) hu3
    refine ⟨by show 2 ≤ sizeLine; decide, fun u4 hu4 => ?_⟩
    have f4 := Ext.upd (o := .tup [.ref u2, .ref u3]) hu4
    have f14 := ((f1.trans f2).trans f3).trans f4
    have g1 := f4 _ _ (f3 _ _ (f2 _ _ (upd_same (H := H3) (a := u1) (o := .tup [.ref tw, .ref tc]))))
    have g2 := f4 _ _ (f3 _ _ (upd_same (H := upd H3 u1 (.tup [.ref tw, .ref tc])) (a := u2) (o := .tup (g.ws.map V.int))))
    have g3 := f4 _ _ (upd_same (H := upd (upd H3 u1 (.tup [.ref tw, .ref tc])) u2 (.tup (g.ws.map V.int))) (a := u3) (o := .tup (g.cs.map V.int)))
    have g4 : upd (upd (upd (upd H3 u1 (.tup [.ref tw, .ref tc])) u2 (.tup (g.ws.map V.int))) u3 (.tup (g.cs.map V.int))) u4 (.tup [.ref u2, .ref u3]) u4 = some (.tup [.ref u2, .ref u3]) := upd_same
    generalize upd (upd (upd (upd H3 u1 (.tup [.ref tw, .ref tc])) u2 (.tup (g.ws.map V.int))) u3 (.tup (g.cs.map V.int))) u4 (.tup [.ref u2, .ref u3]) = H4 at f14 g1 g2 g3 g4 ⊢
    have dtup : ∀ (H' : Hp) (u : Addr) (zs : List Int), H' u = some (.tup (zs.map V.int)) → Dp K H' (.ref u) (.tuple ((zs.map V.int).map pd)) := fun H' u zs h => .tup (SqT.of h) (dp_all fl_ints)
    refine ⟨p2 g.ws g.cs, p2 g.ws g.cs, .tup (SqT.of g1) (.cons (dtup _ _ _ (f14 _ _ hptw)) (.cons (dtup _ _ _ (f14 _ _ hptc)) .nil)), .tup (SqT.of g4) (.cons (dtup _ _ _ g2) (.cons (dtup _ _ _ g3) .nil)), p2_shp _ _, p2_shp _ _, _, rfl, ?_⟩
    rw [p2_same]
    have hp4 := hp.ext f14
    have hpi4 := f14 _ _ hpi
    have ht4 := f14 _ _ ht3
    have hw4 := f14 _ _ hw3
    have hc4 := f14 _ _ hc3
    refine iteF ⟨_, rfl, p, dx, _, rfl, hpi4, p, g, rfl, hp4, (g.ws.length : Int), rfl, ⟨by omega, by omega⟩, _, rfl, t, _, 0, .ref pw, rfl, rfl, SqT.of ht4, rfl, pw, _, rfl, .inl (SqL.of hw4), rfl, _, rfl, ?_⟩
    rw [List.length_map, decide_eq_true rfl]
    -- the ints
    refine iteF ⟨_, rfl, p, A.Game, dx, _, _, rfl, hpi4, T.Game.cl, T.c_least, rfl, _, rfl, p, A.Game, dx, _, _, rfl, hpi4, T.Game.cl, T.c_most, rfl, _, rfl, p, A.Game, dx, _, _, rfl, hpi4, T.Game.cl, T.c_turn, rfl, _, rfl, p, A.Game, dx, _, _, rfl, hpi4, T.Game.cl, T.c_losses, rfl, by show 4 ≤ sizeLine; decide, fun u5 hu5 => ?_⟩
    have f5 := Ext.upd (o := .tup [.int g.l, .int g.m, .int g.t, .int g.o]) hu5
    refine ⟨_, rfl, 2, rfl, t, _, rfl, f5 _ _ ht4, fun u6 H6 e6 hu6 => ?_⟩
    have hcut : cutV [V.ref pw, .ref pc, .int g.l, .int g.m, .int g.t, .int g.o] (some 2) Option.none = [.int g.l, .int g.m, .int g.t, .int g.o] := rfl
    rw [hcut] at hu6
    have fl4 : ∀ v ∈ [V.int g.l, .int g.m, .int g.t, .int g.o], Fl v := fun v hv => by
      simp only [List.mem_cons, List.not_mem_nil, or_false] at hv
      rcases hv with rfl | rfl | rfl | rfl <;> trivial
    refine neD_tup (SqT.of (e6 _ _ upd_same)) (SqT.of hu6) fl4 fl4 ⟨_, rfl, ?_⟩
    rw [eqv_same fl4]
    have e46 := f5.trans e6
    have hp6 := hp4.ext e46
    have ht6 := e46 _ _ ht4
    have hw6 := e46 _ _ hw4
    have hc6 := e46 _ _ hc4
    have m0 : 0 ≤ g.m := by have := hg.l1; have := hg.lm; omega
    have m50 := hg.m50
    have t1 := hg.t1
    -- the bases
    refine iteF ⟨_, rfl, .ref p, rfl, .inl ⟨p, g, rfl, hp6, m0, by omega, by omega, by omega, by omega, fun u7 H7 e7 hu7 => ?_⟩⟩
    have ht7 := e7 _ _ ht6
    have hc7 := e7 _ _ hc6
    refine ⟨_, rfl, t, _, 1, .ref pc, rfl, rfl, SqT.of ht7, rfl, pc, rfl, ⟨_, SqL.of hc7⟩, fun D hD => ?_⟩
    refine lc_list (xs := g.cs.map V.int) (fun i H' => Ext H7 H' ∧ H' D = some (.lst (((g.cs.take i).map (going g)).map V.int))) ⟨Ext.upd hD, upd_same⟩ (fun i H' _ pv => SqL.of (pv.1 _ _ hc7)) (fun i x H' hi pv => ?_) (fun H' pv => ?_)
    · obtain ⟨e8, hl'⟩ := pv
      obtain ⟨n, hn, rfl⟩ : ∃ n, g.cs[i]? = some n ∧ x = .int n := by
        rw [List.getElem?_map] at hi
        cases hn : g.cs[i]? with
        | none => rw [hn] at hi; cases hi
        | some n => rw [hn] at hi; cases hi; exact ⟨n, rfl, rfl⟩
      have ht8 := SqT.of (K := K) (e8 _ _ ht7)
      refine ⟨rfl, _, rfl, _, _, rfl, rfl, .inl ⟨by decide, by decide⟩, _, _, rfl, rfl, _, rfl, t, _, 3, .int g.m, rfl, rfl, ht8, rfl, _, _, rfl, rfl, .inr ⟨by omega, by omega⟩, _, rfl, t, _, 5, .int g.o, rfl, rfl, ht8, rfl, _, rfl, t, _, 4, .int g.t, rfl, rfl, ht8, rfl, _, _, rfl, rfl, .inr ⟨by omega, by omega⟩, _, _, rfl, rfl, _, hl', small1000 (by rw [List.length_map, List.length_map, List.length_take]; omega), ext_mut e8 hD, ?_⟩
      rw [upd_same, List.take_add_one, hn]
      simp [going]
    obtain ⟨e8, hl'⟩ := pv
    rw [List.length_map, List.take_length] at hl'
    refine ⟨D, _, rfl, .inl ⟨SqL.of hl', fun u8 hu8 => ?_⟩⟩
    have f8 := Ext.upd (o := .tup ((g.cs.map (going g)).map V.int)) hu8
    refine neD_tup (SqT.of ((e8.trans f8) _ _ hu7)) (SqT.of upd_same) fl_ints fl_ints ⟨_, rfl, ?_⟩
    rw [eqv_ints, decide_eq_true rfl]
    have e68 := (e7.trans e8).trans f8
    have hp8 := hp6.ext e68
    have ht8 := e68 _ _ ht6
    have hw8' := e68 _ _ hw6
    have hc8 := e68 _ _ hc6
    have e38 : Ext H3 _ := (f14.trans e46).trans e68
    generalize upd H' u8 (.tup ((g.cs.map (going g)).map V.int)) = H8 at e68 hp8 ht8 hw8' hc8 e38 ⊢
    have hpi8 := e38 _ _ hpi
    have tt := SqT.of (K := K) ht8
    -- another one
    refine iteF ⟨_, rfl, t, _, 0, .ref pw, rfl, rfl, tt, rfl, _, rfl, t, _, 1, .ref pc, rfl, rfl, tt, rfl, _, rfl, t, _, 2, .int g.l, rfl, rfl, tt, rfl, _, rfl, t, _, 3, .int g.m, rfl, rfl, tt, rfl, _, rfl, t, _, 4, .int g.t, rfl, rfl, tt, rfl, _, _, rfl, rfl, _, rfl, t, _, 5, .int g.o, rfl, rfl, tt, rfl, by show 6 ≤ sizeLine; decide, fun o1 ho1 => ?_⟩
    have f9 := Ext.upd (o := .tup [.ref pw, .ref pc, .int g.l, .int g.m, .int (g.t + 1), .int g.o]) ho1
    have ho9 : upd H8 o1 (.tup [.ref pw, .ref pc, .int g.l, .int g.m, .int (g.t + 1), .int g.o]) o1 = some (.tup [.ref pw, .ref pc, .int g.l, .int g.m, .int (g.t + 1), .int g.o]) := upd_same
    generalize upd H8 o1 (.tup [.ref pw, .ref pc, .int g.l, .int g.m, .int (g.t + 1), .int g.o]) = H9 at f9 ho9 ⊢
    refine ⟨_, rfl, _, rfl, t, _, _, _, _, _, _, some (g.ws.map V.int), some (g.cs.map V.int), rfl, SqT.of (f9 _ _ ht8), lat _ _ _ (f9 _ _ hw8') hw8, lat _ _ _ (f9 _ _ hc8) (by omega), ki4 _ _ _ _ _, fun x hx => (by rw [due] at hx; cases hx), fun _ pb xs ys H10 q1 q2 e10 hg10 => ?_⟩
    cases q1
    cases q2
    have hb10 : GameAt A H10 pb g := hg10
    obtain ⟨dxb, twb, tcb, hpb, _, _⟩ := id hb10
    have e810 := f9.trans e10
    refine ⟨p, dx, _, .ref A.Game, rfl, e810 _ _ hpi8, T.Game.tyOf hpb, T.Game.nfMe, p, g, .ref pb, rfl, hp8.ext e810, .inl ⟨pb, g, rfl, hb10, _, rfl, _, rfl, ?_⟩⟩
    rw [decide_eq_true rfl]
    refine iteF ⟨_, rfl, _, rfl, o1, _, _, _, _, _, _, some (g.ws.map V.int), some (g.cs.map V.int), rfl, SqT.of (e10 _ _ ho9), lat _ _ _ (e810 _ _ hw8') hw8, lat _ _ _ (e810 _ _ hc8) (by omega), ki4 _ _ _ _ _, fun x hx => (by rw [due2] at hx; cases hx), fun _ pd' xs ys H11 q1 q2 e11 hg11 => ?_⟩
    cases q1
    cases q2
    have hb11 : GameAt A H11 pd' ⟨g.ws, g.cs, g.l, g.m, g.t + 1, g.o⟩ := hg11
    obtain ⟨dxd, twd, tcd, hpd, _, _⟩ := id hb11
    have e811 := e810.trans e11
    refine ⟨p, dx, _, .ref A.Game, rfl, e811 _ _ hpi8, T.Game.tyOf hpd, T.Game.nfMe, p, g, .ref pd', rfl, hp8.ext e811, .inl ⟨pd', _, rfl, hb11, _, rfl, _, rfl, ?_⟩⟩
    rw [decide_eq_false (fun h => by have h5 := (G.eq_iff.mp h).2.2.2.2.1; dsimp only at h5; omega)]
    have ht11 := e811 _ _ ht8
    refine iteF ⟨_, rfl, _, rfl, p, dx, _, .type Knd.tuple.name, rfl, e811 _ _ hpi8, .base (.tup ht11), T.Game.nfK .tuple, p, g, .ref t, rfl, hp8.ext e811, .inr ⟨.tuple, ⟨t, _, rfl, ht11⟩, _, rfl, _, rfl, iteF ?_⟩⟩
    -- three of them turned
    have e311 := e38.trans e811
    have st11 := (st2.ext (e3.trans e311)).le (show 1 + 40 ≤ 100 by omega)
    have x11 : ExtM st H1 H11 := x2.trans (Ext.m (e3.trans e311))
    have raw11 : RawAt H11 t pw pc g := hraw.ext (e3.trans e311)
    refine ⟨3, rfl, by decide, by decide, ?_⟩
    refine for_range (fun i σ' H' => ∃ o5 o6, σ' = [some (.ref sc), some (.ref st), some (.ref t), some (.ref p), some (.ref o1), o5, o6, Option.none, Option.none] ∧ ExtM st H11 H' ∧ StD H' st (100 + 20 * i)) ⟨_, _, rfl, ExtM.rfl', st11⟩ (fun i σ' H12 hi pv => ?_) (fun σ' H12 pv => ?_)
    · obtain ⟨o5, o6, rfl, x12, st12⟩ := pv
      have hi3 : i < 3 := hi
      have raw12 : RawAt H12 t pw pc g := ⟨x12 t _ nt raw11.1, x12 pw _ npw raw11.2.1, x12 pc _ npc raw11.2.2⟩
      refine ⟨_, rfl, _, rfl, _, rfl, sc, st, ns, _, t, pw, pc, g, rfl, hsc.to (x11.trans x12), st12, by omega, hg, raw12, nt, npw, npc, fun u vw vc l m tn o rw rc H13 hu hvw hvc hk st13 x13 => ?_⟩
      refine ⟨_, rfl, u, vw, vc, l, m, tn, o, rw, rc, rfl, SqT.of hu, hvw, hvc, hk, resQ_of fun v1 H14 e14 hv1 => ?_⟩
      refine ⟨_, rfl, u, vw, vc, l, m, tn, o, rw, rc, rfl, SqT.of (e14 _ _ hu), hvw.ext e14, hvc.ext e14, fun v hv => ?_, resQ_of fun v2 H15 e15 hv2 => ?_⟩
      · obtain ⟨kv, h⟩ := hk v hv
        exact ⟨kv, h.ext e14⟩
      have e1315 := e14.trans e15
      cases hd : gameDue rw rc l m tn o with
      | none =>
        rw [hd] at hv1 hv2
        have h1 : v1 = .non := hv1
        have h2 : v2 = .non := hv2
        subst h1 h2
        exact ⟨.none, .none, .non, .non, rfl, rfl, _, rfl, iteF ⟨_, _, rfl, (x12.trans x13).trans (Ext.m e1315), (st13.ext e1315).le (by omega)⟩⟩
      | some x =>
        rw [hd] at hv1 hv2
        obtain ⟨t1, rfl, ht1⟩ := hv1
        obtain ⟨t2, rfl, ht2⟩ := hv2
        have fl := due_fl (due_lay hd)
        refine neD_tup (SqT.of (e15 _ _ ht1)) (SqT.of ht2) fl fl ⟨_, rfl, ?_⟩
        rw [eqv_same fl]
        exact iteF ⟨_, _, rfl, (x12.trans x13).trans (Ext.m e1315), (st13.ext e1315).le (by omega)⟩
    · obtain ⟨o5, o6, rfl, x12, st12⟩ := pv
      have ht12 := x12 t _ nt raw11.1
      refine ⟨_, rfl, .ref t, rfl, .inr ⟨.tuple, ⟨t, _, rfl, ht12⟩, fun H' e1 e he => ⟨true, T.x_pp, fun _ ae hae => ?_, fun z => nomatch z⟩⟩⟩
      refine ⟨_, rfl, rfl, rfl, e, _, _, rfl, upd_same, rfl, rfl, ?_⟩
      rw [decide_eq_true rfl]
      exact k _
end
end K36

set_option Elab.async false
set_option maxRecDepth 100000
set_option maxHeartbeats 4000000
namespace K36
open PySem PySem.Spec PyProof.Rows L2
section
variable {P : Program} {w : World} {K : PySem.W.Frag} {mg : Str → Option Value} {base : Heap} {A : Ad}
theorem kit_ref {B C : Addr} {b : Bool} (i : PySem.W.isClsIn K C = true) (t : PySem.W.typeIn K (.ref C) = some (.type "type")) (s : PySem.W.subIn K (.ref B) (.ref C) = some b) (ss : PySem.W.subIn K (.ref B) (.ref B) = some true) : PySem.W.kitOne K (.ref B) (.ref C) = some b := by
  by_cases h : B = C
  · subst h
    rw [ss] at s
    cases s
    exact if_pos (beq_self_eq_true _)
  · have e : ((PySem.W.clsIn K C).isSome && PySem.W.typeIn K (.ref C) == some (.type "type")) = true := by
      have h1 : (PySem.W.clsIn K C).isSome = true := i
      rw [h1, t]
      rfl
    show (if (Value.ref B == Value.ref C) = true then some true else if ((PySem.W.clsIn K C).isSome && PySem.W.typeIn K (.ref C) == some (.type "type")) = true then PySem.W.subIn K (.ref B) (.ref C) else none) = some b
    rw [if_pos e]
    have hne : ¬ ((Value.ref B == Value.ref C) = true) := fun z => by
      have z' := eq_of_beq z
      injection z' with z'
      exact h z'
    rw [if_neg hne]
    exact s
theorem exm_ref {B C : Addr} {b : Bool} (x : PySem.W.subIn K (.ref C) (.type "BaseException") = some true) (i : PySem.W.isClsIn K C = true) (t : PySem.W.typeIn K (.ref C) = some (.type "type")) (s : PySem.W.subIn K (.ref B) (.ref C) = some b) : PySem.W.exmOne K (.ref B) (.ref C) = some b := by
  unfold PySem.W.exmOne PySem.W.kitCls
  have i' : (PySem.W.clsIn K C).isSome = true := i
  rw [x]
  dsimp only
  rw [i', t, s]
  rfl
theorem ve_one {W : Addr} : PySem.HandSPX.refsVE [.ref W, .type "ValueError", .type "Exception", .type "BaseException", .type "object"] = true := by
  show PySem.HandSPX.refsVE [.type "ValueError", .type "Exception", .type "BaseException", .type "object"] = true
  decide +kernel
theorem law_ok (T : Txt K mg A) (D_is_integer : DefAt K mg "is_integer" s_is_integer pm_is_integer) (D_is_between : DefAt K mg "is_between" s_is_between pm_is_between) (D_is_list : DefAt K mg "is_list" s_is_list pm_is_list) (D_is_list_of : DefAt K mg "is_list_of" s_is_list_of pm_is_list_of) (D_check_widths : DefAt K mg "check_widths" s_check_widths pm_check_widths) (D_check_counts : DefAt K mg "check_counts" s_check_counts pm_check_counts) (D_check_game : DefAt K mg "check_game" s_check_game pm_check_game) (D_greatest_going : DefAt K mg "greatest_going" s_greatest_going pm_greatest_going) (D_bases_of : DefAt K mg "bases_of" s_bases_of pm_bases_of) (D_bases : DefAt K mg "bases" s_bases pm_bases) (D__law_start : DefAt K mg "_law_start" s__law_start pm__law_start) (D__law_draw : DefAt K mg "_law_draw" s__law_draw pm__law_draw) (D__law_raw : DefAt K mg "_law_raw" s__law_raw pm__law_raw) (D__law_made : DefAt K mg "_law_made" s__law_made pm__law_made) (D__law_told : DefAt K mg "_law_told" s__law_told pm__law_told) (D__law_is : DefAt K mg "_law_is" s__law_is pm__law_is) (D__law_list_due : DefAt K mg "_law_list_due" s__law_list_due pm__law_list_due) (D__law_due : DefAt K mg "_law_due" s__law_due pm__law_due) (D__law_turned : DefAt K mg "_law_turned" s__law_turned pm__law_turned)
    (M_Game_len : MethAt K A.Game "__len__" "Game.__len__" s_Game_len pm_Game_len) (M_Game_eq : MethAt K A.Game "__eq__" "Game.__eq__" s_Game_eq pm_Game_eq)
    {fk_Game : Addr} {fdk_Game : FuncData} (FK_Game : Fun K "__init__" "Game.__init__" s_Game_init fk_Game fdk_Game) (MK_Game : Mk K A.Game fk_Game) (KB_Game : KBa K fdk_Game pm_Game_init 3 ["least", "most", "turn", "losses"])
    {f : Addr} {fd : FuncData} (F : Fun K "law" "law" s_law f fd) : FnOk P w K mg base CX0 12 f fd pm_law (spLaw K) := by
  have X_BadPart : XCls P w K mg base "BadPart" "part" A.BadPart := T.BadPart.cls fun _ _ F => ok_xp F T
  have X_BadOrder : XCls P w K mg base "BadOrder" "index" A.BadOrder := T.BadOrder.cls fun _ _ F => ok_xo F T

  have O1 : Own P w K mg base CX0 "is_integer" 1 pm_is_integer spInteger := D_is_integer.own fun f fd F => ok_integer F T
  have O2 : Own P w K mg base CX0 "is_between" 2 pm_is_between spBetween := D_is_between.own fun f fd F => ok_between F O1
  have O3 : Own P w K mg base CX0 "is_list" 1 pm_is_list spIsList := D_is_list.own fun f fd F => ok_isList F T
  have O4 : Own P w K mg base CX0 "is_list_of" 2 pm_is_list_of spListOf := D_is_list_of.own fun f fd F => ok_listOf F T O3
  have O5 : Own P w K mg base (L2.CX P w) "check_widths" 4 pm_check_widths (spCheckWidths A) := D_check_widths.own fun f fd F => ok_checkWidths F T O2 O4 X_BadPart X_BadOrder
  have O6 : Own P w K mg base (L2.CX P w) "check_counts" 4 pm_check_counts (spCheckCounts A) := D_check_counts.own fun f fd F => ok_checkCounts F T O2 O4 X_BadPart X_BadOrder
  have OG : OwnCK P w K mg base (L2.CX P w) "Game" A.Game 6 pm_Game_init 2 ["least", "most", "turn", "losses"] (spGameInit A) := ⟨fk_Game, fdk_Game, ok_gameInit FK_Game T O2 O5 O6 X_BadPart, MK_Game, T.Game.gC, KB_Game⟩
  have OGl : OwnM P w K mg base CX0 A.Game "__len__" 1 pm_Game_len (spGameLen A) := M_Game_len.own fun f fd F => ok_gameLen F T
  have OGe : OwnM P w K mg base CX0 A.Game "__eq__" 1 pm_Game_eq (spGameEq A) := M_Game_eq.own fun f fd F => ok_gameEq F T
  have O7 : Own P w K mg base (L2.CX P w) "check_game" 3 pm_check_game (spCheckGame A) := D_check_game.own fun f fd F => ok_checkGame F T X_BadPart
  have O8 : Own P w K mg base CX0 "greatest_going" 1 pm_greatest_going (spGoing A) := D_greatest_going.own fun f fd F => ok_going F T
  have O9 : Own P w K mg base CX0 "bases_of" 2 pm_bases_of (spBasesOf A) := D_bases_of.own fun f fd F => ok_basesOf F T O8
  have O10 : Own P w K mg base (L2.CX P w) "bases" 5 pm_bases (spBases A) := D_bases.own fun f fd F => ok_bases F T O7 O9
  have O11 : Own P w K mg base CX0 "_law_start" 1 pm__law_start (spStart K) := D__law_start.own fun f fd F => ok_start F T
  have O12 : Own P w K mg base CX0 "_law_draw" 1 pm__law_draw (spDraw K) := D__law_draw.own fun f fd F => ok_draw F T
  have O13 : Own P w K mg base CX0 "_law_raw" 2 pm__law_raw (spRaw K) := D__law_raw.own fun f fd F => ok_raw F T O12
  have O14 : Own P w K mg base (L2.CX P w) "_law_made" 8 pm__law_made (spMade K A) := D__law_made.own fun f fd F => ok_made F T OG
  have O15 : Own P w K mg base CX0 "_law_told" 9 pm__law_told (spTold K) := D__law_told.own fun f fd F => ok_told F T O14
  have O16 : Own P w K mg base CX0 "_law_is" 1 pm__law_is spBetween := D__law_is.own fun f fd F => ok_is F T
  have O17 : Own P w K mg base CX0 "_law_list_due" 3 pm__law_list_due spListDue := D__law_list_due.own fun f fd F => ok_listDue F T O16
  have O18 : Own P w K mg base CX0 "_law_due" 4 pm__law_due (spDue K) := D__law_due.own fun f fd F => ok_due F T O16 O17
  have O19 : Own P w K mg base CX0 "_law_turned" 2 pm__law_turned (spTurned K) := D__law_turned.own fun f fd F => ok_turned F T O12
  exact ok_law F T O11 O13 O14 OGl OGe O10 O19 O15 O18
end
theorem all_mk {P : Program} {w : World} {K : PySem.W.Frag} {h : Heap} {mg : Str → Option Value} {fa   ABadPart ABadOrder AWholeError AGame f_is_integer f_is_between f_is_list f_is_list_of f_check_widths f_check_counts f_check_game f_greatest_going f_bases_of f_bases f__law_start f__law_draw f__law_raw f__law_made f__law_told f__law_is f__law_list_due f__law_due f__law_turned f_law f_BadPart_init f_BadOrder_init f_Game_init f_Game_len f_Game_eq : Addr} (X : K.In h) (G : h.Ns mainGlobals mg) (hfa : mg "law" = some (.ref fa))
    {od_is_integer an_is_integer od_is_between an_is_between od_is_list an_is_list od_is_list_of an_is_list_of od_check_widths an_check_widths od_check_counts an_check_counts od_check_game an_check_game od_greatest_going an_greatest_going od_bases_of an_bases_of od_bases an_bases od__law_start an__law_start od__law_draw an__law_draw od__law_raw an__law_raw od__law_made an__law_made od__law_told an__law_told od__law_is an__law_is od__law_list_due an__law_list_due od__law_due an__law_due od__law_turned an__law_turned od_law an_law od_BadPart_init an_BadPart_init od_BadOrder_init an_BadOrder_init od_Game_init an_Game_init od_Game_len an_Game_len od_Game_eq an_Game_eq : Option Addr} {sl_is_integer sl_is_between sl_is_list sl_is_list_of sl_check_widths sl_check_counts sl_check_game sl_greatest_going sl_bases_of sl_bases sl__law_start sl__law_draw sl__law_raw sl__law_made sl__law_told sl__law_is sl__law_list_due sl__law_due sl__law_turned sl_law sl_BadPart_init sl_BadOrder_init sl_Game_init sl_Game_len sl_Game_eq : Array (Option Value)} {oc_is_integer kV_is_integer dc_is_integer pm_is_integer_ cd_is_integer ct_is_integer oc_is_between kV_is_between dc_is_between pm_is_between_ cd_is_between ct_is_between oc_is_list kV_is_list dc_is_list pm_is_list_ cd_is_list ct_is_list oc_is_list_of kV_is_list_of dc_is_list_of pm_is_list_of_ cd_is_list_of ct_is_list_of oc_check_widths kV_check_widths dc_check_widths pm_check_widths_ cd_check_widths ct_check_widths oc_check_counts kV_check_counts dc_check_counts pm_check_counts_ cd_check_counts ct_check_counts oc_check_game kV_check_game dc_check_game pm_check_game_ cd_check_game ct_check_game oc_greatest_going kV_greatest_going dc_greatest_going pm_greatest_going_ cd_greatest_going ct_greatest_going oc_bases_of kV_bases_of dc_bases_of pm_bases_of_ cd_bases_of ct_bases_of oc_bases kV_bases dc_bases pm_bases_ cd_bases ct_bases oc__law_start kV__law_start dc__law_start pm__law_start_ cd__law_start ct__law_start oc__law_draw kV__law_draw dc__law_draw pm__law_draw_ cd__law_draw ct__law_draw oc__law_raw kV__law_raw dc__law_raw pm__law_raw_ cd__law_raw ct__law_raw oc__law_made kV__law_made dc__law_made pm__law_made_ cd__law_made ct__law_made oc__law_told kV__law_told dc__law_told pm__law_told_ cd__law_told ct__law_told oc__law_is kV__law_is dc__law_is pm__law_is_ cd__law_is ct__law_is oc__law_list_due kV__law_list_due dc__law_list_due pm__law_list_due_ cd__law_list_due ct__law_list_due oc__law_due kV__law_due dc__law_due pm__law_due_ cd__law_due ct__law_due oc__law_turned kV__law_turned dc__law_turned pm__law_turned_ cd__law_turned ct__law_turned oc_law kV_law dc_law pm_law_ cd_law ct_law oc_BadPart_init kV_BadPart_init dc_BadPart_init pm_BadPart_init_ cd_BadPart_init ct_BadPart_init oc_BadOrder_init kV_BadOrder_init dc_BadOrder_init pm_BadOrder_init_ cd_BadOrder_init ct_BadOrder_init oc_Game_init kV_Game_init dc_Game_init pm_Game_init_ cd_Game_init ct_Game_init oc_Game_len kV_Game_len dc_Game_len pm_Game_len_ cd_Game_len ct_Game_len oc_Game_eq kV_Game_eq dc_Game_eq pm_Game_eq_ cd_Game_eq ct_Game_eq : Value} {t_MOST_DELAY t_MOST_TURN t_MOST_LOSSES t_MOST_WIDTHS t_MOST_WIDTH t_MOST_COUNT : Tok}
    {xBadPart_nm xBadPart_q : Str} {xBadPart_N : Addr} {xBadPart_bs : List Value} {xBadPart_sn : List Str} {xBadPart_sub : List Value} {xBadPart_ab : Bool} {xBadPart_col : Option Bool} {xBadPart_dd : Option Addr} {xBadPart_m0 xBadPart_m1 xBadPart_m2 xBadPart_m3 xBadPart_m5 : Option Value}
    {xBadOrder_nm xBadOrder_q : Str} {xBadOrder_N : Addr} {xBadOrder_bs : List Value} {xBadOrder_sn : List Str} {xBadOrder_sub : List Value} {xBadOrder_ab : Bool} {xBadOrder_col : Option Bool} {xBadOrder_dd : Option Addr} {xBadOrder_m0 xBadOrder_m1 xBadOrder_m2 xBadOrder_m3 xBadOrder_m5 : Option Value}
    (g_BadPart : PySem.W.nsIn K mainGlobals "BadPart" = some (some (.ref ABadPart)))
    (g_BadOrder : PySem.W.nsIn K mainGlobals "BadOrder" = some (some (.ref ABadOrder)))
    (g_WholeError : PySem.W.nsIn K mainGlobals "WholeError" = some (some (.ref AWholeError)))
    (g_Game : PySem.W.nsIn K mainGlobals "Game" = some (some (.ref AGame)))
    (a_is_integer : PySem.W.nsIn K mainGlobals "is_integer" = some (some (.ref f_is_integer)))
    (l_is_integer : K.lookup f_is_integer = some ⟨oc_is_integer, od_is_integer, .func (PySem.W.fnOf "is_integer" "is_integer" (defArgs s_is_integer) (defBody s_is_integer) (defScope s_is_integer) .none kV_is_integer dc_is_integer pm_is_integer_ an_is_integer cd_is_integer ct_is_integer), sl_is_integer⟩)
    (c_is_integer : PySem.W.codeIn K cd_is_integer "is_integer" = true)
    (k_is_integer : PySem.W.keepIn K (.ref f_is_integer) = true)
    (a_is_between : PySem.W.nsIn K mainGlobals "is_between" = some (some (.ref f_is_between)))
    (l_is_between : K.lookup f_is_between = some ⟨oc_is_between, od_is_between, .func (PySem.W.fnOf "is_between" "is_between" (defArgs s_is_between) (defBody s_is_between) (defScope s_is_between) .none kV_is_between dc_is_between pm_is_between_ an_is_between cd_is_between ct_is_between), sl_is_between⟩)
    (c_is_between : PySem.W.codeIn K cd_is_between "is_between" = true)
    (k_is_between : PySem.W.keepIn K (.ref f_is_between) = true)
    (a_is_list : PySem.W.nsIn K mainGlobals "is_list" = some (some (.ref f_is_list)))
    (l_is_list : K.lookup f_is_list = some ⟨oc_is_list, od_is_list, .func (PySem.W.fnOf "is_list" "is_list" (defArgs s_is_list) (defBody s_is_list) (defScope s_is_list) .none kV_is_list dc_is_list pm_is_list_ an_is_list cd_is_list ct_is_list), sl_is_list⟩)
    (c_is_list : PySem.W.codeIn K cd_is_list "is_list" = true)
    (k_is_list : PySem.W.keepIn K (.ref f_is_list) = true)
    (a_is_list_of : PySem.W.nsIn K mainGlobals "is_list_of" = some (some (.ref f_is_list_of)))
    (l_is_list_of : K.lookup f_is_list_of = some ⟨oc_is_list_of, od_is_list_of, .func (PySem.W.fnOf "is_list_of" "is_list_of" (defArgs s_is_list_of) (defBody s_is_list_of) (defScope s_is_list_of) .none kV_is_list_of dc_is_list_of pm_is_list_of_ an_is_list_of cd_is_list_of ct_is_list_of), sl_is_list_of⟩)
    (c_is_list_of : PySem.W.codeIn K cd_is_list_of "is_list_of" = true)
    (k_is_list_of : PySem.W.keepIn K (.ref f_is_list_of) = true)
    (a_check_widths : PySem.W.nsIn K mainGlobals "check_widths" = some (some (.ref f_check_widths)))
    (l_check_widths : K.lookup f_check_widths = some ⟨oc_check_widths, od_check_widths, .func (PySem.W.fnOf "check_widths" "check_widths" (defArgs s_check_widths) (defBody s_check_widths) (defScope s_check_widths) .none kV_check_widths dc_check_widths pm_check_widths_ an_check_widths cd_check_widths ct_check_widths), sl_check_widths⟩)
    (c_check_widths : PySem.W.codeIn K cd_check_widths "check_widths" = true)
    (k_check_widths : PySem.W.keepIn K (.ref f_check_widths) = true)
    (a_check_counts : PySem.W.nsIn K mainGlobals "check_counts" = some (some (.ref f_check_counts)))
    (l_check_counts : K.lookup f_check_counts = some ⟨oc_check_counts, od_check_counts, .func (PySem.W.fnOf "check_counts" "check_counts" (defArgs s_check_counts) (defBody s_check_counts) (defScope s_check_counts) .none kV_check_counts dc_check_counts pm_check_counts_ an_check_counts cd_check_counts ct_check_counts), sl_check_counts⟩)
    (c_check_counts : PySem.W.codeIn K cd_check_counts "check_counts" = true)
    (k_check_counts : PySem.W.keepIn K (.ref f_check_counts) = true)
    (a_check_game : PySem.W.nsIn K mainGlobals "check_game" = some (some (.ref f_check_game)))
    (l_check_game : K.lookup f_check_game = some ⟨oc_check_game, od_check_game, .func (PySem.W.fnOf "check_game" "check_game" (defArgs s_check_game) (defBody s_check_game) (defScope s_check_game) .none kV_check_game dc_check_game pm_check_game_ an_check_game cd_check_game ct_check_game), sl_check_game⟩)
    (c_check_game : PySem.W.codeIn K cd_check_game "check_game" = true)
    (k_check_game : PySem.W.keepIn K (.ref f_check_game) = true)
    (a_greatest_going : PySem.W.nsIn K mainGlobals "greatest_going" = some (some (.ref f_greatest_going)))
    (l_greatest_going : K.lookup f_greatest_going = some ⟨oc_greatest_going, od_greatest_going, .func (PySem.W.fnOf "greatest_going" "greatest_going" (defArgs s_greatest_going) (defBody s_greatest_going) (defScope s_greatest_going) .none kV_greatest_going dc_greatest_going pm_greatest_going_ an_greatest_going cd_greatest_going ct_greatest_going), sl_greatest_going⟩)
    (c_greatest_going : PySem.W.codeIn K cd_greatest_going "greatest_going" = true)
    (k_greatest_going : PySem.W.keepIn K (.ref f_greatest_going) = true)
    (a_bases_of : PySem.W.nsIn K mainGlobals "bases_of" = some (some (.ref f_bases_of)))
    (l_bases_of : K.lookup f_bases_of = some ⟨oc_bases_of, od_bases_of, .func (PySem.W.fnOf "bases_of" "bases_of" (defArgs s_bases_of) (defBody s_bases_of) (defScope s_bases_of) .none kV_bases_of dc_bases_of pm_bases_of_ an_bases_of cd_bases_of ct_bases_of), sl_bases_of⟩)
    (c_bases_of : PySem.W.codeIn K cd_bases_of "bases_of" = true)
    (k_bases_of : PySem.W.keepIn K (.ref f_bases_of) = true)
    (a_bases : PySem.W.nsIn K mainGlobals "bases" = some (some (.ref f_bases)))
    (l_bases : K.lookup f_bases = some ⟨oc_bases, od_bases, .func (PySem.W.fnOf "bases" "bases" (defArgs s_bases) (defBody s_bases) (defScope s_bases) .none kV_bases dc_bases pm_bases_ an_bases cd_bases ct_bases), sl_bases⟩)
    (c_bases : PySem.W.codeIn K cd_bases "bases" = true)
    (k_bases : PySem.W.keepIn K (.ref f_bases) = true)
    (a__law_start : PySem.W.nsIn K mainGlobals "_law_start" = some (some (.ref f__law_start)))
    (l__law_start : K.lookup f__law_start = some ⟨oc__law_start, od__law_start, .func (PySem.W.fnOf "_law_start" "_law_start" (defArgs s__law_start) (defBody s__law_start) (defScope s__law_start) .none kV__law_start dc__law_start pm__law_start_ an__law_start cd__law_start ct__law_start), sl__law_start⟩)
    (c__law_start : PySem.W.codeIn K cd__law_start "_law_start" = true)
    (k__law_start : PySem.W.keepIn K (.ref f__law_start) = true)
    (a__law_draw : PySem.W.nsIn K mainGlobals "_law_draw" = some (some (.ref f__law_draw)))
    (l__law_draw : K.lookup f__law_draw = some ⟨oc__law_draw, od__law_draw, .func (PySem.W.fnOf "_law_draw" "_law_draw" (defArgs s__law_draw) (defBody s__law_draw) (defScope s__law_draw) .none kV__law_draw dc__law_draw pm__law_draw_ an__law_draw cd__law_draw ct__law_draw), sl__law_draw⟩)
    (c__law_draw : PySem.W.codeIn K cd__law_draw "_law_draw" = true)
    (k__law_draw : PySem.W.keepIn K (.ref f__law_draw) = true)
    (a__law_raw : PySem.W.nsIn K mainGlobals "_law_raw" = some (some (.ref f__law_raw)))
    (l__law_raw : K.lookup f__law_raw = some ⟨oc__law_raw, od__law_raw, .func (PySem.W.fnOf "_law_raw" "_law_raw" (defArgs s__law_raw) (defBody s__law_raw) (defScope s__law_raw) .none kV__law_raw dc__law_raw pm__law_raw_ an__law_raw cd__law_raw ct__law_raw), sl__law_raw⟩)
    (c__law_raw : PySem.W.codeIn K cd__law_raw "_law_raw" = true)
    (k__law_raw : PySem.W.keepIn K (.ref f__law_raw) = true)
    (a__law_made : PySem.W.nsIn K mainGlobals "_law_made" = some (some (.ref f__law_made)))
    (l__law_made : K.lookup f__law_made = some ⟨oc__law_made, od__law_made, .func (PySem.W.fnOf "_law_made" "_law_made" (defArgs s__law_made) (defBody s__law_made) (defScope s__law_made) .none kV__law_made dc__law_made pm__law_made_ an__law_made cd__law_made ct__law_made), sl__law_made⟩)
    (c__law_made : PySem.W.codeIn K cd__law_made "_law_made" = true)
    (k__law_made : PySem.W.keepIn K (.ref f__law_made) = true)
    (a__law_told : PySem.W.nsIn K mainGlobals "_law_told" = some (some (.ref f__law_told)))
    (l__law_told : K.lookup f__law_told = some ⟨oc__law_told, od__law_told, .func (PySem.W.fnOf "_law_told" "_law_told" (defArgs s__law_told) (defBody s__law_told) (defScope s__law_told) .none kV__law_told dc__law_told pm__law_told_ an__law_told cd__law_told ct__law_told), sl__law_told⟩)
    (c__law_told : PySem.W.codeIn K cd__law_told "_law_told" = true)
    (k__law_told : PySem.W.keepIn K (.ref f__law_told) = true)
    (a__law_is : PySem.W.nsIn K mainGlobals "_law_is" = some (some (.ref f__law_is)))
    (l__law_is : K.lookup f__law_is = some ⟨oc__law_is, od__law_is, .func (PySem.W.fnOf "_law_is" "_law_is" (defArgs s__law_is) (defBody s__law_is) (defScope s__law_is) .none kV__law_is dc__law_is pm__law_is_ an__law_is cd__law_is ct__law_is), sl__law_is⟩)
    (c__law_is : PySem.W.codeIn K cd__law_is "_law_is" = true)
    (k__law_is : PySem.W.keepIn K (.ref f__law_is) = true)
    (a__law_list_due : PySem.W.nsIn K mainGlobals "_law_list_due" = some (some (.ref f__law_list_due)))
    (l__law_list_due : K.lookup f__law_list_due = some ⟨oc__law_list_due, od__law_list_due, .func (PySem.W.fnOf "_law_list_due" "_law_list_due" (defArgs s__law_list_due) (defBody s__law_list_due) (defScope s__law_list_due) .none kV__law_list_due dc__law_list_due pm__law_list_due_ an__law_list_due cd__law_list_due ct__law_list_due), sl__law_list_due⟩)
    (c__law_list_due : PySem.W.codeIn K cd__law_list_due "_law_list_due" = true)
    (k__law_list_due : PySem.W.keepIn K (.ref f__law_list_due) = true)
    (a__law_due : PySem.W.nsIn K mainGlobals "_law_due" = some (some (.ref f__law_due)))
    (l__law_due : K.lookup f__law_due = some ⟨oc__law_due, od__law_due, .func (PySem.W.fnOf "_law_due" "_law_due" (defArgs s__law_due) (defBody s__law_due) (defScope s__law_due) .none kV__law_due dc__law_due pm__law_due_ an__law_due cd__law_due ct__law_due), sl__law_due⟩)
    (c__law_due : PySem.W.codeIn K cd__law_due "_law_due" = true)
    (k__law_due : PySem.W.keepIn K (.ref f__law_due) = true)
    (a__law_turned : PySem.W.nsIn K mainGlobals "_law_turned" = some (some (.ref f__law_turned)))
    (l__law_turned : K.lookup f__law_turned = some ⟨oc__law_turned, od__law_turned, .func (PySem.W.fnOf "_law_turned" "_law_turned" (defArgs s__law_turned) (defBody s__law_turned) (defScope s__law_turned) .none kV__law_turned dc__law_turned pm__law_turned_ an__law_turned cd__law_turned ct__law_turned), sl__law_turned⟩)
    (c__law_turned : PySem.W.codeIn K cd__law_turned "_law_turned" = true)
    (k__law_turned : PySem.W.keepIn K (.ref f__law_turned) = true)
    (a_law : PySem.W.nsIn K mainGlobals "law" = some (some (.ref f_law)))
    (l_law : K.lookup f_law = some ⟨oc_law, od_law, .func (PySem.W.fnOf "law" "law" (defArgs s_law) (defBody s_law) (defScope s_law) .none kV_law dc_law pm_law_ an_law cd_law ct_law), sl_law⟩)
    (c_law : PySem.W.codeIn K cd_law "law" = true)
    (k_law : PySem.W.keepIn K (.ref f_law) = true)
    (a_BadPart_init : PySem.W.findIn K (.ref ABadPart) "__init__" = some (some (.ref f_BadPart_init)))
    (i_BadPart_init : PySem.W.typeIn K (.ref f_BadPart_init) = some (.type "function"))
    (l_BadPart_init : K.lookup f_BadPart_init = some ⟨oc_BadPart_init, od_BadPart_init, .func (PySem.W.fnOf "__init__" "BadPart.__init__" (defArgs s_BadPart_init) (defBody s_BadPart_init) (defScope s_BadPart_init) .none kV_BadPart_init dc_BadPart_init pm_BadPart_init_ an_BadPart_init cd_BadPart_init ct_BadPart_init), sl_BadPart_init⟩)
    (c_BadPart_init : PySem.W.codeIn K cd_BadPart_init "BadPart.__init__" = true)
    (k_BadPart_init : PySem.W.keepIn K (.ref f_BadPart_init) = true)
    (a_BadOrder_init : PySem.W.findIn K (.ref ABadOrder) "__init__" = some (some (.ref f_BadOrder_init)))
    (i_BadOrder_init : PySem.W.typeIn K (.ref f_BadOrder_init) = some (.type "function"))
    (l_BadOrder_init : K.lookup f_BadOrder_init = some ⟨oc_BadOrder_init, od_BadOrder_init, .func (PySem.W.fnOf "__init__" "BadOrder.__init__" (defArgs s_BadOrder_init) (defBody s_BadOrder_init) (defScope s_BadOrder_init) .none kV_BadOrder_init dc_BadOrder_init pm_BadOrder_init_ an_BadOrder_init cd_BadOrder_init ct_BadOrder_init), sl_BadOrder_init⟩)
    (c_BadOrder_init : PySem.W.codeIn K cd_BadOrder_init "BadOrder.__init__" = true)
    (k_BadOrder_init : PySem.W.keepIn K (.ref f_BadOrder_init) = true)
    (a_Game_init : PySem.W.findIn K (.ref AGame) "__init__" = some (some (.ref f_Game_init)))
    (i_Game_init : PySem.W.isFn K (.ref f_Game_init) = true)
    (l_Game_init : K.lookup f_Game_init = some ⟨oc_Game_init, od_Game_init, .func (PySem.W.fnOf "__init__" "Game.__init__" (defArgs s_Game_init) (defBody s_Game_init) (defScope s_Game_init) .none kV_Game_init dc_Game_init pm_Game_init_ an_Game_init cd_Game_init ct_Game_init), sl_Game_init⟩)
    (c_Game_init : PySem.W.codeIn K cd_Game_init "Game.__init__" = true)
    (k_Game_init : PySem.W.keepIn K (.ref f_Game_init) = true)
    (a_Game_len : PySem.W.findIn K (.ref AGame) "__len__" = some (some (.ref f_Game_len)))
    (i_Game_len : PySem.W.isFn K (.ref f_Game_len) = true)
    (l_Game_len : K.lookup f_Game_len = some ⟨oc_Game_len, od_Game_len, .func (PySem.W.fnOf "__len__" "Game.__len__" (defArgs s_Game_len) (defBody s_Game_len) (defScope s_Game_len) .none kV_Game_len dc_Game_len pm_Game_len_ an_Game_len cd_Game_len ct_Game_len), sl_Game_len⟩)
    (c_Game_len : PySem.W.codeIn K cd_Game_len "Game.__len__" = true)
    (k_Game_len : PySem.W.keepIn K (.ref f_Game_len) = true)
    (a_Game_eq : PySem.W.findIn K (.ref AGame) "__eq__" = some (some (.ref f_Game_eq)))
    (i_Game_eq : PySem.W.isFn K (.ref f_Game_eq) = true)
    (l_Game_eq : K.lookup f_Game_eq = some ⟨oc_Game_eq, od_Game_eq, .func (PySem.W.fnOf "__eq__" "Game.__eq__" (defArgs s_Game_eq) (defBody s_Game_eq) (defScope s_Game_eq) .none kV_Game_eq dc_Game_eq pm_Game_eq_ an_Game_eq cd_Game_eq ct_Game_eq), sl_Game_eq⟩)
    (c_Game_eq : PySem.W.codeIn K cd_Game_eq "Game.__eq__" = true)
    (k_Game_eq : PySem.W.keepIn K (.ref f_Game_eq) = true)
    (n_isinstance : PySem.W.nsIn K mainGlobals "isinstance" = some none)
    (n_int : PySem.W.nsIn K mainGlobals "int" = some none)
    (n_bool : PySem.W.nsIn K mainGlobals "bool" = some none)
    (n_list : PySem.W.nsIn K mainGlobals "list" = some none)
    (n_tuple : PySem.W.nsIn K mainGlobals "tuple" = some none)
    (n_len : PySem.W.nsIn K mainGlobals "len" = some none)
    (n_all : PySem.W.nsIn K mainGlobals "all" = some none)
    (n_range : PySem.W.nsIn K mainGlobals "range" = some none)
    (n_abs : PySem.W.nsIn K mainGlobals "abs" = some none)
    (v_MOST_DELAY : PySem.W.nsIn K mainGlobals "MOST_DELAY" = some (some (.int 50 t_MOST_DELAY)))
    (v_MOST_TURN : PySem.W.nsIn K mainGlobals "MOST_TURN" = some (some (.int 200 t_MOST_TURN)))
    (v_MOST_LOSSES : PySem.W.nsIn K mainGlobals "MOST_LOSSES" = some (some (.int 3 t_MOST_LOSSES)))
    (v_MOST_WIDTHS : PySem.W.nsIn K mainGlobals "MOST_WIDTHS" = some (some (.int 8 t_MOST_WIDTHS)))
    (v_MOST_WIDTH : PySem.W.nsIn K mainGlobals "MOST_WIDTH" = some (some (.int 100 t_MOST_WIDTH)))
    (v_MOST_COUNT : PySem.W.nsIn K mainGlobals "MOST_COUNT" = some (some (.int 5000 t_MOST_COUNT)))
    (s_hn : PySem.W.specialIn K (.builtin "object.__class__") "__get__" = some (some (.builtin "getset_descriptor.__get__")))
    (s_tk : PySem.W.takesIn K (.builtin "object.__class__") = some true)
    (pg_Game : PySem.W.plainGet K AGame Str.empty = true)
    (hd_Game : PySem.W.hasDictIn K AGame = true)
    (po_Game : PySem.W.plainOver K AGame = true)
    (sa_Game : PySem.W.findIn K (.ref AGame) "__setattr__" = some (some (.builtin "object.__setattr__")))
    (ha_Game : PySem.W.findIn K (.ref AGame) "__class__" = some (some (.builtin "object.__class__")))
    (hm_Game : PySem.W.mroIn K AGame (.type "object") = some true)
    (ne_Game : PySem.W.findIn K (.ref AGame) "__ne__" = some (some (.builtin "object.__ne__")))
    (is_Game : PySem.W.isClsIn K AGame = true)
    (ty_Game : PySem.W.typeIn K (.ref AGame) = some (.type "type"))
    (tup_Game : PySem.W.subIn K (.ref AGame) (.type "tuple") = some false)
    (lst_Game : PySem.W.subIn K (.ref AGame) (.type "list") = some false)
    (int_Game : PySem.W.subIn K (.ref AGame) (.type "int") = some false)
    (str_Game : PySem.W.subIn K (.ref AGame) (.type "str") = some false)
    (mk_Game : PySem.W.makesIn K AGame = true)
    (kc_Game : PySem.W.keepIn K (.ref AGame) = true)
    (na_Game_widths : PySem.W.findIn K (.ref AGame) "widths" = some none)
    (na_Game_counts : PySem.W.findIn K (.ref AGame) "counts" = some none)
    (na_Game_least : PySem.W.findIn K (.ref AGame) "least" = some none)
    (na_Game_most : PySem.W.findIn K (.ref AGame) "most" = some none)
    (na_Game_turn : PySem.W.findIn K (.ref AGame) "turn" = some none)
    (na_Game_losses : PySem.W.findIn K (.ref AGame) "losses" = some none)
    (xBadPart_L : K.lookup ABadPart = some (excClassObj xBadPart_nm xBadPart_q ABadPart xBadPart_N xBadPart_bs [.ref AWholeError, .type "ValueError", .type "Exception", .type "BaseException", .type "object"] true xBadPart_sn xBadPart_sub xBadPart_ab xBadPart_col xBadPart_dd xBadPart_m0 xBadPart_m1 xBadPart_m2 xBadPart_m3 xBadPart_m5 "ValueError.__new__"))
    (xBadPart_sa : PySem.W.findIn K (.ref ABadPart) "__setattr__" = some (some (.builtin "object.__setattr__")))
    (xBadPart_ex : PySem.W.subIn K (.ref ABadPart) (.type "BaseException") = some true)
    (xBadPart_ty : PySem.W.typeIn K (.ref ABadPart) = some (.type "type"))
    (xBadPart_kC : PySem.W.keepIn K (.ref ABadPart) = true)
    (xBadPart_noA : PySem.W.findIn K (.ref ABadPart) "part" = some none)
    (xBadPart_hg : PySem.W.findIn K (.ref ABadPart) "__getattribute__" = some (some (.builtin "BaseException.__getattribute__")))
    (xBadPart_hk : PySem.W.findIn K (.ref ABadPart) "__getattr__" = some none)
    (xBadPart_hd : PySem.W.hasDictIn K ABadPart = true)
    (xBadPart_ha : PySem.W.findIn K (.ref ABadPart) "__class__" = some (some (.builtin "object.__class__")))
    (xBadPart_hm : PySem.W.mroIn K ABadPart (.type "object") = some true)
    (xBadPart_is : PySem.W.isClsIn K ABadPart = true)
    (xBadPart_ss : PySem.W.subIn K (.ref ABadPart) (.ref ABadPart) = some true)
    (xBadPart_w : PySem.W.subIn K (.ref ABadPart) (.ref AWholeError) = some true)
    (xBadOrder_L : K.lookup ABadOrder = some (excClassObj xBadOrder_nm xBadOrder_q ABadOrder xBadOrder_N xBadOrder_bs [.ref AWholeError, .type "ValueError", .type "Exception", .type "BaseException", .type "object"] true xBadOrder_sn xBadOrder_sub xBadOrder_ab xBadOrder_col xBadOrder_dd xBadOrder_m0 xBadOrder_m1 xBadOrder_m2 xBadOrder_m3 xBadOrder_m5 "ValueError.__new__"))
    (xBadOrder_sa : PySem.W.findIn K (.ref ABadOrder) "__setattr__" = some (some (.builtin "object.__setattr__")))
    (xBadOrder_ex : PySem.W.subIn K (.ref ABadOrder) (.type "BaseException") = some true)
    (xBadOrder_ty : PySem.W.typeIn K (.ref ABadOrder) = some (.type "type"))
    (xBadOrder_kC : PySem.W.keepIn K (.ref ABadOrder) = true)
    (xBadOrder_noA : PySem.W.findIn K (.ref ABadOrder) "index" = some none)
    (xBadOrder_hg : PySem.W.findIn K (.ref ABadOrder) "__getattribute__" = some (some (.builtin "BaseException.__getattribute__")))
    (xBadOrder_hk : PySem.W.findIn K (.ref ABadOrder) "__getattr__" = some none)
    (xBadOrder_hd : PySem.W.hasDictIn K ABadOrder = true)
    (xBadOrder_ha : PySem.W.findIn K (.ref ABadOrder) "__class__" = some (some (.builtin "object.__class__")))
    (xBadOrder_hm : PySem.W.mroIn K ABadOrder (.type "object") = some true)
    (xBadOrder_is : PySem.W.isClsIn K ABadOrder = true)
    (xBadOrder_ss : PySem.W.subIn K (.ref ABadOrder) (.ref ABadOrder) = some true)
    (xBadOrder_w : PySem.W.subIn K (.ref ABadOrder) (.ref AWholeError) = some true)
    (xo_BadOrder_BadPart : PySem.W.subIn K (.ref ABadOrder) (.ref ABadPart) = some false)
    (xw_i : PySem.W.isClsIn K AWholeError = true)
    (xw_t : PySem.W.typeIn K (.ref AWholeError) = some (.type "type"))
    (xw_b : PySem.W.subIn K (.ref AWholeError) (.type "BaseException") = some true)
    : ∃ fd : FuncData, (∀ (s : Shared) (v : Value), BindsTo s fd ⟨[v], []⟩ [("_law_script", v)]) ∧ ∀ base : Heap, K.In base → base.Ns mainGlobals mg → FnOk P w K mg base CX0 12 fa fd ["_law_script"] (spLaw K) := by
  have e := hfa.symm.trans (PySem.W.mg_of X G a_law)
  cases e
  have F_is_integer := fun_mk (st := s_is_integer) l_is_integer c_is_integer k_is_integer
  have D_is_integer : DefAt K mg "is_integer" s_is_integer pm_is_integer := ⟨_, _, F_is_integer, PySem.W.mg_of X G a_is_integer, F_is_integer.binds (ps := pm_is_integer) fun _ _ _ _ _ _ us hl => match us, hl with | [_], _ => rfl⟩
  have F_is_between := fun_mk (st := s_is_between) l_is_between c_is_between k_is_between
  have D_is_between : DefAt K mg "is_between" s_is_between pm_is_between := ⟨_, _, F_is_between, PySem.W.mg_of X G a_is_between, F_is_between.binds (ps := pm_is_between) fun _ _ _ _ _ _ us hl => match us, hl with | [_, _, _], _ => rfl⟩
  have F_is_list := fun_mk (st := s_is_list) l_is_list c_is_list k_is_list
  have D_is_list : DefAt K mg "is_list" s_is_list pm_is_list := ⟨_, _, F_is_list, PySem.W.mg_of X G a_is_list, F_is_list.binds (ps := pm_is_list) fun _ _ _ _ _ _ us hl => match us, hl with | [_], _ => rfl⟩
  have F_is_list_of := fun_mk (st := s_is_list_of) l_is_list_of c_is_list_of k_is_list_of
  have D_is_list_of : DefAt K mg "is_list_of" s_is_list_of pm_is_list_of := ⟨_, _, F_is_list_of, PySem.W.mg_of X G a_is_list_of, F_is_list_of.binds (ps := pm_is_list_of) fun _ _ _ _ _ _ us hl => match us, hl with | [_, _, _], _ => rfl⟩
  have F_check_widths := fun_mk (st := s_check_widths) l_check_widths c_check_widths k_check_widths
  have D_check_widths : DefAt K mg "check_widths" s_check_widths pm_check_widths := ⟨_, _, F_check_widths, PySem.W.mg_of X G a_check_widths, F_check_widths.binds (ps := pm_check_widths) fun _ _ _ _ _ _ us hl => match us, hl with | [_], _ => rfl⟩
  have F_check_counts := fun_mk (st := s_check_counts) l_check_counts c_check_counts k_check_counts
  have D_check_counts : DefAt K mg "check_counts" s_check_counts pm_check_counts := ⟨_, _, F_check_counts, PySem.W.mg_of X G a_check_counts, F_check_counts.binds (ps := pm_check_counts) fun _ _ _ _ _ _ us hl => match us, hl with | [_, _], _ => rfl⟩
  have F_check_game := fun_mk (st := s_check_game) l_check_game c_check_game k_check_game
  have D_check_game : DefAt K mg "check_game" s_check_game pm_check_game := ⟨_, _, F_check_game, PySem.W.mg_of X G a_check_game, F_check_game.binds (ps := pm_check_game) fun _ _ _ _ _ _ us hl => match us, hl with | [_], _ => rfl⟩
  have F_greatest_going := fun_mk (st := s_greatest_going) l_greatest_going c_greatest_going k_greatest_going
  have D_greatest_going : DefAt K mg "greatest_going" s_greatest_going pm_greatest_going := ⟨_, _, F_greatest_going, PySem.W.mg_of X G a_greatest_going, F_greatest_going.binds (ps := pm_greatest_going) fun _ _ _ _ _ _ us hl => match us, hl with | [_, _, _], _ => rfl⟩
  have F_bases_of := fun_mk (st := s_bases_of) l_bases_of c_bases_of k_bases_of
  have D_bases_of : DefAt K mg "bases_of" s_bases_of pm_bases_of := ⟨_, _, F_bases_of, PySem.W.mg_of X G a_bases_of, F_bases_of.binds (ps := pm_bases_of) fun _ _ _ _ _ _ us hl => match us, hl with | [_], _ => rfl⟩
  have F_bases := fun_mk (st := s_bases) l_bases c_bases k_bases
  have D_bases : DefAt K mg "bases" s_bases pm_bases := ⟨_, _, F_bases, PySem.W.mg_of X G a_bases, F_bases.binds (ps := pm_bases) fun _ _ _ _ _ _ us hl => match us, hl with | [_], _ => rfl⟩
  have F__law_start := fun_mk (st := s__law_start) l__law_start c__law_start k__law_start
  have D__law_start : DefAt K mg "_law_start" s__law_start pm__law_start := ⟨_, _, F__law_start, PySem.W.mg_of X G a__law_start, F__law_start.binds (ps := pm__law_start) fun _ _ _ _ _ _ us hl => match us, hl with | [_], _ => rfl⟩
  have F__law_draw := fun_mk (st := s__law_draw) l__law_draw c__law_draw k__law_draw
  have D__law_draw : DefAt K mg "_law_draw" s__law_draw pm__law_draw := ⟨_, _, F__law_draw, PySem.W.mg_of X G a__law_draw, F__law_draw.binds (ps := pm__law_draw) fun _ _ _ _ _ _ us hl => match us, hl with | [_, _, _], _ => rfl⟩
  have F__law_raw := fun_mk (st := s__law_raw) l__law_raw c__law_raw k__law_raw
  have D__law_raw : DefAt K mg "_law_raw" s__law_raw pm__law_raw := ⟨_, _, F__law_raw, PySem.W.mg_of X G a__law_raw, F__law_raw.binds (ps := pm__law_raw) fun _ _ _ _ _ _ us hl => match us, hl with | [_, _, _], _ => rfl⟩
  have F__law_made := fun_mk (st := s__law_made) l__law_made c__law_made k__law_made
  have D__law_made : DefAt K mg "_law_made" s__law_made pm__law_made := ⟨_, _, F__law_made, PySem.W.mg_of X G a__law_made, F__law_made.binds (ps := pm__law_made) fun _ _ _ _ _ _ us hl => match us, hl with | [_], _ => rfl⟩
  have F__law_told := fun_mk (st := s__law_told) l__law_told c__law_told k__law_told
  have D__law_told : DefAt K mg "_law_told" s__law_told pm__law_told := ⟨_, _, F__law_told, PySem.W.mg_of X G a__law_told, F__law_told.binds (ps := pm__law_told) fun _ _ _ _ _ _ us hl => match us, hl with | [_], _ => rfl⟩
  have F__law_is := fun_mk (st := s__law_is) l__law_is c__law_is k__law_is
  have D__law_is : DefAt K mg "_law_is" s__law_is pm__law_is := ⟨_, _, F__law_is, PySem.W.mg_of X G a__law_is, F__law_is.binds (ps := pm__law_is) fun _ _ _ _ _ _ us hl => match us, hl with | [_, _, _], _ => rfl⟩
  have F__law_list_due := fun_mk (st := s__law_list_due) l__law_list_due c__law_list_due k__law_list_due
  have D__law_list_due : DefAt K mg "_law_list_due" s__law_list_due pm__law_list_due := ⟨_, _, F__law_list_due, PySem.W.mg_of X G a__law_list_due, F__law_list_due.binds (ps := pm__law_list_due) fun _ _ _ _ _ _ us hl => match us, hl with | [_, _, _, _, _], _ => rfl⟩
  have F__law_due := fun_mk (st := s__law_due) l__law_due c__law_due k__law_due
  have D__law_due : DefAt K mg "_law_due" s__law_due pm__law_due := ⟨_, _, F__law_due, PySem.W.mg_of X G a__law_due, F__law_due.binds (ps := pm__law_due) fun _ _ _ _ _ _ us hl => match us, hl with | [_], _ => rfl⟩
  have F__law_turned := fun_mk (st := s__law_turned) l__law_turned c__law_turned k__law_turned
  have D__law_turned : DefAt K mg "_law_turned" s__law_turned pm__law_turned := ⟨_, _, F__law_turned, PySem.W.mg_of X G a__law_turned, F__law_turned.binds (ps := pm__law_turned) fun _ _ _ _ _ _ us hl => match us, hl with | [_, _, _], _ => rfl⟩
  have F_BadPart_init := fun_mk (st := s_BadPart_init) l_BadPart_init c_BadPart_init k_BadPart_init
  have F_BadOrder_init := fun_mk (st := s_BadOrder_init) l_BadOrder_init c_BadOrder_init k_BadOrder_init
  have F_Game_init := fun_mk (st := s_Game_init) l_Game_init c_Game_init k_Game_init
  have KB_Game : KBa K _ pm_Game_init 3 ["least", "most", "turn", "losses"] := F_Game_init.kba fun _ _ _ _ _ _ us ws h1 h2 => match us, h1, ws, h2 with | [_, _, _], _, [_, _, _, _], _ => rfl
  have F_Game_len := fun_mk (st := s_Game_len) l_Game_len c_Game_len k_Game_len
  have M_Game_len : MethAt K AGame "__len__" "Game.__len__" s_Game_len pm_Game_len := ⟨_, _, F_Game_len, a_Game_len, i_Game_len, F_Game_len.binds (ps := pm_Game_len) fun _ _ _ _ _ _ us hl => match us, hl with | [_], _ => rfl⟩
  have F_Game_eq := fun_mk (st := s_Game_eq) l_Game_eq c_Game_eq k_Game_eq
  have M_Game_eq : MethAt K AGame "__eq__" "Game.__eq__" s_Game_eq pm_Game_eq := ⟨_, _, F_Game_eq, a_Game_eq, i_Game_eq, F_Game_eq.binds (ps := pm_Game_eq) fun _ _ _ _ _ _ us hl => match us, hl with | [_, _], _ => rfl⟩
  have T : Txt K mg ⟨ABadPart, ABadOrder, AWholeError, AGame⟩ :=
    { n_isinstance := PySem.W.mg_none_of X G n_isinstance,
      n_int := PySem.W.mg_none_of X G n_int,
      n_bool := PySem.W.mg_none_of X G n_bool,
      n_list := PySem.W.mg_none_of X G n_list,
      n_tuple := PySem.W.mg_none_of X G n_tuple,
      n_len := PySem.W.mg_none_of X G n_len,
      n_all := PySem.W.mg_none_of X G n_all,
      n_range := PySem.W.mg_none_of X G n_range,
      n_abs := PySem.W.mg_none_of X G n_abs,
      g_MOST_DELAY := ⟨_, PySem.W.mg_of X G v_MOST_DELAY⟩,
      g_MOST_TURN := ⟨_, PySem.W.mg_of X G v_MOST_TURN⟩,
      g_MOST_LOSSES := ⟨_, PySem.W.mg_of X G v_MOST_LOSSES⟩,
      g_MOST_WIDTHS := ⟨_, PySem.W.mg_of X G v_MOST_WIDTHS⟩,
      g_MOST_WIDTH := ⟨_, PySem.W.mg_of X G v_MOST_WIDTH⟩,
      g_MOST_COUNT := ⟨_, PySem.W.mg_of X G v_MOST_COUNT⟩,
      Game := ⟨PySem.W.mg_of X G g_Game, ⟨pg_Game, hd_Game, po_Game, sa_Game⟩, ha_Game, s_hn, s_tk, hm_Game, ne_Game, is_Game, ty_Game, tup_Game, lst_Game, int_Game, str_Game⟩,
      c_widths := na_Game_widths,
      c_counts := na_Game_counts,
      c_least := na_Game_least,
      c_most := na_Game_most,
      c_turn := na_Game_turn,
      c_losses := na_Game_losses,
      BadPart := ⟨⟨⟨_, _, _, _, _, _, _, _, _, _, _, _, _, _, _, xBadPart_L, ve_one⟩, xBadPart_sa, xBadPart_ex, xBadPart_ty, xBadPart_kC⟩, PySem.W.mg_of X G g_BadPart, xBadPart_noA, ⟨xBadPart_hg, xBadPart_hk, xBadPart_ex, xBadPart_hd, xBadPart_ha, s_hn, s_tk, xBadPart_hm⟩, _, a_BadPart_init, i_BadPart_init, _, F_BadPart_init, F_BadPart_init.binds (ps := ["self", "part"]) fun _ _ _ _ _ _ us hl => match us, hl with | [_, _], _ => rfl⟩,
      BadOrder := ⟨⟨⟨_, _, _, _, _, _, _, _, _, _, _, _, _, _, _, xBadOrder_L, ve_one⟩, xBadOrder_sa, xBadOrder_ex, xBadOrder_ty, xBadOrder_kC⟩, PySem.W.mg_of X G g_BadOrder, xBadOrder_noA, ⟨xBadOrder_hg, xBadOrder_hk, xBadOrder_ex, xBadOrder_hd, xBadOrder_ha, s_hn, s_tk, xBadOrder_hm⟩, _, a_BadOrder_init, i_BadOrder_init, _, F_BadOrder_init, F_BadOrder_init.binds (ps := ["self", "index"]) fun _ _ _ _ _ _ us hl => match us, hl with | [_, _], _ => rfl⟩,
      x_pp := exm_ref xBadPart_ex xBadPart_is xBadPart_ty xBadPart_ss,
      x_op := exm_ref xBadPart_ex xBadPart_is xBadPart_ty xo_BadOrder_BadPart,
      x_oo := exm_ref xBadOrder_ex xBadOrder_is xBadOrder_ty xBadOrder_ss }
  exact ⟨PySem.W.fnOf "law" "law" (defArgs s_law) (defBody s_law) (defScope s_law) .none kV_law dc_law pm_law_ an_law cd_law ct_law, fun s v => .of_eq rfl, fun base _ _ =>
    law_ok T D_is_integer D_is_between D_is_list D_is_list_of D_check_widths D_check_counts D_check_game D_greatest_going D_bases_of D_bases D__law_start D__law_draw D__law_raw D__law_made D__law_told D__law_is D__law_list_due D__law_due D__law_turned M_Game_len M_Game_eq   F_Game_init ⟨mk_Game, a_Game_init, i_Game_init, kc_Game⟩ KB_Game (fun_mk (st := s_law) l_law c_law k_law)⟩
theorem walk {l : PySem.W.OpenLaw} {q : Program} {loose : List Str} {XP : (Str → Option Value) → Heap → Prop} {YP : World → Heap → Prop} {d : DefRec} {K : Params → PySem.W.Frag} (hn : l.most = some 63) (hdf : d.params.defaults = [])
    (hY : ∀ (w : World) (h : Heap), YP w h → (K w.params).In h)
    (F : ∀ (w : World) (mg : Str → Option Value) (fa : Addr) (h : Heap), (K w.params).In h → h.Ns mainGlobals mg → mg d.name = some (.ref fa) →
      ∃ fd : FuncData, (∀ (s : Shared) (u : Value), BindsTo s fd ⟨[u], []⟩ [("_law_script", u)]) ∧ ∀ base : Heap, (K w.params).In base → base.Ns mainGlobals mg → FnOk l.prog w (K w.params) mg base CX0 12 fa fd ["_law_script"] (spLaw (K w.params))) :
    PySem.W.WalkO q loose XP YP l.row.toRowW d [] (fun f vs => PySem.call f vs) :=
  L2.walk_of (n := 63) (k := 12) (x := "_law_script") (CX := fun _ => CX0) (sp := fun w => spLaw (K w.params)) hn (by decide) hdf ⟨rfl, by decide, by decide⟩ hY F (fun _ _ a ns hl _ hS => ⟨a, ns, rfl, hS, hl, fun _ => rfl⟩) fun _ _ _ _ _ z => z
end K36

open PySem PySem.W PyProof.Rows in
set_option maxRecDepth 100000 in
set_option maxHeartbeats 0 in
theorem PySem.Challenge.cw_wholeline_k36_games_and_their_parts_holds : PySem.Challenge.rw_wholeline_k36_games_and_their_parts.Holds := by
  w_on; o_law; k_head; (case hw => w_witness2)
  k_fill
  refine K36.walk (l := PySem.Challenge.rw_wholeline_k36_games_and_their_parts) rfl rfl (fun w h Y => PySem.W.kIn_of Y) ?F
  case F =>
    intro w mg fa h KX G hmg
    refine' K36.all_mk KX G hmg ?q_g_BadPart ?q_g_BadOrder ?q_g_WholeError ?q_g_Game ?q_a_is_integer ?q_l_is_integer ?q_c_is_integer ?q_k_is_integer ?q_a_is_between ?q_l_is_between ?q_c_is_between ?q_k_is_between ?q_a_is_list ?q_l_is_list ?q_c_is_list ?q_k_is_list ?q_a_is_list_of ?q_l_is_list_of ?q_c_is_list_of ?q_k_is_list_of ?q_a_check_widths ?q_l_check_widths ?q_c_check_widths ?q_k_check_widths ?q_a_check_counts ?q_l_check_counts ?q_c_check_counts ?q_k_check_counts ?q_a_check_game ?q_l_check_game ?q_c_check_game ?q_k_check_game ?q_a_greatest_going ?q_l_greatest_going ?q_c_greatest_going ?q_k_greatest_going ?q_a_bases_of ?q_l_bases_of ?q_c_bases_of ?q_k_bases_of ?q_a_bases ?q_l_bases ?q_c_bases ?q_k_bases ?q_a__law_start ?q_l__law_start ?q_c__law_start ?q_k__law_start ?q_a__law_draw ?q_l__law_draw ?q_c__law_draw ?q_k__law_draw ?q_a__law_raw ?q_l__law_raw ?q_c__law_raw ?q_k__law_raw ?q_a__law_made ?q_l__law_made ?q_c__law_made ?q_k__law_made ?q_a__law_told ?q_l__law_told ?q_c__law_told ?q_k__law_told ?q_a__law_is ?q_l__law_is ?q_c__law_is ?q_k__law_is ?q_a__law_list_due ?q_l__law_list_due ?q_c__law_list_due ?q_k__law_list_due ?q_a__law_due ?q_l__law_due ?q_c__law_due ?q_k__law_due ?q_a__law_turned ?q_l__law_turned ?q_c__law_turned ?q_k__law_turned ?q_a_law ?q_l_law ?q_c_law ?q_k_law ?q_a_BadPart_init ?q_i_BadPart_init ?q_l_BadPart_init ?q_c_BadPart_init ?q_k_BadPart_init ?q_a_BadOrder_init ?q_i_BadOrder_init ?q_l_BadOrder_init ?q_c_BadOrder_init ?q_k_BadOrder_init ?q_a_Game_init ?q_i_Game_init ?q_l_Game_init ?q_c_Game_init ?q_k_Game_init ?q_a_Game_len ?q_i_Game_len ?q_l_Game_len ?q_c_Game_len ?q_k_Game_len ?q_a_Game_eq ?q_i_Game_eq ?q_l_Game_eq ?q_c_Game_eq ?q_k_Game_eq ?q_n_isinstance ?q_n_int ?q_n_bool ?q_n_list ?q_n_tuple ?q_n_len ?q_n_all ?q_n_range ?q_n_abs ?q_v_MOST_DELAY ?q_v_MOST_TURN ?q_v_MOST_LOSSES ?q_v_MOST_WIDTHS ?q_v_MOST_WIDTH ?q_v_MOST_COUNT ?q_s_hn ?q_s_tk ?q_pg_Game ?q_hd_Game ?q_po_Game ?q_sa_Game ?q_ha_Game ?q_hm_Game ?q_ne_Game ?q_is_Game ?q_ty_Game ?q_tup_Game ?q_lst_Game ?q_int_Game ?q_str_Game ?q_mk_Game ?q_kc_Game ?q_na_Game_widths ?q_na_Game_counts ?q_na_Game_least ?q_na_Game_most ?q_na_Game_turn ?q_na_Game_losses ?q_xBadPart_L ?q_xBadPart_sa ?q_xBadPart_ex ?q_xBadPart_ty ?q_xBadPart_kC ?q_xBadPart_noA ?q_xBadPart_hg ?q_xBadPart_hk ?q_xBadPart_hd ?q_xBadPart_ha ?q_xBadPart_hm ?q_xBadPart_is ?q_xBadPart_ss ?q_xBadPart_w ?q_xBadOrder_L ?q_xBadOrder_sa ?q_xBadOrder_ex ?q_xBadOrder_ty ?q_xBadOrder_kC ?q_xBadOrder_noA ?q_xBadOrder_hg ?q_xBadOrder_hk ?q_xBadOrder_hd ?q_xBadOrder_ha ?q_xBadOrder_hm ?q_xBadOrder_is ?q_xBadOrder_ss ?q_xBadOrder_w ?q_xo_BadOrder_BadPart ?q_xw_i ?q_xw_t ?q_xw_b
    (case q_g_BadPart => k_is)
    (case q_g_BadOrder => k_is)
    (case q_g_WholeError => k_is)
    (case q_g_Game => k_is)
    (case q_a_is_integer => k_is)
    (case q_l_is_integer => k_is)
    (case q_c_is_integer => k_is)
    (case q_k_is_integer => k_is)
    (case q_a_is_between => k_is)
    (case q_l_is_between => k_is)
    (case q_c_is_between => k_is)
    (case q_k_is_between => k_is)
    (case q_a_is_list => k_is)
    (case q_l_is_list => k_is)
    (case q_c_is_list => k_is)
    (case q_k_is_list => k_is)
    (case q_a_is_list_of => k_is)
    (case q_l_is_list_of => k_is)
    (case q_c_is_list_of => k_is)
    (case q_k_is_list_of => k_is)
    (case q_a_check_widths => k_is)
    (case q_l_check_widths => k_is)
    (case q_c_check_widths => k_is)
    (case q_k_check_widths => k_is)
    (case q_a_check_counts => k_is)
    (case q_l_check_counts => k_is)
    (case q_c_check_counts => k_is)
    (case q_k_check_counts => k_is)
    (case q_a_check_game => k_is)
    (case q_l_check_game => k_is)
    (case q_c_check_game => k_is)
    (case q_k_check_game => k_is)
    (case q_a_greatest_going => k_is)
    (case q_l_greatest_going => k_is)
    (case q_c_greatest_going => k_is)
    (case q_k_greatest_going => k_is)
    (case q_a_bases_of => k_is)
    (case q_l_bases_of => k_is)
    (case q_c_bases_of => k_is)
    (case q_k_bases_of => k_is)
    (case q_a_bases => k_is)
    (case q_l_bases => k_is)
    (case q_c_bases => k_is)
    (case q_k_bases => k_is)
    (case q_a__law_start => k_is)
    (case q_l__law_start => k_is)
    (case q_c__law_start => k_is)
    (case q_k__law_start => k_is)
    (case q_a__law_draw => k_is)
    (case q_l__law_draw => k_is)
    (case q_c__law_draw => k_is)
    (case q_k__law_draw => k_is)
    (case q_a__law_raw => k_is)
    (case q_l__law_raw => k_is)
    (case q_c__law_raw => k_is)
    (case q_k__law_raw => k_is)
    (case q_a__law_made => k_is)
    (case q_l__law_made => k_is)
    (case q_c__law_made => k_is)
    (case q_k__law_made => k_is)
    (case q_a__law_told => k_is)
    (case q_l__law_told => k_is)
    (case q_c__law_told => k_is)
    (case q_k__law_told => k_is)
    (case q_a__law_is => k_is)
    (case q_l__law_is => k_is)
    (case q_c__law_is => k_is)
    (case q_k__law_is => k_is)
    (case q_a__law_list_due => k_is)
    (case q_l__law_list_due => k_is)
    (case q_c__law_list_due => k_is)
    (case q_k__law_list_due => k_is)
    (case q_a__law_due => k_is)
    (case q_l__law_due => k_is)
    (case q_c__law_due => k_is)
    (case q_k__law_due => k_is)
    (case q_a__law_turned => k_is)
    (case q_l__law_turned => k_is)
    (case q_c__law_turned => k_is)
    (case q_k__law_turned => k_is)
    (case q_a_law => k_is)
    (case q_l_law => k_is)
    (case q_c_law => k_is)
    (case q_k_law => k_is)
    (case q_a_BadPart_init => k_is)
    (case q_i_BadPart_init => k_is)
    (case q_l_BadPart_init => k_is)
    (case q_c_BadPart_init => k_is)
    (case q_k_BadPart_init => k_is)
    (case q_a_BadOrder_init => k_is)
    (case q_i_BadOrder_init => k_is)
    (case q_l_BadOrder_init => k_is)
    (case q_c_BadOrder_init => k_is)
    (case q_k_BadOrder_init => k_is)
    (case q_a_Game_init => k_is)
    (case q_i_Game_init => k_is)
    (case q_l_Game_init => k_is)
    (case q_c_Game_init => k_is)
    (case q_k_Game_init => k_is)
    (case q_a_Game_len => k_is)
    (case q_i_Game_len => k_is)
    (case q_l_Game_len => k_is)
    (case q_c_Game_len => k_is)
    (case q_k_Game_len => k_is)
    (case q_a_Game_eq => k_is)
    (case q_i_Game_eq => k_is)
    (case q_l_Game_eq => k_is)
    (case q_c_Game_eq => k_is)
    (case q_k_Game_eq => k_is)
    (case q_n_isinstance => k_is)
    (case q_n_int => k_is)
    (case q_n_bool => k_is)
    (case q_n_list => k_is)
    (case q_n_tuple => k_is)
    (case q_n_len => k_is)
    (case q_n_all => k_is)
    (case q_n_range => k_is)
    (case q_n_abs => k_is)
    (case q_v_MOST_DELAY => k_is)
    (case q_v_MOST_TURN => k_is)
    (case q_v_MOST_LOSSES => k_is)
    (case q_v_MOST_WIDTHS => k_is)
    (case q_v_MOST_WIDTH => k_is)
    (case q_v_MOST_COUNT => k_is)
    (case q_s_hn => k_is)
    (case q_s_tk => k_is)
    (case q_pg_Game => k_is)
    (case q_hd_Game => k_is)
    (case q_po_Game => k_is)
    (case q_sa_Game => k_is)
    (case q_ha_Game => k_is)
    (case q_hm_Game => k_is)
    (case q_ne_Game => k_is)
    (case q_is_Game => k_is)
    (case q_ty_Game => k_is)
    (case q_tup_Game => k_is)
    (case q_lst_Game => k_is)
    (case q_int_Game => k_is)
    (case q_str_Game => k_is)
    (case q_mk_Game => k_is)
    (case q_kc_Game => k_is)
    (case q_na_Game_widths => k_is)
    (case q_na_Game_counts => k_is)
    (case q_na_Game_least => k_is)
    (case q_na_Game_most => k_is)
    (case q_na_Game_turn => k_is)
    (case q_na_Game_losses => k_is)
    (case q_xBadPart_L => k_is)
    (case q_xBadPart_sa => k_is)
    (case q_xBadPart_ex => k_is)
    (case q_xBadPart_ty => k_is)
    (case q_xBadPart_kC => k_is)
    (case q_xBadPart_noA => k_is)
    (case q_xBadPart_hg => k_is)
    (case q_xBadPart_hk => k_is)
    (case q_xBadPart_hd => k_is)
    (case q_xBadPart_ha => k_is)
    (case q_xBadPart_hm => k_is)
    (case q_xBadPart_is => k_is)
    (case q_xBadPart_ss => k_is)
    (case q_xBadPart_w => k_is)
    (case q_xBadOrder_L => k_is)
    (case q_xBadOrder_sa => k_is)
    (case q_xBadOrder_ex => k_is)
    (case q_xBadOrder_ty => k_is)
    (case q_xBadOrder_kC => k_is)
    (case q_xBadOrder_noA => k_is)
    (case q_xBadOrder_hg => k_is)
    (case q_xBadOrder_hk => k_is)
    (case q_xBadOrder_hd => k_is)
    (case q_xBadOrder_ha => k_is)
    (case q_xBadOrder_hm => k_is)
    (case q_xBadOrder_is => k_is)
    (case q_xBadOrder_ss => k_is)
    (case q_xBadOrder_w => k_is)
    (case q_xo_BadOrder_BadPart => k_is)
    (case q_xw_i => k_is)
    (case q_xw_t => k_is)
    (case q_xw_b => k_is)
