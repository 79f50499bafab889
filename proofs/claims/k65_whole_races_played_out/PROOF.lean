import PyProof.Rows.All
import Wide.All
import OpenK.AllK
import Wide.FinOn
import PyProof.EqAt
import PyProof.EqKinds
import PyProof.TupleCall
import HandS.Base
import HandS.Call
import HandS.List
import HandS.Comp
import HandS.Ends
import HandS.Words
import HandS.WordsList
import HandS.Exc
import HandS.ExcInit
import HandS.ExcIs
import HandS.OwnEq
import HandS.IsInst
import HandS.ExcOwn
import HandS.ExcField
import HandS.WordsExc
import HandS.TryOnly
import HandS.TryMany
import HandS.CallSlots
import HandS.Wide
import HandS.Codes
import KE.KTupSum
import PyProof.ListRange
import KE.GoesEnum
import HandS.Iter
import HandS.Walk
import HandS.HotCalls
import KE.KEqNest
import HandS.Defaults
import HandS.TupAny
import HandS.Evl
import HandS.MakeKwOnly
import HandS.Strs
import HandS.Deep
import HandS.Zip
import HandS.Star
import HandS.Conv
import HandS.IterVal
import HandS.ListItems
import KE.KDictZip
import PySem.Challenge.RW_wholeline_k65_whole_races_played_out
import HandS.Steps
import HandS.SortInts
import KE.DataFind
import HandS.GenCall
import HandS.GenList
import KE.DataMinMax
import HandS.SortKw
import KE.KExcInit
import HandS.SetFor
import HandS.Style
import KE.GoesZip
import KE.GoesMore
import HandS.Remove
import HandS.SlotsOwn
import KE.GoesEnumKw
import PyProof.Rows.CallKwBuiltin
set_option Elab.async false
set_option maxRecDepth 100000
set_option maxHeartbeats 4000000
namespace PySem.W
open PySem PySem.Calls PyProof.Rows
section
variable {prog : Program} {w : World} {A : Around} {E : Value → Shared → Prop} {s : Shared} {K : Frag} {x C L f : Addr} {h₀ : Heap} {m : Str → Option Value} {ox : Obj} {od : Option Obj} {b tb : Value}
theorem objNe_K {Q : Fin → Shared → Prop} (hu : A.units < cLine) (X : K.In s.heap) (I : InstAt s.heap x ox C od)
    (hs : findIn K (.ref C) "__eq__" = some (some (.ref f))) (hf : isFn K (.ref f) = true)
    (h : wpAny (model prog w) A (call (.ref f) [.ref x, b]) (fun v s' => ∃ r, v = .bool r ∧ Q (.done (.ret (.bool (!r)))) s') E s) :
    wpAny (model prog w) A (Builtin.«object.__ne__» ⟨[.ref x, b], []⟩) Q E s := by
  obtain ⟨hp, g, d, tk, os⟩ := s
  unfold Builtin.«object.__ne__»
  repeat (first
    | with_reducible refine wpAny_cRoomFor hu ?_
    | (refine wpAny_bind (m := callSpecialIfBound? (.ref x) (Str.ofString "__eq__") [b])
        (ifBound_K X I hs hf (wpAny_mono h (fun r s' hr => by
          obtain ⟨b, rfl, hq⟩ := hr
          repeat (first | exact hq | exact wpAny_pure hq | exact wpAny_truthy_bool hq | (refine wpAny_bind (m := truthy (.bool _)) (wpAny_truthy_bool ?_)) | wp_step)) fun _ _ e => e)))
    | wp_step)
theorem cmpNe_K {Q : Value → Shared → Prop} (hu : A.units + 1 < cLine) (F : Fr h₀ L s.heap m) (X₀ : K.In h₀) (I : InstAt s.heap x ox C od) (hb : Looks (model prog w) s.heap (typeOf b) tb) (hn : notFirst K C tb = true)
    (hne : findIn K (.ref C) "__ne__" = some (some (.builtin "object.__ne__"))) (hm : mroIn K C (.type "object") = some true)
    (hs : findIn K (.ref C) "__eq__" = some (some (.ref f))) (hf : isFn K (.ref f) = true)
    (h : wpAny (model prog w) A.in1 (call (.ref f) [.ref x, b]) (fun v s' => ∃ r, v = .bool r ∧ Q (.bool (!r)) s') E s) : wpAny (model prog w) A (richCompare .NotEq (.ref x) b) Q E s := by
  have X := X₀.keeps F.keep
  have sub : Looks (model prog w) s.heap (isInstance (.ref x) (.type "object")) true := I.type.andThen (looks_mroIn X hm)
  have one : wpAny (model prog w) A (tryCompare (.ref x) "__ne__" b) (fun r s' => ∃ v, r = some v ∧ Q v s') E s := by
    unfold tryCompare
    refine wpAny_bind ?_
    simp only [callSpecialIfBound?, bindSpecialIfBound?]
    refine wpAny_holding (wpAny_bind (wpAny_bind (wpAny_bind (I.type.here ((looks_findIn X hne).here ?_)))))
    simp only [PySem.F.cmp_object.ne.bind]
    refine wpAny_bind (wpAny_askSetting (wpAny_ite ?_))
    have fin : wpAny (model prog w) A (call (.builtin "object.__ne__") ([.ref x] ++ [b]) >>= fun v => pure (some v)) (fun r s' => wpAny (model prog w) A (match r with
        | some .notImplemented | none => pure none
        | some v => pure (some v)) (fun r s' => ∃ v, r = some v ∧ Q v s') E s') E s := by
      refine wpAny_bind (wpAny_call (codeAny_call_builtin PySem.F.cmp_object.ne.plain PySem.F.cmpEntry_ne (check_slot PySem.F.cmpKind_ne PySem.F.cmpSplit_ne sub (PySem.F.cmpArgs_ne _ _)
        (objNe_K (A := A.in1) hu X I hs hf (wpAny_mono h (fun v s' hv => ?_) fun _ _ e => e)))))
      obtain ⟨r, rfl, hq⟩ := hv
      first | exact ⟨r, rfl, wpAny_pure (wpAny_pure ⟨_, rfl, hq⟩)⟩ | exact ⟨r, rfl, wpAny_pure ⟨_, rfl, hq⟩⟩
    split
    · repeat (first | exact fin | with_reducible refine wpAny_pure ?_ | with_reducible refine wpAny_bind ?_ | with_reducible refine wpAny_tryCatch ?_)
    · refine wpAny_tryCatch ?_
      repeat (first | exact fin | with_reducible refine wpAny_pure ?_ | with_reducible refine wpAny_bind ?_)
  unfold richCompare
  simp only [oneThing_ref]
  refine wpAny_holding (wpAny_bind (wpAny_cRoomFor (Nat.lt_of_succ_lt hu) ?_))
  refine wpAny_bind (I.type.here (wpAny_bind (hb.here ?_)))
  split
  · rename_i q
    have e : subIn K tb (.ref C) = some false := by
      rcases Bool.or_eq_true_iff.mp hn with e | e
      · rw [beq_iff_eq.mp e] at q; simp at q
      · exact beq_iff_eq.mp e
    refine wpAny_bind ((looks_subIn X e).here ?_)
    simp only [Bool.false_eq_true, if_false]
    refine wpAny_bind (wpAny_mono one (fun r s' z => ?_) fun _ _ e => e)
    obtain ⟨v, rfl, hq⟩ := z
    exact wpAny_pure hq
  · refine wpAny_bind (wpAny_pure ?_)
    simp only [Bool.false_eq_true, if_false]
    refine wpAny_bind (wpAny_mono one (fun r s' z => ?_) fun _ _ e => e)
    obtain ⟨v, rfl, hq⟩ := z
    exact wpAny_pure hq
end
end PySem.W

set_option Elab.async false
set_option maxRecDepth 100000
set_option maxHeartbeats 4000000
namespace L2
open PySem PySem.Spec PyProof.Rows
section
variable {X : Cx} {CX : CXT} {k : Nat} {f C : Addr} {fd : FuncData} {ps : List Str} {sp : Sp}
/-- the own method f, called at some frame below with room -/
theorem run_at {A : Around} {pins : List (Addr × Obj)} {σ : St} {H : Hp} {s : Shared} {Q : VK} {us : List Value} {vs : List V} (F : FnOk X.prog X.w X.K X.mg X.base CX k f fd ps sp) (hr : Room k A) (hA : A.frames = X.A.frames) (hb : Binds X.K fd ps []) (hx : Passes CX X E0)
    (I : Inv X pins σ H s) (r : Vals vs us) (h : sp vs H Q E0) : wpAny (model X.prog X.w) A (call (.ref f) us) (EP X pins σ Q) X.xe s := by
  have hl : us.length = ps.length := by rw [← r.length]; exact F.len _ _ _ _ h
  have e0 : Env0 X.prog X.w X.K X.mg X.base A X.stack s H := by
    have e := I.env0
    exact ⟨by rw [hA]; exact e.frames, e.mod, e.bs, e.bsz, e.funs, e.frf, e.hok, e.bare⟩
  refine wpAny_call (codeAny_mono (F.run A X.stack s H ⟨us, []⟩ us vs Q E0 hr e0 (by
    have := hb s us I.kIn (by simpa using hl)
    simpa using this) r h) fun r s' hq => ?_)
  cases r with
  | error e => exact hx pins σ H s e s' I hq
  | ok fl =>
    cases fl with
    | ret u => exact I.after hq
    | next => exact False.elim hq
    | brk => exact False.elim hq
    | cont => exact False.elim hq
/-- x == y, x an instance of the class at C, by its own ==; y anything whose type is known -/
def rEqO (K : PySem.W.Frag) (C : Addr) (sp : Sp) : R2 := fun x y H Q => ∃ a dx fs t, x = .ref a ∧ H a = some (.ins C dx fs) ∧ TyX K H y t ∧ PySem.W.notFirst K C t = true ∧ sp [x, y] H (fun v H' => ∃ b, v = .bl b ∧ Q (.bl b) H') E0
def rNeO (K : PySem.W.Frag) (C : Addr) (sp : Sp) : R2 := fun x y H Q => ∃ a dx fs t, x = .ref a ∧ H a = some (.ins C dx fs) ∧ TyX K H y t ∧ PySem.W.notFirst K C t = true ∧ sp [x, y] H (fun v H' => ∃ b, v = .bl b ∧ Q (.bl (!b)) H') E0
structure EqM (K : PySem.W.Frag) (C f : Addr) : Prop where
  eq : PySem.W.findIn K (.ref C) "__eq__" = some (some (.ref f))
  fn : PySem.W.isFn K (.ref f) = true
  ne : PySem.W.findIn K (.ref C) "__ne__" = some (some (.builtin "object.__ne__"))
  ob : PySem.W.mroIn K C (.type "object") = some true
theorem op_eqO (F : FnOk X.prog X.w X.K X.mg X.base CX k f fd ps sp) (M : EqM X.K C f) (hr : Room k X.A) (hb : Binds X.K fd ps []) (hx : Passes CX X E0) : OpR X (compareOp .Eq) (rEqO X.K C sp) := by
  intro pins s σ H x y v u Q I rx ry hq
  obtain ⟨a, dx, fs, t, rfl, ha, ty, hn, q⟩ := hq
  cases (show v = Value.ref a from rx)
  obtain ⟨P, Z, p, _⟩ := kit_of I ry ty
  obtain ⟨mA, J, _⟩ := ins_get I.hok ha
  obtain ⟨od, J, _⟩ := J.look
  obtain ⟨m, hF⟩ := I.fr
  show wpAny (model X.prog X.w) X.A (richCompare .Eq (.ref a) u) (EP X pins σ Q) X.xe s
  refine PySem.W.cmp_K (op := .Eq) (tb := t) hr.units0 hF I.ok.mod.kin J (Z.ty _ _ I.kIn p) hn M.eq M.fn ?_
  refine wpAny_mono (run_at (vs := [.ref a, y]) F hr rfl hb hx I (.cons rfl (.cons ry .nil)) q) (fun v' s' z => ?_) fun _ _ e => e
  obtain ⟨w', H', I', rv, b, rfl, q'⟩ := z
  cases rv
  exact ⟨.bl b, H', I', rfl, q'⟩
theorem op_neO (F : FnOk X.prog X.w X.K X.mg X.base CX k f fd ps sp) (M : EqM X.K C f) (hr : Room (k + 1) X.A) (hb : Binds X.K fd ps []) (hx : Passes CX X E0) : OpR X (compareOp .NotEq) (rNeO X.K C sp) := by
  intro pins s σ H x y v u Q I rx ry hq
  obtain ⟨a, dx, fs, t, rfl, ha, ty, hn, q⟩ := hq
  cases (show v = Value.ref a from rx)
  obtain ⟨P, Z, p, _⟩ := kit_of I ry ty
  obtain ⟨mA, J, _⟩ := ins_get I.hok ha
  obtain ⟨od, J, _⟩ := J.look
  obtain ⟨m, hF⟩ := I.fr
  show wpAny (model X.prog X.w) X.A (richCompare .NotEq (.ref a) u) (EP X pins σ Q) X.xe s
  refine PySem.W.cmpNe_K (tb := t) (by have := hr.units; omega) hF I.ok.mod.kin J (Z.ty _ _ I.kIn p) hn M.ne M.ob M.eq M.fn ?_
  refine wpAny_mono (run_at (vs := [.ref a, y]) F hr.in1 rfl hb hx I (.cons rfl (.cons ry .nil)) q) (fun v' s' z => ?_) fun _ _ e => e
  obtain ⟨w', H', I', rv, b, rfl, q'⟩ := z
  cases rv
  exact ⟨b, rfl, .bl (!b), H', I', rfl, q'⟩
/-- len(o), o an instance of the class at C with an own __len__ -/
def rLenO (C : Addr) (sp : Sp) : List V → Hp → VK → Prop := fun xs H Q => ∃ a dx fs, xs = [.ref a] ∧ H a = some (.ins C dx fs) ∧ sp [.ref a] H (fun v H' => ∃ n : Int, v = .int n ∧ (0 ≤ n ∧ n < 2 ^ 63) ∧ Q (.int n) H') E0
theorem call_lenO (F : FnOk X.prog X.w X.K X.mg X.base CX k f fd ps sp) (hs : PySem.W.findIn X.K (.ref C) "__len__" = some (some (.ref f))) (hf : PySem.W.isFn X.K (.ref f) = true) (hr : Room (k + 1) X.A) (hb : Binds X.K fd ps []) (hx : Passes CX X E0) :
    CallR X (.builtin "len") (rLenO C sp) := by
  intro pins s σ H xs us Q I r h
  obtain ⟨a, dx, fs, rfl, ha, q⟩ := h
  cases r with
  | cons rx rr =>
    rename_i u us'
    cases rr
    cases (show u = Value.ref a from rx)
    obtain ⟨mA, J, _⟩ := ins_get I.hok ha
    obtain ⟨od, J, _⟩ := J.look
    obtain ⟨m, hF⟩ := I.fr
    refine PySem.W.len_K hF I.ok.mod.kin J hs hf ?_
    refine wpAny_mono (run_at (vs := [.ref a]) F hr.in1 rfl hb hx I (.cons rfl .nil) q) (fun v' s' z => ?_) fun _ _ e => e
    obtain ⟨w', H', I', rv, n, rfl, hn, q'⟩ := z
    obtain ⟨t, rfl⟩ := (show ∃ t, v' = Value.int n t from rv)
    exact ⟨hn, .int n, H', I'.tok _, ⟨_, rfl⟩, q'⟩
end
end L2

set_option Elab.async false
set_option maxRecDepth 100000
set_option maxHeartbeats 4000000
namespace PySem.W
open PySem PySem.Spec PySem.Calls PyProof.Rows
section
variable {K : Frag} {C : Addr}
theorem findObj_dat {od : Option Obj} {name : Str} {a g : Value} (hc : (clsIn K C).isSome = true) (ha : findIn K (.ref C) name = some (some a)) (hg : specialIn K a "__get__" = some (some g)) (ht : takesIn K a = some true) :
    findObj K C od name = some (.bind g a) := by
  obtain ⟨cd, hc⟩ := Option.isSome_iff_exists.mp hc
  simp [findObj, hc, ha, hg, ht]
variable {prog : Program} {w : World} {A : Around} {E : Value → Shared → Prop} {s : Shared} {x D : Addr} {ox : Obj}
theorem kin_classD {od : Option Obj} {Q : Option Value → Shared → Prop} (T : L2.ExcC K D)
    (X : K.In s.heap) (I : InstAt s.heap x ox D od) (h : Q (some (.ref D)) { s with toks := s.toks + 1 }) : wpAny (model prog w) A (getAttr? (.ref x) "__class__") Q E s := by
  have hf : findObj K D od "__class__" = some (.bind (.builtin "getset_descriptor.__get__") (.builtin "object.__class__")) :=
    findObj_dat (by obtain ⟨cd, hc, _⟩ := any_some T.hd; rw [hc]; rfl) T.ha T.hn T.ht
  obtain ⟨hp, g, d, t, os⟩ := s
  have L0 := I.type (M := model prog w)
  have L1 := looks_findIn (M := model prog w) X T.hg
  have L2 := looks_findIn (M := model prog w) X T.hk
  have L3 := looks_find (M := model prog w) X I hf
  have sub : Looks (model prog w) hp (isInstance (.ref x) (.type "BaseException")) true := L0.andThen (looks_subIn X T.hs)
  have hx0 : (false && onTheHeap (Value.builtin "BaseException.__getattribute__")) = false := rfl
  have hx2 : (Value.builtin "BaseException.__getattribute__" == Value.builtin "object.__getattribute__") = false := by decide +kernel
  have hx1 : (onTheHeap (Value.ref D) && Value.builtin "BaseException.__getattribute__" == Value.builtin "object.__getattribute__") = false := by rw [hx2]; rfl
  unfold getAttr? getAttrBy? getAttrBy
  refine wpAny_bind (wpAny_mkText (wpAny_bind (wpAny_attempt (wpAny_holding (wpAny_bind (L0.at (wpAny_bind (L1.at ?_))))))))
  show wpAny _ _ (if (onTheHeap (Value.ref D) && Value.builtin "BaseException.__getattribute__" == Value.builtin "object.__getattribute__") = true then _ else _) _ _ _
  rw [hx1, if_neg Bool.false_ne_true]
  unfold getAttrByItsOwn hookBefore
  refine wpAny_bind ?_
  rw [if_pos (show onTheHeap (Value.ref D) = true from rfl)]
  refine L2.at ?_
  refine wpAny_bind (wpAny_attempt (wpAny_holding ?_))
  unfold callGetattribute
  rw [hx0, if_neg Bool.false_ne_true]
  unfold boundAndCalled
  rw [PySem.F.excAttr_ValueError.ga.bind (.ref x)]
  refine wpAny_bind (wpAny_pure ?_)
  show wpAny _ _ (call (.builtin "BaseException.__getattribute__") [.ref x, .str "__class__" t]) _ _ _
  refine wpAny_call (codeAny_call_builtin PySem.F.excAttr_ValueError.ga.plain PySem.F.entry_bexc_ga ?_)
  refine @check_slot (model prog w) _ _ ⟨hp, g, d, t + 1, os⟩ "BaseException.__getattribute__" "BaseException" "__getattribute__" (.ref x) [.str "__class__" t] [] _ (by decide +kernel) (by decide +kernel) sub (PySem.F.args_bexc_ga (.ref x) (.str "__class__" t)) ?_
  unfold Builtin.«object.__getattribute__»
  refine wpAny_bind (wpAny_of_eq (a := ((Value.ref x : Value), [Value.str "__class__" t])) (by first | rfl | (simp only [slotArgs]; rfl)) ?_)
  refine wpAny_bind (wpAny_pure (wpAny_bind (L0.at (wpAny_bind (L3.at ?_)))))
  show wpAny _ _ (holding [Value.builtin "object.__class__"] (call (.builtin "getset_descriptor.__get__") [.builtin "object.__class__", .ref x, .ref D]) >>= ret) _ _ _
  refine wpAny_bind (wpAny_holding (wpAny_call (class_get (s := ⟨hp, g, d, t + 1, os⟩) (ox := ox) (od := od) X I T.hm ?_)))
  refine wpAny_pure ?_
  show wpAny _ _ (handedOut (.ref D)) _ _ _
  rw [handedOut_of (v := .ref D) rfl]
  first
    | exact wpAny_pure (wpAny_pure h)
    | exact wpAny_pure h
    | exact wpAny_pure (wpAny_bind (wpAny_pure (wpAny_pure h)))
theorem kitx_excD (T : L2.ExcC K D) : KitX K (.ref x) (.ref D) (fun h => ∃ od, InstAt h x ox D od) where
  ty := fun _ _ _ I => by
    obtain ⟨_, I⟩ := I
    exact I.type
  it := fun M h X _ => by
    obtain ⟨cdD, hcD, _⟩ := any_some T.hd
    unfold clsIn at hcD
    split at hcD
    · rename_i c' d' cd' sl' ho
      intro A' Q' E' s' k q
      unfold isType loadHead
      exact wpAny_bind (wpAny_loadPart (k _ _ (X _ _ ho)) (wpAny_pure q))
    · cases hcD
  ne := fun h tp dd its n sl X htp => by
    obtain ⟨cdD, hcD, _⟩ := any_some T.hd
    refine Bool.eq_false_iff.mpr fun q => ?_
    have e : D = tp := Value.ref.inj (beq_iff_eq.mp q)
    subst e
    unfold clsIn at hcD
    split at hcD
    · rename_i c' d' cd' sl' ho
      have z := (X _ _ ho).symm.trans htp
      cases z
    · cases hcD
  ca := fun X I k => by
    obtain ⟨_, I⟩ := I
    exact kin_classD T X I k
end
end PySem.W
namespace L2
open PySem PySem.Spec PyProof.Rows
section
variable {X : Cx}
/-- isinstance(e, c), e the exception that the suite holds, with a dict or without -/
theorem call_isED {a D : Addr} {d : Option Addr} {oe : Obj} {pn : List (Addr × Obj)} (C : ExcC X.K D) (hz : Zc (.ref D) d oe) (hf : ∃ vs, oe.data = .fields vs) (hd : ∀ (pins : List (Addr × Obj)) (σ : St) (H : Hp) (s : Shared), Inv (X.suite a ((a, oe) :: pn)) pins σ H s → ∀ dd, d = some dd → ∃ od, s.heap.get? dd = some od) :
    CallR (X.suite a ((a, oe) :: pn)) (.builtin "isinstance") (rIsE X.K D a) := by
  intro pins s σ H xs us Q I r h
  obtain ⟨c, cv, b, rfl, hcv, e, q⟩ := h
  cases r with
  | cons rx rr =>
    cases rr with
    | cons rt rr =>
      cases rr
      cases rx
      have ec := hcv _ rt
      subst ec
      obtain ⟨hget, _⟩ := I.pin (a, oe) (List.mem_append.mpr (.inl List.mem_cons_self))
      obtain ⟨vs, hv⟩ := hf
      have J : ∃ od, PySem.W.InstAt s.heap a oe D od := by
        have hd' := hd pins σ H s I
        obtain ⟨oc, od, oda, osl⟩ := oe
        obtain ⟨h1, h2⟩ := hz
        dsimp only at h1 h2 hv
        subst h1 h2 hv
        cases od with
        | none => exact ⟨none, hget, rfl, rfl, trivial⟩
        | some dd =>
          obtain ⟨o, ho⟩ := hd' dd rfl
          exact ⟨some o, hget, rfl, rfl, ho⟩
      exact PySem.W.kia_one (PySem.W.kitx_excD C) I.kIn J e (fun z => nomatch z) fun tk => ⟨.bl b, H, I.kept (t' := tk) fun _ _ z => z, rfl, q⟩
/-- the same where the dict is tracked: the reading asks it -/
def rIsED (K : PySem.W.Frag) (D a : Addr) (cls : Value) (d : Option Addr) : List V → Hp → VK → Prop := fun xs H Q => cls = .ref D ∧ (∀ dd, d = some dd → ∃ fs, H dd = some (.xd fs)) ∧ ∃ (c : V) (cv : Value) (b : Bool), xs = [.ref a, c] ∧ (∀ u, RelV c u → u = cv) ∧ PySem.W.kitOne K (.ref D) cv = some b ∧ Q (.bl b) H
theorem call_isEX {a D : Addr} {cls : Value} {d : Option Addr} {oe : Obj} {pn : List (Addr × Obj)} (C : ExcC X.K D) (hz : Zc cls d oe) (hf : ∃ vs, oe.data = .fields vs) : CallR (X.suite a ((a, oe) :: pn)) (.builtin "isinstance") (rIsED X.K D a cls d) := by
  intro pins s σ H xs us Q I r h
  obtain ⟨ec0, hdd, c, cv, b, rfl, hcv, e, q⟩ := h
  subst ec0
  cases r with
  | cons rx rr =>
    cases rr with
    | cons rt rr =>
      cases rr
      cases rx
      have ec := hcv _ rt
      subst ec
      obtain ⟨hget, _⟩ := I.pin (a, oe) (List.mem_append.mpr (.inl List.mem_cons_self))
      obtain ⟨vs, hv⟩ := hf
      have J : ∃ od, PySem.W.InstAt s.heap a oe D od := by
        obtain ⟨oc, od, oda, osl⟩ := oe
        obtain ⟨h1, h2⟩ := hz
        dsimp only at h1 h2 hv
        subst h1 h2 hv
        cases od with
        | none => exact ⟨none, hget, rfl, rfl, trivial⟩
        | some dd =>
          obtain ⟨fs, hfs⟩ := hdd dd rfl
          obtain ⟨mA, hns, _⟩ := (show ObjOk X.prog X.w H s.heap dd (.xd fs) from I.hok dd _ hfs)
          obtain ⟨od, ho, _⟩ := lookIn_ns hns
          exact ⟨some od, hget, rfl, rfl, ho⟩
      exact PySem.W.kia_one (PySem.W.kitx_excD C) I.kIn J e (fun z => nomatch z) fun tk => ⟨.bl b, H, I.kept (t' := tk) fun _ _ z => z, rfl, q⟩
end
section
variable {X : Cx} {CX : CXT} {k : Nat} {f C : Addr} {fd : FuncData} {ps : List Str} {sp : Sp} {dvs : List V} {ds : List Value} {E : St → XK} {x m : Str} {p pos apos : Pos} {e o : Expr} {es : List Expr} {ta : TE} {t : TA}
/-- C(e, ..) where what is raised is wished for at the slots as they stand -/
def tMakeS (C : Addr) (sp : Sp) (dvs : List V) (E : St → XK) (t : TA) : TE := fun σ H Q => t σ H fun vs H1 => ∀ x dx, H1 x = none → H1 dx = none → dx ≠ x →
  sp (.ref x :: (vs ++ dvs)) (upd (upd H1 dx (.own x)) x (.ins C dx [])) (fun v H2 => v = .non ∧ Q (.ref x) H2) (fun cls d H2 => E σ cls d H2)
theorem run_makeS {pins : List (Addr × Obj)} {σ : St} {H : Hp} {s : Shared} {Q : VK} {us : List Value} {vs : List V} (M : Mk X.K C f) (F : FnOk X.prog X.w X.K X.mg X.base CX k f fd ps sp) (hr : Room (k + 1) X.A) (hb : Binds X.K fd ps ds) (hd : Vals dvs ds)
    (hx : PassesAt CX X σ (E σ)) (I : Inv X pins σ H s) (r : Vals vs us)
    (h : ∀ x dx, H x = none → H dx = none → dx ≠ x → sp (.ref x :: (vs ++ dvs)) (upd (upd H dx (.own x)) x (.ins C dx [])) (fun v H2 => v = .non ∧ Q (.ref x) H2) (E σ)) :
    wpAny (model X.prog X.w) X.A (call (.ref C) us) (EP X pins σ Q) X.xe s := by
  have hq := h (s.heap.objs.size + 1) s.heap.objs.size (I.hok.fresh (Nat.le_succ _)) (I.hok.fresh (Nat.le_refl _)) (Nat.ne_of_lt (Nat.lt_succ_self _))
  have I2 := Inv.made (C := C) I
  have r2 : Vals (V.ref (s.heap.objs.size + 1) :: (vs ++ dvs)) (Value.ref (s.heap.objs.size + 1) :: (us ++ ds)) := .cons rfl (r.append hd)
  have hl : (Value.ref (s.heap.objs.size + 1) :: us ++ ds).length = ps.length := by
    have e := r2.length
    rw [F.len _ _ _ _ hq] at e
    exact e.symm
  refine wpAny_call (make_map (f := f) I.kIn M.makes M.init (beq_iff_eq.mp M.fn) (codeAny_mono (F.run _ X.stack _ _ ⟨Value.ref (s.heap.objs.size + 1) :: us, []⟩ (Value.ref (s.heap.objs.size + 1) :: (us ++ ds)) _ _ (E σ) (hr.make C us [])
    (I2.env0.make C us []) (hb _ (Value.ref (s.heap.objs.size + 1) :: us) I2.kIn hl) r2 hq) fun r s' hq' => ?_))
  cases r with
  | error e => exact hx pins _ _ e s' I2 hq'
  | ok fl =>
    cases fl with
    | ret u =>
      obtain ⟨v, H', I3, rv, ev, q3⟩ := I2.after hq'
      subst ev
      exact ⟨rv, ⟨V.ref (s.heap.objs.size + 1), H', I3, rfl, q3⟩⟩
    | next => exact False.elim hq'
    | brk => exact False.elim hq'
    | cont => exact False.elim hq'
theorem pe_makeS (M : Mk X.K C f) (F : FnOk X.prog X.w X.K X.mg X.base CX k f fd ps sp) (hr : Room (k + 1) X.A) (hg : Gl X x) (hm : X.mg x = some (.ref C)) (hb : Binds X.K fd ps ds) (hd : Vals dvs ds) (hx : ∀ σ, PassesAt CX X σ (E σ))
    (ha : PA X (e :: es) t) (hdb : (x == ("__debug__" : Str)) = false := by decide) (he : starEach (e :: es) X.env = (false, eval e X.env) :: starEach es X.env := by rfl) (hpl : (backTo pos (starEach es X.env)).any (·.1) = false := by rfl) :
    PE X (.Call (.Name x p) (e :: es) [] pos) (tMakeS C sp dvs E t) := by
  refine ⟨fun pins s σ H Q I h => ?_⟩
  refine wpAny_Call_Name_kw (ld_glob I hg hm ?_ hdb)
  refine PySem.W.callWith_K (h₀ := X.base) I.ok.mod.kin M.kp (thn (ha.run pos pins s σ H _ I h) fun us s1 ⟨vs, H1, I1, r, q⟩ => ⟨I1.kIn, ?_⟩) he hpl
  exact run_makeS M F hr hb hd (hx σ) I1 r q
/-- o.m(e, ..) | o.m() likewise -/
def tMethSD (C : Addr) (m : Str) (sp : Sp) (dvs : List V) (E : St → XK) (ta : TE) (t : TA) : TE := fun σ H Q => ta σ H fun x H1 => ∃ a dx fs, x = .ref a ∧ H1 a = some (.ins C dx fs) ∧ fs.lookup m = none ∧
  t σ H1 fun vs H2 => sp (x :: (vs ++ dvs)) H2 Q (E σ)
theorem pe_methSD {pl : Sem Bool} (he : PE X o ta) (c : Cls X.K C) (hm : Meth X.K C m f) (F : FnOk X.prog X.w X.K X.mg X.base CX k f fd ps sp) (hr : Room k X.A) (hb : Binds X.K fd ps ds) (hd : Vals dvs ds) (hx : ∀ σ, PassesAt CX X σ (E σ)) (ha : PA X (e :: es) t)
    (hst : starEach (e :: es) X.env = (false, eval e X.env) :: starEach es X.env := by rfl) (hpl : (backTo pos (starEach es X.env)).any (·.1) = false := by rfl)
    (ht : eval (.Call (.Attribute o m apos) (e :: es) [] pos) X.env = (do
      let ov ← eval o X.env
      standAt apos.atName
      let (f, first) ← holding [ov] (getMethod ov m pl)
      callWith pos f first (backTo pos (starEach (e :: es) X.env)) (backToKw pos (keywordEach [] X.env))) := by rfl) :
    PE X (.Call (.Attribute o m apos) (e :: es) [] pos) (tMethSD C m sp dvs E ta t) := by
  refine ⟨fun pins s σ H Q I h => ?_⟩
  refine PySem.W.methodCall_KW (pl := pl) (thn (he.run pins s σ H _ I h) fun u s1 ⟨x, H1, I1, rx, a, dx, fs, ex, ea, l, q⟩ => ?_) ht
  subst ex
  obtain rfl : u = Value.ref a := rx
  refine getmeth_ok I1 ea c hm l ?_
  refine PySem.W.callWith_K (first := [.ref a]) (h₀ := X.base) I.ok.mod.kin hm.kp (thn (ha.run pos pins s1 σ H1 _ I1 q) fun us s2 ⟨vs, H2, I2, r, q2⟩ => ⟨I2.kIn, ?_⟩) hst hpl
  exact run_fnSD (us := .ref a :: us) (vs := .ref a :: vs) F hr hb hd (hx σ) I2 (.cons rfl r) q2
theorem pe_methSD0 {pl : Sem Bool} (he : PE X o ta) (c : Cls X.K C) (hm : Meth X.K C m f) (F : FnOk X.prog X.w X.K X.mg X.base CX k f fd ps sp) (hr : Room k X.A) (hb : Binds X.K fd ps ds) (hd : Vals dvs ds) (hx : ∀ σ, PassesAt CX X σ (E σ))
    (ht : eval (.Call (.Attribute o m apos) [] [] pos) X.env = (do
      let ov ← eval o X.env
      standAt apos.atName
      let (f, first) ← holding [ov] (getMethod ov m pl)
      callWith pos f first (backTo pos (starEach [] X.env)) (backToKw pos (keywordEach [] X.env))) := by rfl) :
    PE X (.Call (.Attribute o m apos) [] [] pos) (tMethSD C m sp dvs E ta tNil) := by
  refine ⟨fun pins s σ H Q I h => ?_⟩
  refine PySem.W.methodCall_KW (pl := pl) (thn (he.run pins s σ H _ I h) fun u s1 ⟨x, H1, I1, rx, a, dx, fs, ex, ea, l, q⟩ => ?_) ht
  subst ex
  obtain rfl : u = Value.ref a := rx
  refine getmeth_ok I1 ea c hm l ?_
  exact PySem.W.callWith_K0 (first := [.ref a]) I1.kIn hm.kp (run_fnSD (us := [.ref a]) (vs := [.ref a]) F hr hb hd (hx σ) I1 (.cons rfl .nil) q)
end

/-! ### own errors with one field -/
/-- what __init__ of such an error does: self.f = v -/
def spXI (C : Addr) (f : Str) : Sp := fun vs H Q _ => ∃ (a : Addr) (y : V), vs = [.ref a, y] ∧ H a = some (exo a C none) ∧ ∀ dx, H dx = none → dx ≠ a → Q .non (upd (upd H dx (exd dx [(f, y)])) a (exo a C (some dx)))
/-- all that is asked of the class x of errors at C, whose field is f -/
structure XCls (P : Program) (w : World) (K : PySem.W.Frag) (mg : Str → Option Value) (base : Heap) (x f : Str) (C : Addr) : Prop where
  ox : OexC K C
  gC : mg x = some (.ref C)
  noA : PySem.W.findIn K (.ref C) f = some none
  ec : ExcC K C
  ini : ∃ (fI : Addr) (fd : FuncData), PySem.W.findIn K (.ref C) "__init__" = some (some (.ref fI)) ∧ PySem.W.typeIn K (.ref fI) = some (.type "function") ∧ FnOk P w K mg base CX0 1 fI fd ["self", f] (spXI C f) ∧ Binds K fd ["self", f] []
theorem XCls.xf {P : Program} {w : World} {K : PySem.W.Frag} {mg : Str → Option Value} {base : Heap} {x f : Str} {C : Addr} (T : XCls P w K mg base x f C) : XfC K C := ⟨T.ec.hg, T.ec.hk, T.ec.hs, T.ec.hd⟩
section
variable {X : Cx} {C : Addr} {x f : Str} {e : Expr} {te : TE} {p pos pos2 : Pos}
theorem pmk_X (T : XCls X.prog X.w X.K X.mg X.base x f C) (hr : Room 2 X.A) (he : PE X e te) (hg : Gl X x) (hdb : (x == ("__debug__" : Str)) = false := by decide)
    (hs : starEach [e] X.env = (false, eval e X.env) :: starEach [] X.env := by rfl) (hpl : (backTo pos (starEach [] X.env)).any (·.1) = false := by rfl) :
    PMk X (.Call (.Name x p) [e] [] pos) (tMkO C (spXI C f) [] (tCons te tNil)) := by
  obtain ⟨fI, fd, i1, i2, F, b⟩ := T.ini
  exact pmk_oex (dvs := []) (ds := []) T.ox i1 i2 F hr b .nil pass0 hg T.gC (pa_cons he pa_nil hs) hdb hs hpl
/-- what is left to be shown behind the argument y -/
theorem mkX_fin {H1 : Hp} {y : V} {Q : XK} (h : ∀ d, H1 d = none → Q (.ref C) (some d) (upd H1 d (.xd [(f, y)]))) :
    [y].length ≤ 1000 ∧ ∀ a, H1 a = none → spXI C f (.ref a :: ([y] ++ [])) (upd H1 a (exo a C none))
      (fun v H2 => v = .non ∧ ∃ (d : Addr) (fs : List (Str × V)), H2 a = some (exo a C (some d)) ∧ H2 d = some (exd d fs) ∧ H1 d = none ∧ Q (.ref C) (some d) (upd (del H2 a) d (.xd fs))) (fun _ _ _ => False) := by
  refine ⟨by show 1 ≤ 1000; decide, fun a ha => ⟨a, y, rfl, upd_same, fun dx hdx hne => ⟨rfl, dx, [(f, y)], upd_same, ?_, ?_, ?_⟩⟩⟩
  · rw [upd_ne hne, upd_same]
  · rw [upd_ne hne] at hdx
    exact hdx
  · have hdx' : H1 dx = none := by
      rw [upd_ne hne] at hdx
      exact hdx
    have e : upd (del (upd (upd (upd H1 a (exo a C none)) dx (exd dx [(f, y)])) a (exo a C (some dx))) a) dx (.xd [(f, y)]) = upd H1 dx (.xd [(f, y)]) := by
      funext b
      by_cases hb : b = dx
      · rw [hb, upd_same, upd_same]
      · rw [upd_ne hb, upd_ne hb]
        by_cases hba : b = a
        · rw [hba, del_same, ha]
        · rw [del_ne hba, upd_ne hba, upd_ne hb, upd_ne hba]
    rw [e]
    exact h dx hdx'
end
end L2

set_option Elab.async false
set_option maxRecDepth 100000
set_option maxHeartbeats 4000000
namespace L2
open PySem PySem.Spec PyProof.Rows
section
variable (P : Program) (w : World) (K : PySem.W.Frag) (mg : Str → Option Value) (base : Heap)
/-- a def of the top, as the text has it -/
structure DefAt (x : Str) (st : Stmt) (ps : List Str) : Prop where
  ex : ∃ (f : Addr) (fd : FuncData), Fun K x x st f fd ∧ mg x = some (.ref f) ∧ Binds K fd ps []
/-- a def of the top that keeps its promise -/
structure Own (CX : CXT) (x : Str) (k : Nat) (ps : List Str) (sp : Sp) : Prop where
  ex : ∃ (f : Addr) (fd : FuncData), FnOk P w K mg base CX k f fd ps sp ∧ mg x = some (.ref f) ∧ PySem.W.keepIn K (.ref f) = true ∧ Binds K fd ps []
/-- a method of the class at C, as the text has it; one that keeps its promise -/
structure MethAt (C : Addr) (m qual : Str) (st : Stmt) (ps : List Str) : Prop where
  ex : ∃ (f : Addr) (fd : FuncData), Fun K m qual st f fd ∧ PySem.W.findIn K (.ref C) m = some (some (.ref f)) ∧ PySem.W.isFn K (.ref f) = true ∧ Binds K fd ps []
structure OwnM (CX : CXT) (C : Addr) (m : Str) (k : Nat) (ps : List Str) (sp : Sp) : Prop where
  ex : ∃ (f : Addr) (fd : FuncData), FnOk P w K mg base CX k f fd ps sp ∧ Meth K C m f ∧ PySem.W.isFn K (.ref f) = true ∧ Binds K fd ps []
/-- a class of the top with an own __init__ that keeps its promise -/
structure OwnC (CX : CXT) (x : Str) (C : Addr) (k : Nat) (ps : List Str) (sp : Sp) : Prop where
  ex : ∃ (f : Addr) (fd : FuncData), FnOk P w K mg base CX k f fd ps sp ∧ Mk K C f ∧ mg x = some (.ref C) ∧ Binds K fd ps []
end
section
variable {P : Program} {w : World} {K : PySem.W.Frag} {mg : Str → Option Value} {base : Heap} {CX : CXT} {x m qual : Str} {k : Nat} {ps : List Str} {sp : Sp} {st : Stmt} {C : Addr}
theorem DefAt.own (D : DefAt K mg x st ps) (h : ∀ f fd, Fun K x x st f fd → FnOk P w K mg base CX k f fd ps sp) : Own P w K mg base CX x k ps sp := by
  obtain ⟨f, fd, F, hm, hb⟩ := D.ex
  exact ⟨f, fd, h f fd F, hm, F.kp, hb⟩
theorem MethAt.own (D : MethAt K C m qual st ps) (h : ∀ f fd, Fun K m qual st f fd → FnOk P w K mg base CX k f fd ps sp) : OwnM P w K mg base CX C m k ps sp := by
  obtain ⟨f, fd, F, hm, hi, hb⟩ := D.ex
  exact ⟨f, fd, h f fd F, ⟨hm, hi, F.kp⟩, hi, hb⟩
theorem MethAt.cls (D : MethAt K C "__init__" qual st ps) (h : ∀ f fd, Fun K "__init__" qual st f fd → FnOk P w K mg base CX k f fd ps sp) (m1 : PySem.W.makesIn K C = true) (m2 : PySem.W.keepIn K (.ref C) = true) (m3 : mg x = some (.ref C)) :
    OwnC P w K mg base CX x C k ps sp := by
  obtain ⟨f, fd, F, hm, hi, hb⟩ := D.ex
  exact ⟨f, fd, h f fd F, ⟨m1, hm, hi, m2⟩, m3, hb⟩
end
section
variable {X : Cx} {CX : CXT} {x m : Str} {k : Nat} {ps : List Str} {sp : Sp} {e o : Expr} {es : List Expr} {t : TA} {ta : TE} {p pos apos : Pos} {C : Addr}
theorem pe_own (O : Own X.prog X.w X.K X.mg X.base CX x k ps sp) (hr : Room k X.A) (hx : Passes CX X E0) (ha : PA X (e :: es) t) (hg : Gl X x := by rfl) (hdb : (x == ("__debug__" : Str)) = false := by decide)
    (he : starEach (e :: es) X.env = (false, eval e X.env) :: starEach es X.env := by rfl) (hpl : (backTo pos (starEach es X.env)).any (·.1) = false := by rfl) : PE X (.Call (.Name x p) (e :: es) [] pos) (tCall sp [] E0 t) := by
  obtain ⟨f, fd, F, hm, hk, hb⟩ := O.ex
  exact pe_call F hr hg hm hk hb .nil hx ha hdb he hpl
theorem pe_own0 (O : Own X.prog X.w X.K X.mg X.base CX x k ps sp) (hr : Room k X.A) (hx : Passes CX X E0) (hg : Gl X x := by rfl) (hdb : (x == ("__debug__" : Str)) = false := by decide) : PE X (.Call (.Name x p) [] [] pos) (tCall sp [] E0 tNil) := by
  obtain ⟨f, fd, F, hm, hk, hb⟩ := O.ex
  exact pe_call0 F hr hg hm hk hb .nil hx hdb
/-- one that may raise; W is wished for what it raises -/
theorem pe_ownS {W : WX} (O : Own X.prog X.w X.K X.mg X.base (L2.CX X.prog X.w) x k ps sp) (hr : Room k X.A) (tk : Takes X W) (ha : PA X (e :: es) t) (hg : Gl X x := by rfl) (hdb : (x == ("__debug__" : Str)) = false := by decide)
    (he : starEach (e :: es) X.env = (false, eval e X.env) :: starEach es X.env := by rfl) (hpl : (backTo pos (starEach es X.env)).any (·.1) = false := by rfl) : PE X (.Call (.Name x p) (e :: es) [] pos) (tCallS sp (WE W) t) := by
  obtain ⟨f, fd, F, hm, hk, hb⟩ := O.ex
  exact pe_callS F hr hg hm hk hb (fun σ => passAt tk σ) ha hdb he hpl
theorem pe_new (O : OwnC X.prog X.w X.K X.mg X.base CX x C k ps sp) (hr : Room (k + 1) X.A) (hx : Passes CX X E0) (ha : PA X (e :: es) t) (hg : Gl X x := by rfl) (hdb : (x == ("__debug__" : Str)) = false := by decide)
    (he : starEach (e :: es) X.env = (false, eval e X.env) :: starEach es X.env := by rfl) (hpl : (backTo pos (starEach es X.env)).any (·.1) = false := by rfl) : PE X (.Call (.Name x p) (e :: es) [] pos) (tMake C sp [] E0 t) := by
  obtain ⟨f, fd, F, M, hm, hb⟩ := O.ex
  exact pe_make M F hr hg hm hb .nil hx ha hdb he hpl
theorem pe_newS {W : WX} (O : OwnC X.prog X.w X.K X.mg X.base (L2.CX X.prog X.w) x C k ps sp) (hr : Room (k + 1) X.A) (tk : Takes X W) (ha : PA X (e :: es) t) (hg : Gl X x := by rfl) (hdb : (x == ("__debug__" : Str)) = false := by decide)
    (he : starEach (e :: es) X.env = (false, eval e X.env) :: starEach es X.env := by rfl) (hpl : (backTo pos (starEach es X.env)).any (·.1) = false := by rfl) : PE X (.Call (.Name x p) (e :: es) [] pos) (tMakeS C sp [] (WE W) t) := by
  obtain ⟨f, fd, F, M, hm, hb⟩ := O.ex
  exact pe_makeS M F hr hg hm hb .nil (fun σ => passAt tk σ) ha hdb he hpl
theorem pe_gint {n : Int} (hm : ∃ t, X.mg x = some (.int n t)) (hg : Gl X x := by rfl) (hd : (x == ("__debug__" : Str)) = false := by decide) : PE X (.Name x pos) (tC (.int n)) := by
  obtain ⟨t, hm⟩ := hm
  exact pe_glob hg hm ⟨t, rfl⟩ hd
theorem pe_gcls (hm : X.mg x = some (.ref C)) (hg : Gl X x := by rfl) (hd : (x == ("__debug__" : Str)) = false := by decide) : PE X (.Name x pos) (tC (.ref C)) := pe_glob hg hm rfl hd
end
/-! ### ==, != by own methods, len -/
section
variable {X : Cx} {CX : CXT} {k : Nat} {C : Addr} {ps : List Str} {sp : Sp}
structure NeM (K : PySem.W.Frag) (C : Addr) : Prop where
  ne : PySem.W.findIn K (.ref C) "__ne__" = some (some (.builtin "object.__ne__"))
  ob : PySem.W.mroIn K C (.type "object") = some true
theorem eqO (O : OwnM X.prog X.w X.K X.mg X.base CX C "__eq__" k ps sp) (N : NeM X.K C) (hr : Room k X.A) (hx : Passes CX X E0) : OpR X (compareOp .Eq) (rEqO X.K C sp) := by
  obtain ⟨f, fd, F, M, hi, hb⟩ := O.ex
  exact op_eqO F ⟨M.at_, hi, N.ne, N.ob⟩ hr hb hx
theorem neO (O : OwnM X.prog X.w X.K X.mg X.base CX C "__eq__" k ps sp) (N : NeM X.K C) (hr : Room (k + 1) X.A) (hx : Passes CX X E0) : OpR X (compareOp .NotEq) (rNeO X.K C sp) := by
  obtain ⟨f, fd, F, M, hi, hb⟩ := O.ex
  exact op_neO F ⟨M.at_, hi, N.ne, N.ob⟩ hr hb hx
theorem lenO (O : OwnM X.prog X.w X.K X.mg X.base CX C "__len__" k ps sp) (hr : Room (k + 1) X.A) (hx : Passes CX X E0) : CallR X (.builtin "len") (rLenO C sp) := by
  obtain ⟨f, fd, F, M, hi, hb⟩ := O.ex
  exact call_lenO F M.at_ hi hr hb hx
end
end L2

set_option Elab.async false
set_option maxRecDepth 100000
set_option maxHeartbeats 4000000
/-! kinds of plain values; their isinstance -/
namespace L2
open PySem PySem.Spec PyProof.Rows
inductive Knd | int | bool | none | str | list | tuple
  deriving DecidableEq
def Knd.name : Knd → String
  | .int => "int" | .bool => "bool" | .none => "NoneType" | .str => "str" | .list => "list" | .tuple => "tuple"
def KndOf (H : Hp) (v : V) : Knd → Prop
  | .int => ∃ n, v = .int n
  | .bool => ∃ b, v = .bl b
  | .none => v = .non
  | .str => ∃ s, v = .str s
  | .list => ∃ a xs, v = .ref a ∧ H a = some (.lst xs)
  | .tuple => ∃ a xs, v = .ref a ∧ H a = some (.tup xs)
def Knd.isInt : Knd → Bool | .int => true | .bool => true | _ => false
def Knd.isBool : Knd → Bool | .bool => true | _ => false
def Knd.isSeq : Knd → Bool | .list => true | .tuple => true | _ => false
def Knd.isTup : Knd → Bool | .tuple => true | _ => false
def Knd.isList : Knd → Bool | .list => true | _ => false
def Knd.isStr : Knd → Bool | .str => true | _ => false
section
variable {K : PySem.W.Frag} {H : Hp} {v : V} {k : Knd}
theorem knd_ty (h : KndOf H v k) : TyX K H v (.type k.name) := by
  cases k with
  | int => obtain ⟨n, rfl⟩ := h; exact .base (.int n)
  | bool => obtain ⟨n, rfl⟩ := h; exact .base (.bl n)
  | none => cases h; exact .base .non
  | str => obtain ⟨n, rfl⟩ := h; exact .base (.str n)
  | list => obtain ⟨a, xs, rfl, e⟩ := h; exact .base (.lst e)
  | tuple => obtain ⟨a, xs, rfl, e⟩ := h; exact .base (.tup e)
theorem knd_int : PySem.W.kitOne K (.type k.name) (.type "int") = some k.isInt := by cases k <;> exact kit_ty (by decide +kernel)
theorem knd_bool : PySem.W.kitOne K (.type k.name) (.type "bool") = some k.isBool := by cases k <;> exact kit_ty (by decide +kernel)
theorem knd_tup : PySem.W.kitOne K (.type k.name) (.type "tuple") = some k.isTup := by cases k <;> exact kit_ty (by decide +kernel)
theorem knd_list : PySem.W.kitOne K (.type k.name) (.type "list") = some k.isList := by cases k <;> exact kit_ty (by decide +kernel)
theorem knd_str : PySem.W.kitOne K (.type k.name) (.type "str") = some k.isStr := by cases k <;> exact kit_ty (by decide +kernel)
theorem knd_seq : PySem.W.kitAny K (.type k.name) [.type "list", .type "tuple"] = some k.isSeq := by
  cases k
  case list => exact kitAny_cons knd_list (by intro h; cases h) (fun _ => rfl)
  case tuple => exact kitAny_cons knd_list (fun _ => kitAny_cons knd_tup (by intro h; cases h) (fun _ => rfl)) (by intro h; cases h)
  all_goals exact kitAny_cons knd_list (fun _ => kitAny_cons knd_tup (fun _ => kitAny_nil) (by intro h; cases h)) (by intro h; cases h)
theorem KndOf.ext {H' : Hp} (h : KndOf H v k) (e : Ext H H') : KndOf H' v k := by
  cases k with
  | list => obtain ⟨a, xs, r, q⟩ := h; exact ⟨a, xs, r, e _ _ q⟩
  | tuple => obtain ⟨a, xs, r, q⟩ := h; exact ⟨a, xs, r, e _ _ q⟩
  | _ => exact h
theorem ki (n : Int) : KndOf H (.int n) .int := ⟨n, rfl⟩
theorem kb (n : Bool) : KndOf H (.bl n) .bool := ⟨n, rfl⟩
theorem kn : KndOf H .non .none := rfl
theorem ks (n : Str) : KndOf H (.str n) .str := ⟨n, rfl⟩
end
/-- a value that is an int from a to b -/
def betw (v : V) (a b : Int) : Bool := match v with
  | .int n => decide (a ≤ n) && decide (n ≤ b)
  | _ => false
theorem betw_int {n a b : Int} : betw (.int n) a b = (decide (a ≤ n) && decide (n ≤ b)) := rfl
theorem betw_not {H : Hp} {v : V} {k : Knd} {a b : Int} (h : KndOf H v k) (hk : (k.isInt && !k.isBool) = false) : betw v a b = false := by
  cases k with
  | int => cases hk
  | bool => obtain ⟨n, rfl⟩ := h; rfl
  | none => cases h; rfl
  | str => obtain ⟨n, rfl⟩ := h; rfl
  | list => obtain ⟨n, xs, rfl, _⟩ := h; rfl
  | tuple => obtain ⟨n, xs, rfl, _⟩ := h; rfl
theorem knd_yes {k : Knd} (h : (k.isInt && !k.isBool) = true) : k = .int := by cases k <;> first | rfl | cases h
/-! ### isinstance, read -/
section
variable {K : PySem.W.Frag} {σ : St} {H : Hp} {v : V} {k : Knd} {Q : VK} {te : TE}
theorem v_isI (hk : KndOf H v k) {b : Bool} {c : String} (e : PySem.W.kitOne K (.type k.name) (.type c) = some b) (q : Q (.bl b) H) : rIsi K [v, .ty c] H Q :=
  ⟨v, .ty c, .type k.name, .type c, b, rfl, .ty c, knd_ty hk, e, q⟩
end
end L2

set_option Elab.async false
set_option maxRecDepth 100000
set_option maxHeartbeats 4000000
namespace L2
open PySem PySem.Spec PyProof.Rows
section
variable {K : PySem.W.Frag} {C : Addr}
theorem no_ref (l : List String) : (l.map Value.type).contains (Value.ref C) = false := by
  induction l with
  | nil => rfl
  | cons a l ih =>
    rw [List.map_cons, List.contains_cons, ih]
    rfl
theorem sub_ty_ref {T : String} (h : (fastFind? T).isSome = true) : PySem.W.subIn K (.type T) (.ref C) = some false := by
  obtain ⟨r, hr⟩ := Option.isSome_iff_exists.mp h
  show (fastBuiltinMro T).map (·.contains (Value.ref C)) = some false
  unfold fastBuiltinMro
  rw [hr]
  show some ((r.mro.map Value.type).contains (Value.ref C)) = some false
  rw [no_ref]
theorem knd_find (k : Knd) : (fastFind? k.name).isSome = true := by cases k <;> decide +kernel
/-- all that is asked of an own plain class x at C -/
structure ClsX (K : PySem.W.Frag) (mg : Str → Option Value) (x : Str) (C : Addr) : Prop where
  gC : mg x = some (.ref C)
  cl : Cls K C
  ha : PySem.W.findIn K (.ref C) "__class__" = some (some (.builtin "object.__class__"))
  hn : PySem.W.specialIn K (.builtin "object.__class__") "__get__" = some (some (.builtin "getset_descriptor.__get__"))
  htk : PySem.W.takesIn K (.builtin "object.__class__") = some true
  hm : PySem.W.mroIn K C (.type "object") = some true
  ne : PySem.W.findIn K (.ref C) "__ne__" = some (some (.builtin "object.__ne__"))
  is : PySem.W.isClsIn K C = true
  ty : PySem.W.typeIn K (.ref C) = some (.type "type")
  tup : PySem.W.subIn K (.ref C) (.type "tuple") = some false
  lst : PySem.W.subIn K (.ref C) (.type "list") = some false
  int : PySem.W.subIn K (.ref C) (.type "int") = some false
  str : PySem.W.subIn K (.ref C) (.type "str") = some false
variable {mg : Str → Option Value} {x : Str}
theorem ClsX.neM (T : ClsX K mg x C) : NeM K C := ⟨T.ne, T.hm⟩
theorem ClsX.tyOf (T : ClsX K mg x C) {H : Hp} {a dx : Addr} {fs : List (Str × V)} (e : H a = some (.ins C dx fs)) : TyX K H (.ref a) (.ref C) := .base (.ins e T.cl T.ha T.hn T.htk T.hm)
theorem ClsX.me (_ : ClsX K mg x C) : PySem.W.kitOne K (.ref C) (.ref C) = some true := if_pos (beq_self_eq_true _)
theorem ClsX.nfMe (_ : ClsX K mg x C) : PySem.W.notFirst K C (.ref C) = true := by
  show (Value.ref C == Value.ref C || _) = true
  rw [beq_self_eq_true]
  rfl
theorem ClsX.kitB (T : ClsX K mg x C) {t : Value} {b : Bool} (h : PySem.W.subIn K t (.ref C) = some b) (hne : (t == .ref C) = false) : PySem.W.kitOne K t (.ref C) = some b := by
  have e : ((PySem.W.clsIn K C).isSome && PySem.W.typeIn K (.ref C) == some (.type "type")) = true := by
    have h1 : (PySem.W.clsIn K C).isSome = true := T.is
    rw [h1, T.ty]
    rfl
  show (if (t == Value.ref C) = true then some true else if ((PySem.W.clsIn K C).isSome && PySem.W.typeIn K (.ref C) == some (.type "type")) = true then PySem.W.subIn K t (.ref C) else none) = some b
  rw [hne, if_neg Bool.false_ne_true, if_pos e]
  exact h
theorem ClsX.kitK (T : ClsX K mg x C) (k : Knd) : PySem.W.kitOne K (.type k.name) (.ref C) = some false := T.kitB (sub_ty_ref (knd_find k)) rfl
theorem ClsX.nfK (_ : ClsX K mg x C) (k : Knd) : PySem.W.notFirst K C (.type k.name) = true := by
  show (Value.type k.name == Value.ref C || PySem.W.subIn K (.type k.name) (.ref C) == some false) = true
  rw [sub_ty_ref (knd_find k)]
  exact Bool.or_eq_true_iff.mpr (.inr (by decide))
theorem kit_meta {T : String} {b : Bool} (h : PySem.W.subIn K (.ref C) (.type T) = some b) (hm : PySem.W.kitMeta T = true) : PySem.W.kitOne K (.ref C) (.type T) = some b := by
  show (if (Value.ref C == Value.type T) = true then some true else if PySem.W.kitMeta T = true then PySem.W.subIn K (.ref C) (.type T) else none) = some b
  rw [show (Value.ref C == Value.type T) = false from rfl, if_neg Bool.false_ne_true, if_pos hm]
  exact h
theorem ClsX.kTup (T : ClsX K mg x C) : PySem.W.kitOne K (.ref C) (.type "tuple") = some false := kit_meta T.tup (by decide +kernel)
theorem ClsX.kInt (T : ClsX K mg x C) : PySem.W.kitOne K (.ref C) (.type "int") = some false := kit_meta T.int (by decide +kernel)
theorem ClsX.kLst (T : ClsX K mg x C) : PySem.W.kitOne K (.ref C) (.type "list") = some false := kit_meta T.lst (by decide +kernel)
theorem ClsX.kStr (T : ClsX K mg x C) : PySem.W.kitOne K (.ref C) (.type "str") = some false := kit_meta T.str (by decide +kernel)
end
/-! ### an own error's class, from what the top has written -/
section
variable {P : Program} {w : World} {K : PySem.W.Frag} {mg : Str → Option Value} {base : Heap} {x f : Str} {C : Addr}
/-- what k_is finds of the class -/
structure XAt (K : PySem.W.Frag) (mg : Str → Option Value) (x f : Str) (C : Addr) (st : Stmt) (qual : Str) : Prop where
  ox : OexC K C
  gC : mg x = some (.ref C)
  noA : PySem.W.findIn K (.ref C) f = some none
  ec : ExcC K C
  tI : ∃ fI, PySem.W.findIn K (.ref C) "__init__" = some (some (.ref fI)) ∧ PySem.W.typeIn K (.ref fI) = some (.type "function") ∧ ∃ fd, Fun K "__init__" qual st fI fd ∧ Binds K fd ["self", f] []
theorem XAt.cls {st : Stmt} {qual : Str} (T : XAt K mg x f C st qual) (h : ∀ fI fd, Fun K "__init__" qual st fI fd → FnOk P w K mg base CX0 1 fI fd ["self", f] (spXI C f)) : XCls P w K mg base x f C := by
  obtain ⟨fI, i1, i2, fd, F, b⟩ := T.tI
  exact ⟨T.ox, T.gC, T.noA, T.ec, fI, fd, i1, i2, h fI fd F, b⟩
end
/-! ### fields -/
section
theorem lk_put {f g : Str} {v : V} {fs : List (Str × V)} : List.lookup g ((f, v) :: fs) = if (g == f) = true then some v else List.lookup g fs := by
  simp only [List.lookup]
  split
  · rename_i h; rw [h, if_pos rfl]
  · rename_i h; rw [h, if_neg Bool.false_ne_true]
end
end L2

set_option Elab.async false
set_option maxRecDepth 100000
set_option maxHeartbeats 4000000
/-! plain data: lists and tuples of flat values, compared -/
namespace L2
open PySem PySem.Spec PyProof.Rows
def pd : V → PyData
  | .int i => .int i
  | .bl b => .bool b
  | .str s => .str s
  | _ => .none
/-- flat, its text (if it is one) within the model's signs -/
def Fl : V → Prop
  | .int _ => True
  | .bl _ => True
  | .non => True
  | .str s => PySem.PyData.canLay0 (.str s) = true
  | _ => False
section
variable {K : PySem.W.Frag} {H : Hp} {v u : V}
theorem dp_fl (h : Fl v) : Dp K H v (pd v) := by
  cases v <;> first | exact .int _ | exact .bl _ | exact .str _ | exact .non | exact h.elim
theorem dp_all : ∀ {vs : List V}, (∀ v ∈ vs, Fl v) → DpAll K H vs (vs.map pd)
  | [], _ => .nil
  | v :: vs, h => .cons (dp_fl (h v List.mem_cons_self)) (dp_all fun u hu => h u (List.mem_cons_of_mem _ hu))
theorem lay_fl (h : Fl v) : (pd v).canLay0 = true := by
  cases v <;> first | rfl | exact h | exact h.elim
theorem dep_fl : (pd v).depth = 0 := by cases v <;> rfl
theorem lay_all : ∀ {vs : List V}, (∀ v ∈ vs, Fl v) → PyData.canLayAll0 (vs.map pd) = true ∧ PyData.depthAll (vs.map pd) = 0
  | [], _ => ⟨rfl, rfl⟩
  | v :: vs, h => by
    obtain ⟨a, b⟩ := lay_all (vs := vs) fun u hu => h u (List.mem_cons_of_mem _ hu)
    constructor
    · show ((pd v).canLay0 && PyData.canLayAll0 (vs.map pd)) = true
      rw [lay_fl (h v List.mem_cons_self), a]
      rfl
    · show max (pd v).depth (PyData.depthAll (vs.map pd)) = 0
      rw [dep_fl, b]
      rfl
theorem shp_fl (h : Fl v) : SeqAt.shaped (pd v) = true := by
  show ((pd v).canLay0 && decide ((pd v).depth ≤ 64)) = true
  rw [lay_fl h, dep_fl]
  rfl
theorem shp_tup {vs : List V} (h : ∀ v ∈ vs, Fl v) : SeqAt.shaped (.tuple (vs.map pd)) = true := by
  obtain ⟨a, b⟩ := lay_all h
  show (PyData.canLayAll0 (vs.map pd) && decide (PyData.depthAll (vs.map pd) + 1 ≤ 64)) = true
  rw [a, b]
  rfl
theorem shp_lst {vs : List V} (h : ∀ v ∈ vs, Fl v) : SeqAt.shaped (.list (vs.map pd)) = true := by
  obtain ⟨a, b⟩ := lay_all h
  show (PyData.canLayAll0 (vs.map pd) && decide (PyData.depthAll (vs.map pd) + 1 ≤ 64)) = true
  rw [a, b]
  rfl
theorem fl_int (n : Int) : Fl (.int n) := trivial
theorem fl_ints {ns : List Int} : ∀ v ∈ ns.map V.int, Fl v := fun v hv => by
  obtain ⟨n, _, rfl⟩ := List.mem_map.mp hv
  trivial
theorem eqv_ints : ∀ (ns ms : List Int), PyData.eqvAll ((ns.map V.int).map pd) ((ms.map V.int).map pd) = decide (ns = ms)
  | [], [] => rfl
  | [], _ :: _ => rfl
  | _ :: _, [] => rfl
  | n :: ns, m :: ms => by
    show ((n == m) && PyData.eqvAll ((ns.map V.int).map pd) ((ms.map V.int).map pd)) = decide (n :: ns = m :: ms)
    rw [eqv_ints ns ms, Bool.eq_iff_iff]
    simp
/-- the same values are equal data -/
theorem eqv_same : ∀ {vs : List V}, (∀ v ∈ vs, Fl v) → PyData.eqvAll (vs.map pd) (vs.map pd) = true
  | [], _ => rfl
  | v :: vs, h => by
    show (PyData.eqv (pd v) (pd v) && PyData.eqvAll (vs.map pd) (vs.map pd)) = true
    rw [eqv_same (vs := vs) fun u hu => h u (List.mem_cons_of_mem _ hu), Bool.and_true]
    cases v <;> first | rfl | (show (_ == _) = true; exact beq_self_eq_true _)
/-- two tuples compared (op_eqD, op_neD): what is left -/
theorem eqD_tup {p q : Addr} {vs us : List V} {Q : VK} (hp : SqT K H p vs) (hq : SqT K H q us) (fv : ∀ v ∈ vs, Fl v) (fu : ∀ v ∈ us, Fl v) (h : Q (.bl (PyData.eqvAll (vs.map pd) (us.map pd))) H) : rEqD K (.ref p) (.ref q) H Q :=
  ⟨_, _, .tup hp (dp_all fv), .tup hq (dp_all fu), shp_tup fv, shp_tup fu, h⟩
theorem neD_tup {p q : Addr} {vs us : List V} {Q : VK} (hp : SqT K H p vs) (hq : SqT K H q us) (fv : ∀ v ∈ vs, Fl v) (fu : ∀ v ∈ us, Fl v) (h : Q (.bl (!PyData.eqvAll (vs.map pd) (us.map pd))) H) : rNeD K (.ref p) (.ref q) H Q :=
  ⟨_, _, .tup hp (dp_all fv), .tup hq (dp_all fu), shp_tup fv, shp_tup fu, h⟩
theorem eqD_lst {p q : Addr} {vs us : List V} {Q : VK} (hp : SqL K H p vs) (hq : SqL K H q us) (fv : ∀ v ∈ vs, Fl v) (fu : ∀ v ∈ us, Fl v) (h : Q (.bl (PyData.eqvAll (vs.map pd) (us.map pd))) H) : rEqD K (.ref p) (.ref q) H Q :=
  ⟨_, _, .lst hp (dp_all fv), .lst hq (dp_all fu), shp_lst fv, shp_lst fu, h⟩
theorem neD_lst {p q : Addr} {vs us : List V} {Q : VK} (hp : SqL K H p vs) (hq : SqL K H q us) (fv : ∀ v ∈ vs, Fl v) (fu : ∀ v ∈ us, Fl v) (h : Q (.bl (!PyData.eqvAll (vs.map pd) (us.map pd))) H) : rNeD K (.ref p) (.ref q) H Q :=
  ⟨_, _, .lst hp (dp_all fv), .lst hq (dp_all fu), shp_lst fv, shp_lst fu, h⟩
end
end L2

set_option Elab.async false
set_option maxRecDepth 100000
set_option maxHeartbeats 4000000
namespace L2
open PySem PySem.Spec PyProof.Rows
section
variable {X : Cx}
/-- range(j), kept -/
theorem cr_range1 : CallR X (.type "range") (fun vs H Q => ∃ j, vs = [V.int j] ∧ ∀ p, H p = none → Q (.ref p) (upd H p (.rng 0 j))) := by
  intro pins s σ H vs us Q I r h
  obtain ⟨j, rfl, q⟩ := h
  obtain ⟨u1, rfl, rj⟩ := vals1 r
  obtain ⟨t, rfl⟩ := rj
  refine call_range_1 ⟨.ref s.heap.objs.size, upd H s.heap.objs.size (.rng 0 j), I.laid (t' := s.toks + 1 + 1) (fun b o e => Heap.get?_push_of_some _ e) (Nat.le_refl _) ?_, rfl, q _ (I.hok.fresh (Nat.le_refl _))⟩
  exact ⟨s.toks, t, s.toks + 1, Heap.get?_push_size _ rfl⟩
/-- len of a range -/
theorem call_lenR : CallR X (.builtin "len") (fun xs H Q => ∃ a lo hi, xs = [.ref a] ∧ H a = some (.rng lo hi) ∧ (hi - lo).toNat < 2 ^ 62 ∧ Q (.int ((hi - lo).toNat : Int)) H) := by
  intro pins s σ H xs us Q I r h
  obtain ⟨a, lo, hi, rfl, ha, hz, q⟩ := h
  rw [Vals.ref1 r]
  obtain ⟨t, u, v, ho⟩ := I.hok a _ ha
  exact call_len_range (n := (hi - lo).toNat) ho (rangeSize_nat lo hi) (by omega) ⟨.int ((hi - lo).toNat : Int), H, I.tok _, ⟨_, rfl⟩, q⟩
/-- sum of a tuple of ints -/
def rSumT (K : PySem.W.Frag) : List V → Hp → VK → Prop := fun vs H Q => ∃ (a : Addr) (ns : List Int), vs = [V.ref a] ∧ SqT K H a (ns.map V.int) ∧ Q (.int ns.sum) H
theorem cr_sumT (hc : X.calm = true) : CallR X (.builtin "sum") (rSumT X.K) := by
  intro pins s σ H vs us Q I r h
  obtain ⟨a, ns, rfl, hs, q⟩ := h
  obtain ⟨its, rv, hl, _⟩ := I.tuple hs
  rw [Vals.ref1 r]
  have hi := rv.ints
  obtain ⟨xs, e⟩ := hi.allInts.items
  have hn : numsOf (intItems xs).toList = ns := by rw [← e]; exact hi.numsOf
  rw [nums_intItems] at hn
  rw [e] at hl
  refine PySem.W.ktm_sumG (I.ok.hd hc) hl fun h' tk t' hk => ?_
  rw [preSum_eq, List.take_of_length_le (by simp), hn]
  exact ⟨.int ns.sum, H, I.kept hk, ⟨_, rfl⟩, q⟩
end
end L2

set_option Elab.async false
set_option maxRecDepth 100000
set_option maxHeartbeats 4000000
namespace L2
open PySem PySem.Spec PyProof.Rows
/-- a list or tuple at p of the items xs -/
def Sq (H : Hp) (p : Addr) (xs : List V) : Prop := H p = some (.lst xs) ∨ H p = some (.tup xs)
section
variable {K : PySem.W.Frag} {H H' : Hp} {p : Addr} {xs : List V}
theorem Sq.k (h : Sq H p xs) : ∃ k, KndOf H (.ref p) k ∧ k.isSeq = true := by
  rcases h with h | h
  · exact ⟨.list, ⟨p, xs, rfl, h⟩, rfl⟩
  · exact ⟨.tuple, ⟨p, xs, rfl, h⟩, rfl⟩
theorem Sq.ext (h : Sq H p xs) (e : Ext H H') : Sq H' p xs := h.imp (e _ _) (e _ _)
theorem Sq.l (h : Sq H p xs) : SqL K H p xs ∨ SqT K H p xs := h.imp SqL.of SqT.of
theorem ext_mut {D : Addr} {o : HO} (e : Ext H H') (h : H D = none) : Ext H (upd H' D o) := fun a u ha => by
  rw [upd_ne (ne_of_none ha h)]
  exact e a u ha
theorem ext_none {D : Addr} (e : Ext H H') (h : H' D = none) : H D = none := by
  cases h1 : H D with
  | none => rfl
  | some o =>
    rw [e D o h1] at h
    cases h
end
section
variable {X : Cx} {tg : Expr}
/-- a list or a tuple is walked -/
def iSq (K : PySem.W.Frag) (tl : TE) : TI := fun σ H R => tl σ H fun x H1 => ∃ a, x = .ref a ∧ (((∃ xs, SqL K H1 a xs) ∧ R (Itl K a) H1) ∨ ((∃ xs, SqT K H1 a xs) ∧ R (Itt K a) H1))
theorem pi_sq {l : Expr} {tl : TE} (hl : PE X l tl) : PI X tg l (iSq X.K tl) := by
  refine ⟨fun pins s σ H R I h => ?_⟩
  refine thn (hl.run pins s σ H _ I h) fun v s1 ⟨x, H1, I1, r1, q1⟩ => ?_
  obtain ⟨a, e, q1⟩ := q1
  subst e
  cases r1
  rcases q1 with ⟨⟨xs, hq⟩, q⟩ | ⟨⟨xs, hq⟩, q⟩
  · obtain ⟨its, rv, p, hz⟩ := I1.list hq
    refine wpAny_pyIter_list p.isList ?_
    refine ⟨s1.heap.objs.size, [s1.heap.objs.size], _, _, H1, rfl, I1.kept (t' := s1.toks) fun b o e => Heap.get?_push_of_some _ e, turn_list a _, ⟨_, Heap.get?_push_size _ rfl, rfl, rfl⟩, fun b hb => ?_, q⟩
    have e : b = s1.heap.objs.size := by simpa using hb
    subst e
    exact I1.fpOk (Nat.le_refl _) (I1.hok.fresh (Nat.le_refl _))
  · obtain ⟨its, rv, p, hz⟩ := I1.tuple hq
    refine wpAny_pyIter_tuple (show s1.heap.IsTuple a its.toArray from p) ?_
    refine ⟨s1.heap.objs.size, [s1.heap.objs.size], _, _, H1, rfl, I1.kept (t' := s1.toks) fun b o e => Heap.get?_push_of_some _ e, turn_tuple a _, ⟨_, Heap.get?_push_size _ rfl, rfl, rfl⟩, fun b hb => ?_, q⟩
    have e : b = s1.heap.objs.size := by simpa using hb
    subst e
    exact I1.fpOk (Nat.le_refl _) (I1.hok.fresh (Nat.le_refl _))
end
section
variable {K : PySem.W.Frag} {σ : St} {H : Hp} {p : Addr} {xs : List V} {te : TE} {tt : TT} {j : Nat} {vs : List Nat} {Q : VK}
theorem take_snoc {α : Type} {l : List α} {i : Nat} {x : α} (h : l[i]? = some x) : l.take (i + 1) = l.take i ++ [x] := by
  rw [List.take_add_one, h]
  rfl
/-- [f(x) for x in xs if b(x)], what is tested and made only adding to the heap: the reading behind the source's own -/
theorem lc_sqR {Qd : Addr → Hp → Prop} {f : V → V} {b : V → Bool} (hx : Sq H p xs) (hz : xs.length < sizeLine) (hw : ∀ x, wipe ((wipe σ vs).set j (some x)) vs = wipe σ vs)
    (ht : ∀ x ∈ xs, ∀ H', Ext H H' → ∀ Q : Bool → Hp → Prop, (∀ H'', Ext H' H'' → Q (b x) H'') → tt ((wipe σ vs).set j (some x)) H' Q)
    (he : ∀ x ∈ xs, b x = true → ∀ H', Ext H H' → ∀ Q : VK, (∀ H'', Ext H' H'' → Q (f x) H'') → te ((wipe σ vs).set j (some x)) H' Q)
    (q : ∀ D H', H D = none → Ext H H' → H' D = some (.lst ((xs.filter b).map f)) → Qd D H') :
    ((∃ xs, SqL K H p xs) ∧ (fun J H1 => ∀ D, H1 D = none → ∃ W : Nat → Nat → Hp → Prop, (∃ m, W 0 m (upd H1 D (.lst []))) ∧ ∀ i m H, W i m H →
      (J.stop i H ∧ Qd D H) ∨ (J.go i H ∧ ∃ Nx : Hp → Prop, (∀ H', Nx H' → ∃ m', m' < m ∧ W (i + 1) m' H') ∧ ∀ x H', J.yld i H x H' → gName j x (wipe σ vs) H' fun σ2 H2 => wipe σ2 vs = wipe σ vs ∧ tt σ2 H2 fun b H3 =>
        if b = true then te σ2 H3 fun y H4 => ∃ acc, H4 D = some (.lst acc) ∧ acc.length < sizeLine ∧ Nx (upd H4 D (.lst (acc ++ [y]))) else Nx H3)) (Itl K p) H) ∨
    ((∃ xs, SqT K H p xs) ∧ (fun J H1 => ∀ D, H1 D = none → ∃ W : Nat → Nat → Hp → Prop, (∃ m, W 0 m (upd H1 D (.lst []))) ∧ ∀ i m H, W i m H →
      (J.stop i H ∧ Qd D H) ∨ (J.go i H ∧ ∃ Nx : Hp → Prop, (∀ H', Nx H' → ∃ m', m' < m ∧ W (i + 1) m' H') ∧ ∀ x H', J.yld i H x H' → gName j x (wipe σ vs) H' fun σ2 H2 => wipe σ2 vs = wipe σ vs ∧ tt σ2 H2 fun b H3 =>
        if b = true then te σ2 H3 fun y H4 => ∃ acc, H4 D = some (.lst acc) ∧ acc.length < sizeLine ∧ Nx (upd H4 D (.lst (acc ++ [y]))) else Nx H3)) (Itt K p) H) := by
  have turn : ∀ (D : Addr), H D = none → ∀ i x H', xs[i]? = some x → (Ext H H' ∧ H' D = some (.lst (((xs.take i).filter b).map f))) → gName j x (wipe σ vs) H' fun σ2 H2 => wipe σ2 vs = wipe σ vs ∧ tt σ2 H2 fun b' H3 =>
      if b' = true then te σ2 H3 fun y H4 => ∃ acc, H4 D = some (.lst acc) ∧ acc.length < sizeLine ∧ (Ext H (upd H4 D (.lst (acc ++ [y]))) ∧ upd H4 D (.lst (acc ++ [y])) D = some (.lst (((xs.take (i + 1)).filter b).map f))) else (Ext H H3 ∧ H3 D = some (.lst (((xs.take (i + 1)).filter b).map f))) := by
    intro D hD i x H' hi pv
    obtain ⟨e, hl⟩ := pv
    have hm : x ∈ xs := List.mem_of_getElem? hi
    refine ⟨hw x, ht x hm H' e _ fun H3 e3 => ?_⟩
    have hl3 : H3 D = some (.lst (((xs.take i).filter b).map f)) := e3 _ _ hl
    cases hb : b x with
    | true =>
      refine iteT (he x hm hb H3 (e.trans e3) _ fun H4 e4 => ⟨_, e4 _ _ hl3, ?_, ext_mut ((e.trans e3).trans e4) hD, ?_⟩)
      · rw [List.length_map]
        refine Nat.lt_of_le_of_lt (Nat.le_trans (List.length_filter_le _ _) ?_) hz
        exact List.length_take_le' _ _
      · rw [upd_same, take_snoc hi, List.filter_append, List.map_append]
        simp [hb]
    | false =>
      refine iteF ⟨e.trans e3, ?_⟩
      rw [hl3, take_snoc hi, List.filter_append, List.map_append]
      simp [hb]
  have fin : ∀ D, H D = none → ∀ H', (Ext H H' ∧ H' D = some (.lst (((xs.take xs.length).filter b).map f))) → Qd D H' := fun D hD H' pv => by
    rw [List.take_length] at pv
    exact q D H' hD pv.1 pv.2
  rcases hx with hx | hx
  · refine .inl ⟨⟨xs, SqL.of hx⟩, fun D hD => lc_list (xs := xs) (fun i H' => Ext H H' ∧ H' D = some (.lst (((xs.take i).filter b).map f))) ⟨Ext.upd hD, upd_same⟩ (fun i H' _ pv => SqL.of (pv.1 _ _ hx)) (fun i x H' hi pv => turn D hD i x H' hi pv) (fun H' pv => fin D hD H' pv)⟩
  · refine .inr ⟨⟨xs, SqT.of hx⟩, fun D hD => lc_tup (xs := xs) (fun i H' => Ext H H' ∧ H' D = some (.lst (((xs.take i).filter b).map f))) ⟨Ext.upd hD, upd_same⟩ (fun i H' _ pv => SqT.of (pv.1 _ _ hx)) (fun i x H' hi pv => turn D hD i x H' hi pv) (fun H' pv => fin D hD H' pv)⟩
end
theorem filter_all {α : Type} (l : List α) : l.filter (fun _ => true) = l := List.filter_eq_self.mpr fun _ _ => rfl
end L2

set_option Elab.async false
set_option maxRecDepth 100000
set_option maxHeartbeats 4000000
/-! enumerate over a list or a tuple -/
namespace PySem
open Sem (wp)
/-- the maker of enumerate, handed one thing whose iterator is told -/
theorem en1_meets {v : Value} {ob : Obj} {HP : Heap → Prop} (BG : Begins v ob HP) :
    Meets (Builtin.«enumerate.__new__» ⟨[.type "enumerate", v], []⟩) (fun _ RR sh => HP sh.heap ∧
      RR (.ok (.ret (.ref (sh.heap.push ob).objs.size)))
        { sh with heap := (sh.heap.push ob).push { cls := .type "enumerate", data := .fields #[.none, .bool false, .ref sh.heap.objs.size, rawInt 0, .none, .none] } }) :=
  .of_wp fun pr ww AA RR sh hh => by
    obtain ⟨hp, gg, dd, tk, os⟩ := sh
    obtain ⟨hh1, hh⟩ := hh
    have sub1 := sub_enumerate
    have begin1 : ∀ {A1 : Around} {E1 Q1 : Value → Shared → Prop}, Q1 (.ref hp.objs.size) ⟨hp.push ob, gg, dd, tk, os⟩ →
        wpAny (model pr ww) A1 (pyIter v) Q1 E1 ⟨hp, gg, dd, tk, os⟩ :=
      fun qq => BG.iter pr ww _ _ ⟨hp, gg, dd, tk, os⟩ _ hh1 qq
    wp_walk using begin1
    refine wpAny_stack_any fun sta => wpAny_pure ?_
    split
    · rename_i cc _ _ _ _ _
      cases (cc == Value.type "enumerate")
      all_goals
        wp_walk using begin1
        exact ⟨_, rfl, hh⟩
    · wp_walk using begin1
      exact ⟨_, rfl, hh⟩
section
variable {pr : Program} {ww : World} {AA : Around} {EE : Value → Shared → Prop} {sh : Shared}
theorem en1_call {v : Value} {ob : Obj} {HP : Heap → Prop} {QQ : Value → Shared → Prop} (BG : Begins v ob HP) (hh : HP sh.heap)
    (kk : ∀ h1, IsEnum h1 (sh.heap.objs.size + 1) sh.heap.objs.size 0 .none → h1.get? sh.heap.objs.size = some ob →
      (∀ x y, sh.heap.get? x = some y → h1.get? x = some y) → QQ (.ref (sh.heap.objs.size + 1)) { sh with heap := h1 }) :
    wpAny (model pr ww) AA (call (.type "enumerate") [v]) QQ EE sh := by
  refine callType_new F.called_enumerate (by decide) (F.typeCall_enumerate_1 _) (F.newCall_enumerate_1 _) (fun oo => F.args_object_init_2 oo _) F.entry_enumerate_new (en1_meets BG) ⟨hh, ?_⟩
  have sz : (sh.heap.push ob).objs.size = sh.heap.objs.size + 1 := Heap.size_push ..
  show _ ∧ _
  rw [sz]
  have en : IsEnum ((sh.heap.push ob).push { cls := .type "enumerate", data := .fields #[.none, .bool false, .ref sh.heap.objs.size, rawInt 0, .none, .none] })
      (sh.heap.objs.size + 1) sh.heap.objs.size 0 .none := by
    have qq := Heap.get?_push_size (sh.heap.push ob) (o := { cls := .type "enumerate", data := .fields #[.none, .bool false, .ref sh.heap.objs.size, rawInt 0, .none, .none] }) rfl
    rw [sz] at qq
    exact qq
  exact ⟨⟨_, en, rfl⟩, kk _ en (Heap.get?_push_of_some _ (Heap.get?_push_size _ BG.free)) fun x y hx => Heap.get?_push_of_some _ (Heap.get?_push_of_some _ hx)⟩
end
end PySem
namespace L2
open PySem PySem.Spec PyProof.Rows
/-- the tuple at a, each item in a new pair with its place -/
def Itet (K : PySem.W.Frag) (a : Addr) : It :=
  ⟨fun i H => ∃ xs : List V, SqT K H a xs ∧ i < xs.length,
    fun i H v H' => ∃ T x, v = .ref T ∧ H T = none ∧ H' = upd H T (.tup [.int (i : Nat), x]) ∧ ∀ xs, SqT K H a xs → xs[i]? = some x,
    fun i H => ∃ xs : List V, SqT K H a xs ∧ xs.length = i⟩
theorem turn_enT {P : Program} {w : World} {K : PySem.W.Frag} {elts : List Expr} {kk : Nat} {tpos : Pos} (a e it : Addr) (hea : e ≠ a) (hia : a ≠ it) :
    Turn P w K (.Tuple elts kk tpos) (Itet K a) [e, it] e (fun i h => (∃ old, IsEnum h e it ((i : Nat) : Int) old) ∧ h.IsTupleIter it a i ∧ e ≠ it) where
  mem := List.mem_cons_self
  obj := fun i h st b hb => by
    obtain ⟨⟨old, he⟩, ⟨o, ho, _, hd⟩, _⟩ := st
    rcases List.mem_cons.mp hb with z | z
    · subst z
      exact ⟨_, he, fun v q => nomatch q⟩
    · have z' := List.mem_singleton.mp z
      subst z'
      exact ⟨o, ho, fun v q => by rw [hd] at q; cases q⟩
  keep := fun i h h' st k => by
    obtain ⟨⟨old, he⟩, hi, hne⟩ := st
    exact ⟨⟨old, k e List.mem_cons_self _ he⟩, hi.at fun o q => k it (List.mem_cons_of_mem _ (List.mem_singleton.mpr rfl)) o q, hne⟩
  item := by
    intro X hP hw hK hc i pins s σ H E I hf st hg
    subst hP hw hK
    obtain ⟨⟨old, he⟩, hit, hne⟩ := st
    obtain ⟨xs, hq, hx⟩ := hg
    obtain ⟨its, rv, p, hz⟩ := I.tuple hq
    have hl := rv.length
    have hel : e < s.heap.objs.size := Heap.lt_size he
    have hil : it < s.heap.objs.size := by
      obtain ⟨_, q, _⟩ := hit
      exact Heap.lt_size q
    have D := Draws.tuple (prog := X.prog) (w := X.w) (A := X.A.in1) (show X.A.in1.handled = none from I.ok.hd hc) it a hia its.toArray
    refine wpAny_pyNext_enum_itemC D he (i := i) ⟨hit, p⟩ (by simp; omega) hne (by simp [hne, hea]) fun u h' tk hP ho hst' hT hsz hk => ?_
    have hu : its[i]? = some u := by simpa using hP
    obtain ⟨x, hxx⟩ : ∃ x, xs[i]? = some x := ⟨_, List.getElem?_eq_getElem hx⟩
    obtain ⟨u', hu', ru'⟩ := rv.get hxx
    have eu : u' = u := Option.some.inj (hu'.symm.trans hu)
    subst eu
    refine ⟨_, rfl, wpAny_letOwnedTupleGo_enum (s := { s with heap := h', toks := tk + 1 }) ho fun h2 he2 sb => ?_⟩
    have hT2 : h2.get? s.heap.objs.size = some { cls := .type "tuple", data := .seq #[.int i tk, u'] } := (sb.2 _ (Nat.ne_of_gt hel)).trans hT
    have new : ObjOk X.prog X.w (upd H s.heap.objs.size (.tup [.int (i : Nat), x])) h2 s.heap.objs.size (.tup [.int (i : Nat), x]) := by
      refine ⟨?_, [.int i tk, u'], .cons ⟨_, rfl⟩ (.cons ru' .nil), ⟨_, hT2, rfl, _, rfl⟩⟩
      show 2 ≤ sizeLine
      decide
    have I1 : Inv X pins σ (upd H s.heap.objs.size (.tup [.int (i : Nat), x])) { s with heap := h2, toks := tk + 1 } := by
      refine I.turnedNew (ch := [e, it]) (fun b ob hb q => ?_) hf (Nat.le_refl _) new
      have b1 : b ≠ e := fun z => hb (by simp [z])
      have b2 : b ≠ it := fun z => hb (by simp [z])
      exact (sb.2 b b1).trans (hk b ob b1 b2 q)
    refine ⟨.ref s.heap.objs.size, _, I1, rfl, ⟨_, x, rfl, I.hok.fresh (Nat.le_refl _), rfl, fun ys hy => ?_⟩, ⟨⟨u', ?_⟩, hst'.1.at fun o q => (sb.2 it (Ne.symm hne)).trans q, hne⟩, fun b hb => ?_⟩
    · obtain ⟨its2, rv2, p2, _⟩ := I.tuple hy
      rw [I.tuple_inj hy hq]
      exact hxx
    · have e1 : ((i + 1 : Nat) : Int) = (i : Int) + 1 := rfl
      rw [e1]
      exact he2
    · have hb' : b < s.heap.objs.size := by
        rcases List.mem_cons.mp hb with z | z
        · rw [z]
          exact hel
        · rw [List.mem_singleton.mp z]
          exact hil
      rw [upd_ne (Nat.ne_of_lt hb')]
      exact (hf b hb).1
  done := by
    intro X hP hw hK hc i pins s σ H E I hf st hg
    subst hP hw hK
    obtain ⟨⟨old, he⟩, hit, hne⟩ := st
    obtain ⟨xs, hq, hx⟩ := hg
    obtain ⟨its, rv, p, hz⟩ := I.tuple hq
    have hl := rv.length
    obtain ⟨f0, f1, f2, f3, f4, f5⟩ := hf it (List.mem_cons_of_mem _ (List.mem_singleton.mpr rfl))
    have D := Draws.tuple (prog := X.prog) (w := X.w) (A := X.A.in1) (show X.A.in1.handled = none from I.ok.hd hc) it a hia its.toArray
    have ei : i = its.toArray.size := by simp; omega
    refine wpAny_pyNext_enum_endD D he (by rw [← ei]; exact ⟨hit, p⟩) fun h' eb => ⟨rfl, ?_⟩
    exact I.turned (t' := s.toks) (fun b o hb q => eb b o hb q) f0 f1 f3 f4 f5
  self := fun A i s Q E st h => by
    obtain ⟨⟨_, he⟩, _⟩ := st
    exact wpAny_pyIter_enum he h
/-- a list or a tuple is walked with the places -/
def iEnSq (K : PySem.W.Frag) (ta : TA) : TI := fun σ H R => ta σ H fun vs H1 => ∃ a, vs = [.ref a] ∧ (((∃ xs, SqL K H1 a xs) ∧ R (Ite K a) H1) ∨ ((∃ xs, SqT K H1 a xs) ∧ R (Itet K a) H1))
theorem pi_enSq {X : Cx} {e : Expr} {ta : TA} {p pos tpos : Pos} {elts : List Expr} {kk : Nat} (hg : Gl X "enumerate") (hm : X.mg "enumerate" = none) (ha : PA X [e] ta) (hs : starEach [e] X.env = [(false, eval e X.env)] := by rfl) :
    PI X (.Tuple elts kk tpos) (.Call (.Name "enumerate" p) [e] [] pos) (iEnSq X.K ta) := by
  refine ⟨fun pins s σ H R I h => ?_⟩
  refine Call_ (ld_blt I hg hm boot_enumerate (PyProof.Rows.callWith_type1 (thn (ha.run pos pins s σ H _ I h) fun us s1 ⟨vs, H1, I1, r1, q1⟩ => ?_) hs rfl))
  obtain ⟨a, ex, q1⟩ := q1
  subst ex
  obtain rfl := Vals.ref1 r1
  have two : ∀ b, b ∈ [s1.heap.objs.size + 1, s1.heap.objs.size] → s1.heap.objs.size ≤ b := fun b hb => by
    rcases List.mem_cons.mp hb with z | z
    · rw [z]
      exact Nat.le_add_right _ _
    · rw [List.mem_singleton.mp z]
      exact Nat.le_refl _
  rcases q1 with ⟨⟨xs, hq⟩, q⟩ | ⟨⟨xs, hq⟩, q⟩
  · obtain ⟨its, rv, p', hz⟩ := I1.list hq
    refine en1_call (begins_list a its.toArray) p'.isList fun h' he hit hk => wpAny_pyIter_enum he ?_
    have I2 : Inv X pins σ H1 { s1 with heap := h' } := I1.kept (t' := s1.toks) hk
    refine ⟨s1.heap.objs.size + 1, [s1.heap.objs.size + 1, s1.heap.objs.size], _, _, H1, rfl, I2, turn_enum a (s1.heap.objs.size + 1) s1.heap.objs.size, ⟨⟨.none, he⟩, ⟨_, hit, rfl, rfl⟩, Nat.succ_ne_self _⟩, fun b hb => ?_, q⟩
    exact I1.fpOk (two b hb) (I1.hok.fresh (two b hb))
  · obtain ⟨its, rv, p', hz⟩ := I1.tuple hq
    have hlt : a < s1.heap.objs.size := by
      obtain ⟨o, ho, _⟩ := (show s1.heap.IsTuple a its.toArray from p')
      exact Heap.lt_size ho
    refine en1_call (begins_tuple a its.toArray) p' fun h' he hit hk => wpAny_pyIter_enum he ?_
    have I2 : Inv X pins σ H1 { s1 with heap := h' } := I1.kept (t' := s1.toks) hk
    refine ⟨s1.heap.objs.size + 1, [s1.heap.objs.size + 1, s1.heap.objs.size], _, _, H1, rfl, I2, turn_enT a (s1.heap.objs.size + 1) s1.heap.objs.size (Nat.ne_of_gt (Nat.lt_succ_of_lt hlt)) (Nat.ne_of_lt hlt), ⟨⟨.none, he⟩, ⟨_, hit, rfl, rfl⟩, Nat.succ_ne_self _⟩, fun b hb => ?_, q⟩
    exact I1.fpOk (two b hb) (I1.hok.fresh (two b hb))
section
variable {K : PySem.W.Frag} {a : Addr} {xs : List V}
theorem walk_enT : Walk (Itet K a) xs.length (fun H => SqT K H a xs) (YPair (fun i => some (.int (i : Nat))) (fun i => xs[i]?)) := by
  refine ⟨fun i _ hi q => ⟨xs, q, hi⟩, fun _ q => ⟨xs, q, rfl⟩, fun i H v H' _ q y => ?_⟩
  obtain ⟨T, x, e1, e2, e3, e4⟩ := y
  exact ⟨T, .int (i : Nat), x, e1, e2, e3, rfl, e4 xs q⟩
/-- the turns of an end: what goes on is N -/
def turnsOf (g : TG) (tb : TS) (D : Ends) (σ : St) (J : It) (H : Hp) : Prop := ∃ W : Nat → Nat → St → Hp → Prop, (∃ m, W 0 m σ H) ∧ ∀ i m σ H, W i m σ H →
  (J.stop i H ∧ D.nx σ H) ∨ (J.go i H ∧ ∃ N : St → Hp → Prop, (∀ σ' H', N σ' H' → ∃ m', m' < m ∧ W (i + 1) m' σ' H') ∧ ∀ x H', J.yld i H x H' → g x σ H' fun σ2 H2 => tb { D with nx := N, ct := N, bk := D.nx } σ2 H2)
theorem for_enSq {g : TG} {tb : TS} {D : Ends} {σ : St} {H : Hp} (hx : SqL K H a xs ∨ SqT K H a xs) (Pv : Nat → St → Hp → Prop) (h0 : Pv 0 σ H) (hE : ∀ i σ' H', Pv i σ' H' → Ext H H')
    (hs : ∀ i x σ' H' T, xs[i]? = some x → Pv i σ' H' → H' T = none → g (.ref T) σ' (upd H' T (.tup [.int (i : Nat), x])) fun σ2 H2 => tb { D with nx := Pv (i + 1), ct := Pv (i + 1), bk := D.nx } σ2 H2) (hd : ∀ σ' H', Pv xs.length σ' H' → D.nx σ' H') :
    ((∃ xs, SqL K H a xs) ∧ turnsOf g tb D σ (Ite K a) H) ∨ ((∃ xs, SqT K H a xs) ∧ turnsOf g tb D σ (Itet K a) H) := by
  have step : ∀ i x σ' H' H'', i < xs.length → Pv i σ' H' → YPair (fun i => some (V.int (i : Nat))) (fun i => xs[i]?) i H' x H'' → g x σ' H'' fun σ2 H2 => tb { D with nx := Pv (i + 1), ct := Pv (i + 1), bk := D.nx } σ2 H2 := by
    rintro i v σ' H' H'' hi pv ⟨T, x, y, rfl, hT, rfl, hx', hy⟩
    cases hx'
    exact hs i y σ' H' T hy pv hT
  rcases hx with hx | hx
  · exact .inl ⟨⟨xs, hx⟩, for_it (walk_enum (xs := xs)) Pv h0 (fun i σ' H' _ pv => hx.ext (hE i σ' H' pv)) step hd⟩
  · exact .inr ⟨⟨xs, hx⟩, for_it (walk_enT (xs := xs)) Pv h0 (fun i σ' H' _ pv => hx.ext (hE i σ' H' pv)) step hd⟩
end
end L2

set_option Elab.async false
set_option maxRecDepth 100000
set_option maxHeartbeats 4000000
/-! values told by the data that they hold -/
namespace L2
open PySem PySem.Spec PyProof.Rows
/-- the type's name -/
def tnD : PyData → String
  | .none => "NoneType" | .bool _ => "bool" | .int _ => "int" | .str _ => "str" | .list _ => "list" | .tuple _ => "tuple" | .dict _ => "dict"
def isIntD : PyData → Bool | .int _ => true | .bool _ => true | _ => false
def isBoolD : PyData → Bool | .bool _ => true | _ => false
def isTupD : PyData → Bool | .tuple _ => true | _ => false
def isListD : PyData → Bool | .list _ => true | _ => false
def isStrD : PyData → Bool | .str _ => true | _ => false
def isSeqD : PyData → Bool | .list _ => true | .tuple _ => true | _ => false
def isNoneD : PyData → Bool | .none => true | _ => false
/-- the int that it is, no truth -/
def betD (d : PyData) (a b : Int) : Bool := match d with
  | .int n => decide (a ≤ n) && decide (n ≤ b)
  | _ => false
def lenD : PyData → Nat | .list ds => ds.length | .tuple ds => ds.length | _ => 0
section
variable {K : PySem.W.Frag} {H H' : Hp} {v : V} {d : PyData}
theorem dp_ty (h : Dp K H v d) : TyX K H v (.type (tnD d)) := by
  cases h with
  | non => exact .base .non
  | bl b => exact .base (.bl b)
  | int i => exact .base (.int i)
  | str s => exact .base (.str s)
  | lst hs _ =>
    rcases hs with (h | ⟨o, h⟩) | ⟨o, its, n, e, c, _⟩
    · exact .base (.lst h)
    · exact .base (.frz h)
    · exact .kList e c
  | tup hs _ =>
    rcases hs with (h | ⟨o, h⟩) | ⟨o, its, n, e, c, _⟩
    · exact .base (.tup h)
    · exact .fTuple h
    · exact .kTuple e c
theorem kd_int : PySem.W.kitOne K (.type (tnD d)) (.type "int") = some (isIntD d) := by cases d <;> exact kit_ty (by dsimp only [tnD, isIntD]; decide +kernel)
theorem kd_bool : PySem.W.kitOne K (.type (tnD d)) (.type "bool") = some (isBoolD d) := by cases d <;> exact kit_ty (by dsimp only [tnD, isBoolD]; decide +kernel)
theorem kd_tup : PySem.W.kitOne K (.type (tnD d)) (.type "tuple") = some (isTupD d) := by cases d <;> exact kit_ty (by dsimp only [tnD, isTupD]; decide +kernel)
theorem kd_list : PySem.W.kitOne K (.type (tnD d)) (.type "list") = some (isListD d) := by cases d <;> exact kit_ty (by dsimp only [tnD, isListD]; decide +kernel)
theorem kd_seq : PySem.W.kitAny K (.type (tnD d)) [.type "list", .type "tuple"] = some (isSeqD d) := by
  unfold PySem.W.kitAny
  rw [kd_list]
  unfold PySem.W.kitAny
  rw [kd_tup]
  cases d <;> rfl
theorem kd_find : (fastFind? (tnD d)).isSome = true := by cases d <;> (dsimp only [tnD]; decide +kernel)
mutual
theorem dp_ext (e : Ext H H') : ∀ (d : PyData) (v : V), Dp K H v d → Dp K H' v d
  | .none, _, h => by cases h; exact .non
  | .bool _, _, h => by cases h; exact .bl _
  | .int _, _, h => by cases h; exact .int _
  | .str _, _, h => by cases h; exact .str _
  | .list ds, _, h => by
    cases h with
    | lst hs ha => exact .lst (hs.ext e) (dps_ext e ds _ ha)
  | .tuple ds, _, h => by
    cases h with
    | tup hs ha => exact .tup (hs.ext e) (dps_ext e ds _ ha)
  | .dict _, _, h => by cases h
theorem dps_ext (e : Ext H H') : ∀ (ds : List PyData) (vs : List V), DpAll K H vs ds → DpAll K H' vs ds
  | [], _, h => by cases h; exact .nil
  | d :: ds, _, h => by
    cases h with
    | cons h1 h2 => exact .cons (dp_ext e d _ h1) (dps_ext e ds _ h2)
end
theorem dps_len : ∀ {vs : List V} {ds : List PyData}, DpAll K H vs ds → vs.length = ds.length
  | [], _, h => by cases h; rfl
  | v :: vs, _, h => by
    cases h with
    | cons _ h2 => exact congrArg Nat.succ (dps_len h2)
theorem dps_get : ∀ {vs : List V} {ds : List PyData} {i : Nat} {v : V}, DpAll K H vs ds → vs[i]? = some v → ∃ d, ds[i]? = some d ∧ Dp K H v d
  | [], _, _, _, _, e => by cases e
  | v :: vs, _, i, _, h, e => by
    cases h with
    | @cons _ _ d ds h1 h2 =>
      cases i with
      | zero => cases e; exact ⟨d, rfl, h1⟩
      | succ i => exact dps_get (i := i) h2 e
theorem bet_int {n a b : Int} : betD (.int n) a b = (decide (a ≤ n) && decide (n ≤ b)) := rfl
theorem bet_not {a b : Int} (h : (isIntD d && !isBoolD d) = false) : betD d a b = false := by cases d <;> first | rfl | cases h
theorem bet_yes {a b : Int} (h : betD d a b = true) : ∃ n, d = .int n ∧ a ≤ n ∧ n ≤ b := by
  cases d <;> first | (rw [bet_int, Bool.and_eq_true, decide_eq_true_eq, decide_eq_true_eq] at h; exact ⟨_, rfl, h.1, h.2⟩) | cases h
theorem int_yes (h : (isIntD d && !isBoolD d) = true) : ∃ n, d = .int n := by cases d <;> first | exact ⟨_, rfl⟩ | cases h
theorem dp_int {n : Int} (h : Dp K H v (.int n)) : v = .int n := by cases h; rfl
theorem dp_seq (h : Dp K H v d) (hs : isSeqD d = true) : ∃ (a : Addr) (xs : List V) (ds : List PyData), v = .ref a ∧ (SqL K H a xs ∨ SqT K H a xs) ∧ DpAll K H xs ds ∧ (d = .list ds ∨ d = .tuple ds) := by
  cases h with
  | lst h ha => exact ⟨_, _, _, rfl, .inl h, ha, .inl rfl⟩
  | tup h ha => exact ⟨_, _, _, rfl, .inr h, ha, .inr rfl⟩
  | _ => cases hs
theorem dp_tup (h : Dp K H v d) (hs : isTupD d = true) : ∃ (a : Addr) (xs : List V) (ds : List PyData), v = .ref a ∧ SqT K H a xs ∧ DpAll K H xs ds ∧ d = .tuple ds := by
  cases h with
  | tup h ha => exact ⟨_, _, _, rfl, h, ha, rfl⟩
  | _ => cases hs
end
/-! ### own methods, called -/
section
variable {X : Cx} {CX : CXT} {m : Str} {k : Nat} {ps : List Str} {sp : Sp} {e o : Expr} {es : List Expr} {t : TA} {ta : TE} {pos apos : Pos} {C : Addr}
theorem pe_ownM0 {pl : Sem Bool} (O : OwnM X.prog X.w X.K X.mg X.base CX C m k ps sp) (he : PE X o ta) (c : Cls X.K C) (hr : Room k X.A) (hx : Passes CX X E0)
    (ht : eval (.Call (.Attribute o m apos) [] [] pos) X.env = (do
      let ov ← eval o X.env
      standAt apos.atName
      let (f, first) ← holding [ov] (getMethod ov m pl)
      callWith pos f first (backTo pos (starEach [] X.env)) (backToKw pos (keywordEach [] X.env))) := by rfl) :
    PE X (.Call (.Attribute o m apos) [] [] pos) (tMeth C m sp [] E0 ta tNil) := by
  obtain ⟨f, fd, F, M, _, hb⟩ := O.ex
  exact pe_meth0 he c M F hr hb .nil hx ht
theorem pe_ownM {pl : Sem Bool} (O : OwnM X.prog X.w X.K X.mg X.base CX C m k ps sp) (he : PE X o ta) (c : Cls X.K C) (hr : Room k X.A) (hx : Passes CX X E0) (ha : PA X (e :: es) t)
    (hst : starEach (e :: es) X.env = (false, eval e X.env) :: starEach es X.env := by rfl) (hpl : (backTo pos (starEach es X.env)).any (·.1) = false := by rfl)
    (ht : eval (.Call (.Attribute o m apos) (e :: es) [] pos) X.env = (do
      let ov ← eval o X.env
      standAt apos.atName
      let (f, first) ← holding [ov] (getMethod ov m pl)
      callWith pos f first (backTo pos (starEach (e :: es) X.env)) (backToKw pos (keywordEach [] X.env))) := by rfl) :
    PE X (.Call (.Attribute o m apos) (e :: es) [] pos) (tMeth C m sp [] E0 ta t) := by
  obtain ⟨f, fd, F, M, _, hb⟩ := O.ex
  exact pe_meth he c M F hr hb .nil hx ha hst hpl ht
end
end L2

set_option Elab.async false
set_option maxRecDepth 100000
set_option maxHeartbeats 4000000
/-! defs that are handed the error that the suite holds; classes made with defaults -/
namespace L2
open PySem PySem.Spec PyProof.Rows
section
variable {X : Cx}
/-- isinstance(e, c), e the held error, anywhere that it is pinned -/
theorem call_isEP {a D : Addr} {cls : Value} {d : Option Addr} {oe : Obj} (hpn : (a, oe) ∈ X.pn) (C : ExcC X.K D) (hz : Zc cls d oe) (hf : ∃ vs, oe.data = .fields vs) : CallR X (.builtin "isinstance") (rIsED X.K D a cls d) := by
  intro pins s σ H xs us Q I r h
  obtain ⟨ec0, hdd, c, cv, b, rfl, hcv, e, q⟩ := h
  subst ec0
  cases r with
  | cons rx rr =>
    cases rr with
    | cons rt rr =>
      cases rr
      cases rx
      have ec := hcv _ rt
      subst ec
      obtain ⟨hget, _⟩ := I.pin (a, oe) (List.mem_append.mpr (.inl hpn))
      obtain ⟨vs, hv⟩ := hf
      have J : ∃ od, PySem.W.InstAt s.heap a oe D od := by
        obtain ⟨oc, od, oda, osl⟩ := oe
        obtain ⟨h1, h2⟩ := hz
        dsimp only at h1 h2 hv
        subst h1 h2 hv
        cases od with
        | none => exact ⟨none, hget, rfl, rfl, trivial⟩
        | some dd =>
          obtain ⟨fs, hfs⟩ := hdd dd rfl
          obtain ⟨mA, hns, _⟩ := (show ObjOk X.prog X.w H s.heap dd (.xd fs) from I.hok dd _ hfs)
          obtain ⟨od, ho, _⟩ := lookIn_ns hns
          exact ⟨some od, hget, rfl, rfl, ho⟩
      exact PySem.W.kia_one (PySem.W.kitx_excD C) I.kIn J e (fun z => nomatch z) fun tk => ⟨.bl b, H, I.kept (t' := tk) fun _ _ z => z, rfl, q⟩
/-- e.f of it -/
theorem pe_xfP {a C : Addr} {oe : Obj} {cls : Value} {d : Option Addr} {e : Expr} {te : TE} {pos : Pos} {n : Str} (hpn : (a, oe) ∈ X.pn) (T : XfC X.K C) (hno : PySem.W.findIn X.K (.ref C) n = some none)
    (hz : Zc cls d oe) (hf : ∃ vs, oe.data = .fields vs) (he : PE X e te) (hb : attributeBase e n X.env (eval e X.env) = eval e X.env := by rfl) :
    PE X (.Attribute e n pos) (tXf a cls d C n te) := by
  refine ⟨fun pins s σ H Q I h => attr_of hb (thn (he.run pins s σ H _ I h) fun u s1 hh => ?_)⟩
  obtain ⟨x, H1, I1, rx, ex, ec, dd, fs, v, ed, ea, l, q⟩ := hh
  subst ex ec ed
  obtain rfl : u = Value.ref a := rx
  obtain ⟨hget, _⟩ := I1.pin (a, oe) (List.mem_append.mpr (.inl hpn))
  obtain ⟨vs, hv⟩ := hf
  obtain ⟨mA, hns, hr⟩ := (show ObjOk X.prog X.w H1 s1.heap dd (.xd fs) from I1.hok dd _ ea)
  obtain ⟨od, ho, hl⟩ := lookIn_ns hns
  obtain ⟨uu, hu, ru⟩ := RelO.some_of (v := v) (o := mA n) (by rw [← l]; exact hr n)
  have ncls : PySem.W.notCls oe = true := by
    unfold PySem.W.notCls
    rw [hv] <;> rfl
  have J : PySem.W.InstAt s1.heap a oe C (some od) := ⟨hget, hz.1, ncls, by rw [hz.2]; exact ho⟩
  have fo := PySem.W.findObj_own T.hdC hno (od := od) rfl (by rw [hl, hu])
  exact HandSPX.exc_get I1.kIn J T.ga T.gg T.exC fo (handed_of ru) ⟨v, H1, I1.tok _, ru, q⟩
end
end L2
namespace L2H
open PySem PySem.Spec PyProof.Rows L2 HotX
/-- such a def: its promise speaks of the held error, too -/
structure FnE (P : Program) (w : World) (K : PySem.W.Frag) (mg : Str → Option Value) (base : Heap) (CX : CXT) (k : Nat) (f : Addr) (fd : FuncData) (ps : List Str) (sp : Addr × Obj → Sp) : Prop where
  len : ∀ p vs H Q E, sp p vs H Q E → vs.length = ps.length
  run : ∀ (p : Addr × Obj) (AA : Around) (outer : List Env) (sh : Shared) (H : Hp) (args : Args) (us : List Value) (vs : List V) (Q : VK) (E : XK), RoomH k AA → PinOk outer H sh p → Env0 P w K mg base AA outer sh H →
    BindsTo sh fd args (ps.zip us) → Vals vs us → sp p vs H Q E → codeAny (model P w) AA (.call (.ref f) args) (CR CX outer P w H sh Q E) sh
section
variable {CX : CXT} {P : Program} {w : World} {K : PySem.W.Frag} {mg : Str → Option Value} {base : Heap} {k : Nat} {f : Addr} {fd : FuncData} {x qual : Str} {st : Stmt} {N ps : List Str} {sp : Addr × Obj → Sp}
theorem fnE_of (F : Fun K x qual st f fd) (S : FnScope N ps (defScope st)) (len : ∀ p vs H Q E, sp p vs H Q E → vs.length = ps.length)
    (hbody : ∀ (p : Addr × Obj) (cdv : Value) (AA : Around) (outer : List Env) (sh : Shared) (H : Hp) (vs : List V) (Q : VK) (E : XK), RoomH k (AA.deeper (envOfC qual (defScope st) sh.heap.objs.size f cdv)) → sp p vs H Q E →
      ∃ t, PSs (cxH CX P w K mg base N qual (defScope st) f cdv AA outer sh H E p) (defBody st) t ∧ t { nx := fun _ H' => Q .non H', rt := Q } (L2.start N vs) H) : FnE P w K mg base CX (k + 1) f fd ps sp := by
  obtain ⟨oc, od, kV, doc, pm, an, cdv, ct, osl, rfl, lk, hcd⟩ := F.ex
  refine ⟨len, fun p AA outer sh H args us vs Q E hr hpin e0 hb r hsp => ?_⟩
  have hl := len _ _ _ _ _ hsp
  have KX : K.In sh.heap := e0.mod.kin.keeps fun b o e => (e0.bs b o e).1
  have lim : sh.heap.NoLimit := e0.mod.nolimit.keeps fun b o e => (e0.bs b o e).1
  have binds : ∀ y ∈ ps.zip us, (defScope st).names.lookup y.1 = some .local ∨ ((defScope st).names.lookup y.1 = some .cell ∧ ((cellsFrom (sh.heap.objs.size + 1) (defScope st).names []).lookup y.1).isSome = true) := by
    rintro ⟨n, v⟩ hy
    rcases S.par n (List.of_mem_zip hy).1 with q | q
    · exact .inl q
    · exact .inr ⟨q, PySem.W.cellsFrom_some _ _ _ (.inl q)⟩
  refine codeAny_call_function hr.depth (KX _ _ lk) rfl S.co S.gen rfl (PySem.W.codeRec_of KX hcd) (hb _ _ _ _ ?_)
  refine wpAny_newFunctionEnv_cells S.kind binds fun env he s1 xx => ?_
  subst he
  refine ⟨lim.keeps xx.toInCall.keep, codeAny_func ?_⟩
  obtain ⟨t, ht, hq⟩ := hbody p cdv AA outer sh H vs Q E (hr.deeper _) hsp
  have I := inv_startH (CX := CX) (E := E) S hpin e0 hl r xx
  refine wpAny_mono (ht.run [] s1 (L2.start N vs) H _ I hq) (fun fl s' hs => ?_) fun _ _ hs => hs
  cases fl with
  | ret u =>
    obtain ⟨v, σ', H', J, rv, q⟩ := hs
    exact ⟨v, H', J.os, J.bare, J.base, J.hok, rv, q⟩
  | next =>
    obtain ⟨σ', H', J, q⟩ := hs
    exact ⟨V.non, H', J.os, J.bare, J.base, J.hok, rfl, q⟩
  | brk =>
    obtain ⟨_, _, _, q⟩ := hs
    exact q.elim
  | cont =>
    obtain ⟨_, _, _, q⟩ := hs
    exact q.elim
end
section
variable {X : Cx} {CX : CXT} {k : Nat} {f : Addr} {fd : FuncData} {ps : List Str} {sp : Addr × Obj → Sp} {x : Str} {q pos : Pos} {e : Expr} {es : List Expr} {t : TA} {p : Addr × Obj}
/-- f(e, ..) in the suite that holds p -/
theorem pe_callE (F : FnE X.prog X.w X.K X.mg X.base CX k f fd ps sp) (hr : RoomH k X.A) (hp : p ∈ X.pn) (hg : Gl X x) (hm : X.mg x = some (.ref f)) (hk : PySem.W.keepIn X.K (.ref f) = true) (hb : Binds X.K fd ps []) (hx : Passes CX X E0)
    (ha : PA X (e :: es) t) (hdb : (x == ("__debug__" : Str)) = false := by decide) (he : starEach (e :: es) X.env = (false, eval e X.env) :: starEach es X.env := by rfl) (hpl : (backTo pos (starEach es X.env)).any (·.1) = false := by rfl) :
    PE X (.Call (.Name x q) (e :: es) [] pos) (tCall (sp p) [] E0 t) := by
  refine ⟨fun pins s σ H Q I h => wpAny_Call_Name_kw (ld_glob I hg hm ?_ hdb)⟩
  refine PySem.W.callWith_K (h₀ := X.base) I.ok.mod.kin hk (thn (ha.run pos pins s σ H _ I h) fun us s1 ⟨vs, H1, I1, r, hsp⟩ => ⟨I1.kIn, ?_⟩) he hpl
  have hsp : sp p vs H1 Q E0 := by
    have z : sp p (vs ++ []) H1 Q E0 := hsp
    rwa [List.append_nil] at z
  have hl : us.length = ps.length := by
    rw [← r.length]
    exact F.len _ _ _ _ _ hsp
  have bd := hb s1 us I1.kIn (by rw [List.append_nil]; exact hl)
  rw [List.append_nil] at bd
  have P1 := I1.pin p (List.mem_append.mpr (.inl hp))
  have hpin : PinOk X.stack H1 s1 p := ⟨P1.1, P1.2.1, fun hm => (List.mem_cons.mp (I1.stkSub p.1 hm)).elim P1.2.2.1 P1.2.2.2.1, P1.2.2.2.2⟩
  refine wpAny_call (codeAny_mono (F.run p X.A X.stack s1 H1 ⟨us, []⟩ us vs Q E0 hr hpin I1.env0 bd r hsp) fun rr s' hq => ?_)
  match rr, hq with
  | .error ee, hq => exact hx pins σ H1 s1 ee s' I1 hq
  | .ok (.ret u), hq => exact I1.after hq
  | .ok .next, hq => exact hq.elim
  | .ok .brk, hq => exact hq.elim
  | .ok .cont, hq => exact hq.elim
end
end L2H
namespace L2
open PySem PySem.Spec PyProof.Rows
/-- a class of the top whose __init__ has defaults, dvs those that fill up -/
structure OwnCD (P : Program) (w : World) (K : PySem.W.Frag) (mg : Str → Option Value) (base : Heap) (CX : CXT) (x : Str) (C : Addr) (k : Nat) (ps : List Str) (sp : Sp) (dvs : List V) : Prop where
  ex : ∃ (f : Addr) (fd : FuncData) (ds : List Value), FnOk P w K mg base CX k f fd ps sp ∧ Mk K C f ∧ mg x = some (.ref C) ∧ Binds K fd ps ds ∧ Vals dvs ds
section
variable {X : Cx} {CX : CXT} {x : Str} {k : Nat} {ps : List Str} {sp : Sp} {e : Expr} {es : List Expr} {t : TA} {p pos : Pos} {C : Addr} {dvs : List V}
theorem pe_newD (O : OwnCD X.prog X.w X.K X.mg X.base CX x C k ps sp dvs) (hr : Room (k + 1) X.A) (hx : Passes CX X E0) (ha : PA X (e :: es) t) (hg : Gl X x := by rfl) (hdb : (x == ("__debug__" : Str)) = false := by decide)
    (he : starEach (e :: es) X.env = (false, eval e X.env) :: starEach es X.env := by rfl) (hpl : (backTo pos (starEach es X.env)).any (·.1) = false := by rfl) : PE X (.Call (.Name x p) (e :: es) [] pos) (tMake C sp dvs E0 t) := by
  obtain ⟨f, fd, ds, F, M, hm, hb, hv⟩ := O.ex
  exact pe_make M F hr hg hm hb hv hx ha hdb he hpl
end
end L2

set_option Elab.async false
set_option maxRecDepth 100000
set_option maxHeartbeats 4000000
/-! a op b op c op d -/
namespace L2
open PySem PySem.Spec PyProof.Rows
def tCh3 (r r' r2 : R2) (ta tb tc td : TE) : TE := fun σ H Q => ta σ H fun x H1 => tb σ H1 fun y H2 => r x y H2 fun z H3 => ∃ k, z = .bl k ∧
  (if k = true then tc σ H3 fun u H4 => r' y u H4 fun z' H5 => ∃ k', z' = .bl k' ∧ (if k' = true then td σ H5 fun v H6 => r2 u v H6 Q else Q (.bl false) H5) else Q (.bl false) H3)
section
variable {X : Cx} {a b c d : Expr} {pos : Pos} {ta tb tc td : TE} {op op' op2 : CmpOp} {r r' r2 : R2}
theorem pe_chain3 (ho : OpR X (compareOp op) r) (ho' : OpR X (compareOp op') r') (ho2 : OpR X (compareOp op2) r2) (ha : PE X a ta) (hb : PE X b tb) (hc : PE X c tc) (hd : PE X d td)
    (hm : lastMarks [op, op', op2] [b, c, d] = false := by with_unfolding_all rfl) : PE X (.Compare a [op, op', op2] [b, c, d] pos) (tCh3 r r' r2 ta tb tc td) := by
  refine ⟨fun pins s σ H Q I h => ?_⟩
  refine Compare_chain (thn (ha.run pins s σ H _ I h) fun v s1 ⟨x, H1, I1, r1, q1⟩ => chain_link (thn (hb.run pins s1 σ H1 _ I1 q1) fun u s2 ⟨y, H2, I2, r2', q2⟩ =>
    thn (ho pins s2 σ H2 x y v u _ I2 r1 r2' q2) fun e s3 ⟨z, H3, I3, r3, k, ez, q3⟩ => ?_)) hm
  subst ez
  cases r3
  refine wpAny_truthy_bool ?_
  cases k with
  | false => exact ite_ff ⟨.bl false, H3, I3, rfl, q3⟩
  | true =>
    refine ite_tt (chain_link (thn (hc.run pins s3 σ H3 _ I3 q3) fun u2 s4 ⟨z4, H4, I4, r4, q4⟩ => thn (ho' pins s4 σ H4 y z4 u u2 _ I4 r2' r4 q4) fun e5 s5 ⟨z5, H5, I5, r5, k5, ez5, q5⟩ => ?_))
    subst ez5
    cases r5
    refine wpAny_truthy_bool ?_
    cases k5 with
    | false => exact ite_ff ⟨.bl false, H5, I5, rfl, q5⟩
    | true => exact ite_tt (chain_last (thn (hd.run pins s5 σ H5 _ I5 q5) fun u6 s6 ⟨z6, H6, I6, r6, q6⟩ => ho2 pins s6 σ H6 z4 z6 u2 u6 Q I6 r4 r6 q6))
theorem pt_chain3 (ho : OpR X (compareOp op) r) (ho' : OpR X (compareOp op') r') (ho2 : OpR X (compareOp op2) r2) (ha : PE X a ta) (hb : PE X b tb) (hc : PE X c tc) (hd : PE X d td)
    (hm : lastMarks [op, op', op2] [b, c, d] = false := by with_unfolding_all rfl) : PT X (.Compare a [op, op', op2] [b, c, d] pos) (tTest (tCh3 r r' r2 ta tb tc td)) := by
  refine ⟨fun pins s σ H Q I h => ?_⟩
  refine isTrue_chain (thn (ha.run pins s σ H _ I h) fun v s1 ⟨x, H1, I1, r1, q1⟩ => test_link (thn (hb.run pins s1 σ H1 _ I1 q1) fun u s2 ⟨y, H2, I2, r2', q2⟩ =>
    thn (ho pins s2 σ H2 x y v u _ I2 r1 r2' q2) fun e s3 ⟨z, H3, I3, r3, k, ez, q3⟩ => ?_)) hm
  subst ez
  cases r3
  refine wpAny_truthy_bool ?_
  cases k with
  | false =>
    obtain ⟨k', e', q'⟩ := q3
    cases e'
    exact ite_ff ⟨H3, I3, q'⟩
  | true =>
    refine ite_tt (test_link (thn (hc.run pins s3 σ H3 _ I3 q3) fun u2 s4 ⟨z4, H4, I4, r4, q4⟩ => thn (ho' pins s4 σ H4 y z4 u u2 _ I4 r2' r4 q4) fun e5 s5 ⟨z5, H5, I5, r5, k5, ez5, q5⟩ => ?_))
    subst ez5
    cases r5
    refine wpAny_truthy_bool ?_
    cases k5 with
    | false =>
      obtain ⟨k', e', q'⟩ := q5
      cases e'
      exact ite_ff ⟨H5, I5, q'⟩
    | true =>
      refine ite_tt (test_last (thn (hd.run pins s5 σ H5 _ I5 q5) fun u6 s6 ⟨z6, H6, I6, r6, q6⟩ => thn (ho2 pins s6 σ H6 z4 z6 u2 u6 _ I6 r4 r6 q6) fun e7 s7 ⟨z7, H7, I7, r7, k7, ez7, q7⟩ => ?_))
      subst ez7
      cases r7
      exact wpAny_truthy_bool ⟨H7, I7, q7⟩
end
end L2
namespace L2
open PySem PySem.Spec PyProof.Rows
def numV : V → Bool | .int _ => true | _ => false
section
variable {K : PySem.W.Frag} {σ : St} {H : Hp} {p : Addr} {xs : List V} {te : TE} {tt : TT} {j : Nat} {vs : List Nat} {Q : VK} {v : V} {d : PyData}
theorem num_dp (h : Dp K H v d) : (isIntD d && !isBoolD d) = numV v := by cases h <;> rfl
theorem non_dp (h : Dp K H v d) : decide (v = .non) = isNoneD d := by cases h <;> simp [isNoneD]
/-- [f(x) for x in xs if b(x)] over a list or a tuple wherever it stands, what is tested and made only adding to the heap -/
theorem lc_sqG {Qd : Addr → Hp → Prop} {f : V → V} {b : V → Bool} (hx : SqL K H p xs ∨ SqT K H p xs) (hz : xs.length < sizeLine) (hw : ∀ x, wipe ((wipe σ vs).set j (some x)) vs = wipe σ vs)
    (ht : ∀ x ∈ xs, ∀ H', Ext H H' → ∀ Q : Bool → Hp → Prop, (∀ H'', Ext H' H'' → Q (b x) H'') → tt ((wipe σ vs).set j (some x)) H' Q)
    (he : ∀ x ∈ xs, b x = true → ∀ H', Ext H H' → ∀ Q : VK, (∀ H'', Ext H' H'' → Q (f x) H'') → te ((wipe σ vs).set j (some x)) H' Q)
    (q : ∀ D H', H D = none → Ext H H' → H' D = some (.lst ((xs.filter b).map f)) → Qd D H') :
    ((∃ xs, SqL K H p xs) ∧ (fun J H1 => ∀ D, H1 D = none → ∃ W : Nat → Nat → Hp → Prop, (∃ m, W 0 m (upd H1 D (.lst []))) ∧ ∀ i m H, W i m H →
      (J.stop i H ∧ Qd D H) ∨ (J.go i H ∧ ∃ Nx : Hp → Prop, (∀ H', Nx H' → ∃ m', m' < m ∧ W (i + 1) m' H') ∧ ∀ x H', J.yld i H x H' → gName j x (wipe σ vs) H' fun σ2 H2 => wipe σ2 vs = wipe σ vs ∧ tt σ2 H2 fun b H3 =>
        if b = true then te σ2 H3 fun y H4 => ∃ acc, H4 D = some (.lst acc) ∧ acc.length < sizeLine ∧ Nx (upd H4 D (.lst (acc ++ [y]))) else Nx H3)) (Itl K p) H) ∨
    ((∃ xs, SqT K H p xs) ∧ (fun J H1 => ∀ D, H1 D = none → ∃ W : Nat → Nat → Hp → Prop, (∃ m, W 0 m (upd H1 D (.lst []))) ∧ ∀ i m H, W i m H →
      (J.stop i H ∧ Qd D H) ∨ (J.go i H ∧ ∃ Nx : Hp → Prop, (∀ H', Nx H' → ∃ m', m' < m ∧ W (i + 1) m' H') ∧ ∀ x H', J.yld i H x H' → gName j x (wipe σ vs) H' fun σ2 H2 => wipe σ2 vs = wipe σ vs ∧ tt σ2 H2 fun b H3 =>
        if b = true then te σ2 H3 fun y H4 => ∃ acc, H4 D = some (.lst acc) ∧ acc.length < sizeLine ∧ Nx (upd H4 D (.lst (acc ++ [y]))) else Nx H3)) (Itt K p) H) := by
  have turn : ∀ (D : Addr), H D = none → ∀ i x H', xs[i]? = some x → (Ext H H' ∧ H' D = some (.lst (((xs.take i).filter b).map f))) → gName j x (wipe σ vs) H' fun σ2 H2 => wipe σ2 vs = wipe σ vs ∧ tt σ2 H2 fun b' H3 =>
      if b' = true then te σ2 H3 fun y H4 => ∃ acc, H4 D = some (.lst acc) ∧ acc.length < sizeLine ∧ (Ext H (upd H4 D (.lst (acc ++ [y]))) ∧ upd H4 D (.lst (acc ++ [y])) D = some (.lst (((xs.take (i + 1)).filter b).map f))) else (Ext H H3 ∧ H3 D = some (.lst (((xs.take (i + 1)).filter b).map f))) := by
    intro D hD i x H' hi pv
    obtain ⟨e, hl⟩ := pv
    have hm : x ∈ xs := List.mem_of_getElem? hi
    refine ⟨hw x, ht x hm H' e _ fun H3 e3 => ?_⟩
    have hl3 : H3 D = some (.lst (((xs.take i).filter b).map f)) := e3 _ _ hl
    cases hb : b x with
    | true =>
      refine iteT (he x hm hb H3 (e.trans e3) _ fun H4 e4 => ⟨_, e4 _ _ hl3, ?_, ext_mut ((e.trans e3).trans e4) hD, ?_⟩)
      · rw [List.length_map]
        refine Nat.lt_of_le_of_lt (Nat.le_trans (List.length_filter_le _ _) ?_) hz
        exact List.length_take_le' _ _
      · rw [upd_same, take_snoc hi, List.filter_append, List.map_append]
        simp [hb]
    | false =>
      refine iteF ⟨e.trans e3, ?_⟩
      rw [hl3, take_snoc hi, List.filter_append, List.map_append]
      simp [hb]
  have fin : ∀ D, H D = none → ∀ H', (Ext H H' ∧ H' D = some (.lst (((xs.take xs.length).filter b).map f))) → Qd D H' := fun D hD H' pv => by
    rw [List.take_length] at pv
    exact q D H' hD pv.1 pv.2
  rcases hx with hx | hx
  · refine .inl ⟨⟨xs, hx⟩, fun D hD => lc_list (xs := xs) (fun i H' => Ext H H' ∧ H' D = some (.lst (((xs.take i).filter b).map f))) ⟨Ext.upd hD, upd_same⟩ (fun i H' _ pv => hx.ext pv.1) (fun i x H' hi pv => turn D hD i x H' hi pv) (fun H' pv => fin D hD H' pv)⟩
  · refine .inr ⟨⟨xs, hx⟩, fun D hD => lc_tup (xs := xs) (fun i H' => Ext H H' ∧ H' D = some (.lst (((xs.take i).filter b).map f))) ⟨Ext.upd hD, upd_same⟩ (fun i H' _ pv => hx.ext pv.1) (fun i x H' hi pv => turn D hD i x H' hi pv) (fun H' pv => fin D hD H' pv)⟩
end
end L2

set_option Elab.async false
set_option maxRecDepth 100000
set_option maxHeartbeats 4000000
namespace L2
open PySem PySem.Spec PyProof.Rows
section
variable {X : Cx} {m : Str} {k : Nat} {ps : List Str} {sp : Sp} {e o : Expr} {es : List Expr} {t : TA} {ta : TE} {pos apos : Pos} {C : Addr} {W : WX}
/-- o.m(e, ..) that may raise; W is wished for what it raises -/
theorem pe_ownMS {pl : Sem Bool} (O : OwnM X.prog X.w X.K X.mg X.base (L2.CX X.prog X.w) C m k ps sp) (he : PE X o ta) (c : Cls X.K C) (hr : Room k X.A) (tk : Takes X W) (ha : PA X (e :: es) t)
    (hst : starEach (e :: es) X.env = (false, eval e X.env) :: starEach es X.env := by rfl) (hpl : (backTo pos (starEach es X.env)).any (·.1) = false := by rfl)
    (ht : eval (.Call (.Attribute o m apos) (e :: es) [] pos) X.env = (do
      let ov ← eval o X.env
      standAt apos.atName
      let (f, first) ← holding [ov] (getMethod ov m pl)
      callWith pos f first (backTo pos (starEach (e :: es) X.env)) (backToKw pos (keywordEach [] X.env))) := by rfl) :
    PE X (.Call (.Attribute o m apos) (e :: es) [] pos) (tMethSD C m sp [] (WE W) ta t) := by
  obtain ⟨f, fd, F, M, _, hb⟩ := O.ex
  exact pe_methSD he c M F hr hb .nil (fun σ => passAt tk σ) ha hst hpl ht
theorem PE.imp {ex : Expr} {t1 t2 : TE} (h : PE X ex t1) (i : ∀ σ H Q, t2 σ H Q → t1 σ H Q) : PE X ex t2 := ⟨fun pins s σ H Q I z => h.run pins s σ H Q I (i σ H Q z)⟩
end
end L2

set_option Elab.async false
set_option linter.all false
set_option maxRecDepth 100000
set_option maxHeartbeats 4000000
/-! tuples of own objects, compared by their own ==, whichever the answer -/
namespace GQ
open PySem PySem.SeqAt
open AutoSeq1 (wpAny_loadPart')
open MeetsSeq MeetsSeq2 MeetsSeq3 SeqRoads2
section
variable {prog : Program} {w : World} {A : Around} {R : Result → Shared → Prop}
/-- the places one by one: I goes on, J at the first two that differ -/
theorem tup_eqB (la lb : Addr) (xs ys : Array Value) (n n2 : Nat) (dd dd2 : Option Addr) (sl sl2 : Array (Option Value)) (hsz : xs.size = ys.size) (I : Nat → Shared → Prop) (J : Shared → Prop)
    (turn : ∀ i (h1 : i < xs.size) (h2 : i < ys.size) s, I i s → wpAny (model prog w) A.in1 (eqBool xs[i] ys[i]) (fun r s' => (r = true ∧ I (i + 1) s') ∨ (r = false ∧ J s')) (fun e s' => R (.error e) s') s)
    (finT : ∀ s, I xs.size s → R (.ok (.ret (.bool true))) s) (finF : ∀ s, J s → R (.ok (.ret (.bool false))) s) {s : Shared}
    (hla : s.heap.get? la = some { cls := .type "tuple", dict := dd, data := .seq xs n, slots := sl }) (hlb : s.heap.get? lb = some { cls := .type "tuple", dict := dd2, data := .seq ys n2, slots := sl2 }) (h : I 0 s) :
    wpAny (model prog w) A.in1 (Builtin.«tuple.__eq__» ⟨[.ref la, .ref lb], []⟩) (FinOf prog w A R) (fun e s' => R (.error e) s') s := by
  have f2 := AutoSeq1.sub_tuple_tuple
  have hZ : (xs.toList.zip ys.toList).length = xs.size := by simp [hsz]
  have h0 := h
  obtain ⟨hp, g, d, tk, os⟩ := s
  wp_walk using wpAny_loadPart' hla, wpAny_loadPart' hlb, wpAny_forIn_list _ (fun rest b s' => b.1 = none ∧ ∃ i, rest = (xs.toList.zip ys.toList).drop i ∧ i ≤ xs.size ∧ I i s') _
  case turn =>
    rintro ⟨y, x⟩ rest b s' ⟨hb', i, hz, hi, hI⟩
    have hlt : i < (xs.toList.zip ys.toList).length := by
      rcases Nat.lt_or_ge i (xs.toList.zip ys.toList).length with h' | h'
      · exact h'
      · rw [List.drop_of_length_le h'] at hz
        cases hz
    have h1 : i < xs.size := hZ ▸ hlt
    have h2 : i < ys.size := hsz ▸ h1
    rw [List.drop_eq_getElem_cons hlt] at hz
    injection hz with hyx hrest
    have hy : y = xs[i] := by
      have q := congrArg Prod.fst hyx
      simpa using q
    have hx : x = ys[i] := by
      have q := congrArg Prod.snd hyx
      simpa using q
    subst hy hx
    refine wpAny_bind (wpAny_mono (turn i h1 h2 s' hI) (fun r s2 q2 => ?_) fun _ _ x => x)
    rcases q2 with ⟨hr, q2⟩ | ⟨hr, q2⟩
    · subst hr
      wp_walk
      exact ⟨rfl, i + 1, hrest, h1, q2⟩
    · subst hr
      have hR : R (.ok (.ret (.bool false))) s2 := finF s2 q2
      wp_walk
      exact hR
  case fin =>
    rintro ⟨b1, b2⟩ s' ⟨hb', i, hz, hi, hI⟩
    simp only at hb'
    subst hb'
    have hge : xs.size ≤ i := by
      rcases Nat.lt_or_ge i (xs.toList.zip ys.toList).length with h' | h'
      · rw [List.drop_eq_getElem_cons h'] at hz
        cases hz
      · exact hZ ▸ h'
    have hi' : i = xs.size := by omega
    have hR : R (.ok (.ret (.bool true))) s' := finT s' (hi' ▸ hI)
    wp_walk
    simpa [Builtin.Tuple.tupleCompareSizes, hsz] using hR
  case h =>
    exact ⟨rfl, 0, rfl, Nat.zero_le _, h0⟩
/-- the same for != -/
theorem tup_neB (la lb : Addr) (xs ys : Array Value) (n n2 : Nat) (dd dd2 : Option Addr) (sl sl2 : Array (Option Value)) (hsz : xs.size = ys.size) (I : Nat → Shared → Prop) (J : Shared → Prop)
    (turn : ∀ i (h1 : i < xs.size) (h2 : i < ys.size) s, I i s → wpAny (model prog w) A.in1 (eqBool xs[i] ys[i]) (fun r s' => (r = true ∧ I (i + 1) s') ∨ (r = false ∧ J s')) (fun e s' => R (.error e) s') s)
    (finT : ∀ s, I xs.size s → R (.ok (.ret (.bool false))) s) (finF : ∀ s, J s → R (.ok (.ret (.bool true))) s) {s : Shared}
    (hla : s.heap.get? la = some { cls := .type "tuple", dict := dd, data := .seq xs n, slots := sl }) (hlb : s.heap.get? lb = some { cls := .type "tuple", dict := dd2, data := .seq ys n2, slots := sl2 }) (h : I 0 s) :
    wpAny (model prog w) A.in1 (Builtin.«tuple.__ne__» ⟨[.ref la, .ref lb], []⟩) (FinOf prog w A R) (fun e s' => R (.error e) s') s := by
  have f2 := AutoSeq1.sub_tuple_tuple
  have hZ : (xs.toList.zip ys.toList).length = xs.size := by simp [hsz]
  have h0 := h
  obtain ⟨hp, g, d, tk, os⟩ := s
  wp_walk using wpAny_loadPart' hla, wpAny_loadPart' hlb, wpAny_forIn_list _ (fun rest b s' => b.1 = none ∧ ∃ i, rest = (xs.toList.zip ys.toList).drop i ∧ i ≤ xs.size ∧ I i s') _
  case turn =>
    rintro ⟨y, x⟩ rest b s' ⟨hb', i, hz, hi, hI⟩
    have hlt : i < (xs.toList.zip ys.toList).length := by
      rcases Nat.lt_or_ge i (xs.toList.zip ys.toList).length with h' | h'
      · exact h'
      · rw [List.drop_of_length_le h'] at hz
        cases hz
    have h1 : i < xs.size := hZ ▸ hlt
    have h2 : i < ys.size := hsz ▸ h1
    rw [List.drop_eq_getElem_cons hlt] at hz
    injection hz with hyx hrest
    have hy : y = xs[i] := by
      have q := congrArg Prod.fst hyx
      simpa using q
    have hx : x = ys[i] := by
      have q := congrArg Prod.snd hyx
      simpa using q
    subst hy hx
    refine wpAny_bind (wpAny_mono (turn i h1 h2 s' hI) (fun r s2 q2 => ?_) fun _ _ x => x)
    rcases q2 with ⟨hr, q2⟩ | ⟨hr, q2⟩
    · subst hr
      wp_walk
      exact ⟨rfl, i + 1, hrest, h1, q2⟩
    · subst hr
      have hR : R (.ok (.ret (.bool true))) s2 := finF s2 q2
      wp_walk
      exact hR
  case fin =>
    rintro ⟨b1, b2⟩ s' ⟨hb', i, hz, hi, hI⟩
    simp only at hb'
    subst hb'
    have hge : xs.size ≤ i := by
      rcases Nat.lt_or_ge i (xs.toList.zip ys.toList).length with h' | h'
      · rw [List.drop_eq_getElem_cons h'] at hz
        cases hz
      · exact hZ ▸ h'
    have hi' : i = xs.size := by omega
    have hR : R (.ok (.ret (.bool false))) s' := finT s' (hi' ▸ hI)
    wp_walk
    simpa [Builtin.Tuple.tupleCompareSizes, bne, hsz] using hR
  case h =>
    exact ⟨rfl, 0, rfl, Nat.zero_le _, h0⟩
end
end GQ
namespace GQ
open PySem PySem.SeqAt
section
variable {prog : Program} {w : World} {A : Around} {E : Value → Shared → Prop} {s : Shared}
theorem rc_tupB {la lb : Addr} {xs ys : Array Value} {Q : Value → Shared → Prop} (hsz : xs.size = ys.size) (hu : A.units < cLine) (I : Nat → Shared → Prop) (J : Shared → Prop) (hla : s.heap.IsTuple la xs) (hlb : s.heap.IsTuple lb ys)
    (turn : ∀ i (h1 : i < xs.size) (h2 : i < ys.size) s, I i s → wpAny (model prog w) A.in1 (eqBool xs[i] ys[i]) (fun r s' => (r = true ∧ I (i + 1) s') ∨ (r = false ∧ J s')) E s)
    (finT : ∀ s, I xs.size s → Q (.bool true) s) (finF : ∀ s, J s → Q (.bool false) s) (h : I 0 s) : wpAny (model prog w) A (richCompare .Eq (.ref la) (.ref lb)) Q E s := by
  obtain ⟨⟨cls, dd, data, sl⟩, ho, hc, n, hd⟩ := id hla
  obtain ⟨⟨cls2, dd2, data2, sl2⟩, ho2, hc2, n2, hd2⟩ := id hlb
  simp only at hc hd hc2 hd2
  subst hc hd hc2 hd2
  refine wpAny_richCompare_same_room (op := .Eq) ⟨_, ho, rfl⟩ ⟨_, ho2, rfl⟩ F.slot_tuple_eq (call_here F.slot_tuple_eq ⟨_, ho, rfl⟩ F.entry_tuple_eq (F.args_tuple_eq_2 _ _) ?_) hu
  exact tup_eqB (R := wants (fun v s' => v ≠ .notImplemented ∧ Q v s') E) la lb xs ys n n2 dd dd2 sl sl2 hsz I J turn (fun s' q => ⟨(fun x => nomatch x), finT s' q⟩) (fun s' q => ⟨(fun x => nomatch x), finF s' q⟩) ho ho2 h
theorem rc_tupNB {la lb : Addr} {xs ys : Array Value} {Q : Value → Shared → Prop} (hsz : xs.size = ys.size) (hu : A.units < cLine) (I : Nat → Shared → Prop) (J : Shared → Prop) (hla : s.heap.IsTuple la xs) (hlb : s.heap.IsTuple lb ys)
    (turn : ∀ i (h1 : i < xs.size) (h2 : i < ys.size) s, I i s → wpAny (model prog w) A.in1 (eqBool xs[i] ys[i]) (fun r s' => (r = true ∧ I (i + 1) s') ∨ (r = false ∧ J s')) E s)
    (finT : ∀ s, I xs.size s → Q (.bool false) s) (finF : ∀ s, J s → Q (.bool true) s) (h : I 0 s) : wpAny (model prog w) A (richCompare .NotEq (.ref la) (.ref lb)) Q E s := by
  obtain ⟨⟨cls, dd, data, sl⟩, ho, hc, n, hd⟩ := id hla
  obtain ⟨⟨cls2, dd2, data2, sl2⟩, ho2, hc2, n2, hd2⟩ := id hlb
  simp only at hc hd hc2 hd2
  subst hc hd hc2 hd2
  refine wpAny_richCompare_same_room (op := .NotEq) ⟨_, ho, rfl⟩ ⟨_, ho2, rfl⟩ F.slot_tuple_ne (call_here F.slot_tuple_ne ⟨_, ho, rfl⟩ F.entry_tuple_ne (F.args_tuple_ne_2 _ _) ?_) hu
  exact tup_neB (R := wants (fun v s' => v ≠ .notImplemented ∧ Q v s') E) la lb xs ys n n2 dd dd2 sl sl2 hsz I J turn (fun s' q => ⟨(fun x => nomatch x), finT s' q⟩) (fun s' q => ⟨(fun x => nomatch x), finF s' q⟩) ho ho2 h
end
end GQ
namespace L2
open PySem PySem.Spec PyProof.Rows
/-- how two values compare, by the abstract heap -/
abbrev EqvB := V → V → Hp → Bool → Prop
def MonB (D : EqvB) : Prop := ∀ x y H H' k, Ext H H' → D x y H k → D x y H' k
def EqB (X : Cx) (n : Nat) (D : EqvB) : Prop :=
  ∀ (A : Around) (pins : List (Addr × Obj)) (s : Shared) (σ : St) (H : Hp) (x y : V) (u v : Value) (k : Bool), Sub X n A → Inv X pins σ H s → RelV x u → RelV y v → D x y H k →
    wpAny (model X.prog X.w) A (eqBool u v) (fun r s' => r = k ∧ ∃ H', Inv X pins σ H' s' ∧ Ext H H') X.xe s
def RcB (X : Cx) (n : Nat) (D : EqvB) : Prop :=
  ∀ (A : Around) (pins : List (Addr × Obj)) (s : Shared) (σ : St) (H : Hp) (x y : V) (u v : Value) (k : Bool), Sub X n A → Inv X pins σ H s → RelV x u → RelV y v → D x y H k →
    wpAny (model X.prog X.w) A (richCompare .Eq u v) (fun r s' => r = .bool k ∧ ∃ H', Inv X pins σ H' s' ∧ Ext H H') X.xe s
section
variable {X : Cx} {n : Nat} {D : EqvB}
/-- instances of the class at C -/
def DInsB (C : Addr) (R : Addr → Addr → Hp → Bool → Prop) : EqvB := fun x y H k => ∃ a b dx dy fs gs, x = .ref a ∧ y = .ref b ∧ H a = some (.ins C dx fs) ∧ H b = some (.ins C dy gs) ∧ R a b H k
def spEqB (R : Addr → Addr → Hp → Bool → Prop) : Sp := fun vs H Q _ => ∃ a b k, vs = [.ref a, .ref b] ∧ R a b H k ∧ ∀ H', Ext H H' → Q (.bl k) H'
theorem rcB_ins {CX : CXT} {C f : Addr} {fd : FuncData} {ps : List Str} {R : Addr → Addr → Hp → Bool → Prop} {E : XK} (F : FnOk X.prog X.w X.K X.mg X.base CX n f fd ps (spEqB R))
    (hs : PySem.W.findIn X.K (.ref C) "__eq__" = some (some (.ref f))) (hf : PySem.W.isFn X.K (.ref f) = true) (hb : Binds X.K fd ps []) (hx : Passes CX X E) : RcB X n (DInsB C R) := by
  intro A pins s σ H x y u v k sb I rx ry d
  obtain ⟨a, b, dx, dy, fs, gs, rfl, rfl, ha, hb', hr⟩ := d
  cases rx
  cases ry
  obtain ⟨mA, J, _⟩ := ins_get I.hok ha
  obtain ⟨mB, J', _⟩ := ins_get I.hok hb'
  obtain ⟨od, J, _⟩ := J.look
  obtain ⟨od', J', _⟩ := J'.look
  obtain ⟨m, hF⟩ := I.fr
  refine PySem.W.cmp_K (op := .Eq) (tb := .ref C) sb.room.units0 hF I.ok.mod.kin J J'.type (by simp [PySem.W.notFirst]) hs hf ?_
  have hsp : spEqB R [.ref a, .ref b] H (fun v H' => v = .bl k ∧ Ext H H') E := ⟨a, b, k, rfl, hr, fun H' e => ⟨rfl, e⟩⟩
  have e1 := I.env0
  have e0 : Env0 X.prog X.w X.K X.mg X.base A X.stack s H := ⟨by rw [sb.fr]; exact e1.frames, e1.mod, e1.bs, e1.bsz, e1.funs, e1.frf, e1.hok, e1.bare⟩
  have hl := F.len _ _ _ _ hsp
  have bd := hb s [.ref a, .ref b] I.kIn (by simpa using hl)
  have bd' : BindsTo s fd ⟨[.ref a, .ref b], []⟩ (ps.zip [.ref a, .ref b]) := by simpa using bd
  refine wpAny_call (codeAny_mono (F.run A X.stack s H ⟨[.ref a, .ref b], []⟩ [.ref a, .ref b] [.ref a, .ref b] _ E sb.room e0 bd' (.cons rfl (.cons rfl .nil)) hsp) fun r s' hq => ?_)
  match r, hq with
  | .error e, hq => exact hx pins σ H s e s' I hq
  | .ok (.ret z), hq =>
    obtain ⟨zv, H', I', rz, ez, ex⟩ := I.after hq
    subst ez
    cases rz
    exact ⟨rfl, H', I', ex⟩
  | .ok .next, hq => exact hq.elim
  | .ok .brk, hq => exact hq.elim
  | .ok .cont, hq => exact hq.elim
/-- within a tuple: the same object is equal to itself -/
theorem RcB.eqB (h : RcB X n D) (hr : ∀ x y H k, D x y H k → ∃ a b, x = .ref a ∧ y = .ref b ∧ (a = b → k = true)) : EqB X n D := by
  intro A pins s σ H x y u v k sb I rx ry d
  obtain ⟨a, b, rfl, rfl, hk⟩ := hr _ _ _ _ d
  cases rx
  cases ry
  by_cases hab : a = b
  · have hk' := hk hab
    subst hab hk'
    exact SeqAt.EqAt.same (A := A) (s := s) (.ref a) X.prog X.w X.xe _ ⟨rfl, H, I, Ext.rfl'⟩
  · refine GQ.eqBool_refG hab (wpAny_mono (h A pins s σ H (.ref a) (.ref b) _ _ k sb I rfl rfl d) (fun r s' q => ?_) fun _ _ x => x)
    obtain ⟨hr', q⟩ := q
    exact ⟨k, hr', rfl, q⟩
/-- tuples of one length, place by place; ks the answers -/
def DTupB (K : PySem.W.Frag) (D : EqvB) : EqvB := fun x y H k => ∃ (a b : Addr) (xs ys : List V) (ks : List Bool), x = .ref a ∧ y = .ref b ∧ SqT K H a xs ∧ SqT K H b ys ∧ xs.length = ys.length ∧ ks.length = xs.length ∧
  (∀ (i : Nat) x y c, xs[i]? = some x → ys[i]? = some y → ks[i]? = some c → D x y H c) ∧ k = ks.all id
theorem all_take {ks : List Bool} {i : Nat} (h : ∀ j, j < i → ks[j]? = some true) (hi : ks.length ≤ i) : ks.all id = true := by
  rw [List.all_eq_true]
  intro c hc
  obtain ⟨j, hj⟩ := List.mem_iff_getElem?.mp hc
  have hjl := (List.getElem?_eq_some_iff.mp hj).1
  have q := h j (Nat.lt_of_lt_of_le hjl hi)
  rw [hj] at q
  cases q
  rfl
theorem rcB_tup (hD : MonB D) (h : EqB X n D) : RcB X (n + 1) (DTupB X.K D) := by
  intro A pins s σ H x y u v k sb I rx ry d
  obtain ⟨a, b, xs, ys, ks, rfl, rfl, ha, hb, hlen, hks, hp, rfl⟩ := d
  cases rx
  cases ry
  obtain ⟨its, r, e, z⟩ := I.tuple ha
  obtain ⟨its2, r2, e2, z2⟩ := I.tuple hb
  have l1 := r.length
  have l2 := r2.length
  have hsz : its.toArray.size = its2.toArray.size := by rw [List.size_toArray, List.size_toArray, ← l1, ← l2]; exact hlen
  refine GQ.rc_tupB hsz sb.room.units0 (fun i s' => (∃ H', Inv X pins σ H' s' ∧ Ext H H') ∧ ∀ j, j < i → ks[j]? = some true) (fun s' => (∃ H', Inv X pins σ H' s' ∧ Ext H H') ∧ ks.all id = false) e e2 (fun i h1 h2 s' q => ?_) (fun s' q => ?_) (fun s' q => ?_) ⟨⟨H, I, Ext.rfl'⟩, fun j hj => absurd hj (Nat.not_lt_zero _)⟩
  · obtain ⟨⟨H1, I1, e1⟩, hk⟩ := q
    have h1' : i < its.length := by simpa using h1
    have h2' : i < its2.length := by simpa using h2
    have g1 : its[i]? = some its.toArray[i] := by rw [List.getElem?_eq_getElem h1'] <;> simp
    have g2 : its2[i]? = some its2.toArray[i] := by rw [List.getElem?_eq_getElem h2'] <;> simp
    have k1 : i < xs.length := by omega
    have k2 : i < ys.length := by omega
    have k3 : i < ks.length := by omega
    obtain ⟨uu, hu, ru⟩ := r.get (List.getElem?_eq_getElem k1)
    obtain ⟨vv, hv, rv⟩ := r2.get (List.getElem?_eq_getElem k2)
    rw [g1] at hu
    rw [g2] at hv
    rw [Option.some.inj hu, Option.some.inj hv]
    refine wpAny_mono (h A.in1 pins s' σ H1 _ _ uu vv ks[i] sb.in1 I1 ru rv (hD _ _ _ _ _ e1 (hp i _ _ _ (List.getElem?_eq_getElem k1) (List.getElem?_eq_getElem k2) (List.getElem?_eq_getElem k3)))) (fun rr s2 q2 => ?_) fun _ _ x => x
    obtain ⟨hr, H2, I2, e2'⟩ := q2
    have hki : ks[i]? = some rr := by rw [hr]; exact List.getElem?_eq_getElem k3
    cases rr with
    | true =>
      refine .inl ⟨rfl, ⟨H2, I2, e1.trans e2'⟩, fun j hj => ?_⟩
      rcases Nat.lt_succ_iff_lt_or_eq.mp hj with hj | rfl
      · exact hk j hj
      · exact hki
    | false =>
      refine .inr ⟨rfl, ⟨H2, I2, e1.trans e2'⟩, ?_⟩
      rw [List.all_eq_false]
      exact ⟨false, List.mem_of_getElem? hki, by decide⟩
  · obtain ⟨q1, hk⟩ := q
    exact ⟨by rw [all_take hk (by simp; omega)], q1⟩
  · obtain ⟨q1, hk⟩ := q
    exact ⟨by rw [hk], q1⟩
/-- the same for !=, told by what == would say -/
def RcNB (X : Cx) (n : Nat) (D : EqvB) : Prop :=
  ∀ (A : Around) (pins : List (Addr × Obj)) (s : Shared) (σ : St) (H : Hp) (x y : V) (u v : Value) (k : Bool), Sub X n A → Inv X pins σ H s → RelV x u → RelV y v → D x y H k →
    wpAny (model X.prog X.w) A (richCompare .NotEq u v) (fun r s' => r = .bool (!k) ∧ ∃ H', Inv X pins σ H' s' ∧ Ext H H') X.xe s
theorem rcNB_tup (hD : MonB D) (h : EqB X n D) : RcNB X (n + 1) (DTupB X.K D) := by
  intro A pins s σ H x y u v k sb I rx ry d
  obtain ⟨a, b, xs, ys, ks, rfl, rfl, ha, hb, hlen, hks, hp, rfl⟩ := d
  cases rx
  cases ry
  obtain ⟨its, r, e, z⟩ := I.tuple ha
  obtain ⟨its2, r2, e2, z2⟩ := I.tuple hb
  have l1 := r.length
  have l2 := r2.length
  have hsz : its.toArray.size = its2.toArray.size := by rw [List.size_toArray, List.size_toArray, ← l1, ← l2]; exact hlen
  refine GQ.rc_tupNB hsz sb.room.units0 (fun i s' => (∃ H', Inv X pins σ H' s' ∧ Ext H H') ∧ ∀ j, j < i → ks[j]? = some true) (fun s' => (∃ H', Inv X pins σ H' s' ∧ Ext H H') ∧ ks.all id = false) e e2 (fun i h1 h2 s' q => ?_) (fun s' q => ?_) (fun s' q => ?_) ⟨⟨H, I, Ext.rfl'⟩, fun j hj => absurd hj (Nat.not_lt_zero _)⟩
  · obtain ⟨⟨H1, I1, e1⟩, hk⟩ := q
    have h1' : i < its.length := by simpa using h1
    have h2' : i < its2.length := by simpa using h2
    have g1 : its[i]? = some its.toArray[i] := by rw [List.getElem?_eq_getElem h1'] <;> simp
    have g2 : its2[i]? = some its2.toArray[i] := by rw [List.getElem?_eq_getElem h2'] <;> simp
    have k1 : i < xs.length := by omega
    have k2 : i < ys.length := by omega
    have k3 : i < ks.length := by omega
    obtain ⟨uu, hu, ru⟩ := r.get (List.getElem?_eq_getElem k1)
    obtain ⟨vv, hv, rv⟩ := r2.get (List.getElem?_eq_getElem k2)
    rw [g1] at hu
    rw [g2] at hv
    rw [Option.some.inj hu, Option.some.inj hv]
    refine wpAny_mono (h A.in1 pins s' σ H1 _ _ uu vv ks[i] sb.in1 I1 ru rv (hD _ _ _ _ _ e1 (hp i _ _ _ (List.getElem?_eq_getElem k1) (List.getElem?_eq_getElem k2) (List.getElem?_eq_getElem k3)))) (fun rr s2 q2 => ?_) fun _ _ x => x
    obtain ⟨hr, H2, I2, e2'⟩ := q2
    have hki : ks[i]? = some rr := by rw [hr]; exact List.getElem?_eq_getElem k3
    cases rr with
    | true =>
      refine .inl ⟨rfl, ⟨H2, I2, e1.trans e2'⟩, fun j hj => ?_⟩
      rcases Nat.lt_succ_iff_lt_or_eq.mp hj with hj | rfl
      · exact hk j hj
      · exact hki
    | false =>
      refine .inr ⟨rfl, ⟨H2, I2, e1.trans e2'⟩, ?_⟩
      rw [List.all_eq_false]
      exact ⟨false, List.mem_of_getElem? hki, by decide⟩
  · obtain ⟨q1, hk⟩ := q
    exact ⟨by rw [all_take hk (by simp; omega)]; rfl, q1⟩
  · obtain ⟨q1, hk⟩ := q
    exact ⟨by rw [hk]; rfl, q1⟩
/-- x == y, x != y as expressions -/
def rEqB (D : EqvB) : R2 := fun x y H Q => ∃ k, D x y H k ∧ ∀ H', Ext H H' → Q (.bl k) H'
def rNeB (D : EqvB) : R2 := fun x y H Q => ∃ k, D x y H k ∧ ∀ H', Ext H H' → Q (.bl (!k)) H'
theorem op_eqB (h : RcB X n D) (hr : Room n X.A) : OpR X (compareOp .Eq) (rEqB D) := by
  intro pins s σ H x y v u Q I rx ry hq
  obtain ⟨k, d, q⟩ := hq
  show wpAny (model X.prog X.w) X.A (richCompare .Eq v u) (EP X pins σ Q) X.xe s
  refine wpAny_mono (h X.A pins s σ H x y v u k ⟨hr, rfl⟩ I rx ry d) (fun r s' z => ?_) fun _ _ x => x
  obtain ⟨hr', H', I', e⟩ := z
  subst hr'
  exact ⟨.bl k, H', I', rfl, q H' e⟩
theorem op_neB (h : RcNB X n D) (hr : Room n X.A) : OpR X (compareOp .NotEq) (rNeB D) := by
  intro pins s σ H x y v u Q I rx ry hq
  obtain ⟨k, d, q⟩ := hq
  show wpAny (model X.prog X.w) X.A (richCompare .NotEq v u) (EP X pins σ Q) X.xe s
  refine wpAny_mono (h X.A pins s σ H x y v u k ⟨hr, rfl⟩ I rx ry d) (fun r s' z => ?_) fun _ _ x => x
  obtain ⟨hr', H', I', e⟩ := z
  subst hr'
  exact ⟨.bl (!k), H', I', rfl, q H' e⟩
end
end L2

set_option Elab.async false
namespace K18
/-! a race, told by its ways' begins and delays: plain mathematics -/
abbrev Wd := Option Int × Int × Int
abbrev En := Option (Int × Int)
def has (ds : List Wd) (j : Nat) : Bool := match ds[j]? with | some d => d.1.isSome | none => false
def bg (ds : List Wd) (j : Nat) : Int := match ds[j]? with | some d => d.1.getD 0 | none => 0
def ls (ds : List Wd) (j : Nat) : Int := match ds[j]? with | some d => d.2.1 | none => 0
def ms (ds : List Wd) (j : Nat) : Int := match ds[j]? with | some d => d.2.2 | none => 0
def fin (ds : List Wd) (j : Nat) : Int := bg ds j + 2 * ms ds j
def opn (ds : List Wd) (j : Nat) : Int := bg ds j + 2 * ls ds j
def early (ds : List Wd) (w : Nat) (t : Int) (j : Nat) : Bool := has ds j && (decide (j ≠ w) && (decide (fin ds j < t) || (decide (fin ds j = t) && decide (j < w))))
def hurs (ds : List Wd) (w : Nat) (t : Int) : List Nat := (List.range ds.length).filter (early ds w t)
def can (ds : List Wd) (z : Int) (w : Nat) (t : Int) : Bool := has ds w && (decide (opn ds w ≤ t) && decide (t ≤ fin ds w)) && decide (((hurs ds w t).length : Int) ≤ z)
/-- delays in order -/
def Fit (ds : List Wd) : Prop := ∀ j, has ds j = true → ls ds j ≤ ms ds j
def ent (es : List En) (j : Nat) : En := (es[j]?).getD none
/-- a run -/
def Run (ds : List Wd) (es : List En) : Prop := es.length = ds.length ∧ ∀ j a b, ent es j = some (a, b) → has ds j = true ∧ ls ds j ≤ a ∧ a ≤ ms ds j ∧ ls ds j ≤ b ∧ b ≤ ms ds j
def shut (ds : List Wd) (es : List En) (j : Nat) : Bool := has ds j && (ent es j).isNone
def qn (ds : List Wd) (es : List En) : Nat := ((List.range ds.length).filter (shut ds es)).length
def step (ds : List Wd) (es : List En) (best : Option (Nat × Int)) (k : Nat) : Option (Nat × Int) := match ent es k with
  | none => best
  | some (a, b) => match best with
    | none => some (k, bg ds k + a + b)
    | some (k', m') => if bg ds k + a + b < m' then some (k, bg ds k + a + b) else some (k', m')
def outN (ds : List Wd) (es : List En) : Nat → Option (Nat × Int)
  | 0 => none
  | n + 1 => step ds es (outN ds es n) n
def out (ds : List Wd) (es : List En) : Option (Nat × Int) := outN ds es ds.length
variable {ds : List Wd} {es : List En} {w : Nat} {t z : Int}
theorem has_lt {j : Nat} (h : has ds j = true) : j < ds.length := by
  unfold has at h
  by_cases q : j < ds.length
  · exact q
  · rw [List.getElem?_eq_none (by omega)] at h
    cases h
/-- the earliest answer, the first of those at one moment -/
theorem outN_spec (n : Nat) : match outN ds es n with
    | none => ∀ j, j < n → ent es j = none
    | some (w, t) => w < n ∧ (∃ a b, ent es w = some (a, b) ∧ t = bg ds w + a + b) ∧ ∀ j a b, j < n → ent es j = some (a, b) → t < bg ds j + a + b ∨ (t = bg ds j + a + b ∧ w ≤ j) := by
  induction n with
  | zero => exact fun j hj => absurd hj (Nat.not_lt_zero _)
  | succ n ih =>
    show match step ds es (outN ds es n) n with
      | none => ∀ j, j < n + 1 → ent es j = none
      | some (w, t) => w < n + 1 ∧ (∃ a b, ent es w = some (a, b) ∧ t = bg ds w + a + b) ∧ ∀ j a b, j < n + 1 → ent es j = some (a, b) → t < bg ds j + a + b ∨ (t = bg ds j + a + b ∧ w ≤ j)
    unfold step
    cases he : ent es n with
    | none =>
      dsimp only
      cases ho : outN ds es n with
      | none =>
        rw [ho] at ih
        exact fun j hj => by
          rcases Nat.lt_succ_iff_lt_or_eq.mp hj with h | rfl
          · exact ih j h
          · exact he
      | some r =>
        obtain ⟨w, t⟩ := r
        rw [ho] at ih
        obtain ⟨h1, h2, h3⟩ := ih
        refine ⟨by omega, h2, fun j a b hj h => ?_⟩
        rcases Nat.lt_succ_iff_lt_or_eq.mp hj with q | rfl
        · exact h3 j a b q h
        · rw [he] at h
          cases h
    | some p =>
      obtain ⟨a, b⟩ := p
      dsimp only
      cases ho : outN ds es n with
      | none =>
        rw [ho] at ih
        refine ⟨by omega, ⟨a, b, he, rfl⟩, fun j a' b' hj h => ?_⟩
        rcases Nat.lt_succ_iff_lt_or_eq.mp hj with q | rfl
        · rw [ih j q] at h
          cases h
        · rw [he] at h
          cases h
          exact .inr ⟨rfl, Nat.le_refl _⟩
      | some r =>
        obtain ⟨w, t⟩ := r
        rw [ho] at ih
        obtain ⟨h1, ⟨a1, b1, h2, h2'⟩, h3⟩ := ih
        dsimp only
        by_cases hlt : bg ds n + a + b < t
        · rw [if_pos hlt]
          refine ⟨by omega, ⟨a, b, he, rfl⟩, fun j a' b' hj h => ?_⟩
          rcases Nat.lt_succ_iff_lt_or_eq.mp hj with q | rfl
          · rcases h3 j a' b' q h with h4 | ⟨h4, h5⟩
            · exact .inl (by omega)
            · exact .inl (by omega)
          · rw [he] at h
            cases h
            exact .inr ⟨rfl, Nat.le_refl _⟩
        · rw [if_neg hlt]
          refine ⟨by omega, ⟨a1, b1, h2, h2'⟩, fun j a' b' hj h => ?_⟩
          rcases Nat.lt_succ_iff_lt_or_eq.mp hj with q | rfl
          · exact h3 j a' b' q h
          · rw [he] at h
            cases h
            by_cases e : t = bg ds j + a + b
            · exact .inr ⟨e, by omega⟩
            · exact .inl (by omega)
theorem filter_mono {α : Type} {l : List α} {p q : α → Bool} (h : ∀ x ∈ l, p x = true → q x = true) : (l.filter p).length ≤ (l.filter q).length := by
  induction l with
  | nil => exact Nat.le_refl _
  | cons x xs ih =>
    have ih' := ih fun y hy => h y (List.mem_cons_of_mem _ hy)
    rw [List.filter_cons, List.filter_cons]
    cases hp : p x with
    | true =>
      rw [h x List.mem_cons_self hp, if_pos rfl, if_pos rfl]
      exact Nat.succ_le_succ ih'
    | false =>
      rw [if_neg (by decide)]
      cases q x with
      | true => rw [if_pos rfl]; exact Nat.le_succ_of_le ih'
      | false => rw [if_neg (by decide)]; exact ih'
theorem early_iff {j : Nat} : early ds w t j = true ↔ has ds j = true ∧ j ≠ w ∧ (fin ds j < t ∨ (fin ds j = t ∧ j < w)) := by
  unfold early
  simp [Bool.and_eq_true, Bool.or_eq_true]
theorem can_iff : can ds z w t = true ↔ has ds w = true ∧ (opn ds w ≤ t ∧ t ≤ fin ds w) ∧ ((hurs ds w t).length : Int) ≤ z := by
  unfold can
  simp [Bool.and_eq_true, and_assoc]
theorem can_of_run (hr : Run ds es) (hq : (qn ds es : Int) ≤ z) (ho : out ds es = some (w, t)) : can ds z w t = true := by
  have sp := outN_spec (ds := ds) (es := es) ds.length
  have ho' : outN ds es ds.length = some (w, t) := ho
  rw [ho'] at sp
  obtain ⟨h1, ⟨a, b, h2, rfl⟩, h3⟩ := sp
  obtain ⟨r1, r2, r3, r4, r5⟩ := hr.2 w a b h2
  refine can_iff.mpr ⟨r1, ⟨by unfold opn; omega, by unfold fin; omega⟩, ?_⟩
  refine Int.le_trans (Int.ofNat_le.mpr ?_) hq
  refine filter_mono fun j hj he => ?_
  obtain ⟨e1, e2, e3⟩ := early_iff.mp he
  unfold shut
  rw [e1, Bool.true_and]
  cases hE : ent es j with
  | none => rfl
  | some p =>
    obtain ⟨a', b'⟩ := p
    exfalso
    obtain ⟨_, q2, q3, q4, q5⟩ := hr.2 j a' b' hE
    have f : fin ds j = bg ds j + 2 * ms ds j := rfl
    rcases h3 j a' b' (has_lt e1) hE with h | ⟨h, h'⟩
    · rcases e3 with e | ⟨e, _⟩ <;> omega
    · rcases e3 with e | ⟨e, e'⟩ <;> omega
/-- a run in which w answers first, at t -/
def run (ds : List Wd) (w : Nat) (t : Int) : List En := (List.range ds.length).map fun j => if j = w then
    (if t - bg ds w - ls ds w ≤ ms ds w then some (t - bg ds w - ls ds w, ls ds w) else some (ms ds w, t - bg ds w - ms ds w))
  else if early ds w t j = true then none else if has ds j = true then some (ms ds j, ms ds j) else none
theorem ent_run {j : Nat} (h : j < ds.length) : ent (run ds w t) j = if j = w then
    (if t - bg ds w - ls ds w ≤ ms ds w then some (t - bg ds w - ls ds w, ls ds w) else some (ms ds w, t - bg ds w - ms ds w))
  else if early ds w t j = true then none else if has ds j = true then some (ms ds j, ms ds j) else none := by
  unfold ent run
  rw [List.getElem?_map, List.getElem?_range h]
  rfl
theorem ent_none {j : Nat} (h : es.length ≤ j) : ent es j = none := by
  unfold ent
  rw [List.getElem?_eq_none h]
  rfl
theorem run_of_can (hf : Fit ds) (h : can ds z w t = true) : Run ds (run ds w t) ∧ (qn ds (run ds w t) : Int) ≤ z ∧ out ds (run ds w t) = some (w, t) := by
  obtain ⟨c1, ⟨c2, c3⟩, c4⟩ := can_iff.mp h
  have hw := has_lt c1
  have hlm := hf w c1
  unfold opn at c2
  unfold fin at c3
  have len : (run ds w t).length = ds.length := by unfold run; rw [List.length_map, List.length_range]
  have hrun : Run ds (run ds w t) := by
    refine ⟨len, fun j a b he => ?_⟩
    have hj : j < ds.length := by
      by_cases q : j < ds.length
      · exact q
      · rw [ent_none (by omega)] at he
        cases he
    rw [ent_run hj] at he
    by_cases e : j = w
    · subst e
      rw [if_pos rfl] at he
      by_cases e2 : t - bg ds j - ls ds j ≤ ms ds j
      · rw [if_pos e2] at he
        cases he
        exact ⟨c1, by omega, by omega, by omega, by omega⟩
      · rw [if_neg e2] at he
        cases he
        exact ⟨c1, by omega, by omega, by omega, by omega⟩
    · rw [if_neg e] at he
      cases e2 : early ds w t j with
      | true => rw [e2, if_pos rfl] at he; cases he
      | false =>
        rw [e2, if_neg (by decide)] at he
        cases e3 : has ds j with
        | false => rw [e3, if_neg (by decide)] at he; cases he
        | true =>
          rw [e3, if_pos rfl] at he
          cases he
          have := hf j e3
          exact ⟨rfl, by omega, by omega, by omega, by omega⟩
  have hq : (qn ds (run ds w t) : Int) ≤ z := by
    refine Int.le_trans (Int.ofNat_le.mpr ?_) c4
    refine filter_mono fun j hj he => ?_
    have hj' := List.mem_range.mp hj
    unfold shut at he
    rw [Bool.and_eq_true, ent_run hj'] at he
    obtain ⟨h1, h2⟩ := he
    by_cases e : j = w
    · rw [if_pos e] at h2
      split at h2 <;> cases h2
    · rw [if_neg e] at h2
      cases e2 : early ds w t j with
      | true => rfl
      | false =>
        rw [e2, if_neg (by decide), h1, if_pos rfl] at h2
        cases h2
  refine ⟨hrun, hq, ?_⟩
  obtain ⟨aw, bw, hE, hs⟩ : ∃ a b, ent (run ds w t) w = some (a, b) ∧ t = bg ds w + a + b := by
    rw [ent_run hw, if_pos rfl]
    by_cases e2 : t - bg ds w - ls ds w ≤ ms ds w
    · rw [if_pos e2]
      exact ⟨_, _, rfl, by omega⟩
    · rw [if_neg e2]
      exact ⟨_, _, rfl, by omega⟩
  have sp := outN_spec (ds := ds) (es := run ds w t) ds.length
  unfold out
  cases ho : outN ds (run ds w t) ds.length with
  | none =>
    rw [ho] at sp
    rw [sp w hw] at hE
    cases hE
  | some r =>
    obtain ⟨w', t'⟩ := r
    rw [ho] at sp
    obtain ⟨s1, ⟨a, b, s2, s2'⟩, s3⟩ := sp
    by_cases e : w' = w
    · subst e
      rw [hE] at s2
      cases s2
      rw [s2', hs]
    · exfalso
      rw [ent_run s1, if_neg e] at s2
      cases e2 : early ds w t w' with
      | true => rw [e2, if_pos rfl] at s2; cases s2
      | false =>
        rw [e2, if_neg (by decide)] at s2
        cases e3 : has ds w' with
        | false => rw [e3, if_neg (by decide)] at s2; cases s2
        | true =>
          rw [e3, if_pos rfl] at s2
          cases s2
          have f : fin ds w' = bg ds w' + 2 * ms ds w' := rfl
          have ne : ¬ (has ds w' = true ∧ w' ≠ w ∧ (fin ds w' < t ∨ (fin ds w' = t ∧ w' < w))) := fun q => by
            rw [early_iff.mpr q] at e2
            cases e2
          have ne' : ¬ (fin ds w' < t) ∧ ¬ (fin ds w' = t ∧ w' < w) := ⟨fun q => ne ⟨e3, e, .inl q⟩, fun q => ne ⟨e3, e, .inr q⟩⟩
          rcases s3 w aw bw hw hE with q | ⟨q, q'⟩
          · rw [← hs] at q
            exact ne'.1 (by omega)
          · rw [← hs] at q
            exact ne'.2 ⟨by omega, by omega⟩
def plan (ds : List Wd) : List Nat := (List.range ds.length).filter (has ds)
theorem none_of_run (hr : Run ds es) (ho : out ds es = none) : qn ds es = (plan ds).length := by
  have sp := outN_spec (ds := ds) (es := es) ds.length
  have ho' : outN ds es ds.length = none := ho
  rw [ho'] at sp
  unfold qn plan
  congr 1
  refine List.filter_congr fun j hj => ?_
  unfold shut
  rw [sp j (List.mem_range.mp hj), Option.isNone_none, Bool.and_true]
def still (ds : List Wd) : List En := ds.map fun _ => none
theorem ent_still {j : Nat} : ent (still ds) j = none := by
  unfold ent still
  rw [List.getElem?_map]
  cases ds[j]? <;> rfl
theorem outN_still : ∀ n, outN ds (still ds) n = none
  | 0 => rfl
  | n + 1 => by
    show step ds (still ds) (outN ds (still ds) n) n = none
    unfold step
    rw [ent_still, outN_still n]
theorem still_run : Run ds (still ds) ∧ qn ds (still ds) = (plan ds).length ∧ out ds (still ds) = none := by
  have h1 : Run ds (still ds) := ⟨by unfold still; rw [List.length_map], fun j a b h => by rw [ent_still] at h; cases h⟩
  have h3 : out ds (still ds) = none := outN_still _
  exact ⟨h1, none_of_run h1 h3, h3⟩
theorem can_mono {t' : Int} (h : can ds z w t = true) (h1 : opn ds w ≤ t') (h2 : t' ≤ t) : can ds z w t' = true := by
  obtain ⟨c1, ⟨c2, c3⟩, c4⟩ := can_iff.mp h
  refine can_iff.mpr ⟨c1, ⟨h1, by omega⟩, Int.le_trans (Int.ofNat_le.mpr (filter_mono fun j _ he => ?_)) c4⟩
  obtain ⟨e1, e2, e3⟩ := early_iff.mp he
  refine early_iff.mpr ⟨e1, e2, ?_⟩
  rcases e3 with e | ⟨e, e'⟩
  · exact .inl (by omega)
  · by_cases q : t' = t
    · exact .inr ⟨by omega, e'⟩
    · exact .inl (by omega)
/-! the latest end -/
theorem count_lt : ∀ {E : List Int} {n : Nat} {L : Int}, E.Pairwise (· ≤ ·) → E[n]? = some L → (E.filter fun x => decide (x < L)).length ≤ n
  | [], _, _, _, h => nomatch h
  | x :: E, 0, L, hs, h => by
    cases h
    have : (List.filter (fun y => decide (y < x)) (x :: E)) = [] := by
      rw [List.filter_eq_nil_iff]
      intro y hy
      rcases List.mem_cons.mp hy with rfl | hy
      · simp
      · have := (List.pairwise_cons.mp hs).1 y hy
        simp
        omega
    rw [this]
    exact Nat.le_refl _
  | x :: E, n + 1, L, hs, h => by
    have ih := count_lt (n := n) (L := L) (List.pairwise_cons.mp hs).2 h
    rw [List.filter_cons]
    split
    · exact Nat.succ_le_succ ih
    · exact Nat.le_succ_of_le ih
theorem count_le : ∀ {E : List Int} {n : Nat} {L : Int}, E.Pairwise (· ≤ ·) → E[n]? = some L → n + 1 ≤ (E.filter fun x => decide (x ≤ L)).length
  | [], _, _, _, h => nomatch h
  | x :: E, 0, L, hs, h => by
    cases h
    rw [List.filter_cons, if_pos (by simp)]
    exact Nat.succ_le_succ (Nat.zero_le _)
  | x :: E, n + 1, L, hs, h => by
    have ih := count_le (n := n) (L := L) (List.pairwise_cons.mp hs).2 h
    have hx : x ≤ L := (List.pairwise_cons.mp hs).1 L (List.mem_of_getElem? h)
    rw [List.filter_cons, if_pos (by simpa using hx)]
    exact Nat.succ_le_succ ih
def ends (ds : List Wd) : List Int := (plan ds).map (fin ds)
theorem ends_count (p : Int → Bool) : ((ends ds).filter p).length = ((List.range ds.length).filter fun j => has ds j && p (fin ds j)).length := by
  unfold ends plan
  rw [List.filter_map, List.length_map, List.filter_filter]
  congr 1
  refine List.filter_congr fun j _ => ?_
  exact Bool.and_comm _ _
theorem perm_count {E F : List Int} (h : E.Perm F) (p : Int → Bool) : (E.filter p).length = (F.filter p).length := (h.filter p).length_eq
theorem latest_hi {E : List Int} {n : Nat} {L : Int} (hp : E.Perm (ends ds)) (hs : E.Pairwise (· ≤ ·)) (hL : E[n]? = some L) (hz : z = (n : Int)) (h : can ds z w t = true) : t ≤ L := by
  by_cases q : t ≤ L
  · exact q
  · exfalso
    obtain ⟨c1, ⟨c2, c3⟩, c4⟩ := can_iff.mp h
    have k := count_le hs hL
    rw [perm_count hp, ends_count] at k
    have k2 : ((List.range ds.length).filter fun j => has ds j && decide (fin ds j ≤ L)).length ≤ (hurs ds w t).length := filter_mono fun j hj he => by
      rw [Bool.and_eq_true, decide_eq_true_eq] at he
      refine early_iff.mpr ⟨he.1, fun e => ?_, .inl (by omega)⟩
      subst e
      omega
    omega
theorem first_of {p : Nat → Bool} : ∀ {n : Nat}, (∃ j, j < n ∧ p j = true) → ∃ j, j < n ∧ p j = true ∧ ∀ i, i < j → p i = false
  | 0, ⟨j, h, _⟩ => absurd h (Nat.not_lt_zero _)
  | n + 1, h => by
    by_cases q : ∃ j, j < n ∧ p j = true
    · obtain ⟨j, h1, h2, h3⟩ := first_of q
      exact ⟨j, by omega, h2, h3⟩
    · obtain ⟨j, h1, h2⟩ := h
      have e : j = n := by
        by_cases z : j < n
        · exact absurd ⟨j, z, h2⟩ q
        · omega
      subst e
      refine ⟨j, h1, h2, fun i hi => ?_⟩
      cases z : p i with
      | false => rfl
      | true => exact absurd ⟨i, hi, z⟩ q
theorem latest_lo (hf : Fit ds) {E : List Int} {n : Nat} {L : Int} (hp : E.Perm (ends ds)) (hs : E.Pairwise (· ≤ ·)) (hL : E[n]? = some L) (hz : z = (n : Int)) : ∃ w, can ds z w L = true := by
  have hm : L ∈ ends ds := hp.mem_iff.mp (List.mem_of_getElem? hL)
  obtain ⟨j, hj, hjL⟩ := List.mem_map.mp hm
  obtain ⟨hj1, hj2⟩ := List.mem_filter.mp hj
  obtain ⟨w, h1, h2, h3⟩ := first_of (p := fun j => has ds j && decide (fin ds j = L)) (n := ds.length) ⟨j, List.mem_range.mp hj1, by rw [hj2, hjL]; simp⟩
  rw [Bool.and_eq_true, decide_eq_true_eq] at h2
  refine ⟨w, can_iff.mpr ⟨h2.1, ⟨?_, by omega⟩, ?_⟩⟩
  · have := hf w h2.1
    have q : fin ds w = bg ds w + 2 * ms ds w := rfl
    unfold opn
    omega
  · have k := count_lt hs hL
    rw [perm_count hp, ends_count] at k
    have k2 : (hurs ds w L).length ≤ ((List.range ds.length).filter fun j => has ds j && decide (fin ds j < L)).length := filter_mono fun i hi he => by
      obtain ⟨e1, e2, e3⟩ := early_iff.mp he
      rcases e3 with e | ⟨e, e'⟩
      · rw [e1, decide_eq_true e]
        rfl
      · have := h3 i e'
        rw [e1, decide_eq_true e] at this
        cases this
    omega
end K18

set_option Elab.async false
set_option linter.all false
set_option maxRecDepth 100000
set_option maxHeartbeats 4000000
/-! except A as e: .. except B as e: ..; classes made with keyword-only parameters -/
namespace L2
open PySem PySem.Spec PyProof.Rows
abbrev SuT := Addr → Value → Option Addr → TS
/-- behind a suite the i-th slot is empty -/
def dropAt (i : Nat) (D : Ends) : Ends := { nx := fun g J => D.nx (g.set i none) J, rt := D.rt, bk := fun g J => D.bk (g.set i none) J, ct := fun g J => D.ct (g.set i none) J }
def wManyA (K : PySem.W.Frag) (Wo : WX) (D : Ends) : List (Value × Nat × SuT) → WX
  | [] => Wo
  | (c, i, ts) :: r => fun cl d g J => ∃ y, PySem.W.exmOne K cl c = some y ∧ (y = true → ∀ q, J q = none → ts q cl d (dropAt i D) (g.set i (some (.ref q))) J) ∧ (y = false → wManyA K Wo D r cl d g J)
inductive HdsA (X : Cx) : List ExceptHandler → List (Value × Nat × SuT) → Prop
  | nil : HdsA X [] []
  | cons {x n : Str} {c : Value} {i : Nat} {ts : SuT} {b0 : Stmt} {su : List Stmt} {np pp : Pos} {hds : List ExceptHandler} {l : List (Value × Nat × SuT)} (hi : X.N[i]? = some n) (hl : X.env.kindOf n = some .local) (hc : Names X x c)
      (hsu : ∀ (q : Addr) (oq : Obj) (cl : Value) (d : Option Addr) (pn : List (Addr × Obj)), Zc cl d oq → (∃ us, oq.data = .fields us) → PSs (X.suite q ((q, oq) :: pn)) (b0 :: su) (ts q cl d)) (r : HdsA X hds l) :
      HdsA X (.ExceptHandler (some (.Name x np)) (some n) (b0 :: su) pp :: hds) ((c, i, ts) :: l)
section
variable {X : Cx} {bd : List Stmt} {hd0 : ExceptHandler} {hds : List ExceptHandler} {l : List (Value × Nat × SuT)} {pos : Pos} {tb : WX → TS} {Wo : WX}
theorem ps_try_manyA (hs : X.stack = X.env :: X.outer) (hf : X.env.frame = some X.env.locals) (hN : X.N.Nodup) (tk : Takes X Wo)
    (hb : ∀ (W : WX) (pn : List (Addr × Obj)) (xe : Value → Shared → Prop), Takes (X.tr pn xe) W → PassesOwn (model X.prog X.w) X.A X.env xe → PSs (X.tr pn xe) bd (tb W))
    (hh : HdsA X (hd0 :: hds) l) : PS X (.Try bd (hd0 :: hds) [] [] pos) (fun D g J => tb (wManyA X.K Wo D l) D g J) := by
  refine ⟨fun pins s0 g0 J0 D I0 h => ?_⟩
  have kk := I0.ok
  have hfr : X.A.frames = some (X.env :: X.outer) := by rw [kk.frames, hs]
  refine wpAny_Try_except (wpAny_mono ((hb (wManyA X.K Wo D l) (X.pn ++ pins) (fun u t1 => wpAny (model X.prog X.w) X.A (noteFrame u X.env) (fun _ t2 => wpAny (model X.prog X.w) X.A (setFlight u none) (fun _ t3 =>
    wpAny (model X.prog X.w) X.A (handleBy u X.env (hd0 :: hds)) (SP X pins D) X.xe t3) X.xe t2) X.xe t1) (fun u t1 xx => ?_) PassesOwn.looking).run [] s0 g0 J0 D (I0.toTry _) h) (fun fl t1 hsp => ?_) (fun _ _ z => z))
  · obtain ⟨q, B, sI, pns, g1, J1, cl, d, rfl, K1, nb, up, sky, na, os, ag, wx⟩ := xx
    have V : Inv X pins g1 J1 sI := K1.ofTry kk
    have sky2 : Sky B (X.env :: X.outer) q (Zc cl d) X.env.locals t1.heap := by rw [← hs]; exact sky
    show wpAny (model X.prog X.w) X.A (noteFrame (.ref q) X.env) _ _ _
    refine Sky.land Zc.steady hfr hf sky2 fun h3 f3 u3 => ?_
    have V3 : Inv X pins g1 J1 { t1 with heap := h3 } := V.landed nb f3.1 (up.trans u3) os ag
    obtain ⟨o3, v3, e3, z3, d3⟩ := f3.there
    have apart : ∀ {hh : Heap} {o : Obj} {us : Array Value}, hh.FunFrames B (X.env :: X.outer) → hh.get? q = some o → o.data = .fields us → q ∉ frs (X.env :: X.outer) := fun {hh o us} ff e dd hm => by
      obtain ⟨_, o', e', hnf⟩ := ff.mem hm
      rw [e] at e'
      cases e'
      exact hnf _ dd
    have np := apart f3.2.2.1 e3 d3
    have nL : q ≠ X.env.locals := fun z => np (List.mem_filterMap.mpr ⟨X.env, List.mem_cons_self, by rw [hf, z]⟩)
    have nF : q ∉ X.fs := fun hm => by
      obtain ⟨e, he, r⟩ := List.mem_filterMap.mp hm
      exact np (List.mem_filterMap.mpr ⟨e, List.mem_cons_of_mem _ he, r⟩)
    have S3 := V3.suite e3 d3 na nL nF
    have go : ∀ {hz : List ExceptHandler} {lz : List (Value × Nat × SuT)}, HdsA X hz lz → wManyA X.K Wo D lz cl d g1 J1 → wpAny (model X.prog X.w) X.A (handleBy (.ref q) X.env hz) (SP X pins D) X.xe { t1 with heap := h3 } := by
      intro hz lz hk
      induction hk with
      | nil =>
        intro wz
        refine wpAny_handleBy_nil ?_
        obtain ⟨_, _, _, oq, us, TB, oT, ts2, he, hq, hdd, h1, hr⟩ := id f3
        unfold PySem.passOn
        refine wpAny_bind (wpAny_field he hdd h1 ?_)
        rw [if_neg (show ¬ ((Value.ref TB == Value.none) = true) by simp)]
        have fin : wpAny (model X.prog X.w) X.A (setFlight (.ref q) X.env.frame) (fun _ t4 => wpAny (model X.prog X.w) X.A (throw (.ref q) : Sem Flow) (SP X pins D) X.xe t4) X.xe { t1 with heap := h3 } := by
          rw [hf]
          refine HandSPX.setFlight_upZ f3 fun h4 hh4 up4 => wpAny_throw (tk _ _ ?_)
          exact ⟨q, B, sI, pins, g1, J1, cl, d, rfl, V, nb, (up.trans u3).trans up4, .inr (.inr (by rw [hs]; exact hh4)), na, os, ag, wz⟩
        first | exact wpAny_bind (wpAny_pure (wpAny_bind fin)) | exact wpAny_bind fin
      | @cons x n c i ts b0 su np pp hds2 l2 hi hl hc hsu r ih =>
        intro wz
        obtain ⟨y, hy, yes, no⟩ := wz
        refine wpAny_handleBy_cons (codeAny_handlers_test ?_) (by intro z; cases z)
        have LT : PySem.W.Looks (model X.prog X.w) h3 (typeOf (.ref q)) cl := fun A Q E s k r => wpAny_typeOf_ref (k _ _ e3) (by rw [z3.1]; exact r)
        have LM := PySem.W.exm_one (M := model X.prog X.w) (V3.kIn) LT hy
        have tst : ∀ {Q E : Value → Shared → Prop}, Q c { t1 with heap := h3 } → wpAny (model X.prog X.w) (X.A.mark (some (.ref q))) (eval (.Name x np) X.env) Q E { t1 with heap := h3 } := fun {Q E} z => by
          obtain ⟨hg, hdbg, hm | ⟨hm, hv, hnn⟩⟩ := hc
          · exact ld_glob (X := X.suite q ((q, o3) :: (X.pn ++ pins))) S3 hg hm z hdbg
          · exact ld_blt (X := X.suite q ((q, o3) :: (X.pn ++ pins))) S3 hg hm hv z hnn hdbg
        refine tst (LM.here ?_)
        cases y with
        | true =>
          refine codeAny_handlers_suite_as (HandSPX.lands_againZ f3 fun h4 f4 u4 => ?_)
          have V4 : Inv X pins g1 J1 { t1 with heap := h4 } := V.landed nb f4.1 ((up.trans u3).trans u4) os ag
          obtain ⟨o4, v4, e4, z4, d4⟩ := f4.there
          have S4 := V4.suite e4 d4 na nL nF
          have hloc : Loc X.env.scope n := .inl hl
          refine store_ok (X := X.suite q ((q, o4) :: (X.pn ++ pins))) (v := .ref q) S4 hN hi hloc rfl (fun t5 S5 => ?_) (.inr hl)
          refine wpAny_mono ((hsu q o4 cl d (X.pn ++ pins) z4 ⟨_, d4⟩).run [] t5 _ J1 _ S5 (yes rfl q na)) (fun fl t6 sp => ?_) (fun _ _ z => False.elim z)
          have ends : ∀ {g6 : St} {J6 : Hp} {Q : Shared → Prop}, Inv (X.suite q ((q, o4) :: (X.pn ++ pins))) [] g6 J6 t6 → (∀ t7, Inv X pins (g6.set i none) J6 t7 → Q t7) →
              wpAny (model X.prog X.w) X.A (do bindName X.env n .none; unbindBehindTheSuite X.env n pp) (fun _ t7 => Q t7) X.xe t6 := fun {g6 J6 Q} S6 hq => gone_ok (S6.unsuite kk) hN hi hl hq
          cases fl with
          | next =>
            obtain ⟨g6, J6, S6, r6⟩ := sp
            exact ends S6 fun t7 V7 => ⟨_, _, V7, r6⟩
          | brk =>
            obtain ⟨g6, J6, S6, r6⟩ := sp
            exact ends S6 fun t7 V7 => ⟨_, _, V7, r6⟩
          | cont =>
            obtain ⟨g6, J6, S6, r6⟩ := sp
            exact ends S6 fun t7 V7 => ⟨_, _, V7, r6⟩
          | ret u =>
            obtain ⟨w6, g6, J6, S6, r6, y6⟩ := sp
            exact ends S6 fun t7 V7 => ⟨_, _, _, V7, r6, y6⟩
        | false =>
          show wpAny _ X.A (handleBy (.ref q) X.env hds2) _ _ _
          exact ih (no rfl)
    exact go hh wx
  · cases fl with
    | next =>
      obtain ⟨g6, J6, V6, r⟩ := hsp
      exact wpAny_execs_nil ⟨g6, J6, V6.ofTry kk, r⟩
    | brk =>
      obtain ⟨g6, J6, V6, r⟩ := hsp
      exact ⟨g6, J6, V6.ofTry kk, r⟩
    | cont =>
      obtain ⟨g6, J6, V6, r⟩ := hsp
      exact ⟨g6, J6, V6.ofTry kk, r⟩
    | ret u =>
      obtain ⟨v6, g6, J6, V6, rv, r⟩ := hsp
      exact ⟨v6, g6, J6, V6.ofTry kk, rv, r⟩
end
/-! ### C(e, .., k = v, ..), keyword-only parameters without defaults, all written in their order -/
section
variable {K : PySem.W.Frag} {x qual : Str} {st : Stmt} {f : Addr} {fd : FuncData} {ps ks : List Str} {n : Nat}
abbrev KBa (K : PySem.W.Frag) (fd : FuncData) (ps : List Str) (n : Nat) (ks : List Str) : Prop := KBn K fd ps n ks (fun us ws => us ++ ws) (fun vs zs => vs ++ zs)
theorem Fun.kba (F : Fun K x qual st f fd)
    (h : ∀ (kV doc pm : Value) (an : Option Addr) (cdv ct : Value) (us ws : List Value), us.length = n → ws.length = ks.length → bindArgs (PySem.W.fnOf x qual (defArgs st) (defBody st) (defScope st) .none kV doc pm an cdv ct) ⟨us, ks.zip ws⟩ = pure (ps.zip (us ++ ws))) : KBa K fd ps n ks := by
  obtain ⟨_, _, kV, doc, pm, an, cdv, ct, _, rfl, _, _⟩ := F.ex
  exact ⟨fun s us ws _ l1 l2 => .of_eq (h kV doc pm an cdv ct us ws l1 l2), fun r1 r2 => r1.append r2⟩
end
structure OwnCK (P : Program) (w : World) (K : PySem.W.Frag) (mg : Str → Option Value) (base : Heap) (CX : CXT) (x : Str) (C : Addr) (k : Nat) (ps : List Str) (n : Nat) (ks : List Str) (sp : Sp) : Prop where
  ex : ∃ (f : Addr) (fd : FuncData), FnOk P w K mg base CX k f fd ps sp ∧ Mk K C f ∧ mg x = some (.ref C) ∧ KBa K fd ps (n + 1) ks
section
variable {X : Cx} {CX : CXT} {k n : Nat} {f C : Addr} {fd : FuncData} {ps ks : List Str} {sp : Sp} {E : St → XK} {x : Str} {p pos : Pos} {e : Expr} {es : List Expr} {kws : List Keyword} {t tk : TA} {W : WX}
/-- the errors wished at the slots -/
def tMakeKS (C : Addr) (n m : Nat) (sp : Sp) (E : St → XK) (t tk : TA) : TE := fun g J Q => t g J fun vs J1 => tk g J1 fun zs J2 => vs.length = n ∧ zs.length = m ∧ ∀ o dx, J2 o = none → J2 dx = none → dx ≠ o →
  sp (.ref o :: vs ++ zs) (upd (upd J2 dx (.own o)) o (.ins C dx [])) (fun v J3 => v = .non ∧ Q (.ref o) J3) (fun cl d J3 => E g cl d J3)
theorem run_makeKS {pins : List (Addr × Obj)} {g : St} {J : Hp} {s : Shared} {Q : VK} {us ws : List Value} {vs zs : List V} (M : Mk X.K C f) (F : FnOk X.prog X.w X.K X.mg X.base CX k f fd ps sp) (hr : Room (k + 1) X.A) (hb : KBa X.K fd ps (n + 1) ks) (hx : PassesAt CX X g (E g))
    (I : Inv X pins g J s) (r : Vals vs us) (rz : Vals zs ws) (l1 : vs.length = n) (l2 : zs.length = ks.length)
    (h : ∀ o dx, J o = none → J dx = none → dx ≠ o → sp (.ref o :: vs ++ zs) (upd (upd J dx (.own o)) o (.ins C dx [])) (fun v J2 => v = .non ∧ Q (.ref o) J2) (E g)) :
    wpAny (model X.prog X.w) X.A (call (.ref C) us (ks.zip ws)) (EP X pins g Q) X.xe s := by
  have want := h (s.heap.objs.size + 1) s.heap.objs.size (I.hok.fresh (Nat.le_succ _)) (I.hok.fresh (Nat.le_refl _)) (Nat.ne_of_lt (Nat.lt_succ_self _))
  have I2 := Inv.made (C := C) I
  have m1 : Vals (V.ref (s.heap.objs.size + 1) :: vs) (Value.ref (s.heap.objs.size + 1) :: us) := .cons rfl r
  have m2 := hb.rel m1 rz
  have k1 : (Value.ref (s.heap.objs.size + 1) :: us).length = n + 1 := by rw [List.length_cons, ← r.length, l1]
  refine wpAny_call (make_map (f := f) I.kIn M.makes M.init (beq_iff_eq.mp M.fn) (codeAny_mono (F.run _ X.stack _ _ ⟨Value.ref (s.heap.objs.size + 1) :: us, ks.zip ws⟩ (Value.ref (s.heap.objs.size + 1) :: us ++ ws) _ _ (E g) (hr.make C us (ks.zip ws))
    (I2.env0.make C us (ks.zip ws)) (hb.to _ (Value.ref (s.heap.objs.size + 1) :: us) ws I2.kIn k1 (rz.length.symm.trans l2)) m2 want) fun z t1 hz => ?_))
  cases z with
  | error u => exact hx pins _ _ u t1 I2 hz
  | ok fl =>
    cases fl with
    | ret u =>
      obtain ⟨v, J3, I3, rv, ev, q3⟩ := I2.after hz
      subst ev
      exact ⟨rv, ⟨V.ref (s.heap.objs.size + 1), J3, I3, rfl, q3⟩⟩
    | next => exact False.elim hz
    | brk => exact False.elim hz
    | cont => exact False.elim hz
theorem pe_newKS (O : OwnCK X.prog X.w X.K X.mg X.base (L2.CX X.prog X.w) x C k ps n ks sp) (hr : Room (k + 1) X.A) (tw : Takes X W) (ha : PA X (e :: es) t) (hkw : PK X kws tk) (hg : Gl X x := by rfl)
    (hall : (backToKw pos (keywordEach kws X.env)).all (·.1.isSome) = true := by rfl) (hks : (backToKw pos (keywordEach kws X.env)).filterMap (·.1) = ks := by rfl) (hdb : (x == ("__debug__" : Str)) = false := by decide)
    (he : starEach (e :: es) X.env = (false, eval e X.env) :: starEach es X.env := by rfl) (hpl : ((backTo pos (starEach (e :: es) X.env)).any (·.1) || (backToKw pos (keywordEach kws X.env)).any (·.1.isNone)) = false := by rfl) :
    PE X (.Call (.Name x p) (e :: es) kws pos) (tMakeKS C n ks.length sp (WE W) t tk) := by
  obtain ⟨f, fd, F, M, hm, hb⟩ := O.ex
  refine ⟨fun pins s g J Q I h => wpAny_Call_Name_kw (ld_glob I hg hm ?_ hdb)⟩
  refine PySem.W.callWith_KW (h₀ := X.base) I.ok.mod.kin M.kp hall (thn (ha.run pos pins s g J _ I h) fun us s1 ⟨vs, J1, I1, r, q⟩ => ?_) hpl he
  refine thn (hkw.run pos pins s1 g J1 _ I1 q) fun ws s2 ⟨zs, J2, I2, rz, l1, l2, q2⟩ => ⟨I2.kIn, ?_⟩
  rw [hks]
  exact run_makeKS M F hr hb (passAt tw g) I2 r rz l1 l2 q2
end
section
variable {X : Cx} {e : Expr} {f : Str} {pos : Pos} {ta : TE}
/-- e.f where the context is not known yet -/
theorem pe_fldA (he : PE X e ta) (hb : attributeBase e f X.env (eval e X.env) = eval e X.env := by rfl) : PE X (.Attribute e f pos) (tFld X.K ta f) := pe_fld he hb
end
end L2

set_option Elab.async false
set_option maxRecDepth 100000
set_option maxHeartbeats 4000000
/-! slices and sums of tuples, whichever object it is -/
namespace L2
open PySem PySem.Spec PyProof.Rows
section
variable {X : Cx}
theorem cut_whole {xs : List V} {lo hi : Option Int} (h : HT.sIx xs.length 0 lo = 0 ∧ HT.sIx xs.length xs.length hi = xs.length) : cutV xs lo hi = xs := by
  unfold cutV
  rw [h.1, h.2]
  simp
/-- a slice of a tuple, whichever object it is -/
def rSlE : V → Option Int → Option Int → Hp → VK → Prop := fun x lo hi H Q => ∃ a xs, x = .ref a ∧ H a = some (.tup xs) ∧ ∀ p H', Ext H H' → H' p = some (.tup (cutV xs lo hi)) → Q (.ref p) H'
theorem sl_tupE : SlR X rSlE := by
  intro pins s σ H x v vl vu lo hi sl Q I rx hs pl pu h
  obtain ⟨a, xs, rfl, ha, q⟩ := h
  exact sl_tupA pins s σ H _ v vl vu lo hi sl Q I rx hs pl pu ⟨a, xs, rfl, SqT.of ha, fun hw => q a H Ext.rfl' (by rw [cut_whole hw]; exact ha), fun _ p hp => q p _ (Ext.upd hp) upd_same⟩
/-- the sum of two tuples, whichever object it is -/
def rCatE : R2 := fun x y H Q => ∃ a b xs ys, x = .ref a ∧ y = .ref b ∧ H a = some (.tup xs) ∧ H b = some (.tup ys) ∧ xs.length + ys.length ≤ sizeLine ∧ ∀ p H', Ext H H' → H' p = some (.tup (xs ++ ys)) → Q (.ref p) H'
theorem op_catE : OpR X (binaryOp .Add) rCatE := by
  intro pins s σ H x y v u Q I rx ry h
  obtain ⟨a, b, xs, ys, rfl, rfl, ha, hb, hz, q⟩ := h
  refine op_catA pins s σ H _ _ v u Q I rx ry ⟨a, b, xs, ys, rfl, rfl, SqT.of ha, SqT.of hb, hz, fun e => q b H Ext.rfl' ?_, fun _ e => q a H Ext.rfl' ?_, fun _ _ p hp => q p _ (Ext.upd hp) upd_same⟩
  · subst e
    exact hb
  · subst e
    rw [List.append_nil]
    exact ha
end
end L2

set_option Elab.async false
set_option linter.all false
set_option maxRecDepth 100000
set_option maxHeartbeats 4000000
/-! one of two readings; tuple.index of flat items; an own __contains__ -/
namespace PySem.W
open PySem PySem.Calls PyProof.Rows
section
variable {prog : Program} {w : World} {A : Around} {E : Value → Shared → Prop} {s : Shared} {K : Frag} {x C f : Addr} {ox : Obj} {od : Option Obj}
theorem contains_fn {v : Value} {Q : Bool → Shared → Prop} (X : K.In s.heap) (I : InstAt s.heap x ox C od) (hs : findIn K (.ref C) "__contains__" = some (some (.ref f))) (hf : isFn K (.ref f) = true)
    (h : wpAny (model prog w) A (call (.ref f) [.ref x, v]) (fun r s' => ∃ b, r = .bool b ∧ Q b s') E s) : wpAny (model prog w) A (contains (.ref x) v) Q E s := by
  unfold contains
  refine wpAny_holding ?_
  have e1 : stdlibNamesSay? (.ref x) v = none := rfl
  rw [e1]
  refine wpAny_bind (wpAny_bind (I.type.here ((looks_findIn X hs).here ?_)))
  show wpAny _ _ (if (some (Value.ref f) == some Value.none) = true then _ else _) _ _ _
  rw [if_neg (by simp)]
  refine wpAny_bind (m := callSpecialUnlessNone? (.ref x) _ _ _) ?_
  unfold callSpecialUnlessNone?
  refine wpAny_bind (wpAny_bind (I.type.here ((looks_findIn X hs).here ?_)))
  refine wpAny_holding (wpAny_bind ((bind_fn X _ (beq_iff_eq.mp hf)).here ?_))
  show wpAny _ _ (if (Value.ref f == Value.none) = true then _ else _) _ _ _
  rw [if_neg (by simp)]
  refine wpAny_bind (wpAny_mono h (fun r s' z => ?_) fun _ _ z => z)
  obtain ⟨b, rfl, q⟩ := z
  exact wpAny_pure (wpAny_truthy_bool q)
end
end PySem.W
namespace L2
open PySem PySem.Spec PyProof.Rows
section
variable {X : Cx}
theorem pe_either {ex : Expr} {t1 t2 : TE} (h1 : PE X ex t1) (h2 : PE X ex t2) : PE X ex (fun g J Q => t1 g J Q ∨ t2 g J Q) := ⟨fun pins s g J Q I h => h.elim (fun z => h1.run pins s g J Q I z) (fun z => h2.run pins s g J Q I z)⟩
def rIndexT (K : PySem.W.Frag) : V → List V → Hp → VK → Prop := fun o vs J Q => ∃ (p : Addr) (ts : List V) (e : V) (n : Nat) (c : V), o = V.ref p ∧ vs = [e] ∧ SqT K J p ts ∧ flatV e = true ∧ ts.all flatV = true ∧ ts[n]? = some c ∧ eqV c e = true ∧
  (∀ (m : Nat) (c' : V), m < n → ts[m]? = some c' → eqV c' e = false) ∧ Q (.int (n : Nat)) J
theorem mt_tupIndex : MtR X "tuple.index" (rIndexT X.K) := by
  intro pins s g J o vs v us Q I ro rvs h
  obtain ⟨p, ts, e, n, c, rfl, rfl, ht, fe, fts, hc, hce, no, q⟩ := h
  cases ro
  cases rvs with
  | cons re rt =>
    rename_i ue ut
    cases rt
    obtain ⟨its, rv, ⟨⟨cls, dd, dt, sl⟩, ho, hcl, nn, hd⟩, hz⟩ := I.tuple ht
    simp only at hcl hd
    subst hcl hd
    obtain ⟨u, hu, ru⟩ := rv.get hc
    obtain ⟨nl, ne⟩ := List.getElem?_eq_some_iff.mp hu
    have hvl := rv.length
    have hn : n < its.toArray.size := by simpa using nl
    refine call_meets PySem.F.slot_tuple_index ⟨_, ho, rfl⟩ PySem.F.entry_tuple_index (PySem.F.args_tuple_index_2 _ _) (TI.tuple_indexAt p its.toArray nn dd sl ue (eqU e) n hn ?_ ?_)
      ⟨ho, fun w hw => mem_eqAt re fe rv fts w (by simpa using hw), ?_⟩
    · have e1 : its.toArray[n] = u := by simpa using ne
      rw [e1, eqU_of ru (flat_at fts hc)]
      exact hce
    · intro m hm hmn
      have ml : m < its.length := by simpa using hm
      have mt : m < ts.length := by omega
      have gm : ts[m]? = some ts[m] := List.getElem?_eq_getElem mt
      obtain ⟨u2, hu2, ru2⟩ := rv.get gm
      obtain ⟨_, me⟩ := List.getElem?_eq_some_iff.mp hu2
      have e2 : its.toArray[m] = u2 := by simpa using me
      rw [e2, eqU_of ru2 (flat_at fts gm)]
      exact no m _ hmn gm
    · exact ⟨.int (n : Nat), J, I.tok _, ⟨_, rfl⟩, q⟩
end
section
variable {X : Cx} {CX : CXT} {k : Nat} {f C : Addr} {fd : FuncData} {ps : List Str} {sp : Sp}
/-- x in o, o an instance of the class at C with an own __contains__ -/
def rInO (C : Addr) (sp : Sp) : R2 := fun x y H Q => ∃ a dx fs, y = .ref a ∧ H a = some (.ins C dx fs) ∧ sp [y, x] H (fun v H' => ∃ b, v = .bl b ∧ Q (.bl b) H') E0
theorem op_inO (F : FnOk X.prog X.w X.K X.mg X.base CX k f fd ps sp) (hs : PySem.W.findIn X.K (.ref C) "__contains__" = some (some (.ref f))) (hf : PySem.W.isFn X.K (.ref f) = true) (hr : Room k X.A) (hb : Binds X.K fd ps []) (hx : Passes CX X E0) : OpR X (compareOp .In) (rInO C sp) := by
  intro pins s g J x y v u Q I rx ry hq
  obtain ⟨a, dx, fs, rfl, ha, q⟩ := hq
  cases (show u = Value.ref a from ry)
  obtain ⟨mA, O, _⟩ := ins_get I.hok ha
  obtain ⟨od, O, _⟩ := O.look
  show wpAny (model X.prog X.w) X.A (contains (.ref a) v >>= fun b => pure (.bool b)) (EP X pins g Q) X.xe s
  refine wpAny_bind (PySem.W.contains_fn I.kIn O hs hf (wpAny_mono (run_at (vs := [.ref a, x]) F hr rfl hb hx I (.cons rfl (.cons rx .nil)) q) (fun r s' z => ?_) fun _ _ e => e))
  obtain ⟨w', J', I', rv, b, rfl, q'⟩ := z
  cases rv
  exact ⟨b, rfl, wpAny_pure ⟨.bl b, J', I', rfl, q'⟩⟩
theorem inO {m : Nat} (O : OwnM X.prog X.w X.K X.mg X.base CX C "__contains__" m ps sp) (hr : Room m X.A) (hx : Passes CX X E0) : OpR X (compareOp .In) (rInO C sp) := by
  obtain ⟨f, fd, F, M, hi, hb⟩ := O.ex
  exact op_inO F M.at_ hi hr hb hx
end
end L2

set_option Elab.async false
set_option maxRecDepth 100000
set_option maxHeartbeats 4000000
/-! ranges with a step made lists and tuples; zip of two tuples in a comprehension; a def that is held by a name -/
namespace L2
open PySem PySem.Spec PyProof.Rows
theorem pss_dead {X : Cx} {ss : List Stmt} : PSs X ss (fun _ _ _ => False) := ⟨fun _ _ _ _ _ _ h => h.elim⟩
/-- the def at f keeps its promise -/
structure OwnAt (P : Program) (w : World) (K : PySem.W.Frag) (mg : Str → Option Value) (base : Heap) (CX : CXT) (f : Addr) (k : Nat) (ps : List Str) (sp : Sp) : Prop where
  ex : ∃ fd, FnOk P w K mg base CX k f fd ps sp ∧ PySem.W.keepIn K (.ref f) = true ∧ Binds K fd ps []
theorem Own.at_ {P : Program} {w : World} {K : PySem.W.Frag} {mg : Str → Option Value} {base : Heap} {CX : CXT} {x : Str} {k : Nat} {ps : List Str} {sp : Sp} (O : Own P w K mg base CX x k ps sp) : ∃ f, mg x = some (.ref f) ∧ OwnAt P w K mg base CX f k ps sp := by
  obtain ⟨f, fd, F, hm, hk, hb⟩ := O.ex
  exact ⟨f, hm, fd, F, hk, hb⟩
section
variable {X : Cx} {CX : CXT} {x : Str} {k i : Nat} {f : Addr} {ps : List Str} {sp : Sp} {e : Expr} {es : List Expr} {t : TA} {p pos : Pos}
/-- the i-th slot holds f, which is called; W is wished for what it raises -/
def tCallVS (i : Nat) (f : Addr) (sp : Sp) (E : St → XK) (t : TA) : TE := fun σ H Q => σ[i]? = some (some (.ref f)) ∧ t σ H fun vs H1 => sp vs H1 Q (E σ)
theorem pe_ownVS {W : WX} (O : OwnAt X.prog X.w X.K X.mg X.base (L2.CX X.prog X.w) f k ps sp) (hr : Room k X.A) (tk : Takes X W) (hN : X.N[i]? = some x) (hv : Vis X.env.scope x) (ha : PA X (e :: es) t)
    (hdb : (x == ("__debug__" : Str)) = false := by decide) (hcd : (x == ("__classdict__" : Str)) = false := by decide)
    (he : starEach (e :: es) X.env = (false, eval e X.env) :: starEach es X.env := by rfl) (hpl : (backTo pos (starEach es X.env)).any (·.1) = false := by rfl) : PE X (.Call (.Name x p) (e :: es) [] pos) (tCallVS i f sp (WE W) t) := by
  obtain ⟨fd, F, hk, hb⟩ := O.ex
  refine ⟨fun pins s σ H Q I h => ?_⟩
  obtain ⟨hσ, h⟩ := h
  refine PyProof.Rows.Call_ (thn ((pe_var (pos := p) hN hv hdb hcd).run pins s σ H (fun y H1 => y = .ref f ∧ H1 = H) I ⟨_, hσ, rfl, rfl⟩) fun u s1 ⟨y, H1, I1, rx, ex, eh⟩ => ?_) rfl
  subst ex eh
  obtain rfl : u = Value.ref f := rx
  refine PySem.W.callWith_K (h₀ := X.base) I1.ok.mod.kin hk (thn (ha.run pos pins s1 σ H1 _ I1 h) fun us s2 ⟨vs, H2, I2, r, q⟩ => ⟨I2.kIn, ?_⟩) he hpl
  exact run_fnSD (us := us) (vs := vs) F hr hb .nil (passAt tk σ) I2 r (by rw [List.append_nil]; exact q)
end
/-! zip of two tuples -/
section
variable {K : PySem.W.Frag} {a b : Addr} {xs ys : List V}
theorem walk_zipT {n : Nat} (hn : n = min xs.length ys.length) : Walk (RZ.ItzT K a b) n (fun H => SqT K H a xs ∧ SqT K H b ys) (YPair (fun i => xs[i]?) (fun i => ys[i]?)) := by
  refine ⟨fun i _ hi q => ⟨xs, ys, xs[i]'(by omega), ys[i]'(by omega), q.1, q.2, List.getElem?_eq_getElem (by omega), List.getElem?_eq_getElem (by omega)⟩, fun _ q => ⟨xs, ys, q.1, q.2, by omega⟩, fun i H v H' _ q y => ?_⟩
  obtain ⟨T, x, y, e1, e2, e3, h1, h2⟩ := y
  exact ⟨T, x, y, e1, e2, e3, h1 xs q.1, h2 ys q.2⟩
end
/-! ranges with a step -/
section
variable {X : Cx}
def PRg3 (X : Cx) (e : Expr) (t : St → Hp → (Int → Int → Int → Hp → Prop) → Prop) : Prop :=
  ∀ (pins : List (Addr × Obj)) (s : Shared) (σ : St) (H : Hp) (Q : Int → Int → Int → Hp → Prop), Inv X pins σ H s → t σ H Q →
    wpAny (model X.prog X.w) X.A (eval e X.env) (fun x s' => ∃ r a b c t u v H', x = Value.ref r ∧ IsRange s'.heap r a b c t u v ∧ Inv X pins σ H' s' ∧ Q a b c H') X.xe s
def tRg3 (t : TA) (σ : St) (H : Hp) (Q : Int → Int → Int → Hp → Prop) : Prop := t σ H fun vs H1 => ∃ a b c, vs = [.int a, .int b, .int c] ∧ c ≠ 0 ∧ (-(2 ^ 62) ≤ a ∧ a < 2 ^ 62 ∧ -(2 ^ 62) ≤ b ∧ b < 2 ^ 62 ∧ c.natAbs < 1073741824) ∧ Q a b c H1
end
end L2

set_option Elab.async false
set_option maxRecDepth 100000
set_option maxHeartbeats 4000000
/-! comprehensions over ranges and over zip of two tuples, told by the place; what is tested and made only adds to the heap -/
namespace L2
open PySem PySem.Spec PyProof.Rows
/-- a comprehension's turns -/
abbrev LcGo (J : It) (g : TG) (tt : TT) (te : TE) (vs : List Nat) (σ : St) (H1 : Hp) (D : Addr) (Qd : Hp → Prop) : Prop :=
  ∃ W : Nat → Nat → Hp → Prop, (∃ m, W 0 m (upd H1 D (.lst []))) ∧ ∀ i m H, W i m H →
    (J.stop i H ∧ Qd H) ∨ (J.go i H ∧ ∃ Nx : Hp → Prop, (∀ H', Nx H' → ∃ m', m' < m ∧ W (i + 1) m' H') ∧ ∀ x H', J.yld i H x H' → g x (wipe σ vs) H' fun σ2 H2 => wipe σ2 vs = wipe σ vs ∧ tt σ2 H2 fun b H3 =>
      if b = true then te σ2 H3 fun y H4 => ∃ acc, H4 D = some (.lst acc) ∧ acc.length < sizeLine ∧ Nx (upd H4 D (.lst (acc ++ [y]))) else Nx H3)
theorem range_snoc (n : Nat) : List.range (n + 1) = List.range n ++ [n] := List.range_succ
section
variable {K : PySem.W.Frag} {σ : St} {H : Hp} {te : TE} {tt : TT} {vs : List Nat}
theorem lc_turn {f : Nat → V} {b : Nat → Bool} {D : Addr} {i n : Nat} {σ2 : St} {H' : Hp} (hD : H D = none) (hz : n < sizeLine) (hi : i < n) (hw : wipe σ2 vs = wipe σ vs) (e : Ext H H') (hl : H' D = some (.lst (((List.range i).filter b).map f)))
    (ht : ∀ Q : Bool → Hp → Prop, (∀ H'', Ext H' H'' → Q (b i) H'') → tt σ2 H' Q) (he : b i = true → ∀ H3, Ext H' H3 → ∀ Q : VK, (∀ H'', Ext H3 H'' → Q (f i) H'') → te σ2 H3 Q) :
    wipe σ2 vs = wipe σ vs ∧ tt σ2 H' fun b' H3 => if b' = true then te σ2 H3 fun y H4 => ∃ acc, H4 D = some (.lst acc) ∧ acc.length < sizeLine ∧ (Ext H (upd H4 D (.lst (acc ++ [y]))) ∧ upd H4 D (.lst (acc ++ [y])) D = some (.lst (((List.range (i + 1)).filter b).map f)))
      else (Ext H H3 ∧ H3 D = some (.lst (((List.range (i + 1)).filter b).map f))) := by
  refine ⟨hw, ht _ fun H3 e3 => ?_⟩
  have hl3 := e3 _ _ hl
  cases hb : b i with
  | true =>
    refine iteT (he hb H3 e3 _ fun H4 e4 => ⟨_, e4 _ _ hl3, ?_, ext_mut ((e.trans e3).trans e4) hD, ?_⟩)
    · rw [List.length_map]
      refine Nat.lt_of_le_of_lt (Nat.le_trans (List.length_filter_le _ _) ?_) hz
      rw [List.length_range]
      omega
    · rw [upd_same, range_snoc, List.filter_append, List.map_append]
      simp [hb]
  | false =>
    refine iteF ⟨e.trans e3, ?_⟩
    rw [hl3, range_snoc, List.filter_append, List.map_append]
    simp [hb]
theorem lc_rgR {Qd : Addr → Hp → Prop} {lo : Int} {n j : Nat} {f : Nat → V} {b : Nat → Bool} (hz : n < sizeLine) (hw : ∀ x, wipe ((wipe σ vs).set j (some x)) vs = wipe σ vs)
    (ht : ∀ i, i < n → ∀ H', Ext H H' → ∀ Q : Bool → Hp → Prop, (∀ H'', Ext H' H'' → Q (b i) H'') → tt ((wipe σ vs).set j (some (.int (lo + i)))) H' Q)
    (he : ∀ i, i < n → b i = true → ∀ H', Ext H H' → ∀ Q : VK, (∀ H'', Ext H' H'' → Q (f i) H'') → te ((wipe σ vs).set j (some (.int (lo + i)))) H' Q)
    (q : ∀ D H', H D = none → Ext H H' → H' D = some (.lst (((List.range n).filter b).map f)) → Qd D H') : ∀ D, H D = none → LcGo (Itr lo n) (gName j) tt te vs σ H D (Qd D) := fun D hD =>
  lc_range (fun i H' => Ext H H' ∧ H' D = some (.lst (((List.range i).filter b).map f))) ⟨Ext.upd hD, upd_same⟩ (fun i H' hi pv => lc_turn hD hz hi (hw _) pv.1 pv.2 (ht i hi H' pv.1) fun hb H3 e3 => he i hi hb H3 (pv.1.trans e3)) (fun H' pv => q D H' hD pv.1 pv.2)
theorem lc_zipR {Qd : Addr → Hp → Prop} {a b2 : Addr} {xs ys : List V} {n i1 i2 : Nat} {f : Nat → V} {b : Nat → Bool} (hx : SqT K H a xs) (hy : SqT K H b2 ys) (hn : n = min xs.length ys.length) (hz : n < sizeLine)
    (hw : ∀ x y, wipe (((wipe σ vs).set i1 (some x)).set i2 (some y)) vs = wipe σ vs)
    (ht : ∀ i x y, i < n → xs[i]? = some x → ys[i]? = some y → ∀ H', Ext H H' → ∀ Q : Bool → Hp → Prop, (∀ H'', Ext H' H'' → Q (b i) H'') → tt (((wipe σ vs).set i1 (some x)).set i2 (some y)) H' Q)
    (he : ∀ i x y, i < n → xs[i]? = some x → ys[i]? = some y → b i = true → ∀ H', Ext H H' → ∀ Q : VK, (∀ H'', Ext H' H'' → Q (f i) H'') → te (((wipe σ vs).set i1 (some x)).set i2 (some y)) H' Q)
    (q : ∀ D H', H D = none → Ext H H' → H' D = some (.lst (((List.range n).filter b).map f)) → Qd D H') : ∀ D, H D = none → LcGo (RZ.ItzT K a b2) (gTup K 2 (gCons (gName i1) (gCons (gName i2) gNil))) tt te vs σ H D (Qd D) := fun D hD => by
  refine lc_it (walk_zipT (K := K) (a := a) (b := b2) (xs := xs) (ys := ys) hn) (fun i H' => Ext H H' ∧ H' D = some (.lst (((List.range i).filter b).map f))) ⟨Ext.upd hD, upd_same⟩ (fun i H' _ pv => ⟨hx.ext pv.1, hy.ext pv.1⟩) (fun i v H' H'' hi pv y => ?_) (fun H' pv => q D H' hD pv.1 pv.2)
  obtain ⟨T, x, y, rfl, hT, rfl, h1, h2⟩ := y
  have eT := Ext.upd (o := .tup [x, y]) hT
  refine ⟨T, [x, y], rfl, SqT.of upd_same, rfl, x, [y], rfl, y, [], rfl, rfl, ?_⟩
  exact lc_turn hD hz hi (hw _ _) (pv.1.trans eT) (eT _ _ pv.2) (ht i x y hi h1 h2 _ (pv.1.trans eT)) fun hb H3 e3 => he i x y hi h1 h2 hb H3 ((pv.1.trans eT).trans e3)
end
end L2

set_option Elab.async false
set_option maxRecDepth 100000
set_option maxHeartbeats 4000000
/-! rules with the kit's own part named, for what stands within a comprehension -/
namespace L2
open PySem PySem.Spec PyProof.Rows
section
variable {X : Cx} {K : PySem.W.Frag}
theorem ix_tupK (h : X.K = K) : IxR X (rIxT K) := by
  subst h
  exact ix_tup
theorem ix_listK (h : X.K = K) : IxR X (rIxL K) := by
  subst h
  exact ix_list
theorem cr_maxK (h : X.K = K) (hc : X.calm = true) : CallR X (.builtin "max") (rMax K) := by
  subst h
  exact cr_max hc
theorem cr_minK (h : X.K = K) (hc : X.calm = true) : CallR X (.builtin "min") (rMin K) := by
  subst h
  exact cr_min hc
theorem pe_fldK {e : Expr} {ta : TE} {f : Str} {pos : Pos} (h : X.K = K) (he : PE X e ta) (hb : attributeBase e f X.env (eval e X.env) = eval e X.env := by rfl) : PE X (.Attribute e f pos) (tFld K ta f) := by
  subst h
  exact pe_fld he hb
def iListK (K : PySem.W.Frag) (tl : TE) : TI := fun σ H R => tl σ H fun x H1 => ∃ a, x = .ref a ∧ (∃ xs, SqL K H1 a xs) ∧ R (Itl K a) H1
theorem pi_listK {tg l : Expr} {tl : TE} (h : X.K = K) (hl : PE X l tl) : PI X tg l (iListK K tl) := by
  subst h
  exact pi_list hl
def rTupOfK (K : PySem.W.Frag) : List V → Hp → VK → Prop := fun xs H Q => ∃ p ys, xs = [.ref p] ∧ ((SqL K H p ys ∧ ∀ l, H l = none → Q (.ref l) (upd H l (.tup ys))) ∨ (SqT K H p ys ∧ Q (.ref p) H))
theorem call_tuple_ofK (h : X.K = K) : CallR X (.type "tuple") (rTupOfK K) := by
  subst h
  exact call_tuple_of
def rListOfK (K : PySem.W.Frag) : List V → Hp → VK → Prop := fun xs H Q => ∃ p ys, xs = [.ref p] ∧ (SqL K H p ys ∨ SqT K H p ys) ∧ ∀ l, H l = none → Q (.ref l) (upd H l (.lst ys))
theorem call_list_ofK (h : X.K = K) : CallR X (.type "list") (rListOfK K) := by
  subst h
  exact call_list_of
end
end L2

set_option Elab.async false
set_option maxRecDepth 100000
set_option maxHeartbeats 4000000
/-! list(zip(a, b)) of two lists -/
namespace PySem
theorem zip_no_len : typeLookup (Value.type "zip") (Str.ofString "__len__") = pure none := am_miss_of_fast (by decide +kernel)
theorem zip_no_hint : typeLookup (Value.type "zip") (Str.ofString "__length_hint__") = pure none := am_miss_of_fast (by decide +kernel)
/-- what has been given out -/
structure ZGiven (h : Heap) (lo : Addr) (acc : Array Value) (xs ys : Array Value) (i : Nat) (as : List Addr) : Prop where
  acc : acc.toList = as.map Value.ref
  len : as.length = i
  rise : List.Pairwise (· < ·) as
  above : ∀ a ∈ as, lo < a
  below : ∀ a ∈ as, a < h.objs.size
  pairs : ∀ (j : Nat) (a : Addr), as[j]? = some a → ∃ x y, xs[j]? = some x ∧ ys[j]? = some y ∧ IsPair h a x y
/-- how the zip stands -/
structure ZSt (h : Heap) (z TI TO i1 i2 l1 l2 : Addr) (xs ys : Array Value) (i : Nat) : Prop where
  first : i = 0 → ∃ a b, IsZip h z TI TO .none ∧ IsPair h TO a b
  later : 0 < i → ∃ T f x y, IsZipHeld h z TI TO T f ∧ IsPair h T x y
  ti : IsPair h TI (.ref i1) (.ref i2)
  it1 : h.IsListIter i1 l1 i
  it2 : h.IsListIter i2 l2 i
  li1 : h.IsList l1 xs
  li2 : h.IsList l2 ys
structure ZOff (S z TI TO i1 i2 l1 l2 : Addr) : Prop where
  z : S ≠ z
  ti : S ≠ TI
  to : S ≠ TO
  i1 : S ≠ i1
  i2 : S ≠ i2
  l1 : S ≠ l1
  l2 : S ≠ l2
section
variable {prog : Program} {w : World} {A : Around} {z TI TO i1 i2 l1 l2 S lo : Addr} {xs ys : Array Value} {i : Nat} {h h' : Heap}
theorem ZGiven.next {acc : Array Value} {as : List Addr} {T : Addr} {x y : Value} (g : ZGiven h lo acc xs ys i as) (hT : T = h.objs.size) (hlo : lo < T) (hsz : h'.objs.size = h.objs.size + 1) (hx : xs[i]? = some x) (hy : ys[i]? = some y) (hp : IsPair h' T x y)
    (hk : ∀ a ∈ as, ∀ x y, IsPair h a x y → IsPair h' a x y) : ZGiven h' lo (acc.push (.ref T)) xs ys (i + 1) (as ++ [T]) where
  acc := by rw [Array.toList_push, g.acc, List.map_append]; rfl
  len := by rw [List.length_append, g.len]; rfl
  rise := by
    rw [List.pairwise_append]
    refine ⟨g.rise, List.pairwise_singleton _ _, fun a ha b hb => ?_⟩
    rw [List.mem_singleton.mp hb, hT]
    exact g.below a ha
  above := fun a ha => by
    rcases List.mem_append.mp ha with ha | ha
    · exact g.above a ha
    · rw [List.mem_singleton.mp ha]
      exact hlo
  below := fun a ha => by
    rw [hsz]
    rcases List.mem_append.mp ha with ha | ha
    · exact Nat.lt_succ_of_lt (g.below a ha)
    · rw [List.mem_singleton.mp ha, hT]
      exact Nat.lt_succ_self _
  pairs := fun j a hj => by
    by_cases e : j < as.length
    · rw [List.getElem?_append_left e] at hj
      obtain ⟨x', y', h1, h2, h3⟩ := g.pairs j a hj
      exact ⟨x', y', h1, h2, hk a (List.mem_of_getElem? hj) _ _ h3⟩
    · have hl := (List.getElem?_eq_some_iff.mp hj).1
      rw [List.length_append] at hl
      have hl1 : [T].length = 1 := rfl
      have ej : j = as.length := by omega
      rw [List.getElem?_append_right (by omega), ej, Nat.sub_self] at hj
      cases hj
      rw [ej, g.len]
      exact ⟨x, y, hx, hy, hp⟩
theorem ZGiven.upd {acc : Array Value} {as : List Addr} {f : Obj → Obj} {oS : Obj} (g : ZGiven h lo acc xs ys i as) (hS : h.get? S = some oS) (hc : oS.cls = .type "list") : ZGiven (h.update S f) lo acc xs ys i as where
  acc := g.acc
  len := g.len
  rise := g.rise
  above := g.above
  below := fun a ha => by rw [Heap.size_update]; exact g.below a ha
  pairs := fun j a hj => by
    obtain ⟨x, y, h1, h2, h3⟩ := g.pairs j a hj
    refine ⟨x, y, h1, h2, ?_⟩
    have ne : S ≠ a := fun e => by
      subst e
      have h4 : h.get? S = some _ := h3
      rw [hS] at h4
      cases h4
      exact absurd (show Value.type "tuple" = Value.type "list" from hc) (by decide)
    show (h.update S f).get? a = _
    rw [Heap.get?_update_other h f ne]
    exact h3
theorem ZSt.upd {f : Obj → Obj} (s : ZSt h z TI TO i1 i2 l1 l2 xs ys i) (o : ZOff S z TI TO i1 i2 l1 l2) {oS : Obj} (hS : h.get? S = some oS) (hc : oS.cls = .type "list") : ZSt (h.update S f) z TI TO i1 i2 l1 l2 xs ys i where
  first := fun e => by
    obtain ⟨a, b, h1, h2⟩ := s.first e
    exact ⟨a, b, (Heap.get?_update_other h f o.z).trans h1, (Heap.get?_update_other h f o.to).trans h2⟩
  later := fun e => by
    obtain ⟨T, b, x, y, h1, h2⟩ := s.later e
    have ne : S ≠ T := fun e => by
      subst e
      have h4 : h.get? S = some _ := h2
      rw [hS] at h4
      cases h4
      exact absurd (show Value.type "tuple" = Value.type "list" from hc) (by decide)
    exact ⟨T, b, x, y, (Heap.get?_update_other h f o.z).trans h1, (Heap.get?_update_other h f ne).trans h2⟩
  ti := (Heap.get?_update_other h f o.ti).trans s.ti
  it1 := by
    obtain ⟨q, h1, h2⟩ := s.it1
    exact ⟨q, (Heap.get?_update_other h f o.i1).trans h1, h2⟩
  it2 := by
    obtain ⟨q, h1, h2⟩ := s.it2
    exact ⟨q, (Heap.get?_update_other h f o.i2).trans h1, h2⟩
  li1 := by
    obtain ⟨q, h1, h2⟩ := s.li1
    exact ⟨q, (Heap.get?_update_other h f o.l1).trans h1, h2⟩
  li2 := by
    obtain ⟨q, h1, h2⟩ := s.li2
    exact ⟨q, (Heap.get?_update_other h f o.l2).trans h1, h2⟩
theorem zip_loop (hh : A.in1.handled = none) (D : ZipApart z TI TO i1 i2 l1 l2) (o : ZOff S z TI TO i1 i2 l1 l2) (res : Value) {n : Nat} (hn : n = min xs.size ys.size) (hz : n + 1 ≤ sizeLine) {g : Array GenState} {d : _} {tk : Nat} {os : _} {R : Result → Shared → Prop} :
    ∀ (k i : Nat) (h : Heap) (acc : Array Value) (c : Nat) (as : List Addr), n - i = k → i ≤ n → ZSt h z TI TO i1 i2 l1 l2 xs ys i → h.get? S = some { cls := .type "list", data := .seq acc c } → lo < h.objs.size → ZGiven h lo acc xs ys i as →
      (∀ (h' : Heap) (acc' : Array Value) (c' : Nat) (as' : List Addr), (∀ b ob, b ≠ S → b ≠ z → b ≠ TO → b ≠ i1 → b ≠ i2 → h.get? b = some ob → h'.get? b = some ob) → h'.get? S = some { cls := .type "list", data := .seq acc' c' } → ZGiven h' lo acc' xs ys n as' → R (.ok (.ret res)) ⟨h', g, d, tk, os⟩) →
      codeAny (model prog w) A (.builtin "list.extend.loop" ⟨[.ref S, .ref z, res], []⟩) R ⟨h, g, d, tk, os⟩ := by
  intro k
  induction k with
  | zero =>
    intro i h acc c as hk hi st hS hlo gv hR
    have ei : i = n := by omega
    subst ei
    refine codeAny_builtin F.entry_extend_loop ?_
    rw [Around.under_plainId F.plain_extend_loop]
    refine wpAny_bind ?_
    have hend : xs[i]? = none ∨ ys[i]? = none := by
      rcases Nat.le_total xs.size ys.size with e | e
      · left
        exact Array.getElem?_eq_none (by omega)
      · right
        exact Array.getElem?_eq_none (by omega)
    by_cases h0 : i = 0
    · obtain ⟨a, b, hz1, hto⟩ := st.first h0
      refine wpAny_pyNext_zip_end hh D hz1 st.ti hto st.it1 st.it2 st.li1 st.li2 hend fun h' hk' => ?_
      refine wpAny_pure (hR h' acc c as (fun b ob b1 b2 b3 b4 b5 e => hk' b ob b2 b3 b4 b5 e) (hk' S _ o.z o.to o.i1 o.i2 hS) ?_)
      have has : as = [] := List.eq_nil_of_length_eq_zero (gv.len.trans h0)
      subst has
      exact ⟨gv.acc, gv.len, gv.rise, gv.above, (fun a ha => by cases ha), fun j a hj => by cases hj⟩
    · obtain ⟨T, f, tx, ty, hz1, hT⟩ := st.later (by omega)
      refine wpAny_pyNext_zip_end_held hh D hz1 hT st.ti st.it1 st.it2 st.li1 st.li2 hend fun h' hk' => ?_
      refine wpAny_pure (hR h' acc c as (fun b ob b1 b2 b3 b4 b5 e => hk' b ob b2 b4 b5 e) (hk' S _ o.z o.i1 o.i2 hS) ?_)
      have keep : ∀ a ∈ as, ∀ x y, IsPair h a x y → IsPair h' a x y := fun a ha x y hp => by
        refine hk' a _ (fun e => ?_) (fun e => ?_) (fun e => ?_) hp
        · subst e
          have q : h.get? a = some _ := hp
          rw [show h.get? a = some _ from hz1] at q
          injection q with q
          injection q with q
          exact absurd q (by decide)
        · subst e
          obtain ⟨ob, q1, q2, _⟩ := st.it1
          rw [show h.get? a = some _ from hp] at q1
          cases q1
          exact absurd (show Value.type "tuple" = Value.type "list_iterator" from q2) (by decide)
        · subst e
          obtain ⟨ob, q1, q2, _⟩ := st.it2
          rw [show h.get? a = some _ from hp] at q1
          cases q1
          exact absurd (show Value.type "tuple" = Value.type "list_iterator" from q2) (by decide)
      refine ⟨gv.acc, gv.len, gv.rise, gv.above, fun a ha => ?_, fun j a hj => ?_⟩
      · obtain ⟨j, hj⟩ := List.getElem?_of_mem ha
        obtain ⟨x, y, _, _, hp⟩ := gv.pairs j a hj
        exact Heap.lt_size (keep a ha _ _ hp)
      · obtain ⟨x, y, h1, h2, hp⟩ := gv.pairs j a hj
        exact ⟨x, y, h1, h2, keep a (List.mem_of_getElem? hj) _ _ hp⟩
  | succ k ih =>
    intro i h acc c as hk hi st hS hlo gv hR
    refine codeAny_builtin F.entry_extend_loop ?_
    rw [Around.under_plainId F.plain_extend_loop]
    refine wpAny_bind ?_
    obtain ⟨x, hx⟩ : ∃ x, xs[i]? = some x := ⟨_, Array.getElem?_eq_getElem (by omega)⟩
    obtain ⟨y, hy⟩ : ∃ y, ys[i]? = some y := ⟨_, Array.getElem?_eq_getElem (by omega)⟩
    have step : ∀ h' : Heap, ZSt h' z TI TO i1 i2 l1 l2 xs ys (i + 1) → IsPair h' h.objs.size x y → h'.objs.size = h.objs.size + 1 → (∀ b ob, b ≠ z → b ≠ TO → b ≠ i1 → b ≠ i2 → h.get? b = some ob → h'.get? b = some ob) → (∀ a ∈ as, ∀ x y, IsPair h a x y → IsPair h' a x y) →
        wpAny (model prog w) A.in1 (do
          Builtin.List.listUpdate (Value.ref S) fun q => q.push (.ref h.objs.size)
          again (Code.builtin "list.extend.loop" ⟨[.ref S, .ref z, res], []⟩)) (fun fin s' => match fin with
          | Fin.done f => R (Except.ok f) s'
          | Fin.again c' => c'.quiet = true ∧ codeAny (model prog w) A c' R s') (fun e s' => R (Except.error e) s') ⟨h', g, d, tk, os⟩ := fun h' st' hp hsz hk' hkp => by
      have hS' : h'.get? S = some { cls := .type "list", data := .seq acc c } := hk' S _ o.z o.to o.i1 o.i2 hS
      have hal : acc.size = i := by
        have e1 := congrArg List.length gv.acc
        rw [List.length_map, gv.len, Array.length_toList] at e1
        exact e1
      refine wpAny_bind (wpAny_updateSeq hS' rfl (wpAny_pure ⟨plainId_quiet F.plain_extend_loop _, ?_⟩) (by omega) (by rw [Array.size_push]; omega))
      have gv' := gv.next (h' := h') rfl hlo hsz hx hy hp hkp
      refine ih (i + 1) (h'.update S (Obj.mapSeq fun q => q.push (.ref h.objs.size))) (acc.push (.ref h.objs.size)) _ (as ++ [h.objs.size]) (by omega) (by omega) (st'.upd o hS' rfl) (Heap.get?_update_self (Obj.mapSeq fun q => q.push (.ref h.objs.size)) hS' rfl) ?_ (gv'.upd hS' rfl) fun h2 acc2 c2 as2 e1 e2 e3 => ?_
      · rw [Heap.size_update, hsz]
        exact Nat.lt_succ_of_lt hlo
      · exact hR h2 acc2 c2 as2 (fun b ob b1 b2 b3 b4 b5 e => e1 b ob b1 b2 b3 b4 b5 ((Heap.get?_update_other h' _ (Ne.symm b1)).trans (hk' b ob b2 b3 b4 b5 e))) e2 e3
    by_cases h0 : i = 0
    · obtain ⟨a, b, hz1, hto⟩ := st.first h0
      have has : as = [] := List.eq_nil_of_length_eq_zero (gv.len.trans h0)
      refine wpAny_pyNext_zip_item D hz1 st.ti hto st.it1 st.it2 st.li1 st.li2 hx hy fun h' a1 a2 a3 a4 a5 a6 a7 => step h' ⟨fun e => absurd e (Nat.succ_ne_zero _), fun _ => ⟨h.objs.size, false, x, y, a1, a5⟩, a7 TI _ D.TIz D.TITO D.TIi1 D.TIi2 st.ti, a3, a4, ?_, ?_⟩ a5 a6 a7 fun a ha => by rw [has] at ha; cases ha
      · obtain ⟨q, h1, h2⟩ := st.li1
        exact ⟨q, a7 l1 q D.l1z D.l1TO D.l1i1 D.l1i2 h1, h2⟩
      · obtain ⟨q, h1, h2⟩ := st.li2
        exact ⟨q, a7 l2 q D.l2z D.l2TO D.l2i1 D.l2i2 h1, h2⟩
    · obtain ⟨T, f, tx, ty, hz1, hT⟩ := st.later (by omega)
      have kp : ∀ (h' : Heap), (∀ b ob, b ≠ z → b ≠ i1 → b ≠ i2 → h.get? b = some ob → h'.get? b = some ob) → ∀ a x y, IsPair h a x y → IsPair h' a x y := fun h' a7 a x y hp => by
        refine a7 a _ (fun e => ?_) (fun e => ?_) (fun e => ?_) hp
        · subst e
          have q : h.get? a = some _ := hp
          rw [show h.get? a = some _ from hz1] at q
          injection q with q
          injection q with q
          exact absurd q (by decide)
        · subst e
          obtain ⟨ob, q1, q2, _⟩ := st.it1
          rw [show h.get? a = some _ from hp] at q1
          cases q1
          exact absurd (show Value.type "tuple" = Value.type "list_iterator" from q2) (by decide)
        · subst e
          obtain ⟨ob, q1, q2, _⟩ := st.it2
          rw [show h.get? a = some _ from hp] at q1
          cases q1
          exact absurd (show Value.type "tuple" = Value.type "list_iterator" from q2) (by decide)
      refine wpAny_pyNext_zip_item_held D hz1 hT st.ti st.it1 st.it2 st.li1 st.li2 hx hy fun h' a1 a3 a4 a5 a6 a7 => step h' ⟨fun e => absurd e (Nat.succ_ne_zero _), fun _ => ⟨T, true, tx, ty, a1, kp h' a7 T tx ty hT⟩, a7 TI _ D.TIz D.TIi1 D.TIi2 st.ti, a3, a4, ?_, ?_⟩ a5 a6 (fun b ob b1 b2 b3 b4 e => a7 b ob b1 b3 b4 e) fun a ha x y hp => kp h' a7 a x y hp
      · obtain ⟨q, h1, h2⟩ := st.li1
        exact ⟨q, a7 l1 q D.l1z D.l1i1 D.l1i2 h1, h2⟩
      · obtain ⟨q, h1, h2⟩ := st.li2
        exact ⟨q, a7 l2 q D.l2z D.l2i1 D.l2i2 h1, h2⟩
theorem list_init_zip (hh : A.in1.handled = none) (D : ZipApart z TI TO i1 i2 l1 l2) (o : ZOff S z TI TO i1 i2 l1 l2) {n : Nat} (hn : n = min xs.size ys.size) (hz : n + 1 ≤ sizeLine) {g : Array GenState} {d : _} {tk : Nat} {os : _} {R : Result → Shared → Prop}
    (st : ZSt h z TI TO i1 i2 l1 l2 xs ys 0) (hS : h.get? S = some { cls := .type "list", data := .seq #[] }) (hlo : lo < h.objs.size)
    (hR : ∀ (h' : Heap) (acc' : Array Value) (c' : Nat) (as' : List Addr), (∀ b ob, b ≠ S → b ≠ z → b ≠ TO → b ≠ i1 → b ≠ i2 → h.get? b = some ob → h'.get? b = some ob) → h'.get? S = some { cls := .type "list", data := .seq acc' c' } → ZGiven h' lo acc' xs ys n as' → R (.ok (.ret .none)) ⟨h', g, d, tk, os⟩) :
    wpAny (model prog w) A.in1 (Builtin.«list.__init__» ⟨[.ref S, .ref z], []⟩) (fun fin s' => match fin with
      | Fin.done f => R (Except.ok f) s'
      | Fin.again c' => c'.quiet = true ∧ codeAny (model prog w) A c' R s') (fun e s' => R (Except.error e) s') ⟨h, g, d, tk, os⟩ := by
  refine wpAny_bind ?_
  unfold Builtin.List.listItems
  refine wpAny_bind (wpAny_seqItems hS rfl (wpAny_pure ?_))
  refine wpAny_bind (wpAny_updateSeq hS rfl ?_)
  refine wpAny_bind (wpAny_letGo ?_)
  obtain ⟨a0, b0, hz0, hto0⟩ := st.first rfl
  have hS1 := Heap.get?_update_self (h := h) (Obj.mapSeq fun _ => #[]) hS rfl
  have st1 := st.upd (f := Obj.mapSeq fun _ => #[]) o hS rfl
  have sz1 : (h.update S (Obj.mapSeq fun _ => #[])).objs.size = h.objs.size := Heap.size_update _ _ _
  have off1 : ∀ b ob, b ≠ S → h.get? b = some ob → (h.update S (Obj.mapSeq fun _ => #[])).get? b = some ob := fun b ob hb e => (Heap.get?_update_other h _ (Ne.symm hb)).trans e
  generalize h.update S (Obj.mapSeq fun _ => #[]) = h1 at hS1 st1 sz1 off1 ⊢
  have hz1 : h1.get? z = some _ := off1 z _ (Ne.symm o.z) hz0
  have hT : ∀ (h2 : Heap) (g2 : _) , h2.get? z = some { cls := Value.type "zip", data := Data.fields #[Value.none, Value.bool false, Value.bool false, Value.ref TI, Value.ref TO] } → (Shared.mk h2 g2 d tk os).TypeIs (.ref z) "zip" := fun h2 g2 e => ⟨_, e, rfl⟩
  refine wpAny_bind (wpAny_typeOf (hT h1 g hz1) ?_)
  have e1 : (Builtin.List.listSameRef (Value.ref S) (Value.ref z) || Value.type "zip" == Value.type "list" || Value.type "zip" == Value.type "tuple") = false := by
    have : Builtin.List.listSameRef (Value.ref S) (Value.ref z) = false := beq_eq_false_iff_ne.mpr o.z
    rw [this]
    rfl
  rw [e1, if_neg (by decide)]
  refine wpAny_bind (wpAny_pyIter_zip hz1 ?_)
  refine wpAny_bind (wpAny_holding ?_)
  refine wpAny_bind (wpAny_specialOf (hT h1 g hz1) zip_no_len ?_)
  refine wpAny_bind (wpAny_specialOf (hT h1 g hz1) zip_no_hint (wpAny_pure ?_))
  rw [if_pos (by rfl)]
  refine wpAny_bind (wpAny_rule ?_)
  refine wpAny_bind ?_
  unfold Builtin.List.listTouch
  refine wpAny_bind (wpAny_updateSeq hS1 rfl ?_)
  have hS2 := Heap.get?_update_self (h := h1) (Obj.mapSeq fun q => q.push Value.none) hS1 rfl
  have st2 := st1.upd (f := Obj.mapSeq fun q => q.push Value.none) o hS1 rfl
  have sz2 : (h1.update S (Obj.mapSeq fun q => q.push Value.none)).objs.size = h1.objs.size := Heap.size_update _ _ _
  have off2 : ∀ b ob, b ≠ S → h1.get? b = some ob → (h1.update S (Obj.mapSeq fun q => q.push Value.none)).get? b = some ob := fun b ob hb e => (Heap.get?_update_other h1 _ (Ne.symm hb)).trans e
  generalize h1.update S (Obj.mapSeq fun q => q.push Value.none) = h2 at hS2 st2 sz2 off2 ⊢
  refine wpAny_updateSeq hS2 rfl ?_
  have hS3 := Heap.get?_update_self (h := h2) (Obj.mapSeq fun q => q.pop) hS2 rfl
  have st3 := st2.upd (f := Obj.mapSeq fun q => q.pop) o hS2 rfl
  have sz3 : (h2.update S (Obj.mapSeq fun q => q.pop)).objs.size = h2.objs.size := Heap.size_update _ _ _
  have off3 : ∀ b ob, b ≠ S → h2.get? b = some ob → (h2.update S (Obj.mapSeq fun q => q.pop)).get? b = some ob := fun b ob hb e => (Heap.get?_update_other h2 _ (Ne.symm hb)).trans e
  refine wpAny_pure ⟨plainId_quiet F.plain_extend_loop _, ?_⟩
  refine zip_loop (lo := lo) hh D o .none hn hz n 0 (h2.update S (Obj.mapSeq fun q => q.pop)) #[] _ [] (Nat.sub_zero n) (Nat.zero_le n) st3 hS3 (by rw [sz3, sz2, sz1]; exact hlo) ⟨rfl, rfl, .nil, (fun _ h => nomatch h), (fun _ h => nomatch h), (fun _ _ h => by cases h)⟩ fun h' acc' c' as' k1 k2 k3 => ?_
  exact hR h' acc' c' as' (fun b ob b1 b2 b3 b4 b5 e => k1 b ob b1 b2 b3 b4 b5 (off3 b ob b1 (off2 b ob b1 (off1 b ob b1 e)))) k2 k3
/-- list(z), z a zip of two lists as it was made -/
theorem call_list_zip {E : Value → Shared → Prop} {Q : Value → Shared → Prop} (hh : A.in1.in1.handled = none) (D : ZipApart z TI TO i1 i2 l1 l2) {n : Nat} (hn : n = min xs.size ys.size) (hz : n + 1 ≤ sizeLine) {s : Shared} (st : ZSt s.heap z TI TO i1 i2 l1 l2 xs ys 0)
    (hQ : ∀ (h' : Heap) (acc' : Array Value) (c' : Nat) (as' : List Addr), (∀ b ob, b ≠ z → b ≠ TO → b ≠ i1 → b ≠ i2 → s.heap.get? b = some ob → h'.get? b = some ob) → h'.get? s.heap.objs.size = some { cls := .type "list", data := .seq acc' c' } → ZGiven h' s.heap.objs.size acc' xs ys n as' → Q (.ref s.heap.objs.size) { s with heap := h' }) :
    wpAny (model prog w) A (call (.type "list") [.ref z]) Q E s := by
  obtain ⟨h, g, d, tk, os⟩ := s
  obtain ⟨a0, b0, hz0, hto0⟩ := st.first rfl
  refine callType_codes F.called_list (F.typeCall_list_1 _) F.entry_list_init (code_list_new (.ref z) (Q₁ := fun v s' => v = .ref h.objs.size ∧ s' = ⟨h.push { cls := .type "list", data := .seq #[] }, g, d, tk, os⟩) ⟨rfl, rfl⟩) fun obj s₁ h₁ => ?_
  obtain ⟨rfl, rfl⟩ := h₁
  have hS := Heap.get?_push_size h (o := { cls := .type "list", data := .seq #[] }) rfl
  have kp : ∀ b ob, h.get? b = some ob → (h.push { cls := Value.type "list", data := Data.seq #[] }).get? b = some ob := fun b ob e => Heap.get?_push_of_some _ e
  have lt : ∀ {b : Addr} {ob : Obj}, h.get? b = some ob → h.objs.size ≠ b := fun e => Nat.ne_of_gt (Heap.lt_size e)
  have o : ZOff h.objs.size z TI TO i1 i2 l1 l2 := ⟨lt hz0, lt st.ti, lt hto0, (by obtain ⟨_, q, _⟩ := st.it1; exact lt q), (by obtain ⟨_, q, _⟩ := st.it2; exact lt q), (by obtain ⟨_, q, _⟩ := st.li1; exact lt q), (by obtain ⟨_, q, _⟩ := st.li2; exact lt q)⟩
  have st' : ZSt (h.push { cls := Value.type "list", data := Data.seq #[] }) z TI TO i1 i2 l1 l2 xs ys 0 := ⟨fun _ => ⟨a0, b0, kp _ _ hz0, kp _ _ hto0⟩, fun e => absurd e (Nat.lt_irrefl _), kp _ _ st.ti, (by obtain ⟨q, q1, q2⟩ := st.it1; exact ⟨q, kp _ _ q1, q2⟩), (by obtain ⟨q, q1, q2⟩ := st.it2; exact ⟨q, kp _ _ q1, q2⟩), (by obtain ⟨q, q1, q2⟩ := st.li1; exact ⟨q, kp _ _ q1, q2⟩), (by obtain ⟨q, q1, q2⟩ := st.li2; exact ⟨q, kp _ _ q1, q2⟩)⟩
  refine ⟨⟨_, hS, rfl⟩, F.args_list_init_2 _ _, list_init_zip (lo := h.objs.size) hh D o hn hz st' hS (by rw [Heap.size_push]; exact Nat.lt_succ_self _) fun h' acc' c' as' k1 k2 k3 => ⟨rfl, ?_⟩⟩
  exact hQ h' acc' c' as' (fun b ob b2 b3 b4 b5 e => k1 b ob (Ne.symm (lt e)) b2 b3 b4 b5 (kp b ob e)) k2 k3
end
end PySem

set_option Elab.async false
set_option maxRecDepth 100000
set_option maxHeartbeats 4000000
/-! tuple(range(a, b, c)), list(range(a, b, c)), list(zip(x, y)) as expressions -/
namespace L2
open PySem PySem.Spec PyProof.Rows
section
variable {X : Cx}
theorem vals3 {x y z : V} {us : List Value} (r : Vals [x, y, z] us) : ∃ u v w, us = [u, v, w] ∧ RelV x u ∧ RelV y v ∧ RelV z w := by
  cases r with
  | cons h1 r =>
    obtain ⟨v, w, rfl, h2, h3⟩ := vals2 r
    exact ⟨_, v, w, rfl, h1, h2, h3⟩
theorem pylong_no {x c : Int} (h : c.natAbs < 1073741824) : Builtin.divisionGoesByPylong x c = false := by
  unfold Builtin.divisionGoesByPylong
  have hd : ¬ (if (c == 0) = true then 0 else c.natAbs.log2 / 30 + 1) > 300 := by
    split
    · omega
    · rename_i h0
      have hc : c.natAbs ≠ 0 := fun e => h0 (by rw [Int.natAbs_eq_zero.mp e]; rfl)
      have : c.natAbs.log2 < 30 := (Nat.log2_lt hc).mpr (by simpa using h)
      omega
  dsimp only
  rw [decide_eq_false hd]
  rfl
theorem prg_3 {e : Expr} {es : List Expr} {ta : TA} {p pos : Pos} (hg : Gl X "range") (hm : X.mg "range" = none) (ha : PA X (e :: es) ta) (he : starEach (e :: es) X.env = (false, eval e X.env) :: starEach es X.env := by rfl) (hpl : (backTo pos (starEach es X.env)).any (·.1) = false := by rfl) :
    PRg3 X (.Call (.Name "range" p) (e :: es) [] pos) (tRg3 ta) := by
  intro pins s σ H Q I h
  refine PyProof.Rows.Call_ (ld_blt I hg hm (u := .type "range") (by rfl) (PyProof.Rows.callWith_type1 (thn (ha.run pos pins s σ H _ I h) fun us s1 ⟨vs, H1, I1, r1, q1⟩ => ?_) he hpl)) rfl
  obtain ⟨a, b, c, rfl, hc, ⟨h1, h2, h3, h4, h5⟩, q⟩ := q1
  obtain ⟨u, v, w, rfl, ⟨t1, rfl⟩, ⟨t2, rfl⟩, ⟨t3, rfl⟩⟩ := vals3 r1
  refine call_range_3 hc ⟨s1.heap.objs.size, a, b, c, t1, t2, t3, H1, rfl, Heap.get?_push_size _ rfl, ?_, q⟩ (.inl (pylong_no h5))
  exact I1.kept (t' := s1.toks) fun b o e => Heap.get?_push_of_some _ e
def rgC (a c : Int) (n : Nat) : List V := (List.range n).map fun (i : Nat) => .int (a + (i : Int) * c)
theorem vals_rgC {a c : Int} {n : Nat} {acc : Array Value} (h : ItemsOf (fun i v => ∃ t, v = Value.int (a + (i : Int) * c) t) acc n) : Vals (rgC a c n) acc.toList := by
  refine vals_of_at ?_ fun j x u hx hu => ?_
  · show (rgC a c n).length = acc.toList.length
    rw [show acc.toList.length = acc.size from rfl, h.1]
    simp [rgC]
  · have hj : j < n := by
      have := (List.getElem?_eq_some_iff.mp hx).1
      simpa [rgC] using this
    obtain ⟨t, rfl⟩ := h.2 j u (by rw [← Array.getElem?_toList]; exact hu)
    unfold rgC at hx
    rw [List.getElem?_map, List.getElem?_range hj] at hx
    cases hx
    exact ⟨t, rfl⟩
def tTupRg3 (te : St → Hp → (Int → Int → Int → Hp → Prop) → Prop) : TE := fun σ H Q => te σ H fun a b c H1 => ∃ n, RgC a b c n ∧ n ≤ 2 ^ 24 ∧ ∀ q, H1 q = none → Q (.ref q) (upd H1 q (.tup (rgC a c n)))
def tLstRg3 (te : St → Hp → (Int → Int → Int → Hp → Prop) → Prop) : TE := fun σ H Q => te σ H fun a b c H1 => ∃ n, RgC a b c n ∧ n ≤ 2 ^ 24 ∧ ∀ q, H1 q = none → Q (.ref q) (upd H1 q (.lst (rgC a c n)))
theorem pe_tupRg3 {e : Expr} {te : St → Hp → (Int → Int → Int → Hp → Prop) → Prop} {p pos : Pos} (hc : X.calm = true) (hg : Gl X "tuple") (hm : X.mg "tuple" = none) (he : PRg3 X e te) (hs : starEach [e] X.env = (false, eval e X.env) :: starEach [] X.env := by rfl) :
    PE X (.Call (.Name "tuple" p) [e] [] pos) (tTupRg3 te) := by
  refine ⟨fun pins s σ H Q I h => ?_⟩
  refine PyProof.Rows.Call_ (ld_blt I hg hm (u := .type "tuple") (by rfl) (PyProof.Rows.callWith_type1 ?_ hs rfl)) rfl
  rw [hs]
  refine Calls.spliced_cons (thn (he pins s σ H _ I h) fun x s1 ⟨r, a, b, c, t, u, v, H1, ex, hr, I1, n, hn, hz, q⟩ => Calls.spliced_nil ?_)
  subst ex
  obtain ⟨_, _, h3, h4⟩ := hn
  refine call_tuple_range (I1.ok.hd hc) hr h3 h4 hz fun h' tk acc hk hacc => ?_
  have I2 := I1.kept (t' := tk) hk
  have hzl : (rgC a c n).length ≤ sizeLine := by
    rw [show (rgC a c n).length = n by simp [rgC]]
    exact Nat.le_trans hz (by decide)
  refine ⟨.ref h'.objs.size, upd H1 h'.objs.size (.tup (rgC a c n)), I2.laid (t' := tk) (fun b o e => Heap.get?_push_of_some _ e) (Nat.le_refl _) ⟨hzl, acc.toList, vals_rgC hacc, ⟨_, Heap.get?_push_size _ rfl, rfl, _, rfl⟩⟩, rfl, q _ (I2.hok.fresh (Nat.le_refl _))⟩
theorem pe_listRg3 {e : Expr} {te : St → Hp → (Int → Int → Int → Hp → Prop) → Prop} {p pos : Pos} (hc : X.calm = true) (hg : Gl X "list") (hm : X.mg "list" = none) (he : PRg3 X e te) (hs : starEach [e] X.env = (false, eval e X.env) :: starEach [] X.env := by rfl) :
    PE X (.Call (.Name "list" p) [e] [] pos) (tLstRg3 te) := by
  refine ⟨fun pins s σ H Q I h => ?_⟩
  refine PyProof.Rows.Call_ (ld_blt I hg hm (u := .type "list") (by rfl) (PyProof.Rows.callWith_type1 ?_ hs rfl)) rfl
  rw [hs]
  refine Calls.spliced_cons (thn (he pins s σ H _ I h) fun x s1 ⟨r, a, b, c, t, u, v, H1, ex, hr, I1, n, hn, hz, q⟩ => Calls.spliced_nil ?_)
  subst ex
  obtain ⟨_, _, h3, h4⟩ := hn
  refine call_list_range (I1.ok.hd hc) hr h3 h4 hz fun h' tk acc c' hk hS hacc => ?_
  have hzl : (rgC a c n).length ≤ sizeLine := by
    rw [show (rgC a c n).length = n by simp [rgC]]
    exact Nat.le_trans hz (by decide)
  refine ⟨.ref s1.heap.objs.size, upd H1 s1.heap.objs.size (.lst (rgC a c n)), I1.laid (t' := tk) hk (Nat.le_refl _) ⟨hzl, acc.toList, c', vals_rgC hacc, hS⟩, rfl, q _ (I1.hok.fresh (Nat.le_refl _))⟩
/-! list(zip(x, y)), two lists of ints -/
theorem zipApart {n la lb : Nat} (h1 : la < n) (h2 : lb < n) : ZipApart (n + 4) (n + 2) (n + 3) n (n + 1) la lb where
  TIz := show (n + 2 : Nat) ≠ n + 4 by omega
  TOz := show (n + 3 : Nat) ≠ n + 4 by omega
  i1z := show (n : Nat) ≠ n + 4 by omega
  i2z := show (n + 1 : Nat) ≠ n + 4 by omega
  TITO := show (n + 2 : Nat) ≠ n + 3 by omega
  TIi1 := show (n + 2 : Nat) ≠ n by omega
  TIi2 := show (n + 2 : Nat) ≠ n + 1 by omega
  TOi1 := show (n + 3 : Nat) ≠ n by omega
  TOi2 := show (n + 3 : Nat) ≠ n + 1 by omega
  i12 := show (n : Nat) ≠ n + 1 by omega
  l1z := show (la : Nat) ≠ n + 4 by omega
  l1TO := show (la : Nat) ≠ n + 3 by omega
  l1i1 := show (la : Nat) ≠ n by omega
  l1i2 := show (la : Nat) ≠ n + 1 by omega
  l2z := show (lb : Nat) ≠ n + 4 by omega
  l2TO := show (lb : Nat) ≠ n + 3 by omega
  l2i1 := show (lb : Nat) ≠ n by omega
  l2i2 := show (lb : Nat) ≠ n + 1 by omega
theorem lt_off {n b : Nat} (h : b < n) : b ≠ n + 4 ∧ b ≠ n + 3 ∧ b ≠ n ∧ b ≠ n + 1 := ⟨by omega, by omega, by omega, by omega⟩
/-- the same heap with k places more, all of them free -/
theorem padded (h : Heap) : ∀ k : Nat, ∃ h2 : Heap, h2.objs.size = h.objs.size + k ∧ (∀ b o, h.get? b = some o → h2.get? b = some o) ∧ ∀ b o, h2.get? b = some o → h.get? b = some o
  | 0 => ⟨h, rfl, fun _ _ e => e, fun _ _ e => e⟩
  | k + 1 => by
    obtain ⟨h2, e1, e2, e3⟩ := padded h k
    refine ⟨h2.push { cls := .none, data := .freed }, by rw [Heap.size_push, e1]; rfl, fun b o e => Heap.get?_push_of_some _ (e2 b o e), fun b o e => e3 b o ?_⟩
    obtain ⟨objs, life⟩ := h2
    unfold Heap.push Heap.get? at e
    dsimp only at e
    rw [Array.getElem?_push] at e
    by_cases hb : b = objs.size
    · rw [if_pos hb] at e
      cases e
    · rw [if_neg hb] at e
      exact e
theorem paired_at {α β : Type} {R : α → β → Prop} : ∀ {as : List α} {qs : List β} {j : Nat} {t : α}, Paired R as qs → as[j]? = some t → ∃ q, qs[j]? = some q ∧ R t q
  | _ :: _, _ :: _, 0, _, .cons h _, e => by
    cases e
    exact ⟨_, rfl, h⟩
  | _ :: _, _ :: _, j + 1, _, .cons _ h, e => by
    obtain ⟨q, h1, h2⟩ := paired_at (j := j) h (by simpa using e)
    exact ⟨q, by simpa using h1, h2⟩
theorem kv_zip : ∀ (xs : List Int) (ys : List Int) (us : List Value), Vals (ys.map V.int) us → KV ((xs.zip ys).map fun p => ((Sum.inl p.1 : Key), V.int p.2)) ((xs.zip us).map fun p => ((Sum.inl p.1 : Key), p.2))
  | [], _, _, _ => .nil
  | _ :: _, [], [], _ => .nil
  | x :: xs, y :: ys, u :: us, .cons h1 h2 => .cons ⟨rfl, h1⟩ (kv_zip xs ys us h2)
def tLstZip (K : PySem.W.Frag) (t : TA) : TE := fun σ H Q => t σ H fun vs H1 => ∃ (la lb : Addr) (xs ys : List Int), vs = [.ref la, .ref lb] ∧ SqL K H1 la (xs.map V.int) ∧ SqL K H1 lb (ys.map V.int) ∧ xs.length = ys.length ∧ xs.length ≤ 1000000 ∧
  ∀ (D : Addr) (as : List Addr) (H2 : Hp), Ext H1 H2 → H2 D = some (.lst (as.map V.ref)) → as.length = xs.length → (∀ (j : Nat) (t : Addr), as[j]? = some t → ∃ x y, xs[j]? = some x ∧ ys[j]? = some y ∧ H2 t = some (.tup [.int x, .int y])) → Q (.ref D) H2
theorem pe_listZip {a : Expr} {es : List Expr} {ta : TA} {p pz zpos pos : Pos} (hc : X.calm = true) (hg : Gl X "list") (hm : X.mg "list" = none) (hg2 : Gl X "zip") (hm2 : X.mg "zip" = none) (ha : PA X (a :: es) ta)
    (hs : starEach [.Call (.Name "zip" pz) (a :: es) [] zpos] X.env = (false, eval (.Call (.Name "zip" pz) (a :: es) [] zpos) X.env) :: starEach [] X.env := by rfl) (he : starEach (a :: es) X.env = (false, eval a X.env) :: starEach es X.env := by rfl) (hpl : (backTo zpos (starEach es X.env)).any (·.1) = false := by rfl) :
    PE X (.Call (.Name "list" p) [.Call (.Name "zip" pz) (a :: es) [] zpos] [] pos) (tLstZip X.K ta) := by
  refine ⟨fun pins s σ H Q I h => ?_⟩
  refine PyProof.Rows.Call_ (ld_blt I hg hm (u := .type "list") (by rfl) (PyProof.Rows.callWith_type1 ?_ hs rfl)) rfl
  rw [hs]
  refine Calls.spliced_cons (PyProof.Rows.Call_ (ld_blt I hg2 hm2 (u := .type "zip") (by rfl) (PyProof.Rows.callWith_type1 (thn (ha.run zpos pins s σ H _ I h) fun us s1 ⟨vs, H1, I1, r1, q1⟩ => ?_) he hpl)) rfl)
  obtain ⟨la, lb, xs, ys, rfl, hxs, hys, hll, hz, q⟩ := q1
  obtain ⟨u1, u2, rfl, r1a, r1b⟩ := vals2 r1
  obtain rfl : u1 = Value.ref la := r1a
  obtain rfl : u2 = Value.ref lb := r1b
  obtain ⟨its1, rv1, pl1, _⟩ := I1.list hxs
  obtain ⟨its2, rv2, pl2, _⟩ := I1.list hys
  have hl1 : its1.length = xs.length := by rw [← rv1.length, List.length_map]
  have hl2 : its2.length = ys.length := by rw [← rv2.length, List.length_map]
  have lt1 : la < s1.heap.objs.size := by obtain ⟨o, _, e, _⟩ := pl1; exact Heap.lt_size e
  have lt2 : lb < s1.heap.objs.size := by obtain ⟨o, _, e, _⟩ := pl2; exact Heap.lt_size e
  refine call_zip_2 pl1.isList pl2.isList fun h2 z1 z2 z3 z4 z5 z6 z7 => Calls.spliced_nil ?_
  have I2 := I1.kept (t' := s1.toks) z7
  have D : ZipApart (s1.heap.objs.size + 4) (s1.heap.objs.size + 2) (s1.heap.objs.size + 3) s1.heap.objs.size (s1.heap.objs.size + 1) la lb := zipApart lt1 lt2
  have st : ZSt h2 (s1.heap.objs.size + 4) (s1.heap.objs.size + 2) (s1.heap.objs.size + 3) s1.heap.objs.size (s1.heap.objs.size + 1) la lb its1.toArray its2.toArray 0 := ⟨fun _ => ⟨_, _, z1, z3⟩, fun e => absurd e (Nat.lt_irrefl _), z2, z4, z5, (by obtain ⟨o, q1, q2⟩ := pl1.isList; exact ⟨o, z7 _ _ q1, q2⟩), (by obtain ⟨o, q1, q2⟩ := pl2.isList; exact ⟨o, z7 _ _ q1, q2⟩)⟩
  refine call_list_zip (n := xs.length) (s := { s1 with heap := h2 }) (I2.ok.hd hc) D (by simp; omega) (Nat.le_trans (Nat.succ_le_succ hz) (by decide)) st fun h3 acc c as k1 k2 k3 => ?_
  obtain ⟨hp, p1, p2, p3⟩ := padded s1.heap 5
  have I3 := I1.kept (h' := hp) (t' := s1.toks) p2
  have hk : ∀ b ob, hp.get? b = some ob → h3.get? b = some ob := fun b ob e => by
    have e1 := p3 b ob e
    obtain ⟨n1, n2, n3, n4⟩ := lt_off (Heap.lt_size e1)
    exact k1 b ob n1 n2 n3 n4 (z7 b ob e1)
  have hsz : hp.objs.size = h2.objs.size := by rw [p1, z6]
  have hG : W.KdxG (mixKind X.prog X.w) ((xs.zip its2).map fun p => ((Sum.inl p.1 : Key), p.2)) hp.objs.size h3 as := by
    rw [hsz]
    refine ⟨k3.rise, k3.above, fun j a hj => ?_⟩
    obtain ⟨x, y, hx, hy, hpair⟩ := k3.pairs j a hj
    have hx' : its1[j]? = some x := by simpa using hx
    have hy' : its2[j]? = some y := by simpa using hy
    obtain ⟨n, hn⟩ : ∃ n, xs[j]? = some n := ⟨_, List.getElem?_eq_getElem (by have := (List.getElem?_eq_some_iff.mp hx').1; omega)⟩
    obtain ⟨u, hu, ru⟩ := rv1.get (i := j) (x := .int n) (by rw [List.getElem?_map, hn]; rfl)
    rw [hx'] at hu
    cases hu
    obtain ⟨t, rfl⟩ := ru
    refine ⟨_, .inl n, y, ?_, ?_, hpair⟩
    · rw [List.getElem?_map, (List.getElem?_zip_eq_some (z := (n, y))).mpr ⟨hn, hy'⟩]
      rfl
    · show (n == n) = true
      exact beq_self_eq_true n
  have hal : as.length = ((xs.zip its2).map fun p => ((Sum.inl p.1 : Key), p.2)).length := by
    rw [k3.len, List.length_map, List.length_zip]
    omega
  obtain ⟨H3, e1, e2, e3, e4, e5, e6, I4⟩ := LiI.items_laid (kvs := (xs.zip ys).map fun p => ((Sum.inl p.1 : Key), V.int p.2)) (tk := s1.toks) (s := { s1 with heap := hp, toks := s1.toks }) I3 (by rw [List.length_map, List.length_zip]; exact Nat.le_trans (Nat.min_le_left _ _) (Nat.le_trans hz (by decide))) (kv_zip xs ys its2 rv2) hk (by rw [show ({ s1 with heap := hp, toks := s1.toks } : Shared).heap.objs.size = h2.objs.size from hsz]; exact k2) hal hG k3.acc
  refine ⟨.ref h2.objs.size, H3, I4, rfl, q h2.objs.size as H3 e1 ?_ k3.len fun j t hj => ?_⟩
  · rw [← hsz]
    exact e5
  · obtain ⟨q', h1, h2'⟩ := paired_at e6 hj
    rw [List.getElem?_map] at h1
    cases hz' : (xs.zip ys)[j]? with
    | none => rw [hz'] at h1; cases h1
    | some p =>
      rw [hz'] at h1
      cases h1
      obtain ⟨h3', h4'⟩ := List.getElem?_zip_eq_some.mp hz'
      exact ⟨p.1, p.2, h3', h4', h2'⟩
end
end L2

set_option Elab.async false
set_option maxRecDepth 100000
set_option maxHeartbeats 4000000
namespace L2
open PySem PySem.Spec PyProof.Rows
section
variable {X : Cx} {K : PySem.W.Frag}
theorem op_in_seqK (h : X.K = K) : OpR X (compareOp .In) (rIn K false) := by
  subst h
  exact op_in_seq
theorem op_notIn_seqK (h : X.K = K) : OpR X (compareOp .NotIn) (rIn K true) := by
  subst h
  exact op_notIn_seq
theorem inV_ints (a : Int) : ∀ ns : List Int, inV (.int a) (ns.map V.int) = decide (a ∈ ns)
  | [] => rfl
  | n :: ns => by
    have ih := inV_ints a ns
    unfold inV at ih ⊢
    rw [List.map_cons, List.any_cons, ih]
    have e : eqV (.int n) (.int a) = decide (n = a) := rfl
    rw [e, Bool.eq_iff_iff]
    simp
    constructor
    · rintro (e | e)
      · exact .inl e.symm
      · exact .inr e
    · rintro (e | e)
      · exact .inl e.symm
      · exact .inr e
theorem flat_ints {ns : List Int} : (ns.map V.int).all flatV = true := by
  rw [List.all_eq_true]
  intro v hv
  obtain ⟨n, _, rfl⟩ := List.mem_map.mp hv
  rfl
end
end L2

set_option Elab.async false
set_option maxRecDepth 100000
set_option maxHeartbeats 4000000
namespace K18
open PySem PySem.Spec PyProof.Rows L2
def top (i : Nat) : Stmt := PySem.Challenge.pw_wholeline_k65_whole_races_played_out.main.body.getD i (.Pass ⟨0, 0, 0, 0⟩)
abbrev s_BadPart_init : Stmt := inClass (top 3) 0
abbrev nm_BadPart_init : List Str := ["self", "part"]
abbrev pm_BadPart_init : List Str := ["self", "part"]
theorem sc_BadPart_init : FnScope nm_BadPart_init pm_BadPart_init (defScope s_BadPart_init) := ⟨rfl, rfl, rfl, by decide +kernel, rfl, by decide +kernel, by decide +kernel⟩

abbrev s_BadBox_init : Stmt := inClass (top 4) 0
abbrev nm_BadBox_init : List Str := ["self", "index"]
abbrev pm_BadBox_init : List Str := ["self", "index"]
theorem sc_BadBox_init : FnScope nm_BadBox_init pm_BadBox_init (defScope s_BadBox_init) := ⟨rfl, rfl, rfl, by decide +kernel, rfl, by decide +kernel, by decide +kernel⟩

abbrev s_NoWay_init : Stmt := inClass (top 5) 0
abbrev nm_NoWay_init : List Str := ["self", "way"]
abbrev pm_NoWay_init : List Str := ["self", "way"]
theorem sc_NoWay_init : FnScope nm_NoWay_init pm_NoWay_init (defScope s_NoWay_init) := ⟨rfl, rfl, rfl, by decide +kernel, rfl, by decide +kernel, by decide +kernel⟩

abbrev s_BadRun_init : Stmt := inClass (top 6) 0
abbrev nm_BadRun_init : List Str := ["self", "index"]
abbrev pm_BadRun_init : List Str := ["self", "index"]
theorem sc_BadRun_init : FnScope nm_BadRun_init pm_BadRun_init (defScope s_BadRun_init) := ⟨rfl, rfl, rfl, by decide +kernel, rfl, by decide +kernel, by decide +kernel⟩

abbrev s_CannotWin_init : Stmt := inClass (top 7) 0
abbrev nm_CannotWin_init : List Str := ["self", "way"]
abbrev pm_CannotWin_init : List Str := ["self", "way"]
theorem sc_CannotWin_init : FnScope nm_CannotWin_init pm_CannotWin_init (defScope s_CannotWin_init) := ⟨rfl, rfl, rfl, by decide +kernel, rfl, by decide +kernel, by decide +kernel⟩

abbrev s_is_integer : Stmt := top 9
abbrev nm_is_integer : List Str := ["value"]
abbrev pm_is_integer : List Str := ["value"]
theorem sc_is_integer : FnScope nm_is_integer pm_is_integer (defScope s_is_integer) := ⟨rfl, rfl, rfl, by decide +kernel, rfl, by decide +kernel, by decide +kernel⟩

abbrev s_is_between : Stmt := top 10
abbrev nm_is_between : List Str := ["value", "low", "high"]
abbrev pm_is_between : List Str := ["value", "low", "high"]
theorem sc_is_between : FnScope nm_is_between pm_is_between (defScope s_is_between) := ⟨rfl, rfl, rfl, by decide +kernel, rfl, by decide +kernel, by decide +kernel⟩

abbrev s_is_index : Stmt := top 11
abbrev nm_is_index : List Str := ["value", "many"]
abbrev pm_is_index : List Str := ["value", "many"]
theorem sc_is_index : FnScope nm_is_index pm_is_index (defScope s_is_index) := ⟨rfl, rfl, rfl, by decide +kernel, rfl, by decide +kernel, by decide +kernel⟩

abbrev s_is_list : Stmt := top 12
abbrev nm_is_list : List Str := ["value"]
abbrev pm_is_list : List Str := ["value"]
theorem sc_is_list : FnScope nm_is_list pm_is_list (defScope s_is_list) := ⟨rfl, rfl, rfl, by decide +kernel, rfl, by decide +kernel, by decide +kernel⟩

abbrev s_is_list_of : Stmt := top 13
abbrev nm_is_list_of : List Str := ["value", "low", "high"]
abbrev pm_is_list_of : List Str := ["value", "low", "high"]
theorem sc_is_list_of : FnScope nm_is_list_of pm_is_list_of (defScope s_is_list_of) := ⟨rfl, rfl, rfl, by decide +kernel, rfl, by decide +kernel, by decide +kernel⟩

abbrev s_is_tuple_of : Stmt := top 14
abbrev nm_is_tuple_of : List Str := ["value", "many"]
abbrev pm_is_tuple_of : List Str := ["value", "many"]
theorem sc_is_tuple_of : FnScope nm_is_tuple_of pm_is_tuple_of (defScope s_is_tuple_of) := ⟨rfl, rfl, rfl, by decide +kernel, rfl, by decide +kernel, by decide +kernel⟩

abbrev s_greater : Stmt := top 15
abbrev nm_greater : List Str := ["one", "other"]
abbrev pm_greater : List Str := ["one", "other"]
theorem sc_greater : FnScope nm_greater pm_greater (defScope s_greater) := ⟨rfl, rfl, rfl, by decide +kernel, rfl, by decide +kernel, by decide +kernel⟩

abbrev s_is_begin : Stmt := top 21
abbrev nm_is_begin : List Str := ["value"]
abbrev pm_is_begin : List Str := ["value"]
theorem sc_is_begin : FnScope nm_is_begin pm_is_begin (defScope s_is_begin) := ⟨rfl, rfl, rfl, by decide +kernel, rfl, by decide +kernel, by decide +kernel⟩

abbrev s_are_delays : Stmt := top 22
abbrev nm_are_delays : List Str := ["least", "most"]
abbrev pm_are_delays : List Str := ["least", "most"]
theorem sc_are_delays : FnScope nm_are_delays pm_are_delays (defScope s_are_delays) := ⟨rfl, rfl, rfl, by decide +kernel, rfl, by decide +kernel, by decide +kernel⟩

abbrev s_is_box : Stmt := top 23
abbrev nm_is_box : List Str := ["value", "least", "most", "near", "far", "shortest", "longest"]
abbrev pm_is_box : List Str := ["value", "least", "most"]
theorem sc_is_box : FnScope nm_is_box pm_is_box (defScope s_is_box) := ⟨rfl, rfl, rfl, by decide +kernel, rfl, by decide +kernel, by decide +kernel⟩

abbrev s_Way_init : Stmt := inClass (top 24) 0
abbrev nm_Way_init : List Str := ["self", "begin", "least", "most", "boxes", "index", "box"]
abbrev pm_Way_init : List Str := ["self", "begin", "least", "most", "boxes"]
theorem sc_Way_init : FnScope nm_Way_init pm_Way_init (defScope s_Way_init) := ⟨rfl, rfl, rfl, by decide +kernel, rfl, by decide +kernel, by decide +kernel⟩

abbrev s_Way_window : Stmt := inClass (top 24) 1
abbrev nm_Way_window : List Str := ["self"]
abbrev pm_Way_window : List Str := ["self"]
theorem sc_Way_window : FnScope nm_Way_window pm_Way_window (defScope s_Way_window) := ⟨rfl, rfl, rfl, by decide +kernel, rfl, by decide +kernel, by decide +kernel⟩

abbrev s_Way_eq : Stmt := inClass (top 24) 3
abbrev nm_Way_eq : List Str := ["self", "other"]
abbrev pm_Way_eq : List Str := ["self", "other"]
theorem sc_Way_eq : FnScope nm_Way_eq pm_Way_eq (defScope s_Way_eq) := ⟨rfl, rfl, rfl, by decide +kernel, rfl, by decide +kernel, by decide +kernel⟩

abbrev s_check_ways : Stmt := top 28
abbrev nm_check_ways : List Str := ["ways", "way"]
abbrev pm_check_ways : List Str := ["ways"]
theorem sc_check_ways : FnScope nm_check_ways pm_check_ways (defScope s_check_ways) := ⟨rfl, rfl, rfl, by decide +kernel, rfl, by decide +kernel, by decide +kernel⟩

abbrev s_check_silent : Stmt := top 29
abbrev nm_check_silent : List Str := ["silent"]
abbrev pm_check_silent : List Str := ["silent"]
theorem sc_check_silent : FnScope nm_check_silent pm_check_silent (defScope s_check_silent) := ⟨rfl, rfl, rfl, by decide +kernel, rfl, by decide +kernel, by decide +kernel⟩

abbrev s_check_way : Stmt := top 30
abbrev nm_check_way : List Str := ["race", "way"]
abbrev pm_check_way : List Str := ["race", "way"]
theorem sc_check_way : FnScope nm_check_way pm_check_way (defScope s_check_way) := ⟨rfl, rfl, rfl, by decide +kernel, rfl, by decide +kernel, by decide +kernel⟩

abbrev s_Race_init : Stmt := inClass (top 31) 0
abbrev nm_Race_init : List Str := ["self", "ways", "silent"]
abbrev pm_Race_init : List Str := ["self", "ways", "silent"]
theorem sc_Race_init : FnScope nm_Race_init pm_Race_init (defScope s_Race_init) := ⟨rfl, rfl, rfl, by decide +kernel, rfl, by decide +kernel, by decide +kernel⟩

abbrev s_Race_planned : Stmt := inClass (top 31) 1
abbrev nm_Race_planned : List Str := ["self", "way", "told"]
abbrev pm_Race_planned : List Str := ["self"]
theorem sc_Race_planned : FnScope nm_Race_planned pm_Race_planned (defScope s_Race_planned) := ⟨rfl, rfl, rfl, by decide +kernel, rfl, by decide +kernel, by decide +kernel⟩

abbrev s_Race_hurried : Stmt := inClass (top 31) 2
abbrev nm_Race_hurried : List Str := ["self", "way", "at", "ends", "other", "end"]
abbrev pm_Race_hurried : List Str := ["self", "way", "at"]
theorem sc_Race_hurried : FnScope nm_Race_hurried pm_Race_hurried (defScope s_Race_hurried) := ⟨rfl, rfl, rfl, by decide +kernel, rfl, by decide +kernel, by decide +kernel⟩

abbrev s_Race_can_win : Stmt := inClass (top 31) 3
abbrev nm_Race_can_win : List Str := ["self", "way", "at", "window"]
abbrev pm_Race_can_win : List Str := ["self", "way", "at"]
theorem sc_Race_can_win : FnScope nm_Race_can_win pm_Race_can_win (defScope s_Race_can_win) := ⟨rfl, rfl, rfl, by decide +kernel, rfl, by decide +kernel, by decide +kernel⟩

abbrev s_Race_last_win : Stmt := inClass (top 31) 4
abbrev nm_Race_last_win : List Str := ["self", "way", "window", "moments", "at"]
abbrev pm_Race_last_win : List Str := ["self", "way"]
theorem sc_Race_last_win : FnScope nm_Race_last_win pm_Race_last_win (defScope s_Race_last_win) := ⟨rfl, rfl, rfl, by decide +kernel, rfl, by decide +kernel, by decide +kernel⟩

abbrev s_Race_winners : Stmt := inClass (top 31) 5
abbrev nm_Race_winners : List Str := ["self", "way"]
abbrev pm_Race_winners : List Str := ["self"]
theorem sc_Race_winners : FnScope nm_Race_winners pm_Race_winners (defScope s_Race_winners) := ⟨rfl, rfl, rfl, by decide +kernel, rfl, by decide +kernel, by decide +kernel⟩

abbrev s_Race_latest : Stmt := inClass (top 31) 6
abbrev nm_Race_latest : List Str := ["self", "ends", "way"]
abbrev pm_Race_latest : List Str := ["self"]
theorem sc_Race_latest : FnScope nm_Race_latest pm_Race_latest (defScope s_Race_latest) := ⟨rfl, rfl, rfl, by decide +kernel, rfl, by decide +kernel, by decide +kernel⟩

abbrev s_Race_eq : Stmt := inClass (top 31) 7
abbrev nm_Race_eq : List Str := ["self", "other"]
abbrev pm_Race_eq : List Str := ["self", "other"]
theorem sc_Race_eq : FnScope nm_Race_eq pm_Race_eq (defScope s_Race_eq) := ⟨rfl, rfl, rfl, by decide +kernel, rfl, by decide +kernel, by decide +kernel⟩

abbrev s_Outcome_init : Stmt := inClass (top 32) 0
abbrev nm_Outcome_init : List Str := ["self", "winner", "moment", "sent"]
abbrev pm_Outcome_init : List Str := ["self", "winner", "moment", "sent"]
theorem sc_Outcome_init : FnScope nm_Outcome_init pm_Outcome_init (defScope s_Outcome_init) := ⟨rfl, rfl, rfl, by decide +kernel, rfl, by decide +kernel, by decide +kernel⟩

abbrev s_Outcome_eq : Stmt := inClass (top 32) 1
abbrev nm_Outcome_eq : List Str := ["self", "other"]
abbrev pm_Outcome_eq : List Str := ["self", "other"]
theorem sc_Outcome_eq : FnScope nm_Outcome_eq pm_Outcome_eq (defScope s_Outcome_eq) := ⟨rfl, rfl, rfl, by decide +kernel, rfl, by decide +kernel, by decide +kernel⟩

abbrev s_fits : Stmt := top 33
abbrev nm_fits : List Str := ["way", "entry", "delay"]
abbrev pm_fits : List Str := ["way", "entry"]
theorem sc_fits : FnScope nm_fits pm_fits (defScope s_fits) := ⟨rfl, rfl, rfl, by decide +kernel, rfl, by decide +kernel, by decide +kernel⟩

abbrev s_wrong_of : Stmt := top 34
abbrev nm_wrong_of : List Str := ["race", "run", "index", "silent", "way"]
abbrev pm_wrong_of : List Str := ["race", "run"]
theorem sc_wrong_of : FnScope nm_wrong_of pm_wrong_of (defScope s_wrong_of) := ⟨rfl, rfl, rfl, by decide +kernel, rfl, by decide +kernel, by decide +kernel⟩

abbrev s_outcome_of : Stmt := top 35
abbrev nm_outcome_of : List Str := ["race", "run", "winner", "moment", "way", "answer", "sent"]
abbrev pm_outcome_of : List Str := ["race", "run"]
theorem sc_outcome_of : FnScope nm_outcome_of pm_outcome_of (defScope s_outcome_of) := ⟨rfl, rfl, rfl, by decide +kernel, rfl, by decide +kernel, by decide +kernel⟩

abbrev s_played : Stmt := top 36
abbrev nm_played : List Str := ["race", "run", "wrong"]
abbrev pm_played : List Str := ["race", "run"]
theorem sc_played : FnScope nm_played pm_played (defScope s_played) := ⟨rfl, rfl, rfl, by decide +kernel, rfl, by decide +kernel, by decide +kernel⟩

abbrev s_run_count : Stmt := top 38
abbrev nm_run_count : List Str := ["race", "counts", "way", "delays", "ahead", "heard", "silent"]
abbrev pm_run_count : List Str := ["race"]
theorem sc_run_count : FnScope nm_run_count pm_run_count (defScope s_run_count) := ⟨rfl, rfl, rfl, by decide +kernel, rfl, by decide +kernel, by decide +kernel⟩

abbrev s_check_win : Stmt := top 39
abbrev nm_check_win : List Str := ["race", "way", "at"]
abbrev pm_check_win : List Str := ["race", "way", "at"]
theorem sc_check_win : FnScope nm_check_win pm_check_win (defScope s_check_win) := ⟨rfl, rfl, rfl, by decide +kernel, rfl, by decide +kernel, by decide +kernel⟩

abbrev s_silent_after : Stmt := top 40
abbrev nm_silent_after : List Str := ["race", "way", "at", "surely", "other"]
abbrev pm_silent_after : List Str := ["race", "way", "at"]
theorem sc_silent_after : FnScope nm_silent_after pm_silent_after (defScope s_silent_after) := ⟨rfl, rfl, rfl, by decide +kernel, rfl, by decide +kernel, by decide +kernel⟩

abbrev s__law_start : Stmt := top 42
abbrev nm__law_start : List Str := ["_law_script", "_law_first"]
abbrev pm__law_start : List Str := ["_law_script"]
theorem sc__law_start : FnScope nm__law_start pm__law_start (defScope s__law_start) := ⟨rfl, rfl, rfl, by decide +kernel, rfl, by decide +kernel, by decide +kernel⟩

abbrev s__law_draw : Stmt := top 43
abbrev nm__law_draw : List Str := ["_law_script", "_law_state", "_law_limit", "_law_number", "_law_cell", "_law_mixed"]
abbrev pm__law_draw : List Str := ["_law_script", "_law_state", "_law_limit"]
theorem sc__law_draw : FnScope nm__law_draw pm__law_draw (defScope s__law_draw) := ⟨rfl, rfl, rfl, by decide +kernel, rfl, by decide +kernel, by decide +kernel⟩

abbrev s__law_ways : Stmt := top 44
abbrev nm__law_ways : List Str := ["_law_script", "_law_state", "_law_found", "_law_k", "_law_begin", "_law_low"]
abbrev pm__law_ways : List Str := ["_law_script", "_law_state"]
theorem sc__law_ways : FnScope nm__law_ways pm__law_ways (defScope s__law_ways) := ⟨rfl, rfl, rfl, by decide +kernel, rfl, by decide +kernel, by decide +kernel⟩

abbrev s__law_all_runs : Stmt := top 45
abbrev nm__law_all_runs : List Str := ["_law_parts", "_law_most", "_law_found", "_law_way", "_law_pairs", "_law_one", "_law_longer", "_law_row", "_law_two", "_law_pair"]
abbrev pm__law_all_runs : List Str := ["_law_parts", "_law_most"]
theorem sc__law_all_runs : FnScope nm__law_all_runs pm__law_all_runs (defScope s__law_all_runs) := ⟨rfl, rfl, rfl, by decide +kernel, rfl, by decide +kernel, by decide +kernel⟩

abbrev s__law_quiet_ways : Stmt := top 46
abbrev nm__law_quiet_ways : List Str := ["_law_parts", "_law_row", "_law_found", "_law_way"]
abbrev pm__law_quiet_ways : List Str := ["_law_parts", "_law_row"]
theorem sc__law_quiet_ways : FnScope nm__law_quiet_ways pm__law_quiet_ways (defScope s__law_quiet_ways) := ⟨rfl, rfl, rfl, by decide +kernel, rfl, by decide +kernel, by decide +kernel⟩

abbrev s__law_outcome : Stmt := top 47
abbrev nm__law_outcome : List Str := ["_law_parts", "_law_row", "_law_answers", "_law_gone", "_law_moment", "_law_way", "_law_first", "_law_one", "_law_at", "_law_other"]
abbrev pm__law_outcome : List Str := ["_law_parts", "_law_row"]
theorem sc__law_outcome : FnScope nm__law_outcome pm__law_outcome (defScope s__law_outcome) := ⟨rfl, rfl, rfl, by decide +kernel, rfl, by decide +kernel, by decide +kernel⟩

abbrev s__law_silences : Stmt := top 48
abbrev nm__law_silences : List Str := ["_law_parts", "_law_rows", "_law_ends", "_law_way", "_law_at", "_law_some", "_law_numbers", "_law_always", "_law_k", "_law_row"]
abbrev pm__law_silences : List Str := ["_law_parts", "_law_rows", "_law_ends", "_law_way", "_law_at"]
theorem sc__law_silences : FnScope nm__law_silences pm__law_silences (defScope s__law_silences) := ⟨rfl, rfl, rfl, by decide +kernel, rfl, by decide +kernel, by decide +kernel⟩

abbrev s_law : Stmt := top 49
abbrev nm_law : List Str := ["_law_script", "_law_state", "_law_parts", "_law_most", "_law_race", "_law_rows", "_law_ends", "_law_k", "_law_at", "_law_told", "_law_came", "_law_end", "_law_way", "_law_moments", "_law_begin", "_law_low", "_law_high", "_law_row", "_law_pair", "_law_other"]
abbrev pm_law : List Str := ["_law_script"]
theorem sc_law : FnScope nm_law pm_law (defScope s_law) := ⟨rfl, rfl, rfl, by decide +kernel, rfl, by decide +kernel, by decide +kernel⟩

structure Ad where
  (BadPart BadBox NoWay CannotWin WholeError Way Race Outcome T0 : Addr)
structure Txt (K : PySem.W.Frag) (mg : Str → Option Value) (A : Ad) : Prop where
  n_isinstance : mg "isinstance" = none
  n_int : mg "int" = none
  n_bool : mg "bool" = none
  n_list : mg "list" = none
  n_tuple : mg "tuple" = none
  n_len : mg "len" = none
  n_range : mg "range" = none
  n_max : mg "max" = none
  n_min : mg "min" = none
  n_abs : mg "abs" = none
  n_sum : mg "sum" = none
  n_any : mg "any" = none
  n_zip : mg "zip" = none
  n_enumerate : mg "enumerate" = none
  n_all : mg "all" = none
  n_sorted : mg "sorted" = none
  g_MOST_BEGIN : ∃ t, mg "MOST_BEGIN" = some (.int 1000 t)
  g_MOST_DELAY : ∃ t, mg "MOST_DELAY" = some (.int 50 t)
  g_MOST_BOXES : ∃ t, mg "MOST_BOXES" = some (.int 3 t)
  g_MOST_KEEP : ∃ t, mg "MOST_KEEP" = some (.int 10000 t)
  g_MOST_WAYS : ∃ t, mg "MOST_WAYS" = some (.int 4 t)
  g_MOST_SILENT : ∃ t, mg "MOST_SILENT" = some (.int 3 t)
  Way : ClsX K mg "Way" A.Way
  w_begin : NoAttr K A.Way "begin"
  w_least : NoAttr K A.Way "least"
  w_most : NoAttr K A.Way "most"
  w_boxes : NoAttr K A.Way "boxes"
  Race : ClsX K mg "Race" A.Race
  r_ways : NoAttr K A.Race "ways"
  r_silent : NoAttr K A.Race "silent"
  BadPart : XAt K mg "BadPart" "part" A.BadPart s_BadPart_init "BadPart.__init__"
  BadBox : XAt K mg "BadBox" "index" A.BadBox s_BadBox_init "BadBox.__init__"
  NoWay : XAt K mg "NoWay" "way" A.NoWay s_NoWay_init "NoWay.__init__"
  CannotWin : XAt K mg "CannotWin" "way" A.CannotWin s_CannotWin_init "CannotWin.__init__"
  Outcome : ClsX K mg "Outcome" A.Outcome
  o_winner : NoAttr K A.Outcome "winner"
  o_moment : NoAttr K A.Outcome "moment"
  o_sent : NoAttr K A.Outcome "sent"
  g_WholeError : mg "WholeError" = some (.ref A.WholeError)
  t0 : ∀ H, SqT K H A.T0 []
section
variable {P : Program} {w : World} {K : PySem.W.Frag} {mg : Str → Option Value} {base : Heap} {A : Ad}
theorem ok_xp {f : Addr} {fd : FuncData} (F : Fun K "__init__" "BadPart.__init__" s_BadPart_init f fd) (T : Txt K mg A) : FnOk P w K mg base CX0 1 f fd ["self", "part"] (spXI A.BadPart "part") := by
  refine F.ok sc_BadPart_init (fun vs H Q E h => ?_) (fun cdv A' outer s H vs Q E hr h => ?_)
  · obtain ⟨a, y, rfl, _⟩ := h
    rfl
  · obtain ⟨a, y, rfl, ha, q⟩ := h
    refine ⟨_, pss_one (ps_ost (pv 0) (pv 1)), ?_⟩
    exact ⟨_, rfl, _, rfl, a, A.BadPart, rfl, T.BadPart.ox, T.BadPart.noA, .inl ⟨ha, fun dx h1 h2 => q dx h1 h2⟩⟩
theorem ok_xb {f : Addr} {fd : FuncData} (F : Fun K "__init__" "BadBox.__init__" s_BadBox_init f fd) (T : Txt K mg A) : FnOk P w K mg base CX0 1 f fd ["self", "index"] (spXI A.BadBox "index") := by
  refine F.ok sc_BadBox_init (fun vs H Q E h => ?_) (fun cdv A' outer s H vs Q E hr h => ?_)
  · obtain ⟨a, y, rfl, _⟩ := h
    rfl
  · obtain ⟨a, y, rfl, ha, q⟩ := h
    refine ⟨_, pss_one (ps_ost (pv 0) (pv 1)), ?_⟩
    exact ⟨_, rfl, _, rfl, a, A.BadBox, rfl, T.BadBox.ox, T.BadBox.noA, .inl ⟨ha, fun dx h1 h2 => q dx h1 h2⟩⟩
theorem ok_xn {f : Addr} {fd : FuncData} (F : Fun K "__init__" "NoWay.__init__" s_NoWay_init f fd) (T : Txt K mg A) : FnOk P w K mg base CX0 1 f fd ["self", "way"] (spXI A.NoWay "way") := by
  refine F.ok sc_NoWay_init (fun vs H Q E h => ?_) (fun cdv A' outer s H vs Q E hr h => ?_)
  · obtain ⟨a, y, rfl, _⟩ := h
    rfl
  · obtain ⟨a, y, rfl, ha, q⟩ := h
    refine ⟨_, pss_one (ps_ost (pv 0) (pv 1)), ?_⟩
    exact ⟨_, rfl, _, rfl, a, A.NoWay, rfl, T.NoWay.ox, T.NoWay.noA, .inl ⟨ha, fun dx h1 h2 => q dx h1 h2⟩⟩
/-! kinds, told by the data -/
def spInteger (K : PySem.W.Frag) : Sp := fun vs H Q _ => ∃ v d, vs = [v] ∧ Dp K H v d ∧ Q (.bl (isIntD d && !isBoolD d)) H
theorem ok_integer {f : Addr} {fd : FuncData} (F : Fun K "is_integer" "is_integer" s_is_integer f fd) (T : Txt K mg A) : FnOk P w K mg base CX0 1 f fd pm_is_integer (spInteger K) := by
  refine F.ok sc_is_integer (fun vs H Q E h => ?_) (fun cdv A' outer s H vs Q E hr h => ?_)
  · obtain ⟨v, k, rfl, _⟩ := h
    rfl
  · obtain ⟨v, d, rfl, hk, q⟩ := h
    refine ⟨_, pss_one (ps_ret (pe_and (pe_callB call_isi (by rfl) T.n_isinstance (by decide +kernel) (pa_cons (pv 0) (pa_cons (pe_bltn (v := .ty "int") (by rfl) T.n_int (by decide +kernel) rfl) pa_nil))) (pe_one (pe_not (pe_callB call_isi (by rfl) T.n_isinstance (by decide +kernel) (pa_cons (pv 0) (pa_cons (pe_bltn (v := .ty "bool") (by rfl) T.n_bool (by decide +kernel) rfl) pa_nil))))))), ?_⟩
    refine ⟨v, rfl, v, .ty "int", .type (tnD d), .type "int", isIntD d, rfl, .ty _, dp_ty hk, kd_int, _, rfl, ?_⟩
    cases h1 : isIntD d with
    | true =>
      rw [h1] at q
      exact iteT ⟨v, rfl, v, .ty "bool", .type (tnD d), .type "bool", isBoolD d, rfl, .ty _, dp_ty hk, kd_bool, _, rfl, q⟩
    | false =>
      rw [h1] at q
      exact iteF q
def spBetween (K : PySem.W.Frag) : Sp := fun vs H Q _ => ∃ v d a b, vs = [v, .int a, .int b] ∧ Dp K H v d ∧ Q (.bl (betD d a b)) H
theorem ok_between {f : Addr} {fd : FuncData} (F : Fun K "is_between" "is_between" s_is_between f fd) (O_is_integer : Own P w K mg base CX0 "is_integer" 1 pm_is_integer (spInteger K)) : FnOk P w K mg base CX0 2 f fd pm_is_between (spBetween K) := by
  refine F.ok sc_is_between (fun vs H Q E h => ?_) (fun cdv A' outer s H vs Q E hr h => ?_)
  · obtain ⟨v, k, a, b, rfl, _⟩ := h
    rfl
  · obtain ⟨v, d, a, b, rfl, hk, q⟩ := h
    refine ⟨_, pss_one (ps_ret (pe_and (pe_own O_is_integer (hr.mono (by decide)) pass0 (pa_cons (pv 0) pa_nil)) (pe_one (pe_chain op_le op_le (pv 1) (pv 0) (pv 2))))), ?_⟩
    refine ⟨v, rfl, v, d, rfl, hk, _, rfl, ?_⟩
    cases h1 : (isIntD d && !isBoolD d) with
    | true =>
      obtain ⟨n, rfl⟩ := int_yes h1
      obtain rfl := dp_int hk
      refine iteT ⟨_, rfl, _, rfl, _, _, rfl, rfl, _, rfl, ?_⟩
      rw [bet_int] at q
      cases h2 : decide (a ≤ n) with
      | true =>
        rw [h2] at q
        exact iteT ⟨_, rfl, _, _, rfl, rfl, q⟩
      | false =>
        rw [h2] at q
        exact iteF q
    | false =>
      rw [bet_not h1] at q
      exact iteF q
def spIsList (K : PySem.W.Frag) : Sp := fun vs H Q _ => ∃ v t k, vs = [v] ∧ (∀ H', Ext H H' → TyX K H' v t) ∧ PySem.W.kitAny K t [.type "list", .type "tuple"] = some k ∧ ∀ H', Ext H H' → Q (.bl k) H'
theorem ok_isList {f : Addr} {fd : FuncData} (F : Fun K "is_list" "is_list" s_is_list f fd) (T : Txt K mg A) : FnOk P w K mg base CX0 1 f fd pm_is_list (spIsList K) := by
  refine F.ok sc_is_list (fun vs H Q E h => ?_) (fun cdv A' outer s H vs Q E hr h => ?_)
  · obtain ⟨v, t, k, rfl, _⟩ := h
    rfl
  · obtain ⟨v, t, k, rfl, hk, hs, q⟩ := h
    refine ⟨_, pss_one (ps_ret (pe_callB call_isiT (by rfl) T.n_isinstance (by decide +kernel) (pa_cons (pv 0) (pa_cons (pe_tup (pa_cons (pe_bltn (v := .ty "list") (by rfl) T.n_list (by decide +kernel) rfl) (pa_cons (pe_bltn (v := .ty "tuple") (by rfl) T.n_tuple (by decide +kernel) rfl) pa_nil))) pa_nil)))), ?_⟩
    refine ⟨v, rfl, by show 2 ≤ sizeLine; decide, fun p hp => ?_⟩
    exact ⟨v, p, [.ty "list", .ty "tuple"], t, [.type "list", .type "tuple"], k, rfl, upd_same, .cons (.ty _) (.cons (.ty _) .nil), hk _ (Ext.upd hp), hs, q _ (Ext.upd hp)⟩
def spListOf (K : PySem.W.Frag) : Sp := fun vs H Q _ => ∃ v t k a b xs, vs = [v, .int a, .int b] ∧ (∀ H', Ext H H' → TyX K H' v t) ∧ PySem.W.kitAny K t [.type "list", .type "tuple"] = some k ∧ (k = true → ∃ p, v = .ref p ∧ (SqL K H p xs ∨ SqT K H p xs)) ∧
  ∀ H', Ext H H' → Q (.bl (k && (decide (a ≤ (xs.length : Int)) && decide ((xs.length : Int) ≤ b)))) H'
theorem dp_lenD {H : Hp} {xs : List V} {ds : List PyData} {d : PyData} (ha : DpAll K H xs ds) (h : d = .list ds ∨ d = .tuple ds) : lenD d = xs.length := by
  rw [dps_len ha]
  rcases h with rfl | rfl <;> rfl
theorem ok_listOf {f : Addr} {fd : FuncData} (F : Fun K "is_list_of" "is_list_of" s_is_list_of f fd) (T : Txt K mg A) (O_is_list : Own P w K mg base CX0 "is_list" 1 pm_is_list (spIsList K)) : FnOk P w K mg base CX0 2 f fd pm_is_list_of (spListOf K) := by
  refine F.ok sc_is_list_of (fun vs H Q E h => ?_) (fun cdv A' outer s H vs Q E hr h => ?_)
  · obtain ⟨v, t, k, a, b, xs, rfl, _⟩ := h
    rfl
  · obtain ⟨v, t, k, a, b, xs, rfl, hk, hs, hq, q⟩ := h
    refine ⟨_, pss_one (ps_ret (pe_and (pe_own O_is_list (hr.mono (by decide)) pass0 (pa_cons (pv 0) pa_nil)) (pe_one (pe_chain op_le op_le (pv 1) (pe_callB call_len_seq (by rfl) T.n_len (by decide +kernel) (pa_cons (pv 0) pa_nil)) (pv 2))))), ?_⟩
    refine ⟨v, rfl, v, t, k, rfl, hk, hs, fun H1 e1 => ⟨_, rfl, ?_⟩⟩
    have q1 := q H1 e1
    cases k with
    | false => exact iteF q1
    | true =>
      obtain ⟨p, rfl, hx⟩ := hq rfl
      refine iteT ⟨_, rfl, _, rfl, p, xs, rfl, hx.imp (fun h => h.ext e1) (fun h => h.ext e1), _, _, rfl, rfl, _, rfl, ?_⟩
      cases h2 : decide (a ≤ (xs.length : Int)) with
      | true =>
        rw [h2] at q1
        exact iteT ⟨_, rfl, _, _, rfl, rfl, q1⟩
      | false =>
        rw [h2] at q1
        exact iteF q1
/-- from the data -/
theorem listOf_key {H : Hp} {v : V} {d : PyData} (h : Dp K H v d) : ∃ t xs, (∀ H', Ext H H' → TyX K H' v t) ∧ PySem.W.kitAny K t [.type "list", .type "tuple"] = some (isSeqD d) ∧ (isSeqD d = true → ∃ p, v = .ref p ∧ (SqL K H p xs ∨ SqT K H p xs)) ∧
    ∀ a b : Int, (isSeqD d && (decide (a ≤ (xs.length : Int)) && decide ((xs.length : Int) ≤ b))) = (isSeqD d && (decide (a ≤ (lenD d : Int)) && decide ((lenD d : Int) ≤ b))) := by
  cases hs : isSeqD d with
  | false => exact ⟨_, [], fun H' e => dp_ty (dp_ext e _ _ h), by rw [kd_seq, hs], (fun z => nomatch z), fun a b => rfl⟩
  | true =>
    obtain ⟨p, xs, ds, rfl, hx, ha, hd⟩ := dp_seq h hs
    exact ⟨_, xs, fun H' e => dp_ty (dp_ext e _ _ h), by rw [kd_seq, hs], fun _ => ⟨p, rfl, hx⟩, fun a b => by rw [dp_lenD ha hd]⟩
def spTupleOf (K : PySem.W.Frag) : Sp := fun vs H Q _ => ∃ v d a, vs = [v, .int a] ∧ Dp K H v d ∧ Q (.bl (isTupD d && decide ((lenD d : Int) = a))) H
theorem dvi {a b : Int} : decide (V.int a = V.int b) = decide (a = b) := by simp
theorem ok_tupleOf {f : Addr} {fd : FuncData} (F : Fun K "is_tuple_of" "is_tuple_of" s_is_tuple_of f fd) (T : Txt K mg A) : FnOk P w K mg base CX0 1 f fd pm_is_tuple_of (spTupleOf K) := by
  refine F.ok sc_is_tuple_of (fun vs H Q E h => ?_) (fun cdv A' outer s H vs Q E hr h => ?_)
  · obtain ⟨v, d, a, rfl, _⟩ := h
    rfl
  · obtain ⟨v, d, a, rfl, hk, q⟩ := h
    refine ⟨_, pss_one (ps_ret (pe_and (pe_callB call_isi (by rfl) T.n_isinstance (by decide +kernel) (pa_cons (pv 0) (pa_cons (pe_bltn (v := .ty "tuple") (by rfl) T.n_tuple (by decide +kernel) rfl) pa_nil))) (pe_one (pe_cmpR op_eq (pe_callB call_len_seq (by rfl) T.n_len (by decide +kernel) (pa_cons (pv 0) pa_nil)) (pv 1) (nomark _))))), ?_⟩
    refine ⟨v, rfl, v, .ty "tuple", .type (tnD d), .type "tuple", isTupD d, rfl, .ty _, dp_ty hk, kd_tup, _, rfl, ?_⟩
    cases h1 : isTupD d with
    | true =>
      rw [h1] at q
      obtain ⟨p, xs, ds, rfl, hx, ha, hd⟩ := dp_tup hk h1
      rw [dp_lenD ha (.inr hd)] at q
      refine iteT ⟨_, rfl, p, xs, rfl, .inr hx, _, rfl, rfl, ?_⟩
      show Q (.bl (decide (V.int (xs.length : Int) = V.int a))) H
      rw [dvi]
      exact q
    | false =>
      rw [h1] at q
      exact iteF q
/-! what a way is made of -/
def beginD (d : PyData) : Bool := isNoneD d || betD d 0 1000
def spBegin (K : PySem.W.Frag) : Sp := fun vs H Q _ => ∃ v d, vs = [v] ∧ Dp K H v d ∧ Q (.bl (beginD d)) H
theorem ok_begin {f : Addr} {fd : FuncData} (F : Fun K "is_begin" "is_begin" s_is_begin f fd) (T : Txt K mg A) (O_is_between : Own P w K mg base CX0 "is_between" 2 pm_is_between (spBetween K)) : FnOk P w K mg base CX0 3 f fd pm_is_begin (spBegin K) := by
  refine F.ok sc_is_begin (fun vs H Q E h => ?_) (fun cdv A' outer s H vs Q E hr h => ?_)
  · obtain ⟨v, d, rfl, _⟩ := h
    rfl
  · obtain ⟨v, d, rfl, hk, q⟩ := h
    refine ⟨_, pss_one (ps_ret (pe_or (pe_cmpR op_isN (pv 0) (pe_non) (nomark _)) (pe_one (pe_own O_is_between (hr.mono (by decide)) pass0 (pa_cons (pv 0) (pa_cons (pe_int) (pa_cons (pe_gint T.g_MOST_BEGIN) pa_nil))))))), ?_⟩
    cases hk with
    | non => exact ⟨_, rfl, rfl, _, rfl, iteT q⟩
    | bl b => exact ⟨_, rfl, rfl, _, rfl, iteF ⟨_, rfl, _, _, 0, 1000, rfl, .bl b, q⟩⟩
    | int i => exact ⟨_, rfl, rfl, _, rfl, iteF ⟨_, rfl, _, _, 0, 1000, rfl, .int i, q⟩⟩
    | str b => exact ⟨_, rfl, rfl, _, rfl, iteF ⟨_, rfl, _, _, 0, 1000, rfl, .str b, q⟩⟩
    | lst a b => exact ⟨_, rfl, rfl, _, rfl, iteF ⟨_, rfl, _, _, 0, 1000, rfl, .lst a b, q⟩⟩
    | tup a b => exact ⟨_, rfl, rfl, _, rfl, iteF ⟨_, rfl, _, _, 0, 1000, rfl, .tup a b, q⟩⟩
def delaysD : PyData → PyData → Bool
  | .int l, .int m => decide (1 ≤ l) && decide (l ≤ m) && decide (m ≤ 50)
  | _, _ => false
def spDelays (K : PySem.W.Frag) : Sp := fun vs H Q _ => ∃ v u d e, vs = [v, u] ∧ Dp K H v d ∧ Dp K H u e ∧ Q (.bl (delaysD d e)) H
theorem delays_m {d e : PyData} (h : betD e 1 50 = false) : delaysD d e = false := by
  cases e <;> first | (cases d <;> rfl) | skip
  rename_i m
  cases d <;> first | rfl | skip
  rename_i l
  rw [bet_int] at h
  simp only [delaysD]
  simp at h ⊢
  omega
theorem delays_l {d : PyData} {m : Int} (h1 : 1 ≤ m ∧ m ≤ 50) : delaysD d (.int m) = betD d 1 m := by
  cases d <;> first | rfl | skip
  rename_i l
  rw [bet_int]
  simp only [delaysD]
  rw [decide_eq_true h1.2, Bool.and_true]
theorem ok_delays {f : Addr} {fd : FuncData} (F : Fun K "are_delays" "are_delays" s_are_delays f fd) (T : Txt K mg A) (O_is_between : Own P w K mg base CX0 "is_between" 2 pm_is_between (spBetween K)) : FnOk P w K mg base CX0 3 f fd pm_are_delays (spDelays K) := by
  refine F.ok sc_are_delays (fun vs H Q E h => ?_) (fun cdv A' outer s H vs Q E hr h => ?_)
  · obtain ⟨v, u, d, e, rfl, _⟩ := h
    rfl
  · obtain ⟨v, u, d, e, rfl, hk, hu, q⟩ := h
    refine ⟨_, pss_one (ps_ret (pe_and (pe_own O_is_between (hr.mono (by decide)) pass0 (pa_cons (pv 1) (pa_cons (pe_int) (pa_cons (pe_gint T.g_MOST_DELAY) pa_nil)))) (pe_one (pe_own O_is_between (hr.mono (by decide)) pass0 (pa_cons (pv 0) (pa_cons (pe_int) (pa_cons (pv 1) pa_nil))))))), ?_⟩
    refine ⟨u, rfl, u, e, 1, 50, rfl, hu, _, rfl, ?_⟩
    cases h1 : betD e 1 50 with
    | false =>
      rw [delays_m h1] at q
      exact iteF q
    | true =>
      obtain ⟨m, rfl, m1, m2⟩ := bet_yes h1
      obtain rfl := dp_int hu
      rw [delays_l ⟨m1, m2⟩] at q
      exact iteT ⟨v, rfl, _, rfl, v, d, 1, m, rfl, hk, q⟩
end
end K18

set_option Elab.async false
set_option maxRecDepth 100000
set_option maxHeartbeats 4000000
namespace K18
open PySem PySem.Spec PyProof.Rows L2
section
variable {P : Program} {w : World} {K : PySem.W.Frag} {mg : Str → Option Value} {base : Heap} {A : Ad}
def boxD (d : PyData) (l m : Int) : Bool := match d with
  | .tuple [.int n, .int f, .int s, .int g] => decide (0 ≤ n ∧ n ≤ f ∧ f ≤ m ∧ n ≤ l ∧ 1 ≤ s ∧ s ≤ g ∧ g ≤ 10000)
  | _ => false
theorem box_f {a b c d : PyData} {l m : Int} (h : betD b 0 m = false) : boxD (.tuple [a, b, c, d]) l m = false := by
  cases a <;> first | rfl | skip
  cases b <;> first | rfl | skip
  cases c <;> first | rfl | skip
  cases d <;> first | rfl | skip
  rw [bet_int] at h
  simp at h
  simp only [boxD]
  rw [decide_eq_false (by omega)]
theorem box_n {a c d : PyData} {f l m : Int} (h : betD a 0 f = false) : boxD (.tuple [a, .int f, c, d]) l m = false := by
  cases a <;> first | rfl | skip
  cases c <;> first | rfl | skip
  cases d <;> first | rfl | skip
  rw [bet_int] at h
  simp at h
  simp only [boxD]
  rw [decide_eq_false (by omega)]
theorem box_l {c d : PyData} {n f l m : Int} (h : l < n) : boxD (.tuple [.int n, .int f, c, d]) l m = false := by
  cases c <;> first | rfl | skip
  cases d <;> first | rfl | skip
  simp only [boxD]
  rw [decide_eq_false (by omega)]
theorem box_g {c d : PyData} {n f l m : Int} (h : betD d 1 10000 = false) : boxD (.tuple [.int n, .int f, c, d]) l m = false := by
  cases c <;> first | rfl | skip
  cases d <;> first | rfl | skip
  rw [bet_int] at h
  simp at h
  simp only [boxD]
  rw [decide_eq_false (by omega)]
theorem box_s {c : PyData} {n f g l m : Int} (h : 0 ≤ n ∧ n ≤ f ∧ f ≤ m ∧ n ≤ l ∧ g ≤ 10000) : boxD (.tuple [.int n, .int f, c, .int g]) l m = betD c 1 g := by
  cases c <;> first | rfl | skip
  simp only [boxD]
  rw [bet_int, Bool.eq_iff_iff]
  simp
  omega
theorem box_t {d : PyData} {l m : Int} (h : (isTupD d && decide ((lenD d : Int) = 4)) = false) : boxD d l m = false := by
  unfold boxD
  split
  · exact absurd h (by simp [isTupD, lenD])
  · rfl
def spBoxOk (K : PySem.W.Frag) : Sp := fun vs H Q _ => ∃ v d l m, vs = [v, .int l, .int m] ∧ Dp K H v d ∧ Q (.bl (boxD d l m)) H
theorem ok_box {f : Addr} {fd : FuncData} (F : Fun K "is_box" "is_box" s_is_box f fd) (T : Txt K mg A) (O_is_between : Own P w K mg base CX0 "is_between" 2 pm_is_between (spBetween K)) (O_is_tuple_of : Own P w K mg base CX0 "is_tuple_of" 1 pm_is_tuple_of (spTupleOf K)) : FnOk P w K mg base CX0 3 f fd pm_is_box (spBoxOk K) := by
  refine F.ok sc_is_box (fun vs H Q E h => ?_) (fun cdv A' outer s H vs Q E hr h => ?_)
  · obtain ⟨v, d, l, m, rfl, _⟩ := h
    rfl
  · obtain ⟨v, d, l, m, rfl, hk, q⟩ := h
    refine ⟨_, pss_cons (ps_if (pt_not (pt_val (pe_own O_is_tuple_of (hr.mono (by decide)) pass0 (pa_cons (pv 0) (pa_cons (pe_int) pa_nil))))) (pss_one (ps_ret (pe_bl))) (pss_nil))
      (pss_cons (ps_asg (pv 0) (pg_tup rfl (pgs_cons (pg_name (i := 3) sc_is_box.nd rfl (Or.inl rfl)) (pgs_cons (pg_name (i := 4) sc_is_box.nd rfl (Or.inl rfl)) (pgs_cons (pg_name (i := 5) sc_is_box.nd rfl (Or.inl rfl)) (pgs_cons (pg_name (i := 6) sc_is_box.nd rfl (Or.inl rfl)) (pgs_nil)))))))
      (pss_cons (ps_if (PW.pt (pw_or (pt_not (pt_val (pe_own O_is_between (hr.mono (by decide)) pass0 (pa_cons (pv 4) (pa_cons (pe_int) (pa_cons (pv 2) pa_nil)))))) (pw_or (pt_not (pt_val (pe_own O_is_between (hr.mono (by decide)) pass0 (pa_cons (pv 3) (pa_cons (pe_int) (pa_cons (pv 4) pa_nil)))))) (pw_or1 (pt_cmpR op_gt (pv 3) (pv 1) (nomark _)))))) (pss_one (ps_ret (pe_bl))) (pss_nil))
      (pss_one (ps_ret (pe_and (pe_own O_is_between (hr.mono (by decide)) pass0 (pa_cons (pv 6) (pa_cons (pe_int) (pa_cons (pe_gint T.g_MOST_KEEP) pa_nil)))) (pe_one (pe_own O_is_between (hr.mono (by decide)) pass0 (pa_cons (pv 5) (pa_cons (pe_int) (pa_cons (pv 6) pa_nil)))))))))), ?_⟩
    refine ⟨v, rfl, v, d, 4, rfl, hk, _, rfl, ?_⟩
    cases h1 : (isTupD d && decide ((lenD d : Int) = 4)) with
    | false =>
      rw [box_t h1] at q
      exact iteT q
    | true =>
      refine iteF ?_
      rw [Bool.and_eq_true, decide_eq_true_eq] at h1
      obtain ⟨p, xs, ds, rfl, hx, ha, rfl⟩ := dp_tup hk h1.1
      have hl : ds.length = 4 := by
        have z : ((ds.length : Nat) : Int) = 4 := h1.2
        omega
      match ds, hl, ha, q with
      | [da, db, dc, dd], _, ha, q =>
        cases ha with
        | @cons va _ _ _ ha1 ha =>
          cases ha with
          | @cons vb _ _ _ hb1 ha =>
            cases ha with
            | @cons vc _ _ _ hc1 ha =>
              cases ha with
              | @cons vd _ _ _ hd1 ha =>
                cases ha
                refine ⟨_, rfl, p, _, rfl, hx, rfl, ?_⟩
                refine ⟨_, _, rfl, _, _, rfl, _, _, rfl, _, _, rfl, rfl, ?_⟩
                refine ⟨vb, rfl, _, rfl, vb, db, 0, m, rfl, hb1, _, rfl, ?_⟩
                cases h2 : betD db 0 m with
                | false =>
                  rw [box_f h2] at q
                  exact iteT q
                | true =>
                  refine iteF ?_
                  obtain ⟨f, rfl, f0, fm⟩ := bet_yes h2
                  obtain rfl := dp_int hb1
                  refine ⟨va, rfl, _, rfl, va, da, 0, f, rfl, ha1, _, rfl, ?_⟩
                  cases h3 : betD da 0 f with
                  | false =>
                    rw [box_n h3] at q
                    exact iteT q
                  | true =>
                    refine iteF ?_
                    obtain ⟨n, rfl, n0, nf⟩ := bet_yes h3
                    obtain rfl := dp_int ha1
                    refine ⟨_, rfl, _, rfl, _, _, rfl, rfl, _, rfl, ?_⟩
                    by_cases h4 : n > l
                    · rw [decide_eq_true h4]
                      rw [box_l h4] at q
                      exact iteT q
                    · rw [decide_eq_false h4]
                      refine iteF ?_
                      refine ⟨vd, rfl, vd, dd, 1, 10000, rfl, hd1, _, rfl, ?_⟩
                      cases h5 : betD dd 1 10000 with
                      | false =>
                        rw [box_g h5] at q
                        exact iteF q
                      | true =>
                        obtain ⟨g, rfl, g1, g2⟩ := bet_yes h5
                        obtain rfl := dp_int hd1
                        rw [box_s ⟨n0, nf, fm, by omega, g2⟩] at q
                        exact iteT ⟨vc, rfl, _, rfl, vc, dc, 1, g, rfl, hc1, q⟩
/-! ### Way -/
def itemsD : PyData → Option (List PyData) | .list ds => some ds | .tuple ds => some ds | _ => none
/-- what is wrong first: a part's word or a box's place -/
def wayDue (b l m x : PyData) : Option (Str ⊕ Nat) :=
  if beginD b = false then some (.inl "begin") else if delaysD l m = false then some (.inl "delays") else
    if (isSeqD x && (decide ((0 : Int) ≤ (lenD x : Int)) && decide ((lenD x : Int) ≤ 3))) = false then some (.inl "boxes") else
    match l, m, itemsD x with
    | .int l, .int m, some ds => (ds.findIdx? fun d => !boxD d l m).map .inr
    | _, _, _ => none
def wF (b l m x : V) : List (Str × V) := [("begin", b), ("least", l), ("most", m), ("boxes", x)]
/-- a way at p: its begin, delays, and the data of its boxes -/
def WayAt (K : PySem.W.Frag) (A : Ad) (H : Hp) (p : Addr) (b l m : V) (ds : List PyData) : Prop := ∃ dx T xs, H p = some (.ins A.Way dx (wF b l m (.ref T))) ∧ SqT K H T xs ∧ DpAll K H xs ds
def spWayInit (K : PySem.W.Frag) (A : Ad) : Sp := fun vs H Q E => ∃ (p dx : Addr) (vb vl vm vx : V) (b l m x : PyData), vs = [.ref p, vb, vl, vm, vx] ∧ H p = some (.ins A.Way dx []) ∧ Dp K H vb b ∧ Dp K H vl l ∧ Dp K H vm m ∧ Dp K H vx x ∧
  (∀ s, wayDue b l m x = some (.inl s) → ∀ H', Ext H H' → ∀ e, H' e = none → E (.ref A.BadPart) (some e) (upd H' e (.xd [("part", .str s)]))) ∧
  (∀ i, wayDue b l m x = some (.inr i) → ∀ H', Ext H H' → ∀ e, H' e = none → E (.ref A.BadBox) (some e) (upd H' e (.xd [("index", .int (i : Nat))]))) ∧
  (wayDue b l m x = none → ∀ ds H', itemsD x = some ds → (∃ T xs, H' p = some (.ins A.Way dx (wF vb vl vm (.ref T))) ∧ SqT K H' T xs ∧ DpAll K H' xs ds) → (∀ x o, x ≠ p → H x = some o → H' x = some o) → Q .non H')
theorem find_at {ds : List PyData} {f : PyData → Bool} {i : Nat} {d : PyData} (h0 : ∀ (j : Nat) (d : PyData), j < i → ds[j]? = some d → f d = false) (hd : ds[i]? = some d) (h : f d = true) : ds.findIdx? f = some i := by
  induction ds generalizing i with
  | nil => cases hd
  | cons x xs ih =>
    rw [List.findIdx?_cons]
    cases i with
    | zero =>
      cases hd
      rw [h]
      rfl
    | succ i =>
      rw [h0 0 x (Nat.succ_pos _) rfl]
      have z := ih (i := i) (fun j d hj hd => h0 (j + 1) d (Nat.succ_lt_succ hj) hd) hd
      rw [z]
      rfl
theorem find_no {ds : List PyData} {f : PyData → Bool} (h0 : ∀ (j : Nat) (d : PyData), ds[j]? = some d → f d = false) : ds.findIdx? f = none := by
  rw [List.findIdx?_eq_none_iff]
  intro x hx
  obtain ⟨j, hj⟩ := List.mem_iff_getElem?.mp hx
  exact h0 j x hj
theorem delays_yes {d e : PyData} (h : delaysD d e = true) : ∃ l m, d = .int l ∧ e = .int m ∧ 1 ≤ l ∧ l ≤ m ∧ m ≤ 50 := by
  cases d <;> first | cases h | skip
  cases e <;> first | cases h | skip
  simp only [delaysD, Bool.and_eq_true, decide_eq_true_eq] at h
  exact ⟨_, _, rfl, rfl, h.1.1, h.1.2, h.2⟩
section
variable {H H' : Hp} {p a C dx : Addr} {fs : List (Str × V)} {xs : List V}
theorem sqL_mut (hp : H p = some (.ins C dx fs)) (e : ∀ x o, x ≠ p → H x = some o → H' x = some o) (h : SqL K H a xs) : SqL K H' a xs := by
  rcases h with (h | ⟨o, h⟩) | h
  · exact .inl (.inl (e a _ (fun z => by rw [z, hp] at h; cases h) h))
  · exact .inl (.inr ⟨o, e a _ (fun z => by rw [z, hp] at h; cases h) h⟩)
  · exact .inr h
theorem sqT_mut (hp : H p = some (.ins C dx fs)) (e : ∀ x o, x ≠ p → H x = some o → H' x = some o) (h : SqT K H a xs) : SqT K H' a xs := by
  rcases h with (h | ⟨o, h⟩) | h
  · exact .inl (.inl (e a _ (fun z => by rw [z, hp] at h; cases h) h))
  · exact .inl (.inr ⟨o, e a _ (fun z => by rw [z, hp] at h; cases h) h⟩)
  · exact .inr h
mutual
theorem dp_mut (hp : H p = some (.ins C dx fs)) (e : ∀ x o, x ≠ p → H x = some o → H' x = some o) : ∀ (d : PyData) (v : V), Dp K H v d → Dp K H' v d
  | .none, _, h => by cases h; exact .non
  | .bool _, _, h => by cases h; exact .bl _
  | .int _, _, h => by cases h; exact .int _
  | .str _, _, h => by cases h; exact .str _
  | .list ds, _, h => by
    cases h with
    | lst hs ha => exact .lst (sqL_mut hp e hs) (dps_mut hp e ds _ ha)
  | .tuple ds, _, h => by
    cases h with
    | tup hs ha => exact .tup (sqT_mut hp e hs) (dps_mut hp e ds _ ha)
  | .dict _, _, h => by cases h
theorem dps_mut (hp : H p = some (.ins C dx fs)) (e : ∀ x o, x ≠ p → H x = some o → H' x = some o) : ∀ (ds : List PyData) (vs : List V), DpAll K H vs ds → DpAll K H' vs ds
  | [], _, h => by cases h; exact .nil
  | d :: ds, _, h => by
    cases h with
    | cons h1 h2 => exact .cons (dp_mut hp e d _ h1) (dps_mut hp e ds _ h2)
end
end
theorem ok_wayInit {f : Addr} {fd : FuncData} (F : FunD K "__init__" "Way.__init__" (defArgs s_Way_init) (defBody s_Way_init) (defScope s_Way_init) [.ref A.T0] [] f fd) (T : Txt K mg A)
    (O_is_begin : Own P w K mg base CX0 "is_begin" 3 pm_is_begin (spBegin K)) (O_are_delays : Own P w K mg base CX0 "are_delays" 3 pm_are_delays (spDelays K)) (O_is_list_of : Own P w K mg base CX0 "is_list_of" 2 pm_is_list_of (spListOf K))
    (O_is_box : Own P w K mg base CX0 "is_box" 3 pm_is_box (spBoxOk K)) (X_BadPart : XCls P w K mg base "BadPart" "part" A.BadPart) (X_BadBox : XCls P w K mg base "BadBox" "index" A.BadBox) : FnOk P w K mg base (L2.CX P w) 5 f fd pm_Way_init (spWayInit K A) := by
  refine F.ok sc_Way_init (fun vs H Q E h => ?_) (fun cdv A' outer s H vs Q E hr h => ?_)
  · obtain ⟨_, _, _, _, _, _, _, _, _, _, rfl, _⟩ := h
    rfl
  · obtain ⟨p, dx, vb, vl, vm, vx, b, l, m, x, rfl, hp, hb, hl, hm, hx, hEp, hEb, hQ⟩ := h
    refine ⟨_, pss_cons (ps_if (pt_not (pt_val (pe_own O_is_begin (hr.mono (by decide)) pass0 (pa_cons (pv 1) pa_nil)))) (pss_one (ps_raise rfl (takes_of rfl rfl rfl rfl) (pmk_X X_BadPart (hr.mono (by decide)) (pe_str) rfl))) (pss_nil))
      (pss_cons (ps_if (pt_not (pt_val (pe_own O_are_delays (hr.mono (by decide)) pass0 (pa_cons (pv 2) (pa_cons (pv 3) pa_nil))))) (pss_one (ps_raise rfl (takes_of rfl rfl rfl rfl) (pmk_X X_BadPart (hr.mono (by decide)) (pe_str) rfl))) (pss_nil))
      (pss_cons (ps_if (pt_not (pt_val (pe_own O_is_list_of (hr.mono (by decide)) pass0 (pa_cons (pv 4) (pa_cons (pe_int) (pa_cons (pe_gint T.g_MOST_BOXES) pa_nil)))))) (pss_one (ps_raise rfl (takes_of rfl rfl rfl rfl) (pmk_X X_BadPart (hr.mono (by decide)) (pe_str) rfl))) (pss_nil))
      (pss_cons (ps_for (passes_of rfl) rfl (pi_enSq rfl T.n_enumerate (pa_cons (pv 4) pa_nil)) (pg_tup rfl (pgs_cons (pg_name (i := 5) sc_Way_init.nd rfl (Or.inl rfl)) (pgs_cons (pg_name (i := 6) sc_Way_init.nd rfl (Or.inl rfl)) (pgs_nil)))) (pss_one (ps_if (pt_not (pt_val (pe_own O_is_box (hr.mono (by decide)) pass0 (pa_cons (pv 6) (pa_cons (pv 2) (pa_cons (pv 3) pa_nil)))))) (pss_one (ps_raise rfl (takes_of rfl rfl rfl rfl) (pmk_X X_BadBox (hr.mono (by decide)) (pv 5) rfl))) (pss_nil))))
      (pss_cons (ps_fld (pv 0) (pv 1) rfl)
      (pss_cons (ps_fld (pv 0) (pv 2) rfl)
      (pss_cons (ps_fld (pv 0) (pv 3) rfl)
      (pss_one (ps_fld (pv 0) (pe_callTy call_tuple_of (by rfl) T.n_tuple (by decide +kernel) (pa_cons (pv 4) pa_nil)) rfl)))))))), ?_⟩
    refine ⟨vb, rfl, vb, b, rfl, hb, _, rfl, ?_⟩
    cases h1 : beginD b with
    | false => exact iteT (mkX_fin fun e he => hEp _ (by unfold wayDue; rw [if_pos h1]) _ Ext.rfl' e he)
    | true =>
      refine iteF ?_
      refine ⟨vl, rfl, vm, rfl, vl, vm, l, m, rfl, hl, hm, _, rfl, ?_⟩
      cases h2 : delaysD l m with
      | false => exact iteT (mkX_fin fun e he => hEp _ (by unfold wayDue; rw [h1, if_neg (by decide), if_pos h2]) _ Ext.rfl' e he)
      | true =>
        refine iteF ?_
        obtain ⟨li, mi, rfl, rfl, l1, lm, m50⟩ := delays_yes h2
        obtain rfl := dp_int hl
        obtain rfl := dp_int hm
        obtain ⟨tx, ix, k1, k2, k3, k4⟩ := listOf_key hx
        refine ⟨vx, rfl, vx, tx, isSeqD x, 0, 3, ix, rfl, k1, k2, k3, fun H1 e1 => ⟨_, rfl, ?_⟩⟩
        rw [k4]
        cases h3 : (isSeqD x && (decide ((0 : Int) ≤ (lenD x : Int)) && decide ((lenD x : Int) ≤ 3))) with
        | false => exact iteT (mkX_fin fun e he => hEp _ (by unfold wayDue; rw [h1, if_neg (by decide), h2, if_neg (by decide), if_pos h3]) _ e1 e he)
        | true =>
          refine iteF ?_
          have h3' := (Bool.and_eq_true_iff.mp h3).1
          obtain ⟨a, xs, ds, rfl, hsq, ha, hd⟩ := dp_seq (dp_ext e1 _ _ hx) h3'
          have hit : itemsD x = some ds := by rcases hd with rfl | rfl <;> rfl
          have due : wayDue b (.int li) (.int mi) x = (ds.findIdx? fun d => !boxD d li mi).map .inr := by
            unfold wayDue
            rw [h1, if_neg (by decide), h2, if_neg (by decide), h3, if_neg (by decide), hit]
          rw [due] at hEp hEb hQ
          have small : xs.length ≤ 3 := by
            have z := (Bool.and_eq_true_iff.mp (Bool.and_eq_true_iff.mp h3).2).2
            rw [dp_lenD ha hd, decide_eq_true_eq] at z
            omega
          refine ⟨_, rfl, a, rfl, ?_⟩
          refine for_enSq (xs := xs) hsq (fun i σ' H' => Ext H1 H' ∧ (∃ o5 o6, σ' = [some (.ref p), some vb, some (.int li), some (.int mi), some (.ref a), o5, o6]) ∧ ∀ j d, j < i → ds[j]? = some d → boxD d li mi = true)
            ⟨Ext.rfl', ⟨_, _, rfl⟩, fun j d hj _ => absurd hj (Nat.not_lt_zero _)⟩ (fun i σ' H' pv => pv.1) (fun i v σ' H' T' hi pv hT => ?_) (fun σ' H' pv => ?_)
          · obtain ⟨e2, ⟨o5, o6, rfl⟩, hok⟩ := pv
            refine ⟨T', _, rfl, SqT.of upd_same, rfl, ?_⟩
            have e3 := e2.upd' (o := .tup [.int (i : Nat), v]) hT
            obtain ⟨d, hdi, hdv⟩ := dps_get (dps_ext e3 _ _ ha) hi
            refine ⟨_, _, rfl, _, _, rfl, rfl, ?_⟩
            refine ⟨v, rfl, _, rfl, _, rfl, v, d, li, mi, rfl, hdv, _, rfl, ?_⟩
            cases h4 : boxD d li mi with
            | false =>
              refine iteT ⟨_, rfl, mkX_fin fun e he => hEb i ?_ _ (e1.trans e3) e he⟩
              rw [find_at (f := fun d => !boxD d li mi) (fun j d hj hd => by rw [hok j d hj hd]; rfl) hdi (by rw [h4]; rfl)]
              rfl
            | true =>
              refine iteF ⟨e3, ⟨_, _, rfl⟩, fun j d' hj hd' => ?_⟩
              rcases Nat.lt_succ_iff_lt_or_eq.mp hj with hj | rfl
              · exact hok j d' hj hd'
              · rw [hdi] at hd'
                cases hd'
                exact h4
          · obtain ⟨e2, ⟨o5, o6, rfl⟩, hok⟩ := pv
            have hnone : ((ds.findIdx? fun d => !boxD d li mi).map Sum.inr : Option (Str ⊕ Nat)) = none := by
              rw [find_no (f := fun d => !boxD d li mi) fun j d hd => ?_]
              · rfl
              · have hj : j < xs.length := by
                  rw [dps_len ha]
                  exact (List.getElem?_eq_some_iff.mp hd).1
                rw [hok j d hj hd]
                rfl
            have e12 := e1.trans e2
            have hp2 := e12 _ _ hp
            refine ⟨_, rfl, _, rfl, p, A.Way, dx, _, rfl, hp2, T.Way.cl, T.w_begin, (by show 0 < 1000; decide), ?_⟩
            refine ⟨_, rfl, _, rfl, p, A.Way, dx, _, rfl, upd_same, T.Way.cl, T.w_least, (by show 1 < 1000; decide), ?_⟩
            refine ⟨_, rfl, _, rfl, p, A.Way, dx, _, rfl, upd_same, T.Way.cl, T.w_most, (by show 2 < 1000; decide), ?_⟩
            have hm3 : ∀ o y, y ≠ p → H' y = some o → (upd (upd (upd H' p (.ins A.Way dx (putF "begin" vb []))) p (.ins A.Way dx (putF "least" (.int li) (putF "begin" vb [])))) p (.ins A.Way dx (putF "most" (.int mi) (putF "least" (.int li) (putF "begin" vb []))))) y = some o := fun o y hy h => by
              rw [upd_ne hy, upd_ne hy, upd_ne hy]
              exact h
            have hp3 : (upd (upd (upd H' p (.ins A.Way dx (putF "begin" vb []))) p (.ins A.Way dx (putF "least" (.int li) (putF "begin" vb [])))) p (.ins A.Way dx (putF "most" (.int mi) (putF "least" (.int li) (putF "begin" vb []))))) p = some (.ins A.Way dx (putF "most" (.int mi) (putF "least" (.int li) (putF "begin" vb [])))) := upd_same
            have hda : DpAll K H' xs ds := dps_ext e2 _ _ ha
            generalize upd (upd (upd H' p (.ins A.Way dx (putF "begin" vb []))) p (.ins A.Way dx (putF "least" (.int li) (putF "begin" vb [])))) p (.ins A.Way dx (putF "most" (.int mi) (putF "least" (.int li) (putF "begin" vb [])))) = H3 at hm3 hp3 ⊢
            refine ⟨_, rfl, a, xs, rfl, ?_⟩
            rcases hsq with hsq | hsq
            · refine .inl ⟨sqL_mut hp2 (fun y o => hm3 o y) (hsq.ext e2), fun t ht => ⟨_, rfl, p, A.Way, dx, _, rfl, Ext.upd ht _ _ hp3, T.Way.cl, T.w_boxes, (by show 3 < 1000; decide), ?_⟩⟩
              have ntp : t ≠ p := fun z => by rw [z, hp3] at ht; cases ht
              refine hQ hnone ds _ hit ⟨t, xs, upd_same, SqT.of (by rw [upd_ne ntp]; exact upd_same), ?_⟩ fun y o hy h => ?_
              · exact dps_mut hp2 (fun y o hy h => by rw [upd_ne hy]; exact Ext.upd ht _ _ (hm3 o y hy h)) _ _ hda
              · rw [upd_ne hy]
                exact Ext.upd ht _ _ (hm3 o y hy (e12 _ _ h))
            · refine .inr ⟨sqT_mut hp2 (fun y o => hm3 o y) (hsq.ext e2), _, rfl, p, A.Way, dx, _, rfl, hp3, T.Way.cl, T.w_boxes, (by show 3 < 1000; decide), ?_⟩
              refine hQ hnone ds _ hit ⟨a, xs, upd_same, sqT_mut hp2 (fun y o hy h => by rw [upd_ne hy]; exact hm3 o y hy h) (hsq.ext e2), ?_⟩ fun y o hy h => ?_
              · exact dps_mut hp2 (fun y o hy h => by rw [upd_ne hy]; exact hm3 o y hy h) _ _ hda
              · rw [upd_ne hy]
                exact hm3 o y hy (e12 _ _ h)
end
end K18

set_option Elab.async false
set_option maxRecDepth 100000
set_option maxHeartbeats 4000000
namespace K18
open PySem PySem.Spec PyProof.Rows L2
abbrev Bx := Int × Int × Int × Int
def bxD (q : Bx) : PyData := .tuple [.int q.1, .int q.2.1, .int q.2.2.1, .int q.2.2.2]
def bxOk (q : Bx) (l m : Int) : Prop := 0 ≤ q.1 ∧ q.1 ≤ q.2.1 ∧ q.2.1 ≤ m ∧ q.1 ≤ l ∧ 1 ≤ q.2.2.1 ∧ q.2.2.1 ≤ q.2.2.2 ∧ q.2.2.2 ≤ 10000
theorem box_yes {d : PyData} {l m : Int} (h : boxD d l m = true) : ∃ q, d = bxD q ∧ bxOk q l m := by
  unfold boxD at h
  split at h
  · rename_i n f s g
    rw [decide_eq_true_eq] at h
    exact ⟨(n, f, s, g), rfl, h⟩
  · cases h
theorem box_ok {q : Bx} {l m : Int} (h : bxOk q l m) : boxD (bxD q) l m = true := decide_eq_true h
theorem boxes_yes {l m : Int} : ∀ {ds : List PyData}, (∀ d ∈ ds, boxD d l m = true) → ∃ bs : List Bx, ds = bs.map bxD ∧ ∀ q ∈ bs, bxOk q l m
  | [], _ => ⟨[], rfl, fun _ h => nomatch h⟩
  | d :: ds, h => by
    obtain ⟨q, rfl, hq⟩ := box_yes (h d List.mem_cons_self)
    obtain ⟨bs, rfl, hb⟩ := boxes_yes (ds := ds) fun d hd => h d (List.mem_cons_of_mem _ hd)
    refine ⟨q :: bs, rfl, fun r hr => ?_⟩
    rcases List.mem_cons.mp hr with rfl | hr
    · exact hq
    · exact hb r hr
def bD : Option Int → PyData | some n => .int n | none => .none
def bV : Option Int → V | some n => .int n | none => .non
def bOk (b : Option Int) : Prop := ∀ n, b = some n → 0 ≤ n ∧ n ≤ 1000
theorem begin_yes {d : PyData} (h : beginD d = true) : ∃ b, d = bD b ∧ bOk b := by
  cases d with
  | none => exact ⟨none, rfl, fun n h => nomatch h⟩
  | int n =>
    have h' : betD (.int n) 0 1000 = true := h
    obtain ⟨m, e, h1, h2⟩ := bet_yes h'
    cases e
    exact ⟨some n, rfl, fun k e => by cases e; exact ⟨h1, h2⟩⟩
  | _ => cases h
theorem begin_ok {b : Option Int} (h : bOk b) : beginD (bD b) = true := by
  cases b with
  | none => rfl
  | some n =>
    obtain ⟨h1, h2⟩ := h n rfl
    show betD (.int n) 0 1000 = true
    rw [bet_int, decide_eq_true h1, decide_eq_true h2]
    rfl
theorem due_begin {b l m x : PyData} (h : beginD b = false) : wayDue b l m x = some (.inl "begin") := by
  unfold wayDue
  rw [if_pos h]
theorem due_none {b l m x : PyData} (h : wayDue b l m x = none) : ∃ (bo : Option Int) (li mi : Int) (bs : List Bx), b = bD bo ∧ bOk bo ∧ l = .int li ∧ m = .int mi ∧ (1 ≤ li ∧ li ≤ mi ∧ mi ≤ 50) ∧ itemsD x = some (bs.map bxD) ∧ bs.length ≤ 3 ∧ ∀ q ∈ bs, bxOk q li mi := by
  unfold wayDue at h
  cases h1 : beginD b with
  | false => rw [h1, if_pos rfl] at h; cases h
  | true =>
    rw [h1, if_neg (by decide)] at h
    cases h2 : delaysD l m with
    | false => rw [h2, if_pos rfl] at h; cases h
    | true =>
      rw [h2, if_neg (by decide)] at h
      obtain ⟨li, mi, rfl, rfl, d1, d2, d3⟩ := delays_yes h2
      cases h3 : (isSeqD x && (decide ((0 : Int) ≤ (lenD x : Int)) && decide ((lenD x : Int) ≤ 3))) with
      | false => rw [h3, if_pos rfl] at h; cases h
      | true =>
        rw [h3, if_neg (by decide)] at h
        obtain ⟨bo, rfl, hb⟩ := begin_yes h1
        have h4 := (Bool.and_eq_true_iff.mp (Bool.and_eq_true_iff.mp h3).2).2
        rw [decide_eq_true_eq] at h4
        have fin : ∀ ds : List PyData, itemsD x = some ds → lenD x = ds.length → (ds.findIdx? fun d => !boxD d li mi) = none → ∃ (bo' : Option Int) (li' mi' : Int) (bs : List Bx), bD bo = bD bo' ∧ bOk bo' ∧ PyData.int li = .int li' ∧ PyData.int mi = .int mi' ∧ (1 ≤ li' ∧ li' ≤ mi' ∧ mi' ≤ 50) ∧ itemsD x = some (bs.map bxD) ∧ bs.length ≤ 3 ∧ ∀ q ∈ bs, bxOk q li' mi' := by
          intro ds hi hl hf
          rw [List.findIdx?_eq_none_iff] at hf
          obtain ⟨bs, rfl, hbs⟩ := boxes_yes (ds := ds) (l := li) (m := mi) fun d hd => by
            have z := hf d hd
            cases hz : boxD d li mi with
            | true => rfl
            | false => rw [hz] at z; cases z
          refine ⟨bo, li, mi, bs, rfl, hb, rfl, rfl, ⟨d1, d2, d3⟩, hi, ?_, hbs⟩
          rw [hl, List.length_map] at h4
          omega
        cases x with
        | list ds =>
          refine fin ds rfl rfl ?_
          have h' : (ds.findIdx? fun d => !boxD d li mi).map (Sum.inr (α := Str)) = none := h
          rwa [Option.map_eq_none_iff] at h'
        | tuple ds =>
          refine fin ds rfl rfl ?_
          have h' : (ds.findIdx? fun d => !boxD d li mi).map (Sum.inr (α := Str)) = none := h
          rwa [Option.map_eq_none_iff] at h'
        | _ => cases h3
theorem due_ok {bo : Option Int} {li mi : Int} {bs : List Bx} {x : PyData} (hb : bOk bo) (hd : 1 ≤ li ∧ li ≤ mi ∧ mi ≤ 50) (hx : x = .list (bs.map bxD) ∨ x = .tuple (bs.map bxD)) (hl : bs.length ≤ 3) (hbs : ∀ q ∈ bs, bxOk q li mi) : wayDue (bD bo) (.int li) (.int mi) x = none := by
  have h2 : delaysD (.int li) (.int mi) = true := by
    simp only [delaysD]
    rw [decide_eq_true hd.1, decide_eq_true hd.2.1, decide_eq_true hd.2.2]
    rfl
  have hf : ((bs.map bxD).findIdx? fun d => !boxD d li mi) = none := by
    rw [List.findIdx?_eq_none_iff]
    intro d hd
    obtain ⟨q, hq, rfl⟩ := List.mem_map.mp hd
    rw [box_ok (hbs q hq)]
    rfl
  have h4 : decide (((bs.map bxD).length : Int) ≤ 3) = true := by
    rw [List.length_map]
    exact decide_eq_true (by omega)
  have h5 : decide ((0 : Int) ≤ ((bs.map bxD).length : Int)) = true := decide_eq_true (by omega)
  unfold wayDue
  rw [begin_ok hb, if_neg (by decide), h2, if_neg (by decide)]
  rcases hx with rfl | rfl
  · have h3 : (isSeqD (.list (bs.map bxD)) && (decide ((0 : Int) ≤ (lenD (.list (bs.map bxD)) : Int)) && decide ((lenD (.list (bs.map bxD)) : Int) ≤ 3))) = true := by
      show (true && (decide ((0 : Int) ≤ ((bs.map bxD).length : Int)) && decide (((bs.map bxD).length : Int) ≤ 3))) = true
      rw [h4, h5]
      rfl
    rw [h3, if_neg (by decide)]
    show ((bs.map bxD).findIdx? fun d => !boxD d li mi).map (Sum.inr (α := Str)) = none
    rw [hf]
    rfl
  · have h3 : (isSeqD (.tuple (bs.map bxD)) && (decide ((0 : Int) ≤ (lenD (.tuple (bs.map bxD)) : Int)) && decide ((lenD (.tuple (bs.map bxD)) : Int) ≤ 3))) = true := by
      show (true && (decide ((0 : Int) ≤ ((bs.map bxD).length : Int)) && decide (((bs.map bxD).length : Int) ≤ 3))) = true
      rw [h4, h5]
      rfl
    rw [h3, if_neg (by decide)]
    show ((bs.map bxD).findIdx? fun d => !boxD d li mi).map (Sum.inr (α := Str)) = none
    rw [hf]
    rfl
theorem eqv_bx (q r : Bx) : PyData.eqv (bxD q) (bxD r) = decide (q = r) := by
  obtain ⟨a, b, c, d⟩ := q
  obtain ⟨a', b', c', d'⟩ := r
  have h := eqv_ints [a, b, c, d] [a', b', c', d']
  show PyData.eqvAll [.int a, .int b, .int c, .int d] [.int a', .int b', .int c', .int d'] = _
  rw [show PyData.eqvAll [.int a, .int b, .int c, .int d] [.int a', .int b', .int c', .int d'] = decide ([a, b, c, d] = [a', b', c', d']) from h]
  simp
theorem eqv_bxs : ∀ (bs cs : List Bx), PyData.eqvAll (bs.map bxD) (cs.map bxD) = decide (bs = cs)
  | [], [] => rfl
  | [], _ :: _ => rfl
  | _ :: _, [] => rfl
  | b :: bs, c :: cs => by
    show (PyData.eqv (bxD b) (bxD c) && PyData.eqvAll (bs.map bxD) (cs.map bxD)) = _
    rw [eqv_bx, eqv_bxs bs cs, Bool.eq_iff_iff]
    simp
theorem lay_bxs : ∀ bs : List Bx, PyData.canLayAll0 (bs.map bxD) = true ∧ PyData.depthAll (bs.map bxD) ≤ 1
  | [] => ⟨rfl, Nat.zero_le _⟩
  | b :: bs => by
    obtain ⟨h1, h2⟩ := lay_bxs bs
    constructor
    · show ((bxD b).canLay0 && PyData.canLayAll0 (bs.map bxD)) = true
      rw [h1]
      rfl
    · show max (bxD b).depth (PyData.depthAll (bs.map bxD)) ≤ 1
      exact Nat.max_le.mpr ⟨Nat.le_refl 1, h2⟩
theorem shp_bxs (bs : List Bx) : SeqAt.shaped (.tuple (bs.map bxD)) = true := by
  obtain ⟨h1, h2⟩ := lay_bxs bs
  show (PyData.canLayAll0 (bs.map bxD) && decide (PyData.depthAll (bs.map bxD) + 1 ≤ 64)) = true
  rw [h1, decide_eq_true (by omega)]
  rfl
section
variable {P : Program} {w : World} {K : PySem.W.Frag} {mg : Str → Option Value} {base : Heap} {A : Ad}
theorem bV_dp {H : Hp} (b : Option Int) : Dp K H (bV b) (bD b) := by cases b <;> first | exact .non | exact .int _
theorem bV_of {H : Hp} {v : V} {b : Option Int} (h : Dp K H v (bD b)) : v = bV b := by
  cases b with
  | none => cases h; rfl
  | some n => cases h; rfl
theorem bV_eq (b c : Option Int) : decide (bV b = bV c) = decide (b = c) := by cases b <;> cases c <;> simp [bV]
theorem bV_sc (b c : Option Int) : scal (bV b) (bV c) = true := by cases b <;> cases c <;> rfl
def MyWay (K : PySem.W.Frag) (A : Ad) (H : Hp) (p : Addr) (b : Option Int) (l m : Int) (bs : List Bx) : Prop := WayAt K A H p (bV b) (.int l) (.int m) (bs.map bxD)
theorem MyWay.ext {H H' : Hp} {p : Addr} {b : Option Int} {l m : Int} {bs : List Bx} (h : MyWay K A H p b l m bs) (e : Ext H H') : MyWay K A H' p b l m bs := by
  obtain ⟨dx, T', xs, h1, h2, h3⟩ := h
  exact ⟨dx, T', xs, e _ _ h1, h2.ext e, dps_ext e _ _ h3⟩
def spWindow (K : PySem.W.Frag) (A : Ad) : Sp := fun vs H Q _ => ∃ p b l m bs, vs = [.ref p] ∧ MyWay K A H p b l m bs ∧ (b = none → Q .non H) ∧ ∀ n, b = some n → ∀ t H', Ext H H' → H' t = some (.tup [.int (n + 2 * l), .int (n + 2 * m)]) → Q (.ref t) H'
theorem ok_window {f : Addr} {fd : FuncData} (F : Fun K "window" "Way.window" s_Way_window f fd) (T : Txt K mg A) : FnOk P w K mg base CX0 1 f fd pm_Way_window (spWindow K A) := by
  refine F.ok sc_Way_window (fun vs H Q E h => ?_) (fun cdv A' outer s H vs Q E hr h => ?_)
  · obtain ⟨_, _, _, _, _, rfl, _⟩ := h
    rfl
  · obtain ⟨p, b, l, m, bs, rfl, ⟨dx, T', xs, hp, hT, ha⟩, q0, q1⟩ := h
    refine ⟨_, pss_cons (ps_if (pt_cmpR op_isN (pe_fld (pv 0) rfl) (pe_non) (nomark _)) (pss_one (ps_ret (pe_non))) (pss_nil))
      (pss_one (ps_ret (pe_tup (pa_cons (pe_op op_add (pe_fld (pv 0) rfl) (pe_op op_mul (pe_int) (pe_fld (pv 0) rfl))) (pa_cons (pe_op op_add (pe_fld (pv 0) rfl) (pe_op op_mul (pe_int) (pe_fld (pv 0) rfl))) pa_nil))))), ?_⟩
    refine ⟨_, rfl, p, A.Way, dx, _, _, rfl, hp, T.Way.cl, T.w_begin, rfl, rfl, _, rfl, ?_⟩
    cases b with
    | none => exact iteT (q0 rfl)
    | some n =>
      refine iteF ?_
      refine ⟨_, rfl, p, A.Way, dx, _, _, rfl, hp, T.Way.cl, T.w_begin, rfl, _, rfl, p, A.Way, dx, _, _, rfl, hp, T.Way.cl, T.w_least, rfl, _, _, rfl, rfl, .inl ⟨by decide, by decide⟩, _, _, rfl, rfl, ?_⟩
      refine ⟨_, rfl, p, A.Way, dx, _, _, rfl, hp, T.Way.cl, T.w_begin, rfl, _, rfl, p, A.Way, dx, _, _, rfl, hp, T.Way.cl, T.w_most, rfl, _, _, rfl, rfl, .inl ⟨by decide, by decide⟩, _, _, rfl, rfl, ?_⟩
      exact ⟨by show 2 ≤ sizeLine; decide, fun t ht => q1 n rfl t _ (Ext.upd ht) upd_same⟩
def spWayEq (K : PySem.W.Frag) (A : Ad) : Sp := fun vs H Q _ => ∃ p b l m bs v, vs = [.ref p, v] ∧ MyWay K A H p b l m bs ∧
  ((∃ q b' l' m' bs', v = .ref q ∧ MyWay K A H q b' l' m' bs' ∧ Q (.bl (decide (b = b' ∧ l = l' ∧ m = m' ∧ bs = bs'))) H) ∨ ∃ d, Dp K H v d ∧ Q (.bl false) H)
theorem ok_wayEq {f : Addr} {fd : FuncData} (F : Fun K "__eq__" "Way.__eq__" s_Way_eq f fd) (T : Txt K mg A) : FnOk P w K mg base CX0 1 f fd pm_Way_eq (spWayEq K A) := by
  refine F.ok sc_Way_eq (fun vs H Q E h => ?_) (fun cdv A' outer s H vs Q E hr h => ?_)
  · obtain ⟨_, _, _, _, _, _, rfl, _⟩ := h
    rfl
  · obtain ⟨p, b, l, m, bs, v, rfl, ⟨dx, T', xs, hp, hT, ha⟩, h⟩ := h
    refine ⟨_, pss_cons (ps_if (PW.pt (pw_or (pt_not (pt_val (pe_callB call_isi (by rfl) T.n_isinstance (by decide +kernel) (pa_cons (pv 1) (pa_cons (pe_gcls T.Way.gC) pa_nil))))) (pw_or1 (pt_cmpR op_ne (pe_fld (pv 0) rfl) (pe_fld (pv 1) rfl) (nomark _))))) (pss_one (ps_ret (pe_bl))) (pss_nil))
      (pss_one (ps_ret (pe_and (pe_cmpR op_eq (pe_fld (pv 0) rfl) (pe_fld (pv 1) rfl) (nomark _)) (pe_and (pe_cmpR op_eq (pe_fld (pv 0) rfl) (pe_fld (pv 1) rfl) (nomark _)) (pe_one (pe_cmpR (op_eqD hr.units) (pe_fld (pv 0) rfl) (pe_fld (pv 1) rfl) (nomark _))))))), ?_⟩
    rcases h with ⟨q, b', l', m', bs', rfl, ⟨dy, T2, ys, hq, hT2, ha2⟩, k⟩ | ⟨d, hd, h⟩
    · refine ⟨_, rfl, _, .ref A.Way, .ref A.Way, .ref A.Way, true, rfl, .own _, T.Way.tyOf hq, T.Way.me, _, rfl, ?_⟩
      refine iteF ?_
      refine ⟨_, rfl, p, A.Way, dx, _, _, rfl, hp, T.Way.cl, T.w_begin, rfl, _, rfl, q, A.Way, dy, _, _, rfl, hq, T.Way.cl, T.w_begin, rfl, bV_sc _ _, _, rfl, ?_⟩
      rw [bV_eq]
      by_cases h1 : b = b'
      · rw [decide_eq_true h1]
        refine iteF ?_
        refine ⟨_, rfl, p, A.Way, dx, _, _, rfl, hp, T.Way.cl, T.w_least, rfl, _, rfl, q, A.Way, dy, _, _, rfl, hq, T.Way.cl, T.w_least, rfl, rfl, _, rfl, ?_⟩
        rw [dvi]
        by_cases h2 : l = l'
        · rw [decide_eq_true h2]
          refine iteT ?_
          refine ⟨_, rfl, p, A.Way, dx, _, _, rfl, hp, T.Way.cl, T.w_most, rfl, _, rfl, q, A.Way, dy, _, _, rfl, hq, T.Way.cl, T.w_most, rfl, rfl, _, rfl, ?_⟩
          rw [dvi]
          by_cases h3 : m = m'
          · rw [decide_eq_true h3]
            refine iteT ?_
            refine ⟨_, rfl, p, A.Way, dx, _, _, rfl, hp, T.Way.cl, T.w_boxes, rfl, _, rfl, q, A.Way, dy, _, _, rfl, hq, T.Way.cl, T.w_boxes, rfl, ?_⟩
            refine ⟨_, _, .tup hT ha, .tup hT2 ha2, shp_bxs _, shp_bxs _, ?_⟩
            show Q (.bl (PyData.eqvAll (bs.map bxD) (bs'.map bxD))) H
            rw [eqv_bxs]
            have e : decide (b = b' ∧ l = l' ∧ m = m' ∧ bs = bs') = decide (bs = bs') := by simp [h1, h2, h3]
            rw [e] at k
            exact k
          · rw [decide_eq_false h3]
            rw [decide_eq_false (by simp [h3])] at k
            exact iteF k
        · rw [decide_eq_false h2]
          rw [decide_eq_false (by simp [h2])] at k
          exact iteF k
      · rw [decide_eq_false h1]
        rw [decide_eq_false (by simp [h1])] at k
        exact iteT k
    · refine ⟨_, rfl, _, .ref A.Way, .type (tnD d), .ref A.Way, false, rfl, .own _, dp_ty hd, T.Way.kitB (sub_ty_ref kd_find) rfl, _, rfl, ?_⟩
      exact iteT h
end
end K18

set_option Elab.async false
set_option maxRecDepth 100000
set_option maxHeartbeats 4000000
namespace K18
open PySem PySem.Spec PyProof.Rows L2
section
variable {P : Program} {w : World} {K : PySem.W.Frag} {mg : Str → Option Value} {base : Heap} {A : Ad}
theorem all_map {xs : List V} {f : V → Bool} : xs.map (fun x => V.bl (f x)) = (xs.map f).map V.bl := by
  rw [List.map_map]
  rfl
theorem all_id {xs : List V} {f : V → Bool} : (xs.map f).all id = xs.all f := by
  rw [List.all_map]
  rfl
def spCheckWays (K : PySem.W.Frag) (A : Ad) : Sp := fun vs H Q E => ∃ (v : V) (t : Value) (k : Bool) (xs : List V) (g : V → Bool), vs = [v] ∧ (∀ H', Ext H H' → TyX K H' v t) ∧ PySem.W.kitAny K t [.type "list", .type "tuple"] = some k ∧ (k = true → ∃ p, v = .ref p ∧ (SqL K H p xs ∨ SqT K H p xs)) ∧ xs.length ≤ 1000 ∧
  (∀ x ∈ xs, ∃ tx, (∀ H', Ext H H' → TyX K H' x tx) ∧ PySem.W.kitOne K tx (.ref A.Way) = some (g x)) ∧
  ((k && (decide ((1 : Int) ≤ (xs.length : Int)) && decide ((xs.length : Int) ≤ 4)) && xs.all g) = false → ∀ H', Ext H H' → ∀ e, H' e = none → E (.ref A.BadPart) (some e) (upd H' e (.xd [("part", .str "ways")]))) ∧
  ((k && (decide ((1 : Int) ≤ (xs.length : Int)) && decide ((xs.length : Int) ≤ 4)) && xs.all g) = true → ∀ H', Ext H H' → Q .non H')
theorem ok_checkWays {f : Addr} {fd : FuncData} (F : Fun K "check_ways" "check_ways" s_check_ways f fd) (T : Txt K mg A) (O_is_list_of : Own P w K mg base CX0 "is_list_of" 2 pm_is_list_of (spListOf K)) (X_BadPart : XCls P w K mg base "BadPart" "part" A.BadPart) : FnOk P w K mg base (L2.CX P w) 4 f fd pm_check_ways (spCheckWays K A) := by
  refine F.okX sc_check_ways (fun vs H Q E h => ?_) (fun cdv A' outer s H vs Q E hr h => ?_)
  · obtain ⟨_, _, _, _, _, rfl, _⟩ := h
    rfl
  · obtain ⟨v, t, k, xs, g, rfl, hv, hk, hp, hsm, hx, qE, qQ⟩ := h
    have hIsi : ∀ s1 H1 sc ce fp, CallR ((cxOf (L2.CX P w) P w K mg base nm_check_ways "check_ways" (defScope s_check_ways) f cdv A' outer s H E).blk s1 H1 sc ce fp) (.builtin "isinstance") (rIsi K) := fun s1 H1 sc ce fp =>
      call_isi (X := (cxOf (L2.CX P w) P w K mg base nm_check_ways "check_ways" (defScope s_check_ways) f cdv A' outer s H E).blk s1 H1 sc ce fp)
    refine ⟨_, pss_one (ps_if (PW.pt (pw_or (pt_not (pt_val (pe_own O_is_list_of (hr.mono (by decide)) pass0 (pa_cons (pv 0) (pa_cons (pe_int) (pa_cons (pe_gint T.g_MOST_WAYS) pa_nil)))))) (pw_or1 (pt_not (pt_val (pe_callB (cr_all rfl) (by rfl) T.n_all (by decide +kernel) (pa_cons (pe_lc (own := [("way", 1)]) (g := gName 1) (by rfl) sc_check_ways.nd (pi_sq (pv 0)) (blkOk_by (own := [("way", 1)]) (N := nm_check_ways) (sc := defScope s_check_ways) (by decide +kernel)) (fun _ _ _ _ _ => pg_name (i := 1) sc_check_ways.nd rfl (Or.inl rfl)) (fun s1 H1 C1 cl fp => pts_nil) (fun s1 H1 C1 cl fp => pe_callB (hIsi _ _ _ _ _) (by rfl) T.n_isinstance (by decide +kernel) (pa_cons (pv 1) (pa_cons (pe_gcls T.Way.gC) pa_nil)))) pa_nil))))))) (pss_one (ps_raise rfl (takes_of rfl rfl rfl rfl) (pmk_X X_BadPart (hr.mono (by decide)) (pe_str) rfl))) (pss_nil)), ?_⟩
    refine ⟨v, rfl, v, t, k, 1, 4, xs, rfl, hv, hk, hp, fun H1 e1 => ⟨_, rfl, ?_⟩⟩
    cases h1 : (k && (decide ((1 : Int) ≤ (xs.length : Int)) && decide ((xs.length : Int) ≤ 4))) with
    | false =>
      rw [h1] at qE
      exact iteT (mkX_fin fun e he => qE rfl _ e1 e he)
    | true =>
      rw [h1] at qE qQ
      refine iteF ?_
      have hkt : k = true := (Bool.and_eq_true_iff.mp h1).1
      obtain ⟨p, rfl, hseq⟩ := hp hkt
      refine ⟨_, rfl, p, rfl, lc_sqG (f := fun x => .bl (g x)) (b := fun _ => true) (hseq.imp (fun h => h.ext e1) (fun h => h.ext e1)) (small1000 hsm) (fun x => rfl) (fun x hm H' e' Q' q' => q' _ Ext.rfl') (fun x hm _ H' e' Q' q' => ?_) (fun D H2 hD e2 hl => ?_)⟩
      · obtain ⟨tx, t1, t2⟩ := hx x hm
        exact ⟨x, rfl, x, .ref A.Way, tx, .ref A.Way, g x, rfl, .own _, t1 _ (e1.trans e'), t2, q' _ Ext.rfl'⟩
      · rw [L2.filter_all, all_map] at hl
        refine ⟨D, xs.map g, rfl, SqL.of hl, _, rfl, ?_⟩
        rw [all_id]
        cases h2 : xs.all g with
        | false =>
          rw [h2] at qE
          exact iteT (mkX_fin fun e he => qE rfl _ (e1.trans e2) e he)
        | true =>
          rw [h2] at qQ
          exact iteF (qQ rfl _ (e1.trans e2))
def spCheckSilent (K : PySem.W.Frag) (A : Ad) : Sp := fun vs H Q E => ∃ (v : V) (d : PyData), vs = [v] ∧ Dp K H v d ∧ (betD d 0 3 = false → ∀ H', Ext H H' → ∀ e, H' e = none → E (.ref A.BadPart) (some e) (upd H' e (.xd [("part", .str "silent")]))) ∧ (betD d 0 3 = true → Q .non H)
theorem ok_checkSilent {f : Addr} {fd : FuncData} (F : Fun K "check_silent" "check_silent" s_check_silent f fd) (T : Txt K mg A) (O_is_between : Own P w K mg base CX0 "is_between" 2 pm_is_between (spBetween K)) (X_BadPart : XCls P w K mg base "BadPart" "part" A.BadPart) : FnOk P w K mg base (L2.CX P w) 4 f fd pm_check_silent (spCheckSilent K A) := by
  refine F.okX sc_check_silent (fun vs H Q E h => ?_) (fun cdv A' outer s H vs Q E hr h => ?_)
  · obtain ⟨_, _, rfl, _⟩ := h
    rfl
  · obtain ⟨v, d, rfl, hd, qE, qQ⟩ := h
    refine ⟨_, pss_one (ps_if (pt_not (pt_val (pe_own O_is_between (hr.mono (by decide)) pass0 (pa_cons (pv 0) (pa_cons (pe_int) (pa_cons (pe_gint T.g_MOST_SILENT) pa_nil)))))) (pss_one (ps_raise rfl (takes_of rfl rfl rfl rfl) (pmk_X X_BadPart (hr.mono (by decide)) (pe_str) rfl))) (pss_nil)), ?_⟩
    refine ⟨v, rfl, v, d, 0, 3, rfl, hd, _, rfl, ?_⟩
    cases h1 : betD d 0 3 with
    | false => exact iteT (mkX_fin fun e he => qE h1 _ Ext.rfl' e he)
    | true => exact iteF (qQ h1)
/-- a race at p: its ways' tuple and its silent -/
def rF (x z : V) : List (Str × V) := [("ways", x), ("silent", z)]
def spIndex (K : PySem.W.Frag) : Sp := fun vs H Q _ => ∃ v d n, vs = [v, .int n] ∧ Dp K H v d ∧ Q (.bl (betD d 0 (n - 1))) H
theorem ok_index {f : Addr} {fd : FuncData} (F : Fun K "is_index" "is_index" s_is_index f fd) (O_is_between : Own P w K mg base CX0 "is_between" 2 pm_is_between (spBetween K)) : FnOk P w K mg base CX0 3 f fd pm_is_index (spIndex K) := by
  refine F.ok sc_is_index (fun vs H Q E h => ?_) (fun cdv A' outer s H vs Q E hr h => ?_)
  · obtain ⟨_, _, _, rfl, _⟩ := h
    rfl
  · obtain ⟨v, d, n, rfl, hd, q⟩ := h
    refine ⟨_, pss_one (ps_ret (pe_own O_is_between (hr.mono (by decide)) pass0 (pa_cons (pv 0) (pa_cons (pe_int) (pa_cons (pe_op op_sub (pv 1) (pe_int)) pa_nil))))), ?_⟩
    exact ⟨v, rfl, _, rfl, _, _, rfl, rfl, v, d, 0, n - 1, rfl, hd, q⟩
/-! ### the constructor -/
def spRaceInit (K : PySem.W.Frag) (A : Ad) : Sp := fun vs H Q E => ∃ (p dx : Addr) (v z : V) (dz : PyData) (t : Value) (k : Bool) (xs : List V) (g : V → Bool), vs = [.ref p, v, z] ∧ H p = some (.ins A.Race dx []) ∧ Dp K H z dz ∧ (∀ H', Ext H H' → TyX K H' v t) ∧
  PySem.W.kitAny K t [.type "list", .type "tuple"] = some k ∧ (k = true → ∃ p, v = .ref p ∧ (SqL K H p xs ∨ SqT K H p xs)) ∧ xs.length ≤ 1000 ∧ (∀ x ∈ xs, ∃ tx, (∀ H', Ext H H' → TyX K H' x tx) ∧ PySem.W.kitOne K tx (.ref A.Way) = some (g x)) ∧
  ((k && (decide ((1 : Int) ≤ (xs.length : Int)) && decide ((xs.length : Int) ≤ 4)) && xs.all g) = false → ∀ H', Ext H H' → ∀ e, H' e = none → E (.ref A.BadPart) (some e) (upd H' e (.xd [("part", .str "ways")]))) ∧
  ((k && (decide ((1 : Int) ≤ (xs.length : Int)) && decide ((xs.length : Int) ≤ 4)) && xs.all g) = true → betD dz 0 3 = false → ∀ H', Ext H H' → ∀ e, H' e = none → E (.ref A.BadPart) (some e) (upd H' e (.xd [("part", .str "silent")]))) ∧
  ((k && (decide ((1 : Int) ≤ (xs.length : Int)) && decide ((xs.length : Int) ≤ 4)) && xs.all g) = true → betD dz 0 3 = true → ∀ H', (∃ T, H' p = some (.ins A.Race dx (rF (.ref T) z)) ∧ SqT K H' T xs) → (∀ x o, x ≠ p → H x = some o → H' x = some o) → Q .non H')
theorem ok_raceInit {f : Addr} {fd : FuncData} (F : Fun K "__init__" "Race.__init__" s_Race_init f fd) (T : Txt K mg A) (O_check_ways : Own P w K mg base (L2.CX P w) "check_ways" 4 pm_check_ways (spCheckWays K A)) (O_check_silent : Own P w K mg base (L2.CX P w) "check_silent" 4 pm_check_silent (spCheckSilent K A)) : FnOk P w K mg base (L2.CX P w) 6 f fd pm_Race_init (spRaceInit K A) := by
  refine F.okX sc_Race_init (fun vs H Q E h => ?_) (fun cdv A' outer s H vs Q E hr h => ?_)
  · obtain ⟨_, _, _, _, _, _, _, _, _, rfl, _⟩ := h
    rfl
  · obtain ⟨p, dx, v, z, dz, t, k, xs, g, rfl, hp, hz, hv, hk, hseq, hsm, hx, q1, q2, q3⟩ := h
    refine ⟨_, pss_cons (ps_expr (pe_ownS O_check_ways (hr.mono (by decide)) (takes_of rfl rfl rfl rfl) (pa_cons (pv 1) pa_nil)))
      (pss_cons (ps_expr (pe_ownS O_check_silent (hr.mono (by decide)) (takes_of rfl rfl rfl rfl) (pa_cons (pv 2) pa_nil)))
      (pss_cons (ps_fld (pv 0) (pe_callTy call_tuple_of (by rfl) T.n_tuple (by decide +kernel) (pa_cons (pv 1) pa_nil)) rfl)
      (pss_one (ps_fld (pv 0) (pv 2) rfl)))), ?_⟩
    refine ⟨_, rfl, v, t, k, xs, g, rfl, hv, hk, hseq, hsm, hx, q1, fun hok H1 e1 => ?_⟩
    refine ⟨_, rfl, z, dz, rfl, dp_ext e1 _ _ hz, fun hb H2 e2 e he => q2 hok hb _ (e1.trans e2) e he, fun hb => ?_⟩
    have hkt : k = true := (Bool.and_eq_true_iff.mp (Bool.and_eq_true_iff.mp hok).1).1
    obtain ⟨a, rfl, hs⟩ := hseq hkt
    have hp1 := e1 _ _ hp
    rcases hs with hs | hs
    · refine ⟨_, rfl, a, xs, rfl, .inl ⟨hs.ext e1, fun l hl => ⟨_, rfl, p, A.Race, dx, [], rfl, Ext.upd hl _ _ hp1, T.Race.cl, T.r_ways, (by show 0 < 1000; decide), ?_⟩⟩⟩
      have npl : p ≠ l := ne_of_none hp1 hl
      refine ⟨_, rfl, _, rfl, p, A.Race, dx, _, rfl, upd_same, T.Race.cl, T.r_silent, (by show 1 < 1000; decide), ?_⟩
      refine q3 hok hb _ ⟨l, upd_same, SqT.of (by rw [upd_ne npl.symm, upd_ne npl.symm]; exact upd_same)⟩ fun x o hxp ho => ?_
      rw [upd_ne hxp, upd_ne hxp]
      exact Ext.upd hl _ _ (e1 _ _ ho)
    · refine ⟨_, rfl, a, xs, rfl, .inr ⟨hs.ext e1, _, rfl, p, A.Race, dx, [], rfl, hp1, T.Race.cl, T.r_ways, (by show 0 < 1000; decide), ?_⟩⟩
      refine ⟨_, rfl, _, rfl, p, A.Race, dx, _, rfl, upd_same, T.Race.cl, T.r_silent, (by show 1 < 1000; decide), ?_⟩
      refine q3 hok hb _ ⟨a, upd_same, sqT_mut (H' := upd (upd H1 p _) p _) hp1 (fun x o hxp ho => by rw [upd_ne hxp, upd_ne hxp]; exact ho) (hs.ext e1)⟩ fun x o hxp ho => ?_
      rw [upd_ne hxp, upd_ne hxp]
      exact e1 _ _ ho
end
end K18

set_option Elab.async false
set_option maxRecDepth 100000
set_option maxHeartbeats 4000000
namespace K18
open PySem PySem.Spec PyProof.Rows L2
section
variable {P : Program} {w : World} {K : PySem.W.Frag} {mg : Str → Option Value} {base : Heap} {A : Ad}
def WayD (K : PySem.W.Frag) (A : Ad) (H : Hp) (p : Addr) (d : Wd) : Prop := MyWay K A H p d.1 d.2.1 d.2.2 []
def Rway (K : PySem.W.Frag) (A : Ad) : Addr → Addr → Hp → Bool → Prop := fun a b H k => ∃ d d', WayD K A H a d ∧ WayD K A H b d' ∧ k = decide (d = d')
theorem wd_ins {H : Hp} {a : Addr} {d : Wd} (h : WayD K A H a d) : ∃ dx fs, H a = some (.ins A.Way dx fs) := by
  obtain ⟨dx, T, xs, h1, _⟩ := h
  exact ⟨dx, _, h1⟩
theorem wd_uniq {H : Hp} {a : Addr} {d d' : Wd} (h : WayD K A H a d) (h' : WayD K A H a d') : d = d' := by
  obtain ⟨dx, T, xs, h1, _⟩ := h
  obtain ⟨dx', T', xs', h1', _⟩ := h'
  rw [h1] at h1'
  obtain ⟨b, l, m⟩ := d
  obtain ⟨b', l', m'⟩ := d'
  have e := Option.some.inj h1'
  injection e with _ _ e
  unfold wF at e
  injection e with e1 e
  injection e with e2 e
  injection e with e3 e
  injection e1 with _ e1
  injection e2 with _ e2
  injection e3 with _ e3
  injection e2 with e2
  injection e3 with e3
  have e1' : bV b = bV b' := e1
  have eb : b = b' := by
    cases b <;> cases b' <;> first | rfl | (cases e1'; done) | (injection e1' with q; rw [q])
  rw [eb, show l = l' from e2, show m = m' from e3]
abbrev DWay (K : PySem.W.Frag) (A : Ad) : EqvB := DInsB A.Way (Rway K A)
theorem mon_way : MonB (DWay K A) := fun x y H H' k e d => by
  obtain ⟨a, b, dx, dy, fs, gs, rfl, rfl, h1, h2, d1, d2, w1, w2, hk⟩ := d
  exact ⟨a, b, dx, dy, fs, gs, rfl, rfl, e _ _ h1, e _ _ h2, d1, d2, w1.ext e, w2.ext e, hk⟩
theorem way_imp {H : Hp} {Q : VK} {E : XK} {vs : List V} (h : spEqB (Rway K A) vs H Q E) : spWayEq K A vs H Q E := by
  obtain ⟨a, b, k, rfl, ⟨d, d', w1, w2, rfl⟩, q⟩ := h
  obtain ⟨b1, l1, m1⟩ := d
  obtain ⟨b2, l2, m2⟩ := d'
  refine ⟨a, b1, l1, m1, [], .ref b, rfl, w1, .inl ⟨b, b2, l2, m2, [], rfl, w2, ?_⟩⟩
  have z := q H Ext.rfl'
  rwa [show decide ((b1, l1, m1) = (b2, l2, m2)) = decide (b1 = b2 ∧ l1 = l2 ∧ m1 = m2 ∧ ([] : List Bx) = []) by simp] at z
theorem eqB_way {X : Cx} (O : OwnM X.prog X.w X.K X.mg X.base CX0 A.Way "__eq__" 1 pm_Way_eq (spWayEq X.K A)) : EqB X 1 (DWay X.K A) := by
  obtain ⟨f, fd, F, M, hi, hb⟩ := O.ex
  refine (rcB_ins (E := E0) (F.imp fun vs H Q E h => way_imp h) M.at_ hi hb pass0).eqB fun x y H k d => ?_
  obtain ⟨a, b, _, _, _, _, rfl, rfl, _, _, d1, d2, w1, w2, rfl⟩ := d
  refine ⟨a, b, rfl, rfl, fun e => ?_⟩
  subst e
  exact decide_eq_true (wd_uniq w1 w2)
/-- ways that stand in a tuple -/
def Ways (K : PySem.W.Frag) (A : Ad) (H : Hp) (ws : List V) (ds : List Wd) : Prop := ws.length = ds.length ∧ ∀ (i : Nat) (x : V) (d : Wd), ws[i]? = some x → ds[i]? = some d → ∃ q, x = .ref q ∧ WayD K A H q d
theorem Ways.ext {H H' : Hp} {ws : List V} {ds : List Wd} (h : Ways K A H ws ds) (e : Ext H H') : Ways K A H' ws ds := ⟨h.1, fun i x d h1 h2 => by
  obtain ⟨q, e1, w⟩ := h.2 i x d h1 h2
  exact ⟨q, e1, w.ext e⟩⟩
theorem zip_all : ∀ {ds ds' : List Wd}, ds.length = ds'.length → (List.zipWith (fun d d' => decide (d = d')) ds ds').all id = decide (ds = ds')
  | [], [], _ => rfl
  | [], _ :: _, h => nomatch h
  | _ :: _, [], h => nomatch h
  | d :: ds, d' :: ds', h => by
    rw [List.zipWith_cons_cons, List.all_cons, zip_all (Nat.succ.inj h), Bool.eq_iff_iff]
    simp
/-- two tuples of ways of one length compare as what they are told by -/
theorem tup_ways {H : Hp} {a b : Addr} {ws vs : List V} {ds es : List Wd} (ha : SqT K H a ws) (hb : SqT K H b vs) (hw : Ways K A H ws ds) (hv : Ways K A H vs es) (hl : ds.length = es.length) : DTupB K (DWay K A) (.ref a) (.ref b) H (decide (ds = es)) := by
  refine ⟨a, b, ws, vs, List.zipWith (fun d d' => decide (d = d')) ds es, rfl, rfl, ha, hb, by rw [hw.1, hv.1, hl], by rw [List.length_zipWith, hw.1, ← hl, Nat.min_self], fun i x y c h1 h2 h3 => ?_, (zip_all hl).symm⟩
  rw [List.getElem?_zipWith] at h3
  cases e1 : ds[i]? with
  | none => rw [e1] at h3; cases h3
  | some d =>
    cases e2 : es[i]? with
    | none => rw [e1, e2] at h3; cases h3
    | some d' =>
      rw [e1, e2] at h3
      cases h3
      obtain ⟨q, rfl, w1⟩ := hw.2 i x d h1 e1
      obtain ⟨r, rfl, w2⟩ := hv.2 i y d' h2 e2
      obtain ⟨dx, fs, i1⟩ := wd_ins w1
      obtain ⟨dy, gs, i2⟩ := wd_ins w2
      exact ⟨q, r, dx, dy, fs, gs, rfl, rfl, i1, i2, d, d', w1, w2, rfl⟩
def RaceD (K : PySem.W.Frag) (A : Ad) (H : Hp) (p : Addr) (ds : List Wd) (z : Int) : Prop := ∃ dx T ws, H p = some (.ins A.Race dx (rF (.ref T) (.int z))) ∧ SqT K H T ws ∧ Ways K A H ws ds
theorem RaceD.ext {H H' : Hp} {p : Addr} {ds : List Wd} {z : Int} (h : RaceD K A H p ds z) (e : Ext H H') : RaceD K A H' p ds z := by
  obtain ⟨dx, T, ws, h1, h2, h3⟩ := h
  exact ⟨dx, T, ws, e _ _ h1, h2.ext e, h3.ext e⟩
def spRaceEq (K : PySem.W.Frag) (A : Ad) : Sp := fun vs H Q _ => ∃ p ds z v, vs = [.ref p, v] ∧ RaceD K A H p ds z ∧
  ((∃ q es z', v = .ref q ∧ RaceD K A H q es z' ∧ ds.length = es.length ∧ ∀ H', Ext H H' → Q (.bl (decide (ds = es ∧ z = z'))) H') ∨ ∃ a ws, v = .ref a ∧ SqT K H a ws ∧ Q (.bl false) H)
theorem ok_raceEq {f : Addr} {fd : FuncData} (F : Fun K "__eq__" "Race.__eq__" s_Race_eq f fd) (T : Txt K mg A) (O_Way_eq : OwnM P w K mg base CX0 A.Way "__eq__" 1 pm_Way_eq (spWayEq K A)) : FnOk P w K mg base CX0 4 f fd pm_Race_eq (spRaceEq K A) := by
  refine F.ok sc_Race_eq (fun vs H Q E h => ?_) (fun cdv A' outer s H vs Q E hr h => ?_)
  · obtain ⟨_, _, _, _, rfl, _⟩ := h
    rfl
  · obtain ⟨p, ds, z, v, rfl, ⟨dx, T1, ws, hp, hT, hw⟩, h⟩ := h
    refine ⟨_, pss_one (ps_ret (pe_and (pe_callB call_isi (by rfl) T.n_isinstance (by decide +kernel) (pa_cons (pv 1) (pa_cons (pe_gcls T.Race.gC) pa_nil))) (pe_and (pe_cmpR (op_eqB (rcB_tup mon_way (eqB_way O_Way_eq)) (hr.mono (by decide))) (pe_fld (pv 0) rfl) (pe_fld (pv 1) rfl) (nomark _)) (pe_one (pe_cmpR op_eq (pe_fld (pv 0) rfl) (pe_fld (pv 1) rfl) (nomark _)))))), ?_⟩
    rcases h with ⟨q, es, z', rfl, ⟨dy, T2, us, hq, hT2, hv⟩, hl, k⟩ | ⟨a, us, rfl, ha, h⟩
    · refine ⟨_, rfl, _, .ref A.Race, .ref A.Race, .ref A.Race, true, rfl, .own _, T.Race.tyOf hq, T.Race.me, _, rfl, ?_⟩
      refine iteT ?_
      refine ⟨_, rfl, p, A.Race, dx, _, _, rfl, hp, T.Race.cl, T.r_ways, rfl, _, rfl, q, A.Race, dy, _, _, rfl, hq, T.Race.cl, T.r_ways, rfl, ?_⟩
      refine ⟨_, tup_ways hT hT2 hw hv hl, fun H1 e1 => ⟨_, rfl, ?_⟩⟩
      by_cases h1 : ds = es
      · rw [decide_eq_true h1]
        refine iteT ?_
        refine ⟨_, rfl, p, A.Race, dx, _, _, rfl, e1 _ _ hp, T.Race.cl, T.r_silent, rfl, _, rfl, q, A.Race, dy, _, _, rfl, e1 _ _ hq, T.Race.cl, T.r_silent, rfl, rfl, ?_⟩
        have kk := k H1 e1
        rw [show decide (ds = es ∧ z = z') = decide (V.int z = V.int z') by rw [dvi]; simp [h1]] at kk
        exact kk
      · rw [decide_eq_false h1]
        have kk := k H1 e1
        rw [decide_eq_false (fun h => h1 h.1)] at kk
        exact iteF kk
    · have kf : PySem.W.kitOne K (.type "tuple") (.ref A.Race) = some false := T.Race.kitB (sub_ty_ref (by decide +kernel)) rfl
      have ty : TyX K H (.ref a) (.type "tuple") := by
        rcases ha with (h | ⟨o, h⟩) | ⟨o, its, n, e, c, _⟩
        · exact .base (.tup h)
        · exact .fTuple h
        · exact .kTuple e c
      refine ⟨_, rfl, _, .ref A.Race, .type "tuple", .ref A.Race, false, rfl, .own _, ty, kf, _, rfl, ?_⟩
      exact iteF h
end
end K18

set_option Elab.async false
set_option maxRecDepth 100000
set_option maxHeartbeats 4000000
namespace K18
open PySem PySem.Spec PyProof.Rows L2
/-! ### the state that is drawn from: a list of four numbers -/
def StB (H : Hp) (b : Addr) : Prop := ∃ x0 x1 x2 x3 : Int, H b = some (.lst [.int x0, .int x1, .int x2, .int x3])
def ExtB (b : Addr) (H H' : Hp) : Prop := ∀ x o, x ≠ b → H x = some o → H' x = some o
theorem ExtB.rfl' {b : Addr} {H : Hp} : ExtB b H H := fun _ _ _ h => h
theorem ExtB.trans {b : Addr} {H H1 H2 : Hp} (a : ExtB b H H1) (c : ExtB b H1 H2) : ExtB b H H2 := fun x o h1 e => c x o h1 (a x o h1 e)
theorem Ext.b {b : Addr} {H H' : Hp} (h : Ext H H') : ExtB b H H' := fun x o _ e => h x o e
theorem StB.ext {b : Addr} {H H' : Hp} (h : StB H b) (e : Ext H H') : StB H' b := by
  obtain ⟨x0, x1, x2, x3, hb⟩ := h
  exact ⟨x0, x1, x2, x3, e _ _ hb⟩
theorem StB.new {b l : Addr} {H : Hp} (h : StB H b) (hl : H l = none) : l ≠ b := by
  obtain ⟨x0, x1, x2, x3, hb⟩ := h
  exact (ne_of_none hb hl).symm
theorem StB.upd {b l : Addr} {H : Hp} {o : HO} (h : StB H b) (hb : l ≠ b) : StB (L2.upd H l o) b := by
  obtain ⟨x0, x1, x2, x3, h1⟩ := h
  exact ⟨x0, x1, x2, x3, by rw [upd_ne hb.symm]; exact h1⟩
theorem ExtB.mut {b l : Addr} {H H' : Hp} {o : HO} (e : ExtB b H H') (hl : H l = none) : ExtB b H (L2.upd H' l o) := fun x u h1 h => by
  rw [upd_ne (ne_of_none h hl)]
  exact e x u h1 h
theorem ExtB.none {b t : Addr} {H H' : Hp} (e : ExtB b H H') (h1 : t ≠ b) (h : H' t = none) : H t = none := by
  cases z : H t with
  | none => rfl
  | some o =>
    rw [e t o h1 z] at h
    cases h
theorem ExtB.set {b : Addr} {H : Hp} {o : HO} : ExtB b H (L2.upd H b o) := fun x u h1 h => by
  rw [upd_ne h1]
  exact h
theorem sqL_b {K : PySem.W.Frag} {a b : Addr} {H H' : Hp} {xs : List V} (h : SqL K H a xs) (n : a = b → ∀ H', SqL K H' a xs) (e : ExtB b H H') : SqL K H' a xs := by
  by_cases hab : a = b
  · exact n hab _
  · exact h.elim (fun h => .inl (h.elim (fun h => .inl (e _ _ hab h)) fun ⟨o, h⟩ => .inr ⟨o, e _ _ hab h⟩)) fun h => .inr h
theorem sqL_new {K : PySem.W.Frag} {a b : Addr} {H : Hp} {xs : List V} (h : SqL K H a xs) (hb : H b = none) : a = b → ∀ H', SqL K H' a xs := by
  rintro rfl H'
  rcases h with (h | ⟨o, h⟩) | h
  · rw [hb] at h
    cases h
  · rw [hb] at h
    cases h
  · exact .inr h
section
variable {P : Program} {w : World} {K : PySem.W.Frag} {mg : Str → Option Value} {base : Heap} {A : Ad}
def spStart (K : PySem.W.Frag) : Sp := fun vs H Q _ => ∃ (a : Addr) (ns : List Int), vs = [.ref a] ∧ SqL K H a (ns.map V.int) ∧ ns.length ≤ 63 ∧ ∀ b H', H b = none → StB H' b → Ext H H' → Q (.ref b) H'
theorem ok_start {f : Addr} {fd : FuncData} (F : Fun K "_law_start" "_law_start" s__law_start f fd) (T : Txt K mg A) : FnOk P w K mg base CX0 1 f fd pm__law_start (spStart K) := by
  refine F.ok sc__law_start (fun vs H Q E h => ?_) (fun cdv A' outer sh H vs Q E hr h => ?_)
  · obtain ⟨_, _, rfl, _⟩ := h
    rfl
  · obtain ⟨a, ns, rfl, hS, hlen, k⟩ := h
    refine ⟨_, pss_cons (ps_set (i := 1) sc__law_start.nd rfl (Or.inl rfl) (pe_int))
      (Evl.pss_cut (ps_if (pt_cmpR op_gt (pe_callB call_len_seq (by rfl) T.n_len (by decide +kernel) (pa_cons (pv 0) pa_nil)) (pe_int) (nomark _)) (pss_one (ps_set (i := 1) sc__law_start.nd rfl (Or.inl rfl) (pe_ix ix_list (pv 0) (pe_int) (fun _ _ => rfl)))) (pss_nil))
      (pss_one (ps_ret (pe_lst (pa_cons (pe_callB call_abs (by rfl) T.n_abs (by decide +kernel) (pa_cons (pe_callTy call_int1 (by rfl) T.n_int (by decide +kernel) (pa_cons (pv 1) pa_nil)) pa_nil)) (pa_cons (pe_callTy call_int1 (by rfl) T.n_int (by decide +kernel) (pa_cons (pe_cmpR op_ge (pe_callB call_abs (by rfl) T.n_abs (by decide +kernel) (pa_cons (pe_callTy call_int1 (by rfl) T.n_int (by decide +kernel) (pa_cons (pv 1) pa_nil)) pa_nil)) (pe_op op_pow (pe_int) (pe_int)) (nomark _)) pa_nil)) (pa_cons (pe_int) (pa_cons (pe_int) pa_nil)))))))), ?_⟩
    refine ⟨fun σ H' => H' = H ∧ ∃ c, σ = [some (.ref a), some (.int c)], ?_, ?_⟩
    · refine ⟨_, rfl, a, _, rfl, .inl hS, _, _, rfl, rfl, _, rfl, ?_⟩
      cases ns with
      | nil => exact iteF ⟨rfl, 0, rfl⟩
      | cons n ns =>
        rw [List.length_map, List.length_cons, decide_eq_true (show ((ns.length + 1 : Nat) : Int) > 0 by omega)]
        exact iteT ⟨_, rfl, a, _, ((0 : Nat) : Int), .int n, rfl, rfl, hS, atI_nat rfl, rfl, n, rfl⟩
    · rintro σ H' ⟨rfl, c, rfl⟩
      refine ⟨_, rfl, .inl ⟨c, rfl, _, rfl, ?_⟩⟩
      refine ⟨_, rfl, .inl ⟨c, rfl, _, rfl, _, _, rfl, rfl, ⟨by decide, by decide, by decide⟩, _, _, rfl, rfl, .inr ⟨_, rfl, by show 4 ≤ sizeLine; decide, fun p hp => ?_⟩⟩⟩
      exact k p _ hp ⟨_, _, _, _, upd_same⟩ (Ext.upd hp)
end
section
variable {P : Program} {w : World} {K : PySem.W.Frag} {mg : Str → Option Value} {base : Heap} {A : Ad}
def spDrawB (K : PySem.W.Frag) : Sp := fun vs H Q _ => ∃ (a b : Addr) (ns : List Int) (L : Int), vs = [.ref a, .ref b, .int L] ∧ SqL K H a (ns.map V.int) ∧ (a = b → ∀ H', SqL K H' a (ns.map V.int)) ∧ StB H b ∧ 1 ≤ L ∧ L ≤ 2000000 ∧ ∀ n H', 0 ≤ n → n < L → StB H' b → ExtB b H H' → Q (.int n) H'
theorem ok_draw {f : Addr} {fd : FuncData} (F : Fun K "_law_draw" "_law_draw" s__law_draw f fd) (T : Txt K mg A) : FnOk P w K mg base CX0 1 f fd pm__law_draw (spDrawB K) := by
  refine F.ok sc__law_draw (fun vs H Q E h => ?_) (fun cdv A' outer sh H vs Q E hr h => ?_)
  · obtain ⟨_, _, _, _, rfl, _⟩ := h
    rfl
  · obtain ⟨a, b, ns, L, rfl, hS, nab, ⟨x0, x1, x2, x3, hb⟩, hL, hL2, k⟩ := h
    refine ⟨_, pss_cons (ps_asg (pe_op op_add (pe_ix ix_list (pv 1) (pe_int) (fun _ _ => rfl)) (pe_int)) (pg_sub (pv 1) (pe_int) set_list))
      (pss_cons (ps_if (PW.pt (pw_and (pt_cmpR op_eq (pe_ix ix_list (pv 1) (pe_int) (fun _ _ => rfl)) (pe_int) (nomark _)) (pw_and1 (pt_cmpR op_gt (pe_ix ix_list (pv 1) (pe_int) (fun _ _ => rfl)) (pe_int) (nomark _))))) (pss_cons (ps_set (i := 3) sc__law_draw.nd rfl (Or.inl rfl) (pe_op op_modN (pe_callTy call_int1 (by rfl) T.n_int (by decide +kernel) (pa_cons (pe_ix ix_list (pv 1) (pe_int) (fun _ _ => rfl)) pa_nil)) (pv 2)))
      (pss_cons (ps_asg (pe_op op_fdivN (pe_ix ix_list (pv 1) (pe_int) (fun _ _ => rfl)) (pv 2)) (pg_sub (pv 1) (pe_int) set_list))
      (pss_one (ps_ret (pv 3))))) (pss_nil))
      (pss_cons (ps_asg (pe_int) (pg_sub (pv 1) (pe_int) set_list))
      (pss_cons (ps_set (i := 4) sc__law_draw.nd rfl (Or.inl rfl) (pe_int))
      (Evl.pss_cut (ps_if (pt_cmpR op_gt (pe_callB call_len_seq (by rfl) T.n_len (by decide +kernel) (pa_cons (pv 0) pa_nil)) (pe_int) (nomark _)) (pss_one (ps_set (i := 4) sc__law_draw.nd rfl (Or.inl rfl) (pe_ix ix_list (pv 0) (pe_op op_modN (pe_callTy call_int1 (by rfl) T.n_int (by decide +kernel) (pa_cons (pe_ix ix_list (pv 1) (pe_int) (fun _ _ => rfl)) pa_nil)) (pe_callB call_len_seq (by rfl) T.n_len (by decide +kernel) (pa_cons (pv 0) pa_nil))) (fun _ _ => rfl)))) (pss_nil))
      (pss_cons (ps_asg (pe_op op_add (pe_ix ix_list (pv 1) (pe_int) (fun _ _ => rfl)) (pe_int)) (pg_sub (pv 1) (pe_int) set_list))
      (pss_cons (ps_set (i := 5) sc__law_draw.nd rfl (Or.inl rfl) (pe_op op_mul (pe_op op_mod (pe_callTy call_int1 (by rfl) T.n_int (by decide +kernel) (pa_cons (pe_ix ix_list (pv 1) (pe_int) (fun _ _ => rfl)) pa_nil)) (pe_int)) (pe_int)))
      (pss_cons (ps_set (i := 5) sc__law_draw.nd rfl (Or.inl rfl) (pe_op op_add (pe_op op_add (pe_op op_add (pv 5) (pe_op op_mod (pe_callTy call_int1 (by rfl) T.n_int (by decide +kernel) (pa_cons (pv 4) pa_nil)) (pe_int))) (pe_op op_mul (pe_int) (pe_ix ix_list (pv 1) (pe_int) (fun _ _ => rfl)))) (pe_int)))
      (pss_cons (ps_asg (pe_op op_mod (pe_callTy call_int1 (by rfl) T.n_int (by decide +kernel) (pa_cons (pv 5) pa_nil)) (pe_int)) (pg_sub (pv 1) (pe_int) set_list))
      (pss_cons (ps_set (i := 5) sc__law_draw.nd rfl (Or.inl rfl) (pe_op op_mod (pe_callTy call_int1 (by rfl) T.n_int (by decide +kernel) (pa_cons (pe_op op_add (pe_op op_mul (pe_ix ix_list (pv 1) (pe_int) (fun _ _ => rfl)) (pe_int)) (pe_ix ix_list (pv 1) (pe_int) (fun _ _ => rfl))) pa_nil)) (pe_int)))
      (pss_one (ps_ret (pe_op op_modN (pe_callTy call_int1 (by rfl) T.n_int (by decide +kernel) (pa_cons (pe_op op_fdiv (pv 5) (pe_int)) pa_nil)) (pv 2))))))))))))), ?_⟩
    refine ⟨_, rfl, b, _, 3, .int x3, rfl, rfl, SqL.of hb, rfl, _, _, rfl, rfl, _, rfl, b, _, 3, 3, rfl, rfl, hb, rfl, ?_⟩
    have hb1 : upd H b (.lst ([V.int x0, .int x1, .int x2, .int x3].set 3 (.int (x3 + 1)))) b = some (.lst [.int x0, .int x1, .int x2, .int (x3 + 1)]) := upd_same
    have e1 : ExtB b H (upd H b (.lst ([V.int x0, .int x1, .int x2, .int x3].set 3 (.int (x3 + 1))))) := ExtB.set
    generalize upd H b (.lst ([V.int x0, .int x1, .int x2, .int x3].set 3 (.int (x3 + 1)))) = H1 at hb1 e1 ⊢
    refine ⟨_, rfl, b, _, 1, .int x1, rfl, rfl, SqL.of hb1, rfl, rfl, _, rfl, ?_⟩
    rw [dvi]
    by_cases h1 : x1 = 1
    case' pos =>
      rw [decide_eq_true h1]
      refine iteT ⟨_, rfl, b, _, 0, .int x0, rfl, rfl, SqL.of hb1, rfl, _, _, rfl, rfl, _, rfl, ?_⟩
      by_cases h0 : x0 > 0
      case' pos =>
        rw [decide_eq_true h0]
        refine iteT ⟨_, rfl, b, _, 0, .int x0, rfl, rfl, SqL.of hb1, rfl, .inl ⟨_, rfl, _, rfl, _, _, rfl, rfl, (by show L ≠ 0; omega), ?_⟩⟩
        refine ⟨_, rfl, b, _, 0, .int x0, rfl, rfl, SqL.of hb1, rfl, _, rfl, _, _, rfl, rfl, ⟨by omega, by omega⟩, _, rfl, b, _, 0, 0, rfl, rfl, hb1, rfl, _, rfl, ?_⟩
        exact k _ _ (Int.fmod_nonneg_of_pos _ (by omega)) (Int.fmod_lt_of_pos _ (by omega)) ⟨_, _, _, _, upd_same⟩ (e1.trans ExtB.set)
      case' neg =>
        rw [decide_eq_false h0]
        refine iteF ?_
    case' neg =>
      rw [decide_eq_false h1]
      refine iteF (iteF ?_)
    all_goals (
      refine ⟨_, rfl, b, _, 1, 1, rfl, rfl, hb1, rfl, ?_⟩
      have hb2 : upd H1 b (.lst ([V.int x0, .int x1, .int x2, .int (x3 + 1)].set 1 (.int 0))) b = some (.lst [.int x0, .int 0, .int x2, .int (x3 + 1)]) := upd_same
      have e2 : ExtB b H (upd H1 b (.lst ([V.int x0, .int x1, .int x2, .int (x3 + 1)].set 1 (.int 0)))) := e1.trans ExtB.set
      generalize upd H1 b (.lst ([V.int x0, .int x1, .int x2, .int (x3 + 1)].set 1 (.int 0))) = H2 at hb2 e2 ⊢
      have hS2 := sqL_b hS nab e2
      refine ⟨fun σ H' => H' = H2 ∧ ∃ c, σ = [some (.ref a), some (.ref b), some (.int L), Option.none, some (.int c), Option.none], ?_, ?_⟩
      · refine ⟨_, rfl, a, _, rfl, .inl hS2, _, _, rfl, rfl, _, rfl, ?_⟩
        by_cases hn : ns = []
        · subst hn
          exact iteF ⟨rfl, 0, rfl⟩
        · have hlp : 0 < (ns.length : Int) := by
            have := List.length_pos_iff.mpr hn
            omega
          rw [List.length_map, decide_eq_true hlp]
          obtain ⟨j, hj⟩ : ∃ j : Nat, x2.fmod (ns.length : Int) = (j : Int) := ⟨(x2.fmod (ns.length : Int)).toNat, (Int.toNat_of_nonneg (Int.fmod_nonneg_of_pos _ hlp)).symm⟩
          have hjl : j < ns.length := by
            have z := Int.fmod_lt_of_pos x2 hlp
            omega
          have hj' : x2.fmod ((ns.map V.int).length : Int) = (j : Int) := by rw [List.length_map]; exact hj
          have hjv : (ns.map V.int)[j]? = some (.int ns[j]) := by rw [List.getElem?_map, List.getElem?_eq_getElem hjl] <;> rfl
          refine iteT ⟨_, rfl, _, rfl, b, _, 2, .int x2, rfl, rfl, SqL.of hb2, rfl, .inl ⟨_, rfl, _, rfl, a, _, rfl, .inl hS2, _, _, rfl, rfl, (by show ((ns.map V.int).length : Int) ≠ 0; rw [List.length_map]; omega), a, _, _, .int ns[j], rfl, rfl, hS2, by rw [hj']; exact atI_nat hjv, rfl, _, rfl⟩⟩
      · rintro σ H2' ⟨rfl, c, rfl⟩
        refine ⟨_, rfl, b, _, 2, .int x2, rfl, rfl, SqL.of hb2, rfl, _, _, rfl, rfl, _, rfl, b, _, 2, 2, rfl, rfl, hb2, rfl, ?_⟩
        have hb3 : upd H2' b (.lst ([V.int x0, .int 0, .int x2, .int (x3 + 1)].set 2 (.int (x2 + 1)))) b = some (.lst [.int x0, .int 0, .int (x2 + 1), .int (x3 + 1)]) := upd_same
        have e3 : ExtB b H (upd H2' b (.lst ([V.int x0, .int 0, .int x2, .int (x3 + 1)].set 2 (.int (x2 + 1))))) := e2.trans ExtB.set
        generalize upd H2' b (.lst ([V.int x0, .int 0, .int x2, .int (x3 + 1)].set 2 (.int (x2 + 1)))) = H3 at hb3 e3 ⊢
        refine ⟨_, rfl, b, _, 0, .int x0, rfl, rfl, SqL.of hb3, rfl, .inl ⟨_, rfl, _, _, rfl, rfl, (by show (0 : Int) < 2147483647; decide), _, _, rfl, rfl, .inr ⟨by decide, by decide⟩, ?_⟩⟩
        refine ⟨_, rfl, _, rfl, .inl ⟨_, rfl, _, _, rfl, rfl, (by show (0 : Int) < 2147483629; decide), _, _, rfl, rfl, _, rfl, b, _, 3, .int (x3 + 1), rfl, rfl, SqL.of hb3, rfl, _, _, rfl, rfl, .inl ⟨by decide, by decide⟩, _, _, rfl, rfl, _, _, rfl, rfl, ?_⟩⟩
        refine ⟨_, rfl, .inl ⟨_, rfl, _, _, rfl, rfl, (by show (0 : Int) < 2147483647; decide), _, rfl, b, _, 0, 0, rfl, rfl, hb3, rfl, ?_⟩⟩
        generalize x0 % 2147483647 * 48271 + c % 2147483629 + 7 * (x3 + 1) + 11 = mx
        have hb4 : upd H3 b (.lst ([V.int x0, .int 0, .int (x2 + 1), .int (x3 + 1)].set 0 (.int (mx % 2147483647)))) b = some (.lst [.int (mx % 2147483647), .int 0, .int (x2 + 1), .int (x3 + 1)]) := upd_same
        have e4 : ExtB b H (upd H3 b (.lst ([V.int x0, .int 0, .int (x2 + 1), .int (x3 + 1)].set 0 (.int (mx % 2147483647))))) := e3.trans ExtB.set
        generalize upd H3 b (.lst ([V.int x0, .int 0, .int (x2 + 1), .int (x3 + 1)].set 0 (.int (mx % 2147483647)))) = H4 at hb4 e4 ⊢
        refine ⟨_, rfl, b, _, 0, .int (mx % 2147483647), rfl, rfl, SqL.of hb4, rfl, _, _, rfl, rfl, .inr ⟨by decide, by decide⟩, _, rfl, b, _, 3, .int (x3 + 1), rfl, rfl, SqL.of hb4, rfl, _, _, rfl, rfl, .inl ⟨_, rfl, _, _, rfl, rfl, (by show (0 : Int) < 2147483629; decide), ?_⟩⟩
        refine ⟨_, rfl, _, _, rfl, rfl, ⟨by decide, by decide⟩, .inl ⟨_, rfl, _, rfl, _, _, rfl, rfl, (by show L ≠ 0; omega), ?_⟩⟩
        exact k _ _ (Int.fmod_nonneg_of_pos _ (by omega)) (Int.fmod_lt_of_pos _ (by omega)) ⟨_, _, _, _, hb4⟩ e4)
/-- the three numbers of a way, as they stand in a tuple -/
def w3 (d : Wd) : List V := [bV d.1, .int d.2.1, .int d.2.2]
def goodW (d : Wd) : Prop := (∀ n, d.1 = some n → 0 ≤ n ∧ n ≤ 4) ∧ 1 ≤ d.2.1 ∧ d.2.1 ≤ d.2.2 ∧ d.2.2 ≤ 10
/-- tuples of such numbers -/
def TupsB (b : Addr) (H : Hp) (qs : List V) (ds : List Wd) : Prop := qs.length = ds.length ∧ ∀ (i : Nat) (x : V) (d : Wd), qs[i]? = some x → ds[i]? = some d → goodW d ∧ ∃ q, x = .ref q ∧ H q = some (.tup (w3 d)) ∧ q ≠ b
theorem TupsB.to {b : Addr} {H H' : Hp} {qs : List V} {ds : List Wd} (h : TupsB b H qs ds) (e : ∀ q d, q ≠ b → H q = some (.tup (w3 d)) → H' q = some (.tup (w3 d))) : TupsB b H' qs ds := ⟨h.1, fun i x d h1 h2 => by
  obtain ⟨g, q, e1, e2, e3⟩ := h.2 i x d h1 h2
  exact ⟨g, q, e1, e q _ e3 e2, e3⟩⟩
theorem TupsB.snoc {b q : Addr} {H : Hp} {qs : List V} {ds : List Wd} {d : Wd} (h : TupsB b H qs ds) (g : goodW d) (hq : H q = some (.tup (w3 d))) (nb : q ≠ b) : TupsB b H (qs ++ [.ref q]) (ds ++ [d]) := by
  refine ⟨by rw [List.length_append, List.length_append, h.1]; rfl, fun i x e h1 h2 => ?_⟩
  by_cases hi : i < qs.length
  · rw [List.getElem?_append_left hi] at h1
    rw [List.getElem?_append_left (by rw [← h.1]; exact hi)] at h2
    exact h.2 i x e h1 h2
  · rw [List.getElem?_append_right (by omega)] at h1
    rw [List.getElem?_append_right (by rw [← h.1]; omega), ← h.1] at h2
    cases hj : i - qs.length with
    | zero =>
      rw [hj] at h1 h2
      cases h1
      cases h2
      exact ⟨g, q, rfl, hq, nb⟩
    | succ j =>
      rw [hj] at h1
      cases h1
def spWaysB (K : PySem.W.Frag) : Sp := fun vs H Q _ => ∃ (a b : Addr) (ns : List Int), vs = [.ref a, .ref b] ∧ SqL K H a (ns.map V.int) ∧ (a = b → ∀ H', SqL K H' a (ns.map V.int)) ∧ StB H b ∧
  ∀ D qs ds H', H D = none → H' D = some (.lst qs) → D ≠ b → TupsB b H' qs ds → 1 ≤ ds.length → ds.length ≤ 3 → StB H' b → ExtB b H H' → Q (.ref D) H'
theorem ok_ways {f : Addr} {fd : FuncData} (F : Fun K "_law_ways" "_law_ways" s__law_ways f fd) (T : Txt K mg A) (O__law_draw : Own P w K mg base CX0 "_law_draw" 1 pm__law_draw (spDrawB K)) : FnOk P w K mg base CX0 2 f fd pm__law_ways (spWaysB K) := by
  refine F.ok sc__law_ways (fun vs H Q E h => ?_) (fun cdv A' outer sh H vs Q E hr h => ?_)
  · obtain ⟨_, _, _, rfl, _⟩ := h
    rfl
  · obtain ⟨a, b, ns, rfl, hS, nab, hst, k⟩ := h
    refine ⟨_, pss_cons (ps_set (i := 2) sc__law_ways.nd rfl (Or.inl rfl) (pe_lst (pa_nil)))
      (pss_cons (ps_for PassesOwn.never rfl (pi_range1 rfl T.n_range (pa_cons (pe_op op_add (pe_int) (pe_own O__law_draw (hr.mono (by decide)) pass0 (pa_cons (pv 0) (pa_cons (pv 1) (pa_cons (pe_int) pa_nil))))) pa_nil)) (pg_name (i := 3) sc__law_ways.nd rfl (Or.inl rfl)) (pss_cons (ps_set (i := 4) sc__law_ways.nd rfl (Or.inl rfl) (pe_own O__law_draw (hr.mono (by decide)) pass0 (pa_cons (pv 0) (pa_cons (pv 1) (pa_cons (pe_int) pa_nil)))))
      (Evl.pss_cut (ps_if (pt_cmpR op_eq (pv 4) (pe_int) (nomark _)) (pss_one (ps_set (i := 4) sc__law_ways.nd rfl (Or.inl rfl) (pe_non))) (pss_nil))
      (pss_cons (ps_set (i := 5) sc__law_ways.nd rfl (Or.inl rfl) (pe_op op_add (pe_int) (pe_own O__law_draw (hr.mono (by decide)) pass0 (pa_cons (pv 0) (pa_cons (pv 1) (pa_cons (pe_int) pa_nil))))))
      (pss_one (ps_expr (pe_bm PySem.F.plainAttrs_list PySem.F.slot_list_append PySem.F.type_list_append mt_append (pv 2) (pa_cons (pe_tup (pa_cons (pv 4) (pa_cons (pv 5) (pa_cons (pe_op op_add (pv 5) (pe_callTy call_int1 (by rfl) T.n_int (by decide +kernel) (pa_cons (pe_cmpR op_eq (pe_own O__law_draw (hr.mono (by decide)) pass0 (pa_cons (pv 0) (pa_cons (pv 1) (pa_cons (pe_int) pa_nil)))) (pe_int) (nomark _)) pa_nil))) pa_nil)))) pa_nil))))))))
      (pss_one (ps_ret (pv 2)))), ?_⟩
    refine ⟨by show 0 ≤ sizeLine; decide, fun D hD => ?_⟩
    have nDb := hst.new hD
    have e0 := Ext.upd (o := .lst []) hD
    have st0 := hst.ext e0
    have hD0 : upd H D (.lst []) D = some (.lst []) := upd_same
    generalize upd H D (.lst []) = H0 at e0 st0 hD0 ⊢
    have hS0 := hS.ext e0
    refine ⟨_, rfl, _, rfl, a, b, ns, 3, rfl, hS0, nab, st0, by omega, by omega, fun n H1 n0 n3 st1 x1 => ⟨_, _, rfl, rfl, 1 + n, rfl, by omega, by omega, ?_⟩⟩
    have hD1 := x1 D _ nDb hD0
    refine for_range (fun i σ' H' => ∃ o3 o4 o5 qs ds, σ' = [some (.ref a), some (.ref b), some (.ref D), o3, o4, o5] ∧ H' D = some (.lst qs) ∧ ds.length = i ∧ TupsB b H' qs ds ∧ StB H' b ∧ ExtB b H H') ⟨_, _, _, [], [], rfl, hD1, rfl, ⟨rfl, fun i x d h => nomatch h⟩, st1, (Ext.b e0).trans x1⟩ (fun i σ' H2 hi pv => ?_) (fun σ' H2 pv => ?_)
    · obtain ⟨o3, o4, o5, qs, ds, rfl, hl, hlen, ht, st2, x2⟩ := pv
      have hS2 := sqL_b hS nab x2
      refine ⟨_, rfl, _, rfl, a, b, ns, 6, rfl, hS2, nab, st2, by omega, by omega, fun n6 H3 n60 n66 st3 x3 => ?_⟩
      have hS3 := sqL_b hS2 nab x3
      refine ⟨fun σ H' => H' = H3 ∧ ∃ bo, σ = [some (.ref a), some (.ref b), some (.ref D), some (.int (0 + (i : Int))), some (bV bo), o5] ∧ ∀ n, bo = some n → 0 ≤ n ∧ n ≤ 4, ?_, ?_⟩
      · refine ⟨_, rfl, rfl, _, rfl, ?_⟩
        rw [dvi]
        by_cases h5 : n6 = 5
        · rw [decide_eq_true h5]
          exact iteT ⟨rfl, none, rfl, fun n h => nomatch h⟩
        · rw [decide_eq_false h5]
          exact iteF ⟨rfl, some n6, rfl, fun m h => by cases h; omega⟩
      · rintro σ H3' ⟨rfl, bo, rfl, hbo⟩
        refine ⟨_, rfl, _, rfl, a, b, ns, 2, rfl, hS3, nab, st3, by omega, by omega, fun d2 H4 d20 d22 st4 x4 => ⟨_, _, rfl, rfl, ?_⟩⟩
        have hl4 := (x3.trans x4) D _ nDb hl
        refine ⟨_, rfl, .inl ⟨rfl, _, SqL.of hl4⟩, _, rfl, _, rfl, _, rfl, _, rfl, _, rfl, a, b, ns, 3, rfl, sqL_b hS3 nab x4, nab, st4, by omega, by omega, fun d3 H5 d30 d33 st5 x5 => ⟨rfl, .inr ⟨_, rfl, _, _, rfl, rfl, by show 3 ≤ sizeLine; decide, fun q hq => ?_⟩⟩⟩
        have eq := Ext.upd (o := .tup [bV bo, .int (1 + d2), .int (1 + d2 + (if decide (V.int d3 = V.int 0) = true then 1 else 0))]) hq
        have hq1 : (upd H5 q (.tup [bV bo, .int (1 + d2), .int (1 + d2 + (if decide (V.int d3 = V.int 0) = true then 1 else 0))])) q = some (.tup [bV bo, .int (1 + d2), .int (1 + d2 + (if decide (V.int d3 = V.int 0) = true then 1 else 0))]) := upd_same
        have nqb := st5.new hq
        have st6 := st5.ext eq
        have hl6 := eq _ _ (x5 D _ nDb hl4)
        have x26 := (((x3.trans x4).trans x5).trans (Ext.b eq))
        have hm : ∃ u : Int, u = (if decide (V.int d3 = V.int 0) = true then 1 else 0) ∧ 0 ≤ u ∧ u ≤ 1 := by
          cases decide (V.int d3 = V.int 0)
          · exact ⟨0, rfl, by decide, by decide⟩
          · exact ⟨1, rfl, by decide, by decide⟩
        obtain ⟨u, hu, u0, u1⟩ := hm
        have nqD : q ≠ D := (ne_of_none (x5 D _ nDb hl4) hq).symm
        refine ⟨D, qs, _, rfl, rfl, hl6, Nat.lt_trans (show qs.length < 20 by rw [ht.1, hlen]; omega) (by decide), _, _, _, qs ++ [.ref q], ds ++ [(bo, 1 + d2, 1 + d2 + u)], rfl, upd_same, by rw [List.length_append, hlen]; rfl, ?_, st6.upd nDb, (x2.trans x26).mut hD⟩
        refine TupsB.snoc (ht.to fun r d nrb hr => ?_) ⟨hbo, by show 1 ≤ 1 + d2; omega, by show 1 + d2 ≤ 1 + d2 + u; omega, by show 1 + d2 + u ≤ 10; omega⟩ (by rw [upd_ne nqD, hu]; exact hq1) nqb
        have hr6 := x26 r _ nrb hr
        rw [upd_ne (fun z => by rw [z, hl6] at hr6; cases hr6)]
        exact hr6
    · obtain ⟨o3, o4, o5, qs, ds, rfl, hl, hlen, ht, st2, x2⟩ := pv
      exact ⟨_, rfl, k D qs ds H2 hD hl nDb ht (by omega) (by omega) st2 x2⟩
end
end K18

set_option Elab.async false
set_option maxRecDepth 100000
set_option maxHeartbeats 4000000
namespace K18
open PySem PySem.Spec PyProof.Rows L2
section
variable {P : Program} {w : World} {K : PySem.W.Frag} {mg : Str → Option Value} {base : Heap} {A : Ad}
/-- a way without boxes is made, by the default -/
theorem mk_way0 {H1 : Hp} {d : Wd} {R : VK} {E : XK} {x0 dx : Addr} (T : Txt K mg A) (hx0 : H1 x0 = none) (hdx : H1 dx = none) (hne : dx ≠ x0) (hb : bOk d.1) (hd : 1 ≤ d.2.1 ∧ d.2.1 ≤ d.2.2 ∧ d.2.2 ≤ 50)
    (q : ∀ H', Ext H1 H' → WayD K A H' x0 d → R .non H') : spWayInit K A (.ref x0 :: [bV d.1, .int d.2.1, .int d.2.2, .ref A.T0]) (upd (upd H1 dx (.own x0)) x0 (.ins A.Way dx [])) R E := by
  have e0 := (Ext.upd (o := .own x0) hdx).upd' (o := .ins A.Way dx []) (by rw [upd_ne hne.symm]; exact hx0)
  have due := due_ok (bs := []) (x := .tuple []) hb hd (.inr rfl) (Nat.zero_le _) (fun q h => nomatch h)
  refine ⟨x0, dx, bV d.1, .int d.2.1, .int d.2.2, .ref A.T0, bD d.1, .int d.2.1, .int d.2.2, .tuple [], rfl, upd_same, bV_dp _, .int _, .int _, .tup (T.t0 _) .nil, fun s hs => (by rw [due] at hs; cases hs), fun i hi => (by rw [due] at hi; cases hi), fun _ ds H' hds hw hB => ?_⟩
  cases hds
  obtain ⟨T2, ys, h1, h2, h3⟩ := hw
  exact q H' (fun a o h => hB a o (ne_of_none h hx0) (e0 a o h)) ⟨dx, T2, ys, h1, h2, h3⟩
theorem sqT_mutL {H H' : Hp} {D a : Addr} {ys xs : List V} (hD : H D = some (.lst ys)) (e : ∀ x o, x ≠ D → H x = some o → H' x = some o) (h : SqT K H a xs) : SqT K H' a xs := by
  rcases h with (h | ⟨o, h⟩) | h
  · exact .inl (.inl (e a _ (fun z => by rw [z, hD] at h; cases h) h))
  · exact .inl (.inr ⟨o, e a _ (fun z => by rw [z, hD] at h; cases h) h⟩)
  · exact .inr h
theorem wd_mut {H H' : Hp} {D p : Addr} {ys : List V} {d : Wd} (hD : H D = some (.lst ys)) (e : ∀ x o, x ≠ D → H x = some o → H' x = some o) (h : WayD K A H p d) : WayD K A H' p d := by
  obtain ⟨dx, T, xs, h1, h2, h3⟩ := h
  have h3' : DpAll K H xs [] := h3
  cases h3'
  exact ⟨dx, T, _, e _ _ (fun z => by rw [z, hD] at h1; cases h1) h1, sqT_mutL hD e h2, .nil⟩
theorem Ways.mut {H H' : Hp} {D : Addr} {ys ws : List V} {ds : List Wd} (hD : H D = some (.lst ys)) (e : ∀ x o, x ≠ D → H x = some o → H' x = some o) (h : Ways K A H ws ds) : Ways K A H' ws ds := ⟨h.1, fun i x d h1 h2 => by
  obtain ⟨q, e1, w⟩ := h.2 i x d h1 h2
  exact ⟨q, e1, wd_mut hD e w⟩⟩
theorem Ways.snoc {H : Hp} {ws : List V} {ds : List Wd} {q : Addr} {d : Wd} (h : Ways K A H ws ds) (w : WayD K A H q d) : Ways K A H (ws ++ [.ref q]) (ds ++ [d]) := by
  refine ⟨by rw [List.length_append, List.length_append, h.1]; rfl, fun i x e h1 h2 => ?_⟩
  by_cases hi : i < ws.length
  · rw [List.getElem?_append_left hi] at h1
    rw [List.getElem?_append_left (by rw [← h.1]; exact hi)] at h2
    exact h.2 i x e h1 h2
  · rw [List.getElem?_append_right (by omega)] at h1
    rw [List.getElem?_append_right (by rw [← h.1]; omega), ← h.1] at h2
    cases z : i - ws.length with
    | zero =>
      rw [z] at h1 h2
      cases h1
      cases h2
      exact ⟨q, rfl, w⟩
    | succ j =>
      rw [z] at h1
      cases h1
theorem good_b {d : Wd} (g : goodW d) : bOk d.1 := fun n h => by
  obtain ⟨a, b⟩ := g.1 n h
  omega
end
end K18

set_option Elab.async false
set_option maxRecDepth 100000
set_option maxHeartbeats 4000000
namespace K18
open PySem PySem.Spec PyProof.Rows L2
section
variable {P : Program} {w : World} {K : PySem.W.Frag} {mg : Str → Option Value} {base : Heap} {A : Ad}
/-- what the constructor asks of its first argument -/
def Giv (K : PySem.W.Frag) (A : Ad) (H : Hp) (v : V) (t : Value) (k : Bool) (xs : List V) (g : V → Bool) : Prop := (∀ H', Ext H H' → TyX K H' v t) ∧ PySem.W.kitAny K t [.type "list", .type "tuple"] = some k ∧ (k = true → ∃ p, v = .ref p ∧ (SqL K H p xs ∨ SqT K H p xs)) ∧ xs.length ≤ 1000 ∧
  (∀ x ∈ xs, ∃ tx, (∀ H', Ext H H' → TyX K H' x tx) ∧ PySem.W.kitOne K tx (.ref A.Way) = some (g x))
theorem giv_lst {H : Hp} {a : Addr} {xs : List V} {g : V → Bool} (h : H a = some (.lst xs)) (hz : xs.length ≤ 1000) (hx : ∀ x ∈ xs, ∃ tx, (∀ H', Ext H H' → TyX K H' x tx) ∧ PySem.W.kitOne K tx (.ref A.Way) = some (g x)) : ∃ t, Giv K A H (.ref a) t true xs g := ⟨.type "list", fun H' e => .base (.lst (e _ _ h)), by
    have z := kd_seq (K := K) (d := .list [])
    exact z, fun _ => ⟨a, rfl, .inl (SqL.of h)⟩, hz, hx⟩
theorem ways_kit {H : Hp} {ps : List V} {ds : List Wd} (T : Txt K mg A) (h : Ways K A H ps ds) : ∀ x ∈ ps, ∃ q dx fs, x = .ref q ∧ H q = some (.ins A.Way dx fs) := fun x hx => by
  obtain ⟨i, hi⟩ := List.mem_iff_getElem?.mp hx
  have hl : i < ds.length := by rw [← h.1]; exact (List.getElem?_eq_some_iff.mp hi).1
  obtain ⟨q, e, w⟩ := h.2 i x _ hi (List.getElem?_eq_getElem hl)
  obtain ⟨dx, fs, e0⟩ := wd_ins w
  exact ⟨q, dx, fs, e, e0⟩
/-- a list of ways, with one place put otherwise or not -/
theorem ways_id {H : Hp} {ps : List V} {ds : List Wd} (T : Txt K mg A) (h : Ways K A H ps ds) : ∀ x ∈ ps, ∃ tx, (∀ H', Ext H H' → TyX K H' x tx) ∧ PySem.W.kitOne K tx (.ref A.Way) = some (decide (x ∈ ps)) := fun x hm => by
  obtain ⟨q, dx, fs, rfl, e0⟩ := ways_kit T h x hm
  rw [decide_eq_true hm]
  exact ⟨.ref A.Way, fun H' e => T.Way.tyOf (e _ _ e0), T.Way.me⟩
theorem all_mem {ps : List V} : (ps.all fun x => decide (x ∈ ps)) = true := by
  rw [List.all_eq_true]
  intro x hx
  exact decide_eq_true hx
theorem Giv.ext {H H' : Hp} {v : V} {t : Value} {k : Bool} {xs : List V} {g : V → Bool} (h : Giv K A H v t k xs g) (e : Ext H H') : Giv K A H' v t k xs g := by
  obtain ⟨h1, h2, h3, h4, h5⟩ := h
  refine ⟨fun H2 e2 => h1 H2 (e.trans e2), h2, fun z => ?_, h4, fun x hx => ?_⟩
  · obtain ⟨p, r, q⟩ := h3 z
    exact ⟨p, r, q.imp (fun h => h.ext e) (fun h => h.ext e)⟩
  · obtain ⟨tx, t1, t2⟩ := h5 x hx
    exact ⟨tx, fun H2 e2 => t1 H2 (e.trans e2), t2⟩
/-- a race is made of good parts -/
theorem mk_race {H1 : Hp} {p : Addr} {zi : Int} {xs : List V} {ds : List Wd} {R : VK} {E : XK} {x0 dx : Addr} (T : Txt K mg A) (hx0 : H1 x0 = none) (hdx : H1 dx = none) (hne : dx ≠ x0) (hv : H1 p = some (.lst xs) ∨ H1 p = some (.tup xs)) (hw : Ways K A H1 xs ds) (h1 : 1 ≤ ds.length) (h4 : ds.length ≤ 4) (hz : 0 ≤ zi ∧ zi ≤ 3)
    (q : ∀ H', Ext H1 H' → RaceD K A H' x0 ds zi → R .non H') : spRaceInit K A (.ref x0 :: [.ref p, .int zi]) (upd (upd H1 dx (.own x0)) x0 (.ins A.Race dx [])) R E := by
  have e0 := (Ext.upd (o := .own x0) hdx).upd' (o := .ins A.Race dx []) (by rw [upd_ne hne.symm]; exact hx0)
  have hl : xs.length = ds.length := hw.1
  have hg : ∃ t, Giv K A H1 (.ref p) t true xs (fun x => decide (x ∈ xs)) := by
    rcases hv with hv | hv
    · exact giv_lst hv (by omega) (ways_id T hw)
    · exact ⟨.type "tuple", fun H' e => .base (.tup (e _ _ hv)), (by
        have z := kd_seq (K := K) (d := .tuple [])
        exact z), fun _ => ⟨p, rfl, .inr (SqT.of hv)⟩, by omega, ways_id T hw⟩
  obtain ⟨t, hg⟩ := hg
  obtain ⟨g1, g2, g3, g4, g5⟩ := hg.ext e0
  have hok : (true && (decide ((1 : Int) ≤ (xs.length : Int)) && decide ((xs.length : Int) ≤ 4)) && (xs.all fun x => decide (x ∈ xs))) = true := by
    rw [all_mem, decide_eq_true (show (1 : Int) ≤ (xs.length : Int) by omega), decide_eq_true (show (xs.length : Int) ≤ 4 by omega)]
    rfl
  have hb : betD (.int zi) 0 3 = true := by
    rw [bet_int, decide_eq_true hz.1, decide_eq_true hz.2]
    rfl
  refine ⟨x0, dx, _, _, .int zi, t, true, xs, _, rfl, upd_same, .int _, g1, g2, g3, g4, g5, fun h => (by rw [hok] at h; cases h), fun _ h => (by rw [hb] at h; cases h), fun _ _ H' hT hB => ?_⟩
  have e1 : Ext H1 H' := fun a o h => hB a o (ne_of_none h hx0) (e0 a o h)
  obtain ⟨T1, r1, r2⟩ := hT
  exact q H' e1 ⟨dx, T1, xs, r1, r2, hw.ext e1⟩
/-- the places of the ways that have a begin, of the first i -/
def pl (ds : List Wd) (i : Nat) : List Int := List.map (fun j : Nat => (j : Int)) ((List.range i).filter (has ds))
theorem pl_succ (ds : List Wd) (i : Nat) : pl ds (i + 1) = pl ds i ++ (if has ds i = true then [(i : Int)] else []) := by
  unfold pl
  rw [List.range_succ, List.filter_append, List.map_append]
  cases h : has ds i <;> simp [h]
theorem pl_len (ds : List Wd) (i : Nat) : (pl ds i).length ≤ i := by
  unfold pl
  rw [List.length_map]
  exact Nat.le_trans (List.length_filter_le _ _) (by simp)
theorem has_at {ds : List Wd} {i : Nat} {d : Wd} (h : ds[i]? = some d) : has ds i = !decide (bV d.1 = .non) := by
  unfold has
  rw [h]
  cases hd : d.1 <;> simp [bV, hd]
def spPlanned (K : PySem.W.Frag) (A : Ad) : Sp := fun vs H Q _ => ∃ p ds z, vs = [.ref p] ∧ RaceD K A H p ds z ∧ ds.length ≤ 1000 ∧ ∀ t H', Ext H H' → H' t = some (.tup ((pl ds ds.length).map V.int)) → Q (.ref t) H'
theorem ok_planned {f : Addr} {fd : FuncData} (F : Fun K "planned" "Race.planned" s_Race_planned f fd) (T : Txt K mg A) : FnOk P w K mg base CX0 2 f fd pm_Race_planned (spPlanned K A) := by
  refine F.ok sc_Race_planned (fun vs H Q E h => ?_) (fun cdv A' outer sh H vs Q E hr h => ?_)
  · obtain ⟨_, _, _, rfl, _⟩ := h
    rfl
  · obtain ⟨p, ds, z, rfl, ⟨dx, T1, ws, hp, hT, hw⟩, hsm, k⟩ := h
    refine ⟨_, pss_one (ps_ret (pe_callTy call_tuple_of (by rfl) T.n_tuple (by decide +kernel) (pa_cons (pe_lc (own := [("way", 1), ("told", 2)]) (g := gTup K 2 (gCons (gName 1) (gCons (gName 2) gNil))) (tt := tTest (tOp rNotN (tFld K (tVar 2) "begin") (tC .non))) (by rfl) sc_Race_planned.nd (pi_enSq rfl T.n_enumerate (pa_cons (pe_fld (pv 0) rfl) pa_nil))
      (blkOk_by (own := [("way", 1), ("told", 2)]) (N := nm_Race_planned) (sc := defScope s_Race_planned) (by decide +kernel)) (fun _ _ _ _ _ => pg_tup rfl (pgs_cons (pg_name (i := 1) sc_Race_planned.nd rfl (Or.inl rfl)) (pgs_cons (pg_name (i := 2) sc_Race_planned.nd rfl (Or.inl rfl)) (pgs_nil))))
      (fun _ _ _ _ _ => pts_one (pt_cmpR op_notN1 (pe_fld (pv 2) rfl) (pe_non) (nomark _))) (fun _ _ _ _ _ => pv 1)) pa_nil))), ?_⟩
    refine ⟨_, rfl, p, A.Race, dx, _, _, rfl, hp, T.Race.cl, T.r_ways, rfl, T1, rfl, .inr ⟨⟨_, hT⟩, fun D hD => ?_⟩⟩
    refine lc_it (walk_enT (xs := ws)) (fun i H' => Ext H H' ∧ H' D = some (.lst ((pl ds i).map V.int))) ⟨Ext.upd hD, upd_same⟩ (fun i H' _ pv => hT.ext pv.1) (fun i x H' H2 hi pv hy => ?_) (fun H' pv => ?_)
    · obtain ⟨e1, hl⟩ := pv
      obtain ⟨t, y, v, rfl, ht, rfl, hy1, hy2⟩ := hy
      cases hy1
      obtain ⟨d, hd⟩ : ∃ d, ds[i]? = some d := ⟨_, List.getElem?_eq_getElem (by rw [← hw.1]; exact hi)⟩
      have e2 := e1.upd' (o := .tup [.int (i : Nat), v]) ht
      obtain ⟨q, rfl, dq, Tq, xq, hq, _⟩ := (hw.ext e2).2 i v d hy2 hd
      have hl2 := Ext.upd (o := .tup [.int (i : Nat), .ref q]) ht _ _ hl
      refine ⟨t, _, rfl, SqT.of upd_same, rfl, _, _, rfl, _, _, rfl, rfl, rfl, ?_⟩
      refine ⟨_, rfl, q, A.Way, dq, _, _, rfl, hq, T.Way.cl, T.w_begin, rfl, rfl, _, rfl, ?_⟩
      rw [← has_at hd]
      cases h : has ds i with
      | true =>
        refine iteT ⟨_, rfl, _, hl2, Nat.lt_of_le_of_lt (show ((pl ds i).map V.int).length ≤ 1000 by rw [List.length_map]; exact Nat.le_trans (pl_len ds i) (by have := hw.1; omega)) (by decide), ext_mut e2 hD, ?_⟩
        rw [upd_same, pl_succ, h, List.map_append]
        rfl
      | false =>
        refine iteF ⟨e2, ?_⟩
        rw [hl2, pl_succ, h]
        simp
    · obtain ⟨e1, hl⟩ := pv
      rw [hw.1] at hl
      exact ⟨D, _, rfl, .inl ⟨SqL.of hl, fun t ht => k t _ (e1.upd' ht) upd_same⟩⟩
end
end K18

set_option Elab.async false
set_option maxRecDepth 100000
set_option maxHeartbeats 4000000
namespace K18
open PySem PySem.Spec PyProof.Rows L2
/-- pairs of ints in tuples -/
def Prs (H : Hp) : List V → List (Int × Int) → Prop
  | [], [] => True
  | v :: vs, q :: qs => (∃ t, v = .ref t ∧ H t = some (.tup [.int q.1, .int q.2])) ∧ Prs H vs qs
  | _, _ => False
theorem Prs.to {H H' : Hp} (e : ∀ t xs, H t = some (.tup xs) → H' t = some (.tup xs)) : ∀ {vs : List V} {qs : List (Int × Int)}, Prs H vs qs → Prs H' vs qs
  | [], [], _ => trivial
  | [], _ :: _, h => h.elim
  | _ :: _, [], h => h.elim
  | _ :: _, _ :: _, ⟨⟨t, h1, h2⟩, h⟩ => ⟨⟨t, h1, e _ _ h2⟩, Prs.to e h⟩
theorem Prs.snoc {H : Hp} {t : Addr} {q : Int × Int} (ht : H t = some (.tup [.int q.1, .int q.2])) : ∀ {vs : List V} {qs : List (Int × Int)}, Prs H vs qs → Prs H (vs ++ [.ref t]) (qs ++ [q])
  | [], [], _ => ⟨⟨t, rfl, ht⟩, trivial⟩
  | [], _ :: _, h => h.elim
  | _ :: _, [], h => h.elim
  | _ :: _, _ :: _, ⟨a, h⟩ => ⟨a, Prs.snoc ht h⟩
theorem Prs.len {H : Hp} : ∀ {vs : List V} {qs : List (Int × Int)}, Prs H vs qs → vs.length = qs.length
  | [], [], _ => rfl
  | [], _ :: _, h => h.elim
  | _ :: _, [], h => h.elim
  | _ :: _, _ :: _, ⟨_, h⟩ => by rw [List.length_cons, List.length_cons, Prs.len h]
theorem Prs.get {H : Hp} : ∀ {vs : List V} {qs : List (Int × Int)} {i : Nat} {v : V}, Prs H vs qs → vs[i]? = some v → ∃ t q, qs[i]? = some q ∧ v = .ref t ∧ H t = some (.tup [.int q.1, .int q.2])
  | _ :: _, q :: _, 0, _, ⟨⟨t, h1, h2⟩, _⟩, hv => by
    cases hv
    exact ⟨t, q, rfl, h1, h2⟩
  | _ :: _, _ :: _, i + 1, _, ⟨_, h⟩, hv => Prs.get (i := i) h hv
  | [], [], _, _, _, hv => nomatch hv
  | [], _ :: _, _, _, h, _ => h.elim
  | _ :: _, [], _, _, h, _ => h.elim
theorem at_d {ds : List Wd} {j : Nat} {d : Wd} (h : ds[j]? = some d) : has ds j = d.1.isSome ∧ bg ds j = d.1.getD 0 ∧ ls ds j = d.2.1 ∧ ms ds j = d.2.2 := by
  unfold has bg ls ms
  rw [h]
  exact ⟨rfl, rfl, rfl, rfl⟩
def nI (j : Nat) : V := .int (j : Int)
theorem pl_plan {ds : List Wd} : (pl ds ds.length).map V.int = (plan ds).map nI := by
  unfold pl plan
  rw [List.map_map]
  rfl
theorem plan_has {ds : List Wd} {i j : Nat} (h : (plan ds)[i]? = some j) : has ds j = true ∧ j < ds.length := by
  obtain ⟨h1, h2⟩ := List.mem_filter.mp (List.mem_of_getElem? h)
  exact ⟨h2, List.mem_range.mp h1⟩
/-- other ways with their ends -/
def others (ds : List Wd) (w i : Nat) : List (Int × Int) := (((plan ds).take i).filter fun j => decide (j ≠ w)).map fun j : Nat => ((j : Int), fin ds j)
theorem others_snoc {ds : List Wd} {w i j : Nat} (h : (plan ds)[i]? = some j) : others ds w (i + 1) = others ds w i ++ (if decide (j ≠ w) = true then [((j : Int), fin ds j)] else []) := by
  unfold others
  rw [take_snoc h, List.filter_append, List.map_append]
  congr 1
  rw [List.filter_cons]
  by_cases e : j = w
  · simp [e]
  · simp [e]
theorem others_len {ds : List Wd} {w i : Nat} : (others ds w i).length ≤ ds.length := by
  unfold others
  rw [List.length_map]
  refine Nat.le_trans (List.length_filter_le _ _) ?_
  rw [List.length_take]
  unfold plan
  refine Nat.le_trans (Nat.min_le_right _ _) (Nat.le_trans (List.length_filter_le _ _) (by rw [List.length_range]; exact Nat.le_refl _))
theorem hurs_others {ds : List Wd} {w : Nat} {t : Int} : ((others ds w (plan ds).length).filter fun q => decide (q.2 < t) || (decide (q.2 = t) && decide (q.1 < (w : Int)))).map (fun q => V.int q.1) = (hurs ds w t).map nI := by
  unfold others hurs plan
  rw [List.take_length, List.filter_map, List.map_map, List.filter_filter, List.filter_filter]
  refine Eq.trans (congrArg _ ?_) (List.map_congr_left fun j _ => rfl)
  refine List.filter_congr fun j _ => ?_
  unfold early
  have e : decide ((j : Int) < (w : Int)) = decide (j < w) := by rw [Bool.eq_iff_iff]; simp
  show (((decide (fin ds j < t) || (decide (fin ds j = t) && decide ((j : Int) < (w : Int)))) && decide (j ≠ w)) && has ds j) = _
  rw [e]
  cases has ds j <;> cases decide (j ≠ w) <;> cases (decide (fin ds j < t) || (decide (fin ds j = t) && decide (j < w))) <;> rfl
theorem plan_len (ds : List Wd) : (plan ds).length ≤ ds.length := by
  unfold plan
  exact Nat.le_trans (List.length_filter_le _ _) (by rw [List.length_range]; exact Nat.le_refl _)
section
variable {P : Program} {w : World} {K : PySem.W.Frag} {mg : Str → Option Value} {base : Heap} {A : Ad}
/-- a call that is handed a way's place -/
def NoE (A : Ad) (E : XK) (H : Hp) (v : V) : Prop := ∀ e, H e = none → E (.ref A.NoWay) (some e) (upd H e (.xd [("way", v)]))
def spChk (K : PySem.W.Frag) (A : Ad) : Sp := fun vs H Q E => ∃ (p : Addr) (ds : List Wd) (z : Int) (v : V) (d : PyData), vs = [.ref p, v] ∧ RaceD K A H p ds z ∧ Dp K H v d ∧ (betD d 0 ((ds.length : Int) - 1) = false → NoE A E H v) ∧ (betD d 0 ((ds.length : Int) - 1) = true → Q .non H)
theorem ok_checkWay {f : Addr} {fd : FuncData} (F : Fun K "check_way" "check_way" s_check_way f fd) (T : Txt K mg A) (O_is_index : Own P w K mg base CX0 "is_index" 3 pm_is_index (spIndex K)) (X_NoWay : XCls P w K mg base "NoWay" "way" A.NoWay) : FnOk P w K mg base (L2.CX P w) 5 f fd pm_check_way (spChk K A) := by
  refine F.okX sc_check_way (fun vs H Q E h => ?_) (fun cdv A' outer s H vs Q E hr h => ?_)
  · obtain ⟨_, _, _, _, _, rfl, _⟩ := h
    rfl
  · obtain ⟨p, ds, z, v, d, rfl, ⟨dx, T', ws, hp, hT, hw⟩, hd, qE, qQ⟩ := h
    refine ⟨_, pss_one (ps_if (pt_not (pt_val (pe_own O_is_index (hr.mono (by decide)) pass0 (pa_cons (pv 1) (pa_cons (pe_callB call_len_seq (by rfl) T.n_len (by decide +kernel) (pa_cons (pe_fld (pv 0) rfl) pa_nil)) pa_nil))))) (pss_one (ps_raise rfl (takes_of rfl rfl rfl rfl) (pmk_X X_NoWay (hr.mono (by decide)) (pv 1) rfl))) (pss_nil)), ?_⟩
    refine ⟨_, rfl, _, rfl, p, A.Race, dx, _, _, rfl, hp, T.Race.cl, T.r_ways, rfl, T', ws, rfl, .inr hT, v, d, (ws.length : Int), rfl, hd, _, rfl, ?_⟩
    rw [hw.1]
    cases hb : betD d 0 ((ds.length : Int) - 1) with
    | false => exact iteT ⟨_, rfl, mkX_fin fun e he => qE hb e he⟩
    | true => exact iteF (qQ hb)
theorem int_w {H : Hp} {v : V} {d : PyData} {n : Nat} (hd : Dp K H v d) (h : betD d 0 ((n : Int) - 1) = true) : ∃ w : Nat, v = .int (w : Int) ∧ w < n := by
  obtain ⟨m, rfl, m0, m1⟩ := bet_yes h
  obtain rfl := dp_int hd
  exact ⟨m.toNat, by rw [Int.toNat_of_nonneg m0], by omega⟩
def spHur (K : PySem.W.Frag) (A : Ad) : Sp := fun vs H Q E => ∃ (p : Addr) (ds : List Wd) (z : Int) (v : V) (d : PyData) (t : Int), vs = [.ref p, v, .int t] ∧ RaceD K A H p ds z ∧ ds.length ≤ 1000 ∧ Dp K H v d ∧ (betD d 0 ((ds.length : Int) - 1) = false → NoE A E H v) ∧
  ∀ w : Nat, v = .int (w : Int) → w < ds.length → ∀ q H', Ext H H' → H' q = some (.tup ((hurs ds w t).map nI)) → Q (.ref q) H'
theorem ok_hurried {f : Addr} {fd : FuncData} (F : Fun K "hurried" "Race.hurried" s_Race_hurried f fd) (T : Txt K mg A) (O_check_way : Own P w K mg base (L2.CX P w) "check_way" 5 pm_check_way (spChk K A)) (O_Race_planned : OwnM P w K mg base CX0 A.Race "planned" 2 pm_Race_planned (spPlanned K A))
    (O_Way_window : OwnM P w K mg base CX0 A.Way "window" 1 pm_Way_window (spWindow K A)) : FnOk P w K mg base (L2.CX P w) 7 f fd pm_Race_hurried (spHur K A) := by
  refine F.okX sc_Race_hurried (fun vs H Q E h => ?_) (fun cdv A' outer s H vs Q E hr h => ?_)
  · obtain ⟨_, _, _, _, _, _, rfl, _⟩ := h
    rfl
  · obtain ⟨p, ds, z, v, d, t, rfl, hR, hsm, hd, qE, qQ⟩ := h
    refine ⟨_, pss_cons (ps_expr (pe_ownS O_check_way (hr.mono (by decide)) (takes_of rfl rfl rfl rfl) (pa_cons (pv 0) (pa_cons (pv 1) pa_nil))))
      (pss_cons (ps_setLc (i := 3) (own := [("other", 4)]) (g := gName 4) (by rfl) sc_Race_hurried.nd rfl rfl (sw_true rfl rfl rfl (by decide +kernel)) (pi_tup (pe_ownM0 O_Race_planned (pv 0) T.Race.cl (hr.mono (by decide)) pass0)) (blkOk_by (own := [("other", 4)]) (N := nm_Race_hurried) (sc := defScope s_Race_hurried) (by decide +kernel)) (fun _ _ _ _ _ => pg_name (i := 4) sc_Race_hurried.nd rfl (Or.inl rfl)) (fun s1 H1 C1 cl fp => pts_one (pt_cmpR op_ne (pv 4) (pv 1) (nomark _))) (fun s1 H1 C1 cl fp => pe_tup (pa_cons (pv 4) (pa_cons (pe_ix (ix_tupK (K := K) rfl) (pe_ownM0 O_Way_window (pe_ix (ix_tupK (K := K) rfl) (pe_fldK (K := K) rfl (pv 0) rfl) (pv 4) (fun _ _ => rfl)) T.Way.cl (hr.mono (by decide)) pass0) (pe_int) (fun _ _ => rfl)) pa_nil))))
      (pss_one (ps_ret (pe_callTy call_tuple_of (by rfl) T.n_tuple (by decide +kernel) (pa_cons (pe_lc (own := [("other", 4), ("end", 5)]) (g := gTup K 2 (gCons (gName 4) (gCons (gName 5) (gNil)))) (by rfl) sc_Race_hurried.nd (pi_list (pv 3)) (blkOk_by (own := [("other", 4), ("end", 5)]) (N := nm_Race_hurried) (sc := defScope s_Race_hurried) (by decide +kernel)) (fun _ _ _ _ _ => pg_tup rfl (pgs_cons (pg_name (i := 4) sc_Race_hurried.nd rfl (Or.inl rfl)) (pgs_cons (pg_name (i := 5) sc_Race_hurried.nd rfl (Or.inl rfl)) (pgs_nil)))) (fun s1 H1 C1 cl fp => pts_one (PW.pt (pw_or (pt_cmpR op_lt (pv 5) (pv 2) (nomark _)) (pw_or1 (PW.pt (pw_and (pt_cmpR op_eq (pv 5) (pv 2) (nomark _)) (pw_and1 (pt_cmpR op_lt (pv 4) (pv 1) (nomark _))))))))) (fun s1 H1 C1 cl fp => pv 4)) pa_nil))))), ?_⟩
    refine ⟨_, rfl, _, rfl, p, ds, z, v, d, rfl, hR, hd, qE, fun hb => ?_⟩
    obtain ⟨w, rfl, hw⟩ := int_w hd hb
    obtain ⟨dx, T1, ws, hp, hT, hws⟩ := id hR
    refine ⟨_, rfl, p, dx, _, rfl, hp, rfl, p, ds, z, rfl, hR, hsm, fun tp H1 e1 htp => ⟨tp, rfl, ⟨_, SqT.of htp⟩, fun D hD => ?_⟩⟩
    rw [pl_plan] at htp
    have hT1 := hT.ext e1
    have hw1 := hws.ext e1
    have hp1 := e1 _ _ hp
    refine lc_it (walk_tup (xs := (plan ds).map nI)) (fun i H' => Ext H1 H' ∧ ∃ acc, H' D = some (.lst acc) ∧ Prs H' acc (others ds w i)) ⟨Ext.upd hD, [], upd_same, trivial⟩ (fun i H' _ pv => SqT.of (pv.1 _ _ htp)) (fun i x H' H2 hi pv hy => ?_) (fun H' pv => ?_)
    · obtain ⟨e2, acc, hacc, hps⟩ := pv
      obtain ⟨rfl, hx⟩ := hy
      rw [List.getElem?_map] at hx
      cases hj : (plan ds)[i]? with
      | none => rw [hj] at hx; cases hx
      | some j =>
        rw [hj] at hx
        cases hx
        obtain ⟨hh, hjn⟩ := plan_has hj
        obtain ⟨dj, hdj⟩ : ∃ d, ds[j]? = some d := ⟨_, List.getElem?_eq_getElem hjn⟩
        obtain ⟨x, hx⟩ : ∃ x, ws[j]? = some x := ⟨_, List.getElem?_eq_getElem (by rw [hw1.1]; exact hjn)⟩
        obtain ⟨q, rfl, hq⟩ := (hw1.ext e2).2 j x dj hx hdj
        obtain ⟨a1, a2, a3, a4⟩ := at_d hdj
        rw [a1] at hh
        obtain ⟨b, hb'⟩ := Option.isSome_iff_exists.mp hh
        obtain ⟨dq, Tq, xq, hqi, _⟩ := id hq
        refine ⟨rfl, _, rfl, _, rfl, rfl, _, rfl, ?_⟩
        by_cases hjw : j = w
        · rw [show (!decide (nI j = V.int (w : Int))) = false by rw [hjw, show decide (nI w = V.int (w : Int)) = true from decide_eq_true rfl]; rfl]
          refine iteF ⟨e2, acc, hacc, ?_⟩
          rw [others_snoc hj, if_neg (by simp [hjw]), List.append_nil]
          exact hps
        · rw [show (!decide (nI j = V.int (w : Int))) = true by rw [decide_eq_false (fun z => hjw (by injection z with z; omega))]; rfl]
          refine iteT ⟨_, rfl, _, rfl, p, A.Race, dx, _, _, rfl, e2 _ _ hp1, T.Race.cl, T.r_ways, rfl, _, rfl, T1, ws, (j : Int), .ref q, rfl, rfl, hT1.ext e2, atI_nat hx, q, dq, _, rfl, hqi, rfl, q, dj.1, dj.2.1, dj.2.2, [], rfl, hq, (fun hn => by rw [hb'] at hn; cases hn), fun n hn tw H3 e3 htw => ⟨tw, _, 1, .int (n + 2 * dj.2.2), rfl, rfl, SqT.of htw, rfl, by show 2 ≤ sizeLine; decide, fun u hu => ?_⟩⟩
          have e4 := Ext.upd (o := .tup [nI j, .int (n + 2 * dj.2.2)]) hu
          have hfin : n + 2 * dj.2.2 = fin ds j := by
            unfold fin
            rw [a2, a4, hn]
            rfl
          have hacc' := e4 _ _ (e3 _ _ hacc)
          refine ⟨acc, hacc', Nat.lt_of_le_of_lt (show acc.length ≤ 1000 by rw [hps.len]; exact Nat.le_trans others_len hsm) (by decide), ext_mut ((e2.trans e3).trans e4) hD, acc ++ [.ref u], upd_same, ?_⟩
          rw [others_snoc hj, if_pos (by simp [hjw])]
          have kk : ∀ t xs, H1 t = H1 t → (upd H3 u (.tup [nI j, .int (n + 2 * dj.2.2)])) t = some (.tup xs) → (upd (upd H3 u (.tup [nI j, .int (n + 2 * dj.2.2)])) D (.lst (acc ++ [.ref u]))) t = some (.tup xs) := fun t xs _ ht => by
            rw [upd_ne (fun z => by rw [z, hacc'] at ht; cases ht)]
            exact ht
          refine Prs.snoc (kk _ _ rfl (by rw [← hfin]; exact upd_same)) (Prs.to (fun t xs ht => kk _ _ rfl (e4 _ _ (e3 _ _ ht))) hps)
    · obtain ⟨e2, acc, hacc, hps⟩ := pv
      rw [List.length_map] at hps
      refine ⟨_, rfl, D, rfl, ⟨_, SqL.of hacc⟩, fun C hC => ?_⟩
      refine lc_list (xs := acc) (fun i H2 => Ext H' H2 ∧ H2 C = some (.lst ((((others ds w (plan ds).length).take i).filter fun q => decide (q.2 < t) || (decide (q.2 = t) && decide (q.1 < (w : Int)))).map fun q => V.int q.1))) ⟨Ext.upd hC, upd_same⟩ (fun i H2 _ pv => SqL.of (pv.1 _ _ hacc)) (fun i x H2 hx pv => ?_) (fun H2 pv => ?_)
      · obtain ⟨e3, hC2⟩ := pv
        obtain ⟨u, q, hq, rfl, hu⟩ := hps.get hx
        have no : (decide (q.2 < t) || (decide (q.2 = t) && decide (q.1 < (w : Int)))) = false → Ext H' H2 ∧ H2 C = some (.lst ((((others ds w (plan ds).length).take (i + 1)).filter fun q => decide (q.2 < t) || (decide (q.2 = t) && decide (q.1 < (w : Int)))).map fun q => V.int q.1)) := fun h => by
          refine ⟨e3, ?_⟩
          rw [take_snoc hq, List.filter_append, List.map_append, List.filter_cons, if_neg (by rw [h]; decide)]
          rw [hC2]
          simp
        have yes : (decide (q.2 < t) || (decide (q.2 = t) && decide (q.1 < (w : Int)))) = true → ∃ acc, H2 C = some (.lst acc) ∧ acc.length < sizeLine ∧ (Ext H' (upd H2 C (.lst (acc ++ [V.int q.1]))) ∧ (upd H2 C (.lst (acc ++ [V.int q.1]))) C = some (.lst ((((others ds w (plan ds).length).take (i + 1)).filter fun q => decide (q.2 < t) || (decide (q.2 = t) && decide (q.1 < (w : Int)))).map fun q => V.int q.1))) := fun h => by
          refine ⟨_, hC2, Nat.lt_of_le_of_lt (show _ ≤ 1000 from ?_) (by decide), ext_mut e3 hC, ?_⟩
          · rw [List.length_map]
            refine Nat.le_trans (List.length_filter_le _ _) ?_
            rw [List.length_take]
            exact Nat.le_trans (Nat.min_le_right _ _) (Nat.le_trans others_len hsm)
          · rw [upd_same, take_snoc hq, List.filter_append, List.map_append, List.filter_cons, if_pos h]
            rfl
        refine ⟨u, _, rfl, SqT.of (e3 _ _ hu), rfl, _, _, rfl, _, _, rfl, rfl, rfl, ?_⟩
        refine ⟨_, rfl, _, rfl, _, _, rfl, rfl, _, rfl, ?_⟩
        cases h1 : decide (q.2 < t) with
        | true =>
          rw [h1] at yes
          exact iteT (iteT ⟨_, rfl, yes rfl⟩)
        | false =>
          rw [h1] at yes no
          refine iteF ⟨_, rfl, _, rfl, rfl, _, rfl, ?_⟩
          rw [dvi]
          cases h2 : decide (q.2 = t) with
          | false =>
            rw [h2] at no
            exact iteF (iteF (no rfl))
          | true =>
            rw [h2] at yes no
            refine iteT ⟨_, rfl, _, rfl, _, _, rfl, rfl, _, rfl, ?_⟩
            cases h3 : decide (q.1 < (w : Int)) with
            | true =>
              rw [h3] at yes
              exact iteT ⟨_, rfl, yes rfl⟩
            | false =>
              rw [h3] at no
              exact iteF (no rfl)
      · obtain ⟨e3, hC2⟩ := pv
        rw [List.take_of_length_le (by rw [hps.len]; exact Nat.le_refl _), hurs_others] at hC2
        exact ⟨C, _, rfl, .inl ⟨SqL.of hC2, fun tq htq => qQ w rfl hw tq _ ((e1.trans (e2.trans e3)).upd' htq) upd_same⟩⟩
end
end K18

set_option Elab.async false
set_option maxRecDepth 100000
set_option maxHeartbeats 4000000
namespace K18
open PySem PySem.Spec PyProof.Rows L2
theorem can_no {ds : List Wd} {z : Int} {w : Nat} {t : Int} (h : has ds w = false) : can ds z w t = false := by
  unfold can
  rw [h]
  rfl
theorem can_out {ds : List Wd} {z : Int} {w : Nat} {t : Int} (h : (decide (opn ds w ≤ t) && decide (t ≤ fin ds w)) = false) : can ds z w t = false := by
  unfold can
  rw [h, Bool.and_false]
  rfl
theorem can_in {ds : List Wd} {z : Int} {w : Nat} {t : Int} (h0 : has ds w = true) (h1 : decide (opn ds w ≤ t) = true) (h2 : decide (t ≤ fin ds w) = true) : can ds z w t = decide (((hurs ds w t).length : Int) ≤ z) := by
  unfold can
  rw [h0, h1, h2]
  rfl
section
variable {P : Program} {w : World} {K : PySem.W.Frag} {mg : Str → Option Value} {base : Heap} {A : Ad}
/-- a way at its place -/
theorem way_at {H : Hp} {p : Addr} {ds : List Wd} {z : Int} {w : Nat} (hR : RaceD K A H p ds z) (hw : w < ds.length) : ∃ dx T ws q dq fs d, H p = some (.ins A.Race dx (rF (.ref T) (.int z))) ∧ SqT K H T ws ∧ ws[w]? = some (.ref q) ∧ H q = some (.ins A.Way dq fs) ∧ WayD K A H q d ∧ ws.length = ds.length ∧ fs.lookup ("window" : Str) = none ∧
    has ds w = d.1.isSome ∧ (∀ n, d.1 = some n → n + 2 * d.2.1 = opn ds w ∧ n + 2 * d.2.2 = fin ds w) := by
  obtain ⟨dx, T1, ws, hp, hT, hws⟩ := hR
  obtain ⟨d, hd⟩ : ∃ d, ds[w]? = some d := ⟨_, List.getElem?_eq_getElem hw⟩
  obtain ⟨x, hx⟩ : ∃ x, ws[w]? = some x := ⟨_, List.getElem?_eq_getElem (by rw [hws.1]; exact hw)⟩
  obtain ⟨q, rfl, hq⟩ := hws.2 w x d hx hd
  obtain ⟨a1, a2, a3, a4⟩ := at_d hd
  obtain ⟨dq, Tq, xq, hqi, _⟩ := id hq
  refine ⟨dx, T1, ws, q, dq, _, d, hp, hT, hx, hqi, hq, hws.1, rfl, a1, fun n hn => ?_⟩
  unfold opn fin
  rw [a2, a3, a4, hn]
  exact ⟨rfl, rfl⟩
def spCan (K : PySem.W.Frag) (A : Ad) : Sp := fun vs H Q E => ∃ (p : Addr) (ds : List Wd) (z : Int) (v : V) (d : PyData) (t : Int), vs = [.ref p, v, .int t] ∧ RaceD K A H p ds z ∧ ds.length ≤ 1000 ∧ Dp K H v d ∧ (betD d 0 ((ds.length : Int) - 1) = false → NoE A E H v) ∧
  ∀ w : Nat, v = .int (w : Int) → w < ds.length → ∀ H', Ext H H' → Q (.bl (can ds z w t)) H'
theorem ok_canWin {f : Addr} {fd : FuncData} (F : Fun K "can_win" "Race.can_win" s_Race_can_win f fd) (T : Txt K mg A) (O_check_way : Own P w K mg base (L2.CX P w) "check_way" 5 pm_check_way (spChk K A)) (O_Race_hurried : OwnM P w K mg base (L2.CX P w) A.Race "hurried" 7 pm_Race_hurried (spHur K A))
    (O_Way_window : OwnM P w K mg base CX0 A.Way "window" 1 pm_Way_window (spWindow K A)) (O_is_integer : Own P w K mg base CX0 "is_integer" 1 pm_is_integer (spInteger K)) : FnOk P w K mg base (L2.CX P w) 8 f fd pm_Race_can_win (spCan K A) := by
  refine F.okX sc_Race_can_win (fun vs H Q E h => ?_) (fun cdv A' outer s H vs Q E hr h => ?_)
  · obtain ⟨_, _, _, _, _, _, rfl, _⟩ := h
    rfl
  · obtain ⟨p, ds, z, v, d, t, rfl, hR, hsm, hd, qE, qQ⟩ := h
    refine ⟨_, pss_cons (ps_expr (pe_ownS O_check_way (hr.mono (by decide)) (takes_of rfl rfl rfl rfl) (pa_cons (pv 0) (pa_cons (pv 1) pa_nil))))
      (pss_cons (ps_set (i := 3) sc_Race_can_win.nd rfl (Or.inl rfl) (pe_ownM0 O_Way_window (pe_ix ix_tup (pe_fld (pv 0) rfl) (pv 1) (fun _ _ => rfl)) T.Way.cl (hr.mono (by decide)) pass0))
      (pss_cons (ps_if (PW.pt (pw_or (pt_cmpR op_isN (pv 3) (pe_non) (nomark _)) (pw_or (pt_not (pt_val (pe_own O_is_integer (hr.mono (by decide)) pass0 (pa_cons (pv 2) pa_nil)))) (pw_or1 (pt_not (pt_chain op_le op_le (pe_ix ix_tup (pv 3) (pe_int) (fun _ _ => rfl)) (pv 2) (pe_ix ix_tup (pv 3) (pe_int) (fun _ _ => rfl)))))))) (pss_one (ps_ret (pe_bl))) (pss_nil))
      (pss_one (ps_ret (pe_cmpR op_le (pe_callB call_len_seq (by rfl) T.n_len (by decide +kernel) (pa_cons (pe_ownM O_Race_hurried (pv 0) T.Race.cl (hr.mono (by decide)) passL (pa_cons (pv 1) (pa_cons (pv 2) pa_nil))) pa_nil)) (pe_fld (pv 0) rfl) (nomark _)))))), ?_⟩
    refine ⟨_, rfl, _, rfl, p, ds, z, v, d, rfl, hR, hd, qE, fun hb => ?_⟩
    obtain ⟨w, rfl, hw⟩ := int_w hd hb
    have qq := qQ w rfl hw
    obtain ⟨dx, T1, ws, q, dq, fs, dw, hp, hT, hx, hqi, hq, hl, hlk, a1, a2⟩ := way_at hR hw
    refine ⟨_, rfl, p, A.Race, dx, _, _, rfl, hp, T.Race.cl, T.r_ways, rfl, _, rfl, T1, ws, (w : Int), .ref q, rfl, rfl, hT, atI_nat hx, q, dq, _, rfl, hqi, hlk, q, dw.1, dw.2.1, dw.2.2, [], rfl, hq, fun hn => ?_, fun n hn tw H1 e1 htw => ?_⟩
    · have h := qq H Ext.rfl'
      rw [can_no (by rw [a1, hn]; rfl)] at h
      exact ⟨_, rfl, rfl, _, rfl, iteT h⟩
    · obtain ⟨o1, o2⟩ := a2 n hn
      have hh : has ds w = true := by rw [a1, hn]; rfl
      refine ⟨_, rfl, rfl, _, rfl, iteF ⟨_, rfl, .int t, .int t, rfl, .int t, _, rfl, iteF ?_⟩⟩
      refine ⟨_, rfl, tw, _, 0, .int (n + 2 * dw.2.1), rfl, rfl, SqT.of htw, rfl, _, rfl, _, _, rfl, rfl, _, rfl, ?_⟩
      rw [o1]
      cases h1 : decide (opn ds w ≤ t) with
      | false =>
        refine iteF ⟨_, rfl, iteT ?_⟩
        have h := qq H1 e1
        rw [can_out (by rw [h1]; rfl)] at h
        exact h
      | true =>
        refine iteT ⟨_, rfl, tw, _, 1, .int (n + 2 * dw.2.2), rfl, rfl, SqT.of htw, rfl, _, _, rfl, rfl, _, rfl, ?_⟩
        rw [o2]
        cases h2 : decide (t ≤ fin ds w) with
        | false =>
          refine iteT ?_
          have h := qq H1 e1
          rw [can_out (by rw [h1, h2]; rfl)] at h
          exact h
        | true =>
          refine iteF ⟨_, rfl, p, dx, _, rfl, e1 _ _ hp, rfl, _, rfl, _, rfl, p, ds, z, _, d, t, rfl, hR.ext e1, hsm, dp_ext e1 _ _ hd, (fun h => by rw [hb] at h; cases h), fun w' hw' _ tq H2 e2 htq => ?_⟩
          obtain rfl : w = w' := by injection hw' with hw'; omega
          refine ⟨tq, _, rfl, .inr (SqT.of htq), _, rfl, p, A.Race, dx, _, _, rfl, e2 _ _ (e1 _ _ hp), T.Race.cl, T.r_silent, rfl, _, _, rfl, rfl, ?_⟩
          rw [List.length_map]
          have h := qq H2 (e1.trans e2)
          rw [can_in hh h1 h2] at h
          exact h
end
end K18

set_option Elab.async false
set_option maxRecDepth 100000
set_option maxHeartbeats 4000000
namespace K18
open PySem PySem.Spec PyProof.Rows L2
def moms (ds : List Wd) (z : Int) (w : Nat) : List Int := if has ds w = true then ((List.range (fin ds w + 1 - opn ds w).toNat).filter fun m : Nat => can ds z w (opn ds w + (m : Int))).map fun m : Nat => opn ds w + (m : Int) else []
def Gds (ds : List Wd) : Prop := ∀ (j : Nat) (d : Wd), ds[j]? = some d → goodW d
theorem gds_sm {ds : List Wd} {w : Nat} (g : Gds ds) (h : has ds w = true) : 2 ≤ opn ds w ∧ opn ds w ≤ fin ds w ∧ fin ds w ≤ 24 := by
  have hw := has_lt h
  obtain ⟨d, hd⟩ : ∃ d, ds[w]? = some d := ⟨_, List.getElem?_eq_getElem hw⟩
  obtain ⟨a1, a2, a3, a4⟩ := at_d hd
  obtain ⟨g1, g2, g3, g4⟩ := g w d hd
  rw [a1] at h
  obtain ⟨n, hn⟩ := Option.isSome_iff_exists.mp h
  obtain ⟨n0, n4⟩ := g1 n hn
  unfold opn fin
  rw [a2, a3, a4, hn]
  show 2 ≤ n + 2 * d.2.1 ∧ n + 2 * d.2.1 ≤ n + 2 * d.2.2 ∧ n + 2 * d.2.2 ≤ 24
  omega
theorem small_sz {n : Nat} (h : n ≤ 2000) : n < sizeLine := Nat.lt_of_le_of_lt h (by decide)
theorem last_at {α : Type} {xs : List α} {x : α} (h : xs.getLast? = some x) : atI xs (-1) = some x := by
  obtain ⟨ys, rfl⟩ := List.getLast?_eq_some_iff.mp h
  exact atI_last _ _
section
variable {P : Program} {w : World} {K : PySem.W.Frag} {mg : Str → Option Value} {base : Heap} {A : Ad}
def spLast (K : PySem.W.Frag) (A : Ad) : Sp := fun vs H Q E => ∃ (p : Addr) (ds : List Wd) (z : Int) (v : V) (d : PyData), vs = [.ref p, v] ∧ RaceD K A H p ds z ∧ ds.length ≤ 1000 ∧ Gds ds ∧ Dp K H v d ∧ (betD d 0 ((ds.length : Int) - 1) = false → NoE A E H v) ∧
  ∀ w : Nat, v = .int (w : Int) → w < ds.length → ∀ H', Ext H H' → Q (bV (moms ds z w).getLast?) H'
theorem ok_lastWin {f : Addr} {fd : FuncData} (F : Fun K "last_win" "Race.last_win" s_Race_last_win f fd) (T : Txt K mg A) (O_check_way : Own P w K mg base (L2.CX P w) "check_way" 5 pm_check_way (spChk K A)) (O_Race_can_win : OwnM P w K mg base (L2.CX P w) A.Race "can_win" 8 pm_Race_can_win (spCan K A))
    (O_Way_window : OwnM P w K mg base CX0 A.Way "window" 1 pm_Way_window (spWindow K A)) : FnOk P w K mg base (L2.CX P w) 9 f fd pm_Race_last_win (spLast K A) := by
  refine F.okX sc_Race_last_win (fun vs H Q E h => ?_) (fun cdv A' outer s H vs Q E hr h => ?_)
  · obtain ⟨_, _, _, _, _, rfl, _⟩ := h
    rfl
  · obtain ⟨p, ds, z, v, d, rfl, hR, hsm, hg, hd, qE, qQ⟩ := h
    refine ⟨_, pss_cons (ps_expr (pe_ownS O_check_way (hr.mono (by decide)) (takes_of rfl rfl rfl rfl) (pa_cons (pv 0) (pa_cons (pv 1) pa_nil))))
      (pss_cons (ps_set (i := 2) sc_Race_last_win.nd rfl (Or.inl rfl) (pe_ownM0 O_Way_window (pe_ix ix_tup (pe_fld (pv 0) rfl) (pv 1) (fun _ _ => rfl)) T.Way.cl (hr.mono (by decide)) pass0))
      (pss_cons (ps_if (pt_cmpR op_isN (pv 2) (pe_non) (nomark _)) (pss_one (ps_ret (pe_non))) (pss_nil))
      (pss_cons (ps_setLc (i := 3) (own := [("at", 4)]) (g := gName 4) (by rfl) sc_Race_last_win.nd rfl rfl (sw_true rfl rfl rfl (by decide +kernel)) (pi_range2 rfl T.n_range (pa_cons (pe_ix ix_tup (pv 2) (pe_int) (fun _ _ => rfl)) (pa_cons (pe_op op_add (pe_ix ix_tup (pv 2) (pe_int) (fun _ _ => rfl)) (pe_int)) pa_nil))) (blkOk_by (own := [("at", 4)]) (N := nm_Race_last_win) (sc := defScope s_Race_last_win) (by decide +kernel)) (fun _ _ _ _ _ => pg_name (i := 4) sc_Race_last_win.nd rfl (Or.inl rfl)) (fun s1 H1 C1 cl fp => pts_one (pt_val (pe_ownM O_Race_can_win (pv 0) T.Race.cl (hr.mono (by decide)) passL (pa_cons (pv 1) (pa_cons (pv 4) pa_nil))))) (fun s1 H1 C1 cl fp => pv 4))
      (pss_one (ps_ret (pe_ifExp (pt_truth (pv 3) (by intro _; rfl)) (pe_ix ix_list (pv 3) (pe_un un_neg (pe_int)) (fun _ _ => rfl)) (pe_non))))))), ?_⟩
    refine ⟨_, rfl, _, rfl, p, ds, z, v, d, rfl, hR, hd, qE, fun hb => ?_⟩
    obtain ⟨w, rfl, hw⟩ := int_w hd hb
    have qq := qQ w rfl hw
    obtain ⟨dx, T1, ws, q, dq, fs, dw, hp, hT, hx, hqi, hq, hl, hlk, a1, a2⟩ := way_at hR hw
    refine ⟨_, rfl, p, A.Race, dx, _, _, rfl, hp, T.Race.cl, T.r_ways, rfl, _, rfl, T1, ws, (w : Int), .ref q, rfl, rfl, hT, atI_nat hx, q, dq, _, rfl, hqi, hlk, q, dw.1, dw.2.1, dw.2.2, [], rfl, hq, fun hn => ?_, fun n hn tw H1 e1 htw => ?_⟩
    · have h := qq H Ext.rfl'
      unfold moms at h
      rw [a1, hn, if_neg (by decide)] at h
      exact ⟨_, rfl, rfl, _, rfl, iteT h⟩
    · obtain ⟨o1, o2⟩ := a2 n hn
      have hh : has ds w = true := by rw [a1, hn]; rfl
      obtain ⟨b1, b2, b3⟩ := gds_sm hg hh
      refine ⟨_, rfl, rfl, _, rfl, iteF ?_⟩
      rw [o1, o2] at htw
      refine ⟨_, rfl, tw, _, 0, .int (opn ds w), rfl, rfl, SqT.of htw, rfl, _, rfl, tw, _, 1, .int (fin ds w), rfl, rfl, SqT.of htw, rfl, _, _, rfl, rfl, opn ds w, fin ds w + 1, rfl, ⟨by omega, by omega, by omega, by omega⟩, ?_⟩
      refine lc_rgR (n := (fin ds w + 1 - opn ds w).toNat) (b := fun m => can ds z w (opn ds w + (m : Int))) (f := fun m => .int (opn ds w + (m : Int))) (small_sz (by omega)) (fun x => rfl) (fun m hm H' e' Q' q' => ?_) (fun m hm _ H' e' Q' q' => ⟨_, rfl, q' _ Ext.rfl'⟩) (fun B H7 hB e7 hlB => ?_)
      · refine ⟨_, rfl, p, dx, _, rfl, e' _ _ (e1 _ _ hp), rfl, _, rfl, _, rfl, p, ds, z, _, d, _, rfl, (hR.ext e1).ext e', hsm, dp_ext e' _ _ (dp_ext e1 _ _ hd), (fun h => by rw [hb] at h; cases h), fun w' hw' _ H2 e2 => ⟨_, rfl, ?_⟩⟩
        obtain rfl : w = w' := by injection hw' with hw'; omega
        exact q' _ e2
      · have hm : moms ds z w = ((List.range (fin ds w + 1 - opn ds w).toNat).filter fun m : Nat => can ds z w (opn ds w + (m : Int))).map fun m : Nat => opn ds w + (m : Int) := by
          unfold moms
          rw [if_pos hh]
        have hlB' : H7 B = some (.lst ((moms ds z w).map V.int)) := by
          rw [hm, List.map_map]
          exact hlB
        have h := qq H7 (e1.trans e7)
        refine ⟨_, rfl, _, .inl ⟨_, SqL.of hlB', rfl⟩, ?_⟩
        cases hz : (moms ds z w).getLast? with
        | none =>
          rw [hz] at h
          rw [List.getLast?_eq_none_iff.mp hz]
          exact iteF h
        | some x =>
          rw [hz] at h
          have ne : (!((moms ds z w).map V.int).isEmpty) = true := by
            cases hq : moms ds z w with
            | nil => rw [hq] at hz; cases hz
            | cons _ _ => rfl
          show if (!((moms ds z w).map V.int).isEmpty) = true then _ else _
          rw [ne]
          refine iteT ⟨_, rfl, _, rfl, B, _, -1, .int x, rfl, rfl, SqL.of hlB', last_at ?_, h⟩
          rw [List.getLast?_map, hz]
          rfl
end
end K18

set_option Elab.async false
set_option maxRecDepth 100000
set_option maxHeartbeats 4000000
namespace K18
open PySem PySem.Spec PyProof.Rows L2
theorem bet_in {j n : Nat} (h : j < n) : betD (.int (j : Int)) 0 ((n : Int) - 1) = true := by
  rw [bet_int, decide_eq_true (by omega), decide_eq_true (by omega)]
  rfl
def wins (ds : List Wd) (z : Int) : List Nat := (List.range ds.length).filter fun j => (moms ds z j).getLast?.isSome
section
variable {P : Program} {w : World} {K : PySem.W.Frag} {mg : Str → Option Value} {base : Heap} {A : Ad}
def spWins (K : PySem.W.Frag) (A : Ad) : Sp := fun vs H Q E => ∃ (p : Addr) (ds : List Wd) (z : Int), vs = [.ref p] ∧ RaceD K A H p ds z ∧ ds.length ≤ 1000 ∧ Gds ds ∧ ∀ q H', Ext H H' → H' q = some (.tup ((wins ds z).map nI)) → Q (.ref q) H'
theorem ok_winners {f : Addr} {fd : FuncData} (F : Fun K "winners" "Race.winners" s_Race_winners f fd) (T : Txt K mg A) (O_Race_last_win : OwnM P w K mg base (L2.CX P w) A.Race "last_win" 9 pm_Race_last_win (spLast K A)) : FnOk P w K mg base CX0 10 f fd pm_Race_winners (spWins K A) := by
  refine F.ok sc_Race_winners (fun vs H Q E h => ?_) (fun cdv A' outer s H vs Q E hr h => ?_)
  · obtain ⟨_, _, _, rfl, _⟩ := h
    rfl
  · obtain ⟨p, ds, z, rfl, hR, hsm, hg, qQ⟩ := h
    refine ⟨_, pss_one (ps_ret (pe_callTy call_tuple_of (by rfl) T.n_tuple (by decide +kernel) (pa_cons (pe_lc (own := [("way", 1)]) (g := gName 1) (by rfl) sc_Race_winners.nd (pi_range1 rfl T.n_range (pa_cons (pe_callB call_len_seq (by rfl) T.n_len (by decide +kernel) (pa_cons (pe_fld (pv 0) rfl) pa_nil)) pa_nil)) (blkOk_by (own := [("way", 1)]) (N := nm_Race_winners) (sc := defScope s_Race_winners) (by decide +kernel)) (fun _ _ _ _ _ => pg_name (i := 1) sc_Race_winners.nd rfl (Or.inl rfl)) (fun s1 H1 C1 cl fp => pts_one (pt_cmpR op_notN (pe_ownM O_Race_last_win (pv 0) T.Race.cl (hr.mono (by decide)) passL (pa_cons (pv 1) pa_nil)) (pe_non) (nomark _))) (fun s1 H1 C1 cl fp => pv 1)) pa_nil))), ?_⟩
    obtain ⟨dx, T1, ws, hp, hT, hws⟩ := id hR
    refine ⟨_, rfl, p, A.Race, dx, _, _, rfl, hp, T.Race.cl, T.r_ways, rfl, T1, ws, rfl, .inr hT, _, rfl, by omega, by rw [hws.1]; omega, ?_⟩
    rw [hws.1]
    refine lc_rgR (n := ds.length) (b := fun m => (moms ds z m).getLast?.isSome) (f := fun m => nI m) (small_sz (by omega)) (fun x => rfl) (fun m hm H' e' Q' q' => ?_) (fun m hm _ H' e' Q' q' => ⟨_, by rw [Int.zero_add]; rfl, q' _ Ext.rfl'⟩) (fun B H7 hB e7 hlB => ?_)
    · rw [Int.zero_add]
      refine ⟨_, rfl, p, dx, _, rfl, e' _ _ hp, rfl, _, rfl, p, ds, z, _, .int (m : Int), rfl, hR.ext e', hsm, hg, .int _, (fun h => by rw [bet_in hm] at h; cases h), fun w' hw' _ H2 e2 => ?_⟩
      obtain rfl : m = w' := by injection hw' with hw'; omega
      have h := q' _ e2
      cases hz : (moms ds z m).getLast? with
      | none =>
        rw [hz] at h
        exact ⟨rfl, _, rfl, h⟩
      | some x =>
        rw [hz] at h
        exact ⟨rfl, _, rfl, h⟩
    · exact ⟨B, _, rfl, .inl ⟨SqL.of hlB, fun tq htq => qQ tq _ (e7.upd' htq) upd_same⟩⟩
def spLatest (K : PySem.W.Frag) (A : Ad) : Sp := fun vs H Q E => ∃ (p : Addr) (ds : List Wd) (z : Int), vs = [.ref p] ∧ RaceD K A H p ds z ∧ ds.length ≤ 1000 ∧ 0 ≤ z ∧ ∀ (E : List Int) H', E.Perm (ends ds) → E.Pairwise (· ≤ ·) → Ext H H' → Q (bV E[z.toNat]?) H'
theorem ok_latest {f : Addr} {fd : FuncData} (F : Fun K "latest" "Race.latest" s_Race_latest f fd) (T : Txt K mg A) (O_Race_planned : OwnM P w K mg base CX0 A.Race "planned" 2 pm_Race_planned (spPlanned K A)) (O_Way_window : OwnM P w K mg base CX0 A.Way "window" 1 pm_Way_window (spWindow K A)) : FnOk P w K mg base CX0 3 f fd pm_Race_latest (spLatest K A) := by
  refine F.ok sc_Race_latest (fun vs H Q E h => ?_) (fun cdv A' outer s H vs Q E hr h => ?_)
  · obtain ⟨_, _, _, rfl, _⟩ := h
    rfl
  · obtain ⟨p, ds, z, rfl, hR, hsm, hz0, qQ⟩ := h
    refine ⟨_, pss_cons (ps_set (i := 1) sc_Race_latest.nd rfl (Or.inl rfl) (pe_callB cr_sortedI (by rfl) T.n_sorted (by decide +kernel) (pa_cons (pe_lc (own := [("way", 2)]) (g := gName 2) (by rfl) sc_Race_latest.nd (pi_tup (pe_ownM0 O_Race_planned (pv 0) T.Race.cl (hr.mono (by decide)) pass0)) (blkOk_by (own := [("way", 2)]) (N := nm_Race_latest) (sc := defScope s_Race_latest) (by decide +kernel)) (fun _ _ _ _ _ => pg_name (i := 2) sc_Race_latest.nd rfl (Or.inl rfl)) (fun s1 H1 C1 cl fp => pts_nil) (fun s1 H1 C1 cl fp => pe_callTy call_int1 (by rfl) T.n_int (by decide +kernel) (pa_cons (pe_ix (ix_tupK (K := K) rfl) (pe_ownM0 O_Way_window (pe_ix (ix_tupK (K := K) rfl) (pe_fldK (K := K) rfl (pv 0) rfl) (pv 2) (fun _ _ => rfl)) T.Way.cl (hr.mono (by decide)) pass0) (pe_int) (fun _ _ => rfl)) pa_nil))) pa_nil)))
      (pss_one (ps_ret (pe_ifExp (pt_cmpR op_gt (pe_callB call_len_seq (by rfl) T.n_len (by decide +kernel) (pa_cons (pv 1) pa_nil)) (pe_fld (pv 0) rfl) (nomark _)) (pe_ix ix_list (pv 1) (pe_fld (pv 0) rfl) (fun _ _ => rfl)) (pe_non)))), ?_⟩
    obtain ⟨dx, T1, ws, hp, hT, hws⟩ := id hR
    refine ⟨_, rfl, p, dx, _, rfl, hp, rfl, p, ds, z, rfl, hR, hsm, fun tp H1 e1 htp => ⟨tp, rfl, ⟨_, SqT.of htp⟩, fun D hD => ?_⟩⟩
    rw [pl_plan] at htp
    have hT1 := hT.ext e1
    have hR1 := hR.ext e1
    have hp1 := e1 _ _ hp
    refine lc_it (walk_tup (xs := (plan ds).map nI)) (fun i H' => Ext H1 H' ∧ H' D = some (.lst ((((plan ds).take i).map (fin ds)).map V.int))) ⟨Ext.upd hD, upd_same⟩ (fun i H' _ pv => SqT.of (pv.1 _ _ htp)) (fun i x H' H2 hi pv hy => ?_) (fun H' pv => ?_)
    · obtain ⟨e2, hD2⟩ := pv
      obtain ⟨rfl, hx⟩ := hy
      rw [List.getElem?_map] at hx
      cases hj : (plan ds)[i]? with
      | none => rw [hj] at hx; cases hx
      | some j =>
        rw [hj] at hx
        cases hx
        obtain ⟨hh, hjn⟩ := plan_has hj
        obtain ⟨dx', T1', ws', q, dq, fs, dj, hp', hT', hx', hqi, hq, hl, hlk, a1, a2⟩ := way_at (hR1.ext e2) hjn
        refine ⟨rfl, _, rfl, p, A.Race, dx', _, _, rfl, hp', T.Race.cl, T.r_ways, rfl, _, rfl, T1', ws', (j : Int), .ref q, rfl, rfl, hT', atI_nat hx', q, dq, _, rfl, hqi, hlk, q, dj.1, dj.2.1, dj.2.2, [], rfl, hq, (fun hn => by rw [a1, hn] at hh; cases hh), fun n hn tw H3 e3 htw => ⟨tw, _, 1, .int (n + 2 * dj.2.2), rfl, rfl, SqT.of htw, rfl, .inl ⟨_, rfl, ?_⟩⟩⟩
        refine ⟨_, e3 _ _ hD2, small_sz ?_, ext_mut (e2.trans e3) hD, ?_⟩
        · rw [List.length_map, List.length_map, List.length_take]
          have := plan_len ds
          omega
        · rw [upd_same, take_snoc hj, List.map_append, List.map_append, (a2 n hn).2]
          rfl
    · obtain ⟨e2, hD2⟩ := pv
      rw [List.length_map, List.take_length] at hD2
      refine ⟨D, ends ds, rfl, SqL.of hD2, fun E q hperm hsrt hq => ?_⟩
      have e3 := Ext.upd (o := .lst (E.map V.int)) hq
      have e13 := e1.trans (e2.trans e3)
      have h := qQ E _ hperm hsrt e13
      refine ⟨_, rfl, q, _, rfl, .inl (SqL.of upd_same), _, rfl, p, A.Race, dx, _, _, rfl, e13 _ _ hp, T.Race.cl, T.r_silent, rfl, _, _, rfl, rfl, _, rfl, ?_⟩
      rw [List.length_map]
      by_cases hlt : (E.length : Int) > z
      · rw [decide_eq_true hlt]
        have hlt' : z.toNat < E.length := by omega
        rw [List.getElem?_eq_getElem hlt'] at h
        refine iteT ⟨_, rfl, _, rfl, p, A.Race, dx, _, _, rfl, e13 _ _ hp, T.Race.cl, T.r_silent, rfl, q, _, z, .int E[z.toNat], rfl, rfl, SqL.of upd_same, ?_, h⟩
        have k := atI_nat (xs := E.map V.int) (j := z.toNat) (v := .int E[z.toNat]) (by rw [List.getElem?_map, List.getElem?_eq_getElem hlt']; rfl)
        rw [Int.toNat_of_nonneg hz0] at k
        exact k
      · rw [decide_eq_false hlt]
        rw [List.getElem?_eq_none (by omega)] at h
        exact iteF h
end
end K18

set_option Elab.async false
namespace K18
/-! runs as the law makes them -/
def rowE (l m a : Int) : List En := (List.range (m + 1 - l).toNat).map fun b : Nat => some (a, l + (b : Int))
def pairs (l m : Int) (n : Nat) : List En := (List.range n).flatMap fun a : Nat => rowE l m (l + (a : Int))
def ents (d : Wd) : List En := none :: (if d.1.isSome = true then pairs d.2.1 d.2.2 (d.2.2 + 1 - d.2.1).toNat else [])
theorem pairs_succ (l m : Int) (n : Nat) : pairs l m (n + 1) = pairs l m n ++ rowE l m (l + (n : Int)) := by
  unfold pairs
  rw [List.range_succ, List.flatMap_append]
  simp
theorem mem_pairs {l m : Int} {n : Nat} {e : En} : e ∈ pairs l m n ↔ ∃ a b : Int, e = some (a, b) ∧ l ≤ a ∧ a < l + (n : Int) ∧ l ≤ b ∧ b ≤ m := by
  unfold pairs rowE
  rw [List.mem_flatMap]
  constructor
  · rintro ⟨a, ha, hb⟩
    obtain ⟨b, hb2, rfl⟩ := List.mem_map.mp hb
    have h1 := List.mem_range.mp ha
    have h2 := List.mem_range.mp hb2
    exact ⟨_, _, rfl, by omega, by omega, by omega, by omega⟩
  · rintro ⟨a, b, rfl, h1, h2, h3, h4⟩
    refine ⟨(a - l).toNat, List.mem_range.mpr (by omega), List.mem_map.mpr ⟨(b - l).toNat, List.mem_range.mpr (by omega), ?_⟩⟩
    rw [Int.toNat_of_nonneg (by omega), Int.toNat_of_nonneg (by omega)]
    congr 2 <;> omega
theorem mem_ents {d : Wd} {e : En} : e ∈ ents d ↔ ∀ a b, e = some (a, b) → d.1.isSome = true ∧ d.2.1 ≤ a ∧ a ≤ d.2.2 ∧ d.2.1 ≤ b ∧ b ≤ d.2.2 := by
  unfold ents
  rw [List.mem_cons]
  constructor
  · rintro (rfl | h) a b he
    · cases he
    · cases hs : d.1.isSome with
      | false => rw [hs, if_neg (by decide)] at h; cases h
      | true =>
        rw [hs, if_pos rfl, mem_pairs] at h
        obtain ⟨a', b', rfl, h1, h2, h3, h4⟩ := h
        cases he
        exact ⟨rfl, by omega, by omega, by omega, by omega⟩
  · intro h
    cases e with
    | none => exact .inl rfl
    | some p =>
      obtain ⟨a, b⟩ := p
      obtain ⟨h0, h1, h2, h3, h4⟩ := h a b rfl
      rw [h0, if_pos rfl, mem_pairs]
      exact .inr ⟨a, b, rfl, by omega, by omega, by omega, by omega⟩
theorem rowE_len (l m a : Int) : (rowE l m a).length = (m + 1 - l).toNat := by unfold rowE; rw [List.length_map, List.length_range]
theorem pairs_len (l m : Int) : ∀ n, (pairs l m n).length = n * (m + 1 - l).toNat
  | 0 => by unfold pairs; simp
  | n + 1 => by rw [pairs_succ, List.length_append, pairs_len l m n, rowE_len, Nat.succ_mul]
theorem ents_len {d : Wd} (h : d.2.2 - d.2.1 ≤ 9) : (ents d).length ≤ 101 := by
  unfold ents
  rw [List.length_cons]
  cases hs : d.1.isSome with
  | false => rw [if_neg (by decide)]; decide
  | true =>
    rw [if_pos rfl, pairs_len]
    have h10 : (d.2.2 + 1 - d.2.1).toNat ≤ 10 := by omega
    have := Nat.mul_le_mul h10 h10
    omega
/-- one way more -/
def more (rs : List (List En)) (d : Wd) : List (List En) := rs.flatMap fun es => (ents d).map fun e => es ++ [e]
def rns (ds : List Wd) : Nat → List (List En)
  | 0 => [[]]
  | j + 1 => match ds[j]? with | some d => more (rns ds j) d | none => rns ds j
theorem more_len {rs : List (List En)} {d : Wd} : (more rs d).length = rs.length * (ents d).length := by
  unfold more
  induction rs with
  | nil => simp
  | cons r rs ih =>
    rw [List.flatMap_cons, List.length_append, ih, List.length_map, List.length_cons, Nat.succ_mul, Nat.add_comm]
theorem ent_snoc {es : List En} {e : En} {i : Nat} : ent (es ++ [e]) i = if i < es.length then ent es i else if i = es.length then e else none := by
  unfold ent
  by_cases h : i < es.length
  · rw [if_pos h, List.getElem?_append_left h]
  · rw [if_neg h, List.getElem?_append_right (by omega)]
    by_cases h2 : i = es.length
    · rw [if_pos h2, h2, Nat.sub_self]
      rfl
    · rw [if_neg h2]
      have : i - es.length ≥ 1 := by omega
      cases hk : i - es.length with
      | zero => omega
      | succ k => rfl
theorem mem_rns {ds : List Wd} : ∀ {j : Nat} {es : List En}, j ≤ ds.length → (es ∈ rns ds j ↔ es.length = j ∧ ∀ i d, i < j → ds[i]? = some d → ent es i ∈ ents d)
  | 0, es, _ => by
    unfold rns
    rw [List.mem_singleton]
    constructor
    · rintro rfl
      exact ⟨rfl, fun i d h => absurd h (Nat.not_lt_zero _)⟩
    · rintro ⟨h, _⟩
      exact List.length_eq_zero_iff.mp h
  | j + 1, es, hj => by
    have hjl : j < ds.length := hj
    obtain ⟨d, hd⟩ : ∃ d, ds[j]? = some d := ⟨_, List.getElem?_eq_getElem hjl⟩
    have e : rns ds (j + 1) = more (rns ds j) d := by
      show (match ds[j]? with | some d => more (rns ds j) d | none => rns ds j) = _
      rw [hd]
    rw [e]
    unfold more
    rw [List.mem_flatMap]
    constructor
    · rintro ⟨es', h1, h2⟩
      obtain ⟨x, hx, rfl⟩ := List.mem_map.mp h2
      obtain ⟨l1, l2⟩ := (mem_rns (Nat.le_of_lt hjl)).mp h1
      refine ⟨by rw [List.length_append, l1]; rfl, fun i d' hi hd' => ?_⟩
      rw [ent_snoc, l1]
      by_cases q : i < j
      · rw [if_pos q]
        exact l2 i d' q hd'
      · have : i = j := by omega
        subst this
        rw [if_neg q, if_pos rfl]
        rw [hd] at hd'
        cases hd'
        exact hx
    · rintro ⟨l1, l2⟩
      have hne : es ≠ [] := fun z => by rw [z] at l1; cases l1
      have hs := List.dropLast_concat_getLast hne
      have hl : es.dropLast.length = j := by rw [List.length_dropLast, l1]; rfl
      refine ⟨es.dropLast, (mem_rns (Nat.le_of_lt hjl)).mpr ⟨hl, fun i d' hi hd' => ?_⟩, List.mem_map.mpr ⟨es.getLast hne, ?_, hs⟩⟩
      · have := l2 i d' (by omega) hd'
        rw [← hs, ent_snoc, if_pos (by omega)] at this
        exact this
      · have := l2 j d (by omega) hd
        rw [← hs, ent_snoc, if_neg (by omega), if_pos (by omega)] at this
        exact this
theorem run_rns {ds : List Wd} {es : List En} : es ∈ rns ds ds.length ↔ Run ds es := by
  rw [mem_rns (Nat.le_refl _)]
  constructor
  · rintro ⟨h1, h2⟩
    refine ⟨h1, fun j a b he => ?_⟩
    have hj : j < ds.length := by
      by_cases q : j < ds.length
      · exact q
      · rw [ent_none (by omega)] at he
        cases he
    obtain ⟨d, hd⟩ : ∃ d, ds[j]? = some d := ⟨_, List.getElem?_eq_getElem hj⟩
    have := mem_ents.mp (h2 j d hj hd) a b he
    unfold has ls ms
    rw [hd]
    exact this
  · rintro ⟨h1, h2⟩
    refine ⟨h1, fun i d hi hd => mem_ents.mpr fun a b he => ?_⟩
    have := h2 i a b he
    unfold has ls ms at this
    rw [hd] at this
    exact this
def lim (z : Int) (ds : List Wd) : List (List En) := (rns ds ds.length).filter fun es => decide ((qn ds es : Int) ≤ z)
def outs (z : Int) (ds : List Wd) : List (Option (Nat × Int)) := (lim z ds).map (out ds)
theorem mem_lim {z : Int} {ds : List Wd} {es : List En} : es ∈ lim z ds ↔ Run ds es ∧ (qn ds es : Int) ≤ z := by
  unfold lim
  rw [List.mem_filter, run_rns, decide_eq_true_eq]
theorem mem_outs {z t : Int} {ds : List Wd} {w : Nat} (hf : Fit ds) : some (w, t) ∈ outs z ds ↔ can ds z w t = true := by
  unfold outs
  rw [List.mem_map]
  constructor
  · rintro ⟨es, h1, h2⟩
    obtain ⟨h3, h4⟩ := mem_lim.mp h1
    exact can_of_run h3 h4 h2
  · intro h
    obtain ⟨h1, h2, h3⟩ := run_of_can hf h
    exact ⟨_, mem_lim.mpr ⟨h1, h2⟩, h3⟩
theorem none_outs {z : Int} {ds : List Wd} : none ∈ outs z ds ↔ ((plan ds).length : Int) ≤ z := by
  unfold outs
  rw [List.mem_map]
  constructor
  · rintro ⟨es, h1, h2⟩
    obtain ⟨h3, h4⟩ := mem_lim.mp h1
    rw [none_of_run h3 h2] at h4
    exact h4
  · intro h
    obtain ⟨h1, h2, h3⟩ := still_run (ds := ds)
    exact ⟨_, mem_lim.mpr ⟨h1, by rw [h2]; exact h⟩, h3⟩
/-- the moments at which w answers first -/
def mom1 (w : Nat) (acc : List Int) (o : Option (Nat × Int)) : List Int := match o with
  | some (k, m) => if k = w ∧ m ∉ acc then acc ++ [m] else acc
  | none => acc
def momL (w : Nat) (os : List (Option (Nat × Int))) : List Int := os.foldl (mom1 w) []
theorem momL_snoc {w : Nat} {os : List (Option (Nat × Int))} {o : Option (Nat × Int)} : momL w (os ++ [o]) = mom1 w (momL w os) o := by
  unfold momL
  rw [List.foldl_append]
  rfl
theorem mom1_facts {w : Nat} {acc : List Int} {o : Option (Nat × Int)} (hn : acc.Nodup) : (mom1 w acc o).Nodup ∧ ∀ x, x ∈ mom1 w acc o ↔ x ∈ acc ∨ o = some (w, x) := by
  unfold mom1
  cases o with
  | none => exact ⟨hn, fun x => by simp⟩
  | some p =>
    obtain ⟨k, m⟩ := p
    dsimp only
    by_cases h : k = w ∧ m ∉ acc
    · rw [if_pos h]
      refine ⟨?_, fun x => ?_⟩
      · rw [List.nodup_append]
        refine ⟨hn, by simp, fun a ha b hb => ?_⟩
        rw [List.mem_singleton.mp hb]
        rintro rfl
        exact h.2 ha
      · rw [List.mem_append, List.mem_singleton, h.1]
        simp [eq_comm]
    · rw [if_neg h]
      refine ⟨hn, fun x => ⟨.inl, ?_⟩⟩
      rintro (h1 | h1)
      · exact h1
      · obtain ⟨h2, h3⟩ : k = w ∧ m = x := by cases h1; exact ⟨rfl, rfl⟩
        by_cases q : x ∈ acc
        · exact q
        · exact absurd ⟨h2, by rw [h3]; exact q⟩ h
theorem fold_facts {w : Nat} : ∀ {os : List (Option (Nat × Int))} {acc : List Int}, acc.Nodup → (os.foldl (mom1 w) acc).Nodup ∧ ∀ x, x ∈ os.foldl (mom1 w) acc ↔ x ∈ acc ∨ some (w, x) ∈ os
  | [], acc, h => ⟨h, fun x => by simp⟩
  | o :: os, acc, h => by
    obtain ⟨h1, h2⟩ := mom1_facts (w := w) (o := o) h
    obtain ⟨h3, h4⟩ := fold_facts (os := os) h1
    refine ⟨h3, fun x => ?_⟩
    rw [List.foldl_cons, h4, h2, List.mem_cons]
    constructor
    · rintro ((h | h) | h)
      · exact .inl h
      · exact .inr (.inl h.symm)
      · exact .inr (.inr h)
    · rintro (h | h | h)
      · exact .inl (.inl h)
      · exact .inl (.inr h.symm)
      · exact .inr h
theorem momL_facts {w : Nat} {os : List (Option (Nat × Int))} : (momL w os).Nodup ∧ ∀ x, x ∈ momL w os ↔ some (w, x) ∈ os := by
  obtain ⟨h1, h2⟩ := fold_facts (w := w) (os := os) (acc := []) List.nodup_nil
  exact ⟨h1, fun x => by rw [show momL w os = os.foldl (mom1 w) [] from rfl, h2]; simp⟩
theorem momL_len {w : Nat} : ∀ {os : List (Option (Nat × Int))}, (momL w os).length ≤ os.length := by
  intro os
  have key : ∀ (os : List (Option (Nat × Int))) (acc : List Int), (os.foldl (mom1 w) acc).length ≤ acc.length + os.length := by
    intro os
    induction os with
    | nil => intro acc; exact Nat.le_refl _
    | cons o os ih =>
      intro acc
      have h := ih (mom1 w acc o)
      have h2 : (mom1 w acc o).length ≤ acc.length + 1 := by
        unfold mom1
        cases o with
        | none => exact Nat.le_succ _
        | some p =>
          obtain ⟨k, m⟩ := p
          dsimp only
          split
          · rw [List.length_append]; exact Nat.le_refl _
          · exact Nat.le_succ _
      rw [List.foldl_cons, List.length_cons]
      omega
  have := key os []
  rw [List.length_nil, Nat.zero_add] at this
  exact this
/-- two lists of the same things, each thing once, in order -/
theorem same_of {l m : List Int} (hl : l.Nodup) (hm : m.Nodup) (h : ∀ x, x ∈ l ↔ x ∈ m) (sl : l.Pairwise (· ≤ ·)) (sm : m.Pairwise (· ≤ ·)) : l = m :=
  ((List.perm_ext_iff_of_nodup hl hm).mpr h).eq_of_pairwise (fun _ _ _ _ h1 h2 => Int.le_antisymm h1 h2) sl sm
theorem cans_range {ds : List Wd} {z : Int} {w : Nat} {l : List Int} (hn : l.Nodup) (hs : l.Pairwise (· ≤ ·)) (hm : ∀ x, x ∈ l ↔ can ds z w x = true) {last : Int} (hl : l.getLast? = some last) : l = (List.range (last + 1 - opn ds w).toNat).map fun m : Nat => opn ds w + (m : Int) := by
  have hlast : can ds z w last = true := (hm _).mp (List.mem_of_getLast? hl)
  have hle : ∀ x ∈ l, x ≤ last := fun x hx => by
    obtain ⟨ys, rfl⟩ := List.getLast?_eq_some_iff.mp hl
    rcases List.mem_append.mp hx with h | h
    · exact (List.pairwise_append.mp hs).2.2 x h last (by simp)
    · rw [List.mem_singleton.mp h]
      exact Int.le_refl _
  refine same_of hn ?_ (fun x => ?_) hs ?_
  · rw [List.nodup_iff_pairwise_ne, List.pairwise_map]
    exact List.nodup_range.imp fun h e => h (by omega)
  · rw [List.mem_map]
    constructor
    · intro hx
      have h1 := hle x hx
      have h2 := (can_iff.mp ((hm x).mp hx)).2.1.1
      exact ⟨(x - opn ds w).toNat, List.mem_range.mpr (by omega), by omega⟩
    · rintro ⟨m, h1, rfl⟩
      have := List.mem_range.mp h1
      exact (hm _).mpr (can_mono hlast (by omega) (by omega))
  · rw [List.pairwise_map]
    exact List.pairwise_lt_range.imp fun h => by omega
end K18

set_option Elab.async false
set_option maxRecDepth 100000
set_option maxHeartbeats 4000000
namespace K18
open PySem PySem.Spec PyProof.Rows L2
def Rel2 {α : Type} (R : V → α → Prop) : List V → List α → Prop
  | [], [] => True
  | v :: vs, q :: qs => R v q ∧ Rel2 R vs qs
  | _, _ => False
section
variable {α : Type} {R R' : V → α → Prop}
theorem Rel2.to (e : ∀ v a, R v a → R' v a) : ∀ {vs : List V} {qs : List α}, Rel2 R vs qs → Rel2 R' vs qs
  | [], [], _ => trivial
  | [], _ :: _, h => h.elim
  | _ :: _, [], h => h.elim
  | _ :: _, _ :: _, ⟨a, h⟩ => ⟨e _ _ a, Rel2.to e h⟩
theorem Rel2.cat : ∀ {vs us : List V} {qs rs : List α}, Rel2 R vs qs → Rel2 R us rs → Rel2 R (vs ++ us) (qs ++ rs)
  | [], _, [], _, _, h => h
  | [], _, _ :: _, _, h, _ => h.elim
  | _ :: _, _, [], _, h, _ => h.elim
  | _ :: _, _, _ :: _, _, ⟨a, h⟩, h' => ⟨a, Rel2.cat h h'⟩
theorem Rel2.one {v : V} {a : α} (h : R v a) : Rel2 R [v] [a] := ⟨h, trivial⟩
theorem Rel2.len : ∀ {vs : List V} {qs : List α}, Rel2 R vs qs → vs.length = qs.length
  | [], [], _ => rfl
  | [], _ :: _, h => h.elim
  | _ :: _, [], h => h.elim
  | _ :: _, _ :: _, ⟨_, h⟩ => by rw [List.length_cons, List.length_cons, Rel2.len h]
theorem Rel2.get : ∀ {vs : List V} {qs : List α} {i : Nat} {v : V}, Rel2 R vs qs → vs[i]? = some v → ∃ q, qs[i]? = some q ∧ R v q
  | _ :: _, q :: _, 0, _, ⟨a, _⟩, hv => by
    cases hv
    exact ⟨q, rfl, a⟩
  | _ :: _, _ :: _, i + 1, _, ⟨_, h⟩, hv => Rel2.get (i := i) h hv
  | [], [], _, _, _, hv => nomatch hv
  | [], _ :: _, _, _, h, _ => h.elim
  | _ :: _, [], _, _, h, _ => h.elim
theorem Rel2.got {vs : List V} {qs : List α} {i : Nat} {q : α} (h : Rel2 R vs qs) (hq : qs[i]? = some q) : ∃ v, vs[i]? = some v ∧ R v q := by
  have hi : i < vs.length := by
    rw [h.len]
    exact (List.getElem?_eq_some_iff.mp hq).1
  obtain ⟨v, hv⟩ : ∃ v, vs[i]? = some v := ⟨_, List.getElem?_eq_getElem hi⟩
  obtain ⟨q', h1, h2⟩ := h.get hv
  rw [hq] at h1
  cases h1
  exact ⟨v, hv, h2⟩
end
def EnAt (H : Hp) (v : V) : En → Prop
  | none => v = .non
  | some (a, b) => ∃ t, v = .ref t ∧ H t = some (.tup [.int a, .int b])
def RnAt (H : Hp) (v : V) (es : List En) : Prop := ∃ t vs, v = .ref t ∧ H t = some (.tup vs) ∧ Rel2 (EnAt H) vs es
def Wl (H : Hp) (D : Addr) (ds : List Wd) : Prop := ∃ qs, H D = some (.lst qs) ∧ Rel2 (fun v d => ∃ t, v = .ref t ∧ H t = some (.tup (w3 d))) qs ds
/-- tuples stay -/
def KT (H H' : Hp) : Prop := ∀ t xs, H t = some (.tup xs) → H' t = some (.tup xs)
theorem Ext.kt {H H' : Hp} (e : Ext H H') : KT H H' := fun t xs h => e _ _ h
theorem KT.trans {H H1 H2 : Hp} (a : KT H H1) (b : KT H1 H2) : KT H H2 := fun t xs h => b t xs (a t xs h)
theorem kt_set {H : Hp} {p : Addr} {xs ys : List V} (h : H p = some (.lst xs)) : KT H (upd H p (.lst ys)) := fun t zs ht => by
  rw [upd_ne (fun z => by rw [z, h] at ht; cases ht)]
  exact ht
theorem EnAt.k {H H' : Hp} (e : KT H H') : ∀ v a, EnAt H v a → EnAt H' v a
  | _, none, h => h
  | _, some (_, _), ⟨t, h1, h2⟩ => ⟨t, h1, e _ _ h2⟩
theorem RnAt.k {H H' : Hp} (e : KT H H') (v : V) (es : List En) (h : RnAt H v es) : RnAt H' v es := by
  obtain ⟨t, vs, h1, h2, h3⟩ := h
  exact ⟨t, vs, h1, e _ _ h2, h3.to (EnAt.k e)⟩
theorem Wl.ext {H H' : Hp} {D : Addr} {ds : List Wd} (h : Wl H D ds) (e : Ext H H') : Wl H' D ds := by
  obtain ⟨qs, h1, h2⟩ := h
  exact ⟨qs, e _ _ h1, h2.to fun v d ⟨t, a, b⟩ => ⟨t, a, e _ _ b⟩⟩
section
variable {P : Program} {w : World} {K : PySem.W.Frag} {mg : Str → Option Value} {base : Heap} {A : Ad}
end
end K18

set_option Elab.async false
set_option maxRecDepth 100000
set_option maxHeartbeats 4000000
namespace L2
open PySem PySem.Spec PyProof.Rows
section
variable {X : Cx} {K : PySem.W.Frag} {a : Expr} {ta : TE}
/-- a truth test with K named, for what stands within a comprehension -/
def tTruK (K : PySem.W.Frag) (ta : TE) : TT := fun σ H Q => ta σ H fun x H' => ∃ k, TruV K x H' k ∧ Q k H'
theorem pt_truthK (h : X.K = K) (ha : PE X a ta) (he : ∀ whole, isTrue a X.env whole = (do let v ← whole; standAt a.pos; holding [v] (truthy v))) :
    PT X a (tTruK K ta) := by
  subst h
  exact pt_truth ha he
end
end L2

set_option Elab.async false
set_option maxRecDepth 100000
set_option maxHeartbeats 4000000
/-! for over a list or a tuple, one walk for both; the body only adds to the heap -/
namespace L2
open PySem PySem.Spec PyProof.Rows
section
variable {K : PySem.W.Frag} {a : Addr} {xs : List V}
theorem for_sq {g : TG} {tb : TS} {D : Ends} {σ : St} {H : Hp} (hx : SqL K H a xs ∨ SqT K H a xs) (Pv : Nat → St → Hp → Prop) (h0 : Pv 0 σ H) (hE : ∀ i σ' H', Pv i σ' H' → Ext H H')
    (hs : ∀ i x σ' H', xs[i]? = some x → Pv i σ' H' → g x σ' H' fun σ2 H2 => tb { D with nx := Pv (i + 1), ct := Pv (i + 1), bk := D.nx } σ2 H2) (hd : ∀ σ' H', Pv xs.length σ' H' → D.nx σ' H') :
    ((∃ xs, SqL K H a xs) ∧ turnsOf g tb D σ (Itl K a) H) ∨ ((∃ xs, SqT K H a xs) ∧ turnsOf g tb D σ (Itt K a) H) := by
  have step : ∀ i x σ' H' H'', i < xs.length → Pv i σ' H' → YAt xs i H' x H'' → g x σ' H'' fun σ2 H2 => tb { D with nx := Pv (i + 1), ct := Pv (i + 1), bk := D.nx } σ2 H2 := by
    rintro i x σ' H' H'' _ pv ⟨rfl, hx'⟩
    exact hs i x σ' H'' hx' pv
  rcases hx with hx | hx
  · exact .inl ⟨⟨xs, hx⟩, for_it (walk_list (xs := xs)) Pv h0 (fun i σ' H' _ pv => hx.ext (hE i σ' H' pv)) step hd⟩
  · exact .inr ⟨⟨xs, hx⟩, for_it (walk_tup (xs := xs)) Pv h0 (fun i σ' H' _ pv => hx.ext (hE i σ' H' pv)) step hd⟩
end
end L2

set_option Elab.async false
set_option maxRecDepth 100000
set_option maxHeartbeats 4000000
/-! a tuple whose object is known: its methods may be called -/
namespace L2
open PySem PySem.Spec PyProof.Rows
def FrzT (H : Hp) (a : Addr) (ts : List V) : Prop := ∃ o, H a = some (.frz o (.tup ts)) ∧ o.dict = none
theorem FrzT.sqT {K : PySem.W.Frag} {H : Hp} {a : Addr} {ts : List V} (h : FrzT H a ts) : SqT K H a ts := by
  obtain ⟨o, h, _⟩ := h
  exact .inl (.inr ⟨o, h⟩)
theorem FrzT.ext {H H' : Hp} {a : Addr} {ts : List V} (h : FrzT H a ts) (e : Ext H H') : FrzT H' a ts := by
  obtain ⟨o, h, d⟩ := h
  exact ⟨o, e _ _ h, d⟩
def rTupFrz (K : PySem.W.Frag) : List V → Hp → VK → Prop := fun xs H Q => ∃ p ys, xs = [.ref p] ∧ SqL K H p ys ∧ ∀ l o, H l = none → o.dict = none → Q (.ref l) (upd H l (.frz o (.tup ys)))
section
variable {X : Cx}
theorem call_tuple_frz : CallR X (.type "tuple") (rTupFrz X.K) := by
  intro pins s σ H xs us Q I r h
  obtain ⟨p, ys, rfl, hq, q⟩ := h
  obtain ⟨u, rfl, rx⟩ := vals1 r
  cases rx
  obtain ⟨its, r', pl, hz⟩ := I.list hq
  have hlen := r'.length
  refine call_tuple_list pl.isList (fun h' kp => ?_) (by simp only [List.size_toArray] <;> omega)
  have I1 : Inv X pins σ H { s with heap := h' } := I.kept (t' := s.toks) kp
  have I2 : Inv X pins σ (upd H h'.objs.size (.frz { cls := .type "tuple", data := .seq its.toArray } (.tup ys))) { s with heap := h'.push { cls := .type "tuple", data := .seq its.toArray } } :=
    I1.laid (t' := s.toks) (fun b o e => Heap.get?_push_of_some _ e) (Nat.le_refl _) (show ObjOk X.prog X.w _ _ _ (.frz _ (.tup ys)) from ⟨Heap.get?_push_size _ rfl, hz, its, r', IsTup.new _ _⟩)
  exact ⟨.ref h'.objs.size, _, I2, rfl, q _ _ (I1.hok.fresh (Nat.le_refl _)) rfl⟩
def tTM (r : V → List V → Hp → VK → Prop) (to : TE) (t : TA) : TE := fun σ H Q => to σ H fun x H1 => ∃ a ts, x = .ref a ∧ FrzT H1 a ts ∧ t σ H1 fun xs H2 => r x xs H2 Q
variable {o e : Expr} {es : List Expr} {to : TE} {t : TA} {name : Str} {apos cpos : Pos} {id : String} {r : V → List V → Hp → VK → Prop}
theorem pe_tm (slot : Slot "tuple" name id) (hty : typeOf (.builtin id) = pure (.type "method_descriptor")) (hm : MtR X id r) (ho : PE X o to) (ha : PA X (e :: es) t)
    (hbase : attributeBase o name X.env (eval o X.env) = eval o X.env := by rfl)
    (hfew : ((backTo cpos (starEach (e :: es) X.env)).all (fun x => !x.1) && (backToKw cpos (keywordEach [] X.env)).all (fun x => x.1.isSome)
      && decide ((e :: es).length + ([] : List Keyword).length + (if ([] : List Keyword).isEmpty then 0 else 1) < 30)) = true := by rfl)
    (hline : (apos.endLine == cpos.line) = true := by rfl) (hs : starEach (e :: es) X.env = (false, eval e X.env) :: starEach es X.env := by rfl) (hplain : (backTo cpos (starEach es X.env)).any (·.1) = false := by rfl) :
    PE X (.Call (.Attribute o name apos) (e :: es) [] cpos) (tTM r to t) := by
  refine ⟨fun pins s σ H Q I h => ?_⟩
  refine wpAny_Call_method_late hbase hfew hline rfl (thn (ho.run pins s σ H _ I h) fun v s1 ⟨x, H1, I1, r1, a, ts, ex, hf, q1⟩ => ?_)
  subst ex
  obtain ⟨ob, hf, hd⟩ := hf
  obtain ⟨h0, _, its, _, ⟨ob', h0', hc, _⟩⟩ := I1.hok a _ hf
  rw [h0] at h0'
  cases h0'
  cases (show v = Value.ref a from r1)
  refine ⟨"tuple", id, PySem.F.plainAttrs_tuple, slot, hty, ⟨ob, h0, hc⟩, fun b eb => by cases eb; exact ⟨ob, h0, hd⟩, ?_⟩
  have hA := ha.run cpos pins s1 σ H1 _ I1 q1
  rw [hs] at hA ⊢
  refine Calls.callWith_builtin (by show (false || (backTo cpos (starEach es X.env)).any (·.1)) = false; rw [hplain] <;> rfl) (Calls.evalArgs_plain ?_)
  exact thn hA fun us s2 ⟨vs, H2, I2, r2, q2⟩ => hm pins s2 σ H2 (.ref a) vs (.ref a) us Q I2 rfl r2 q2
end
theorem sl_listK {X : Cx} {K : PySem.W.Frag} (h : X.K = K) : SlR X (rSlL K) := by
  subst h
  exact sl_list
section
variable {K : PySem.W.Frag} {a : Addr} {xs : List V}
/-- for over a list or a tuple that the body leaves, though it writes elsewhere -/
theorem for_sqM {g : TG} {tb : TS} {D : Ends} {σ : St} {H0 H : Hp} (hx : SqL K H0 a xs ∨ SqT K H0 a xs) (Pv : Nat → St → Hp → Prop) (h0 : Pv 0 σ H) (hE : ∀ i σ' H', Pv i σ' H' → Ext H0 H')
    (hs : ∀ i x σ' H', xs[i]? = some x → Pv i σ' H' → g x σ' H' fun σ2 H2 => tb { D with nx := Pv (i + 1), ct := Pv (i + 1), bk := D.nx } σ2 H2) (hd : ∀ σ' H', Pv xs.length σ' H' → D.nx σ' H') :
    ((∃ xs, SqL K H a xs) ∧ turnsOf g tb D σ (Itl K a) H) ∨ ((∃ xs, SqT K H a xs) ∧ turnsOf g tb D σ (Itt K a) H) := by
  have step : ∀ i x σ' H' H'', i < xs.length → Pv i σ' H' → YAt xs i H' x H'' → g x σ' H'' fun σ2 H2 => tb { D with nx := Pv (i + 1), ct := Pv (i + 1), bk := D.nx } σ2 H2 := by
    rintro i x σ' H' H'' _ pv ⟨rfl, hx'⟩
    exact hs i x σ' H'' hx' pv
  have e0 := hE 0 _ _ h0
  rcases hx with hx | hx
  · exact .inl ⟨⟨xs, hx.ext e0⟩, for_it (walk_list (xs := xs)) Pv h0 (fun i σ' H' _ pv => hx.ext (hE i σ' H' pv)) step hd⟩
  · exact .inr ⟨⟨xs, hx.ext e0⟩, for_it (walk_tup (xs := xs)) Pv h0 (fun i σ' H' _ pv => hx.ext (hE i σ' H' pv)) step hd⟩
/-- for i, x in enumerate(e), the body leaving e, though it writes elsewhere -/
theorem for_enSqM {g : TG} {tb : TS} {D : Ends} {σ : St} {H0 H : Hp} (hx : SqL K H0 a xs ∨ SqT K H0 a xs) (Pv : Nat → St → Hp → Prop) (h0 : Pv 0 σ H) (hE : ∀ i σ' H', Pv i σ' H' → Ext H0 H')
    (hs : ∀ i x σ' H' T, xs[i]? = some x → Pv i σ' H' → H' T = none → g (.ref T) σ' (upd H' T (.tup [.int (i : Nat), x])) fun σ2 H2 => tb { D with nx := Pv (i + 1), ct := Pv (i + 1), bk := D.nx } σ2 H2) (hd : ∀ σ' H', Pv xs.length σ' H' → D.nx σ' H') :
    ((∃ xs, SqL K H a xs) ∧ turnsOf g tb D σ (Ite K a) H) ∨ ((∃ xs, SqT K H a xs) ∧ turnsOf g tb D σ (Itet K a) H) := by
  have step : ∀ i x σ' H' H'', i < xs.length → Pv i σ' H' → YPair (fun i => some (V.int (i : Nat))) (fun i => xs[i]?) i H' x H'' → g x σ' H'' fun σ2 H2 => tb { D with nx := Pv (i + 1), ct := Pv (i + 1), bk := D.nx } σ2 H2 := by
    rintro i v σ' H' H'' hi pv ⟨T, x, y, rfl, hT, rfl, hx', hy⟩
    cases hx'
    exact hs i y σ' H' T hy pv hT
  have e0 := hE 0 _ _ h0
  rcases hx with hx | hx
  · exact .inl ⟨⟨xs, hx.ext e0⟩, for_it (walk_enum (xs := xs)) Pv h0 (fun i σ' H' _ pv => hx.ext (hE i σ' H' pv)) step hd⟩
  · exact .inr ⟨⟨xs, hx.ext e0⟩, for_it (walk_enT (xs := xs)) Pv h0 (fun i σ' H' _ pv => hx.ext (hE i σ' H' pv)) step hd⟩
end
end L2

set_option Elab.async false
set_option maxRecDepth 100000
set_option maxHeartbeats 4000000
/-! data beside instances within a tuple -/
namespace L2
open PySem PySem.Spec PyProof.Rows
section
variable {X : Cx}
variable {n : Nat}
/-- two things of data -/
def DDat (K : PySem.W.Frag) : EqvB := fun x y H k => ∃ a b d e, x = .ref a ∧ y = .ref b ∧ (a = b → k = true) ∧ Dp K H x d ∧ Dp K H y e ∧ SeqAt.shaped d = true ∧ SeqAt.shaped e = true ∧ k = PyData.eqv d e
theorem rcB_dat : RcB X n (DDat X.K) := by
  intro A pins s σ H x y u v k sb I rx ry d
  obtain ⟨a, b, d, e, rfl, rfl, _, hd, he, sd, se, rfl⟩ := d
  obtain ⟨as, r1⟩ := Dp.reads I d _ u hd rx
  obtain ⟨bs, r2⟩ := Dp.reads I e _ v he ry
  exact SeqAt.compareEq_shaped r1 r2 sd se sb.room.units ⟨rfl, H, I, Ext.rfl'⟩
theorem eqB_dat : EqB X n (DDat X.K) := rcB_dat.eqB fun x y H k d => by
  obtain ⟨a, b, _, _, h1, h2, h3, _⟩ := d
  exact ⟨a, b, h1, h2, h3⟩
theorem EqB.or {D D' : EqvB} (h : EqB X n D) (h' : EqB X n D') : EqB X n (fun x y H k => D x y H k ∨ D' x y H k) := by
  intro A pins s σ H x y u v k sb I rx ry d
  exact d.elim (fun d => h A pins s σ H x y u v k sb I rx ry d) (fun d => h' A pins s σ H x y u v k sb I rx ry d)
theorem MonB.or {D D' : EqvB} (h : MonB D) (h' : MonB D') : MonB (fun x y H k => D x y H k ∨ D' x y H k) := fun x y H H' k e d => d.imp (h x y H H' k e) (h' x y H H' k e)
theorem mon_dat {K : PySem.W.Frag} : MonB (DDat K) := fun x y H H' k e d => by
  obtain ⟨a, b, d, f, h1, h2, h3, hd, he, h4⟩ := d
  exact ⟨a, b, d, f, h1, h2, h3, dp_ext e _ _ hd, dp_ext e _ _ he, h4⟩
end
end L2

set_option Elab.async false
set_option maxRecDepth 100000
set_option maxHeartbeats 4000000
/-! not in, of an own __contains__ -/
namespace L2
open PySem PySem.Spec PyProof.Rows
section
variable {X : Cx} {CX : CXT} {k : Nat} {f C : Addr} {fd : FuncData} {ps : List Str} {sp : Sp}
def rNinO (C : Addr) (sp : Sp) : R2 := fun x y H Q => ∃ a dx fs, y = .ref a ∧ H a = some (.ins C dx fs) ∧ sp [y, x] H (fun v H' => ∃ b, v = .bl b ∧ Q (.bl (!b)) H') E0
theorem op_ninO (F : FnOk X.prog X.w X.K X.mg X.base CX k f fd ps sp) (hs : PySem.W.findIn X.K (.ref C) "__contains__" = some (some (.ref f))) (hf : PySem.W.isFn X.K (.ref f) = true) (hr : Room k X.A) (hb : Binds X.K fd ps []) (hx : Passes CX X E0) : OpR X (compareOp .NotIn) (rNinO C sp) := by
  intro pins s g J x y v u Q I rx ry hq
  obtain ⟨a, dx, fs, rfl, ha, q⟩ := hq
  cases (show u = Value.ref a from ry)
  obtain ⟨mA, O, _⟩ := ins_get I.hok ha
  obtain ⟨od, O, _⟩ := O.look
  show wpAny (model X.prog X.w) X.A (contains (.ref a) v >>= fun b => pure (.bool (!b))) (EP X pins g Q) X.xe s
  refine wpAny_bind (PySem.W.contains_fn I.kIn O hs hf (wpAny_mono (run_at (vs := [.ref a, x]) F hr rfl hb hx I (.cons rfl (.cons rx .nil)) q) (fun r s' z => ?_) fun _ _ e => e))
  obtain ⟨w', J', I', rv, b, rfl, q'⟩ := z
  cases rv
  exact ⟨b, rfl, wpAny_pure ⟨.bl (!b), J', I', rfl, q'⟩⟩
theorem ninO {m : Nat} (O : OwnM X.prog X.w X.K X.mg X.base CX C "__contains__" m ps sp) (hr : Room m X.A) (hx : Passes CX X E0) : OpR X (compareOp .NotIn) (rNinO C sp) := by
  obtain ⟨f, fd, F, M, hi, hb⟩ := O.ex
  exact op_ninO F M.at_ hi hr hb hx
end
end L2

set_option Elab.async false
set_option maxRecDepth 100000
set_option maxHeartbeats 4000000
/-! xs.count(y), over data -/
namespace L2
open PySem PySem.Spec PyProof.Rows
section
variable {X : Cx}
def rCntD (K : PySem.W.Frag) : V → List V → Hp → VK → Prop := fun x xs H Q => ∃ (a : Addr) (y : V) (d : PyData) (ds : List PyData), x = V.ref a ∧ xs = [y] ∧ Dp K H (V.ref a) (.list ds) ∧ Dp K H y d ∧ PyData.plainAll ds = true ∧ d.plain = true ∧ PyData.depthAll ds ≤ 60 ∧ Q (.int ((ds.countP fun z => PyData.eqv z d : Nat) : Int)) H
theorem mt_countD (hu : X.A.units + 64 < cLine) : MtR X "list.count" (rCntD X.K) := by
  intro pins s σ H x xs v us Q I rx rxs h
  obtain ⟨a, y, d, ds, rfl, rfl, hl, hy, sl, sd, hdp, q⟩ := h
  cases rx
  obtain ⟨u, rfl, ru⟩ := rxs.one
  obtain ⟨bs, r1⟩ := Dp.reads I d y u hy ru
  cases hl with
  | lst hs ha =>
    obtain ⟨its, rv, pl, _⟩ := I.list hs
    obtain ⟨as, h4⟩ := Dp.readsAll I ds _ its ha rv
    exact SeqAt.count_list_data pl.isList (by simpa using h4) r1 sl sd (by have := Nat.min_le_left (PyData.depthAll ds) d.depth; omega) ⟨.int _, H, I.tok _, ⟨_, rfl⟩, q⟩
end
end L2

set_option Elab.async false
set_option linter.all false
set_option maxRecDepth 100000
set_option maxHeartbeats 4000000
/-! a generator's for and if -/
namespace L2
open PySem PySem.Spec PyProof.Rows GenW
section
variable {M : Model} {A : Around} {R : GenEnd} {Y : Protocol} {n : Nat} {s₀ s : Shared} {c : Code} {fs : List Frame} {env : Env} {K : Flow → Sem PySem.Fin} {J : Value → Sem PySem.Fin} {gd : Bool → Bool} {lv : List Value → List Value}
/-- the row that an error leaves in a loop's code -/
abbrev marked (env : Env) (e : Value) : Sem PySem.Fin := (do noteFrame e env; theTreesLotGoes e : Sem Unit).bind fun _ => .raise e
/-- what a loop's body goes on to -/
abbrev onward (l : Code) : Flow → Sem PySem.Fin := fun f => match f with
  | .next | .cont => .pure (.again l)
  | .brk => .pure (.done .next)
  | .ret v => .pure (.done (.ret v))
theorem gseg_if {test : Expr} {body orelse : List Stmt} {pos : Pos}
    (h : wpAny M (A.over c fs) (isTrue test env (eval test env)) (fun b s' => Seg M A R Y n s₀ c ((if b = true then execs body env else execs orelse env).wrap K J gd lv) fs s') (fun x s' => Seg M A R Y n s₀ c (J x) fs s') s) :
    Seg M A R Y n s₀ c ((exec (.If test body orelse pos) env).wrap K J gd lv) fs s := by
  rw [exec_If]
  refine seg_bind_wrap (wpAny_standAt ?_)
  refine seg_bind_wrap (wpAny_mono h (fun b s' hb => ?_) fun _ _ hx => hx)
  cases b <;> exact hb
theorem gseg_for {tg iter : Expr} {body : List Stmt} {pos : Pos} (hs : ∀ x, foldedSetIterable iter env x = pure x)
    (h : wpAny M (A.over c fs) (eval iter env) (fun v s1 => wpAny M (A.over c fs) (pyIter v) (fun it s2 => ∀ p, Seg M A R Y n s₀ (.forLoop tg it body [] env) (M.den (.forLoop tg it body [] env))
      (.ret (fun r => ((match r with | .ok f => (.pure f : Sem Flow) | .error e => .raise e).onRaise (cameBack env)).wrap K J gd lv) none (gd false) (lv []) c p [] :: fs) s2) (fun x s' => Seg M A R Y n s₀ c (J x) fs s') s1) (fun x s' => Seg M A R Y n s₀ c (J x) fs s') s) :
    Seg M A R Y n s₀ c ((exec (.For tg iter body [] pos) env).wrap K J gd lv) fs s := by
  rw [exec_For]
  refine seg_bind_wrap (wpAny_standAt ?_)
  refine seg_bind_wrap (wpAny_mono h (fun v s1 h1 => ?_) fun _ _ hx => hx)
  refine seg_bind_wrap (wpAny_of_eq (hs v) ?_)
  refine seg_bind_wrap (wpAny_standAt ?_)
  refine seg_bind_wrap (wpAny_holding (wpAny_mono h1 (fun it s2 h2 => ?_) fun _ _ hx => hx))
  exact seg_call h2
end
section
variable {prog : Program} {w : World} {A : Around} {R : GenEnd} {Y : Protocol} {n : Nat} {s₀ s : Shared} {fs : List Frame} {env : Env}
theorem gseg_turn {tg : Expr} {it : Value} {body : List Stmt}
    (h : wpAny (model prog w) (A.over (.forLoop tg it body [] env) fs) (pyNext it) (fun r s1 => match r with
      | none => Seg (model prog w) A R Y n s₀ (.forLoop tg it body [] env) (.pure (.again (.block [] env))) fs s1
      | some v => wpAny (model prog w) (A.over (.forLoop tg it body [] env) fs) (letOwnedTupleGo tg it v) (fun _ s2 => wpAny (model prog w) (A.over (.forLoop tg it body [] env) fs) (assign tg env v) (fun _ s3 =>
          Seg (model prog w) A R Y n s₀ (.forLoop tg it body [] env) ((execs body env).wrap (onward (.forLoop tg it body [] env)) (marked env) id id) fs s3)
          (fun x s' => Seg (model prog w) A R Y n s₀ (.forLoop tg it body [] env) (marked env x) fs s') s2) (fun x s' => Seg (model prog w) A R Y n s₀ (.forLoop tg it body [] env) (marked env x) fs s') s1)
      (fun x s' => Seg (model prog w) A R Y n s₀ (.forLoop tg it body [] env) (marked env x) fs s') s) :
    Seg (model prog w) A R Y n s₀ (.forLoop tg it body [] env) ((model prog w).den (.forLoop tg it body [] env)) fs s := by
  show Seg _ A R Y n s₀ _ ((forTurn tg it body [] env).onRaise (fun x => do noteFrame x env; theTreesLotGoes x)) fs s
  unfold forTurn
  rw [Sem.onRaise_eq_wrap]
  refine seg_bind_wrap (wpAny_standAt ?_)
  refine seg_bind_wrap (wpAny_onRaise (wpAny_mono h (fun r s1 h1 => ?_) fun _ _ hx => wpAny_standAt hx))
  cases r with
  | none => exact h1
  | some v =>
    refine seg_bind_wrap (wpAny_mono h1 (fun _ s2 h2 => ?_) fun _ _ hx => hx)
    refine seg_bind_wrap (wpAny_mono h2 (fun _ s3 h3 => ?_) fun _ _ hx => hx)
    rw [Sem.bind_eq_wrap', Sem.wrap_wrap]
    rw [Sem.wrap_congr (execs body env) _ _ (K' := onward (.forLoop tg it body [] env)) (H' := marked env) (fun f => by cases f <;> rfl) (fun _ => by rfl)]
    exact h3
end
section
variable {X : Cx} {pos : Pos}
def tGIf (c : TT) (t u : TGn) : TGn := fun D ys σ H => c σ H fun b H1 => if b = true then t D ys σ H1 else u D ys σ H1
theorem gs_if {test : Expr} {body orelse : List Stmt} {tc : TT} {t u : TGn} (hc : PT X test tc) (hb : GSs X body t) (ho : GSs X orelse u) : GS X (.If test body orelse pos) (tGIf tc t u) := by
  refine ⟨fun A S ip R n ys s₀ c fs K J gd lv s σ H D g hn k hI ht => ?_⟩
  refine gseg_if ?_
  rw [g.over]
  obtain ⟨acc, cc, r, I⟩ := hI
  refine wpAny_mono (hc.run _ s σ H _ I ht) (fun b s' hb' => ?_) fun x s' hx => k.exc n s₀ x s' hx
  obtain ⟨H2, I2, q2⟩ := hb'
  cases b with
  | true => exact hb.run A S ip R n ys s₀ c fs K J gd lv s' σ H2 D g hn k ⟨acc, cc, r, I2⟩ q2
  | false => exact ho.run A S ip R n ys s₀ c fs K J gd lv s' σ H2 D g hn k ⟨acc, cc, r, I2⟩ q2
/-- W: what holds at turn i (a measure; what is out; the slots; the heap) -/
def tGFor (wi : TI) (g : TG) (tb : TGn) : TGn := fun D ys σ H => wi σ H fun J H1 => ∃ W : Nat → Nat → List V → St → Hp → Prop, (∃ m, W 0 m ys σ H1) ∧ ∀ i m ys σ H, W i m ys σ H →
  (J.stop i H ∧ D.nx ys σ H) ∨ (J.go i H ∧ ∃ N : List V → St → Hp → Prop, (∀ ys' σ' H', N ys' σ' H' → ∃ m', m' < m ∧ W (i + 1) m' ys' σ' H') ∧ ∀ x H', J.yld i H x H' → g x σ H' fun σ2 H2 => tb { D with nx := N, ct := N, bk := D.nx } ys σ2 H2)
theorem gs_for {tg iter : Expr} {body : List Stmt} {wi : TI} {g : TG} {tb : TGn} (hp : PassesOwn (model X.prog X.w) X.A X.env X.xe) (hc : X.calm = true) (hi : PI X tg iter wi) (hg : PG X tg g) (hb : GSs X body tb)
    (hs : ∀ x, foldedSetIterable iter X.env x = pure x := by intro _; rfl) : GS X (.For tg iter body [] pos) (tGFor wi g tb) := by
  refine ⟨fun A S ip R n ys s₀ c fs K J gd lv s σ H D g0 hn k hI ht => ?_⟩
  refine gseg_for hs ?_
  obtain ⟨acc, cc, r, I⟩ := hI
  rw [g0.over]
  refine wpAny_mono (hi.run _ s σ H _ I ht) (fun v s1 h1 => wpAny_mono h1 (fun itv s2 h2 p => ?_) fun x s' hx => k.exc n s₀ x s' hx) fun x s' hx => k.exc n s₀ x s' hx
  obtain ⟨it, fp, tn, Jt, H2, e, I2, T, st2, f2, W, ⟨m0, w0⟩, turn⟩ := h2
  subst e
  have notS : ∀ b ∈ fp, b ≠ S := fun b hb z => (f2 b hb).2.2.2.2.2 (S, lstObj acc cc) (List.mem_append_right _ List.mem_cons_self) z.symm
  have stat : ∀ {H' : Hp} {acc' : Array Value} {cc' : Nat}, (∀ b ∈ fp, H' b = none) → ∀ b ∈ fp, FpOk X ((S, lstObj acc' cc') :: ip) H' b := fun {H' acc' cc'} hn b hb => by
    obtain ⟨_, f1, f3, f4, f5, f6⟩ := f2 b hb
    refine ⟨hn b hb, f1, f3, f4, f5, fun q hq => ?_⟩
    rcases List.mem_append.mp hq with z | z
    · exact f6 q (List.mem_append_left _ z)
    · rcases List.mem_cons.mp z with z | z
      · rw [z]
        exact f6 (S, lstObj acc cc) (List.mem_append_right _ List.mem_cons_self)
      · exact f6 q (List.mem_append_right _ (List.mem_cons_of_mem _ z))
  have gl := fun (kk : Result → Sem PySem.Fin) => gc_loop (k := kk) (c' := .forLoop tg (.ref it) body [] X.env) (l := lv []) (kp := []) (p := p) g0 rfl rfl
  have gb := fun (kk : Result → Sem PySem.Fin) => gc_loop (k := kk) (c' := .block [] X.env) (l := lv []) (kp := []) (p := p) g0 rfl rfl
  have loop : ∀ (m n i : Nat) (ys : List V) (s₀ s : Shared) (σ : St) (H : Hp), n + ys.length = sizeLine → W i m ys σ H → tn i s.heap → (∀ b ∈ fp, H b = none) → GI X S ip ys σ H s →
      Seg (model X.prog X.w) A R (GY X S) n s₀ (.forLoop tg (.ref it) body [] X.env) ((model X.prog X.w).den (.forLoop tg (.ref it) body [] X.env))
        (.ret (fun r => ((match r with | .ok f => (.pure f : Sem Flow) | .error e => .raise e).onRaise (cameBack X.env)).wrap K J gd lv) none (gd false) (lv []) c p [] :: fs) s := by
    intro m
    induction m using Nat.strongRecOn with
    | ind m ih =>
      intro n i ys s₀ s3 σ3 H3 hn w3 st3 fr3 hI3
      have ee : ∀ (n : Nat) (s₀ : Shared) (x : Value) (s' : Shared), X.xe x s' → Seg (model X.prog X.w) A R (GY X S) n s₀ (.forLoop tg (.ref it) body [] X.env) (marked X.env x)
          (.ret (fun r => ((match r with | .ok f => (.pure f : Sem Flow) | .error e => .raise e).onRaise (cameBack X.env)).wrap K J gd lv) none (gd false) (lv []) c p [] :: fs) s' := fun n s₀ x s' hx => by
        unfold marked
        rw [Sem.bind_eq_wrap]
        refine seg_wrap ?_
        rw [(gl _).over]
        refine wpAny_bind (wpAny_mono (hp x s' hx) (fun _ s'' hcb => wpAny_theTreesLotGoes ?_) fun y s'' hcb => ?_)
        · exact seg_leaf (.error x) (seg_cameBack g0 k hcb)
        · exact seg_leaf (.error y) (seg_cameBack g0 k hcb)
      obtain ⟨acc3, cc3, r3, I3⟩ := hI3
      refine gseg_turn ?_
      rw [(gl _).over]
      rcases turn i m ys σ3 H3 w3 with ⟨stop, qn⟩ | ⟨go, N, hN, step⟩
      · refine wpAny_mono (T.done X rfl rfl rfl hc i _ s3 σ3 H3 X.xe I3 (stat fr3) st3 stop) (fun r s4 hr => ?_) fun x s' hx => ee n s₀ x s' hx
        obtain ⟨rfl, I4⟩ := hr
        refine seg_again rfl ?_
        show Seg _ A R _ n s₀ _ (((execs [] X.env).onRaise (fun x => do noteFrame x X.env; theTreesLotGoes x)) >>= fun f => (.pure (.done f) : Sem PySem.Fin)) _ s4
        exact seg_leaf (.ok .next) (k.ok n ys s₀ s4 .next hn ⟨σ3, H3, ⟨acc3, cc3, r3, I4⟩, qn⟩)
      · refine wpAny_mono (T.item X rfl rfl rfl hc i _ s3 σ3 H3 X.xe I3 (stat fr3) st3 go) (fun r s4 hr => ?_) fun x s' hx => ee n s₀ x s' hx
        obtain ⟨u, rfl, h4⟩ := hr
        refine wpAny_mono h4 (fun _ s5 h5 => ?_) fun x s' hx => ee n s₀ x s' hx
        obtain ⟨x, H5, I5, r5, y5, st5, fr5⟩ := h5
        have I5' := I5.pinned (stat fr5) (T.obj _ _ st5)
        refine wpAny_mono (hg.run _ s5 σ3 H5 x u _ I5' r5 (step x H5 y5)) (fun _ s6 h6 => ?_) fun x s' hx => ee n s₀ x s' hx
        obtain ⟨σ6, H6, I6, q6⟩ := h6
        have g1 := gl (fun r => ((match r with | .ok f => (.pure f : Sem Flow) | .error e => .raise e).onRaise (cameBack X.env)).wrap K J gd lv)
        have gl' : GC X S (ip ++ pinsAt fp s5.heap) A (.forLoop tg (.ref it) body [] X.env) (.ret (fun r => ((match r with | .ok f => (.pure f : Sem Flow) | .error e => .raise e).onRaise (cameBack X.env)).wrap K J gd lv) none (gd false) (lv []) c p [] :: fs) id :=
          ⟨g1.pn, fun q hq => (List.mem_append.mp hq).elim (g1.ip q) fun z => notS q.1 (of_pinsAt z).1, g1.apart, g1.over, g1.split, g1.guard, rfl⟩
        refine hb.run A S (ip ++ pinsAt fp s5.heap) R n ys s₀ _ _ _ _ id id s6 σ6 H6 { D with nx := N, ct := N, bk := D.nx } gl' hn ⟨fun n' ys' s₀' s7 f hn' hs => ?_, fun n' s₀' x s7 hx => ee n' s₀' x s7 hx⟩ ⟨acc3, cc3, r3, I6⟩ q6
        have back : ∀ {σ7 : St} {H7 : Hp}, GI X S (ip ++ pinsAt fp s5.heap) ys' σ7 H7 s7 → GI X S ip ys' σ7 H7 s7 ∧ tn (i + 1) s7.heap ∧ ∀ b ∈ fp, H7 b = none := fun {σ7 H7} h7 => by
          obtain ⟨acc7, cc7, r7, I7⟩ := h7
          have pin : ∀ b ∈ fp, ∀ o, s5.heap.get? b = some o → s7.heap.get? b = some o ∧ H7 b = none := fun b hb o e => by
            obtain ⟨e1, e2, _⟩ := I7.pin (b, o) (List.mem_append_right _ (List.mem_cons_of_mem _ (List.mem_append_right _ (mem_pinsAt hb e))))
            exact ⟨e1, e2⟩
          refine ⟨⟨acc7, cc7, r7, Inv.unpinned (pins := (S, lstObj acc7 cc7) :: ip) (pl := pinsAt fp s5.heap) I7⟩, T.keep _ _ _ st5 fun b hb o e => (pin b hb o e).1, fun b hb => ?_⟩
          obtain ⟨o, e, _⟩ := T.obj _ _ st5 b hb
          exact (pin b hb o e).2
        cases f with
        | next =>
          obtain ⟨σ7, H7, G7, n7⟩ := hs
          obtain ⟨m', hm, w7⟩ := hN ys' σ7 H7 n7
          obtain ⟨G8, st8, fr8⟩ := back G7
          exact seg_again rfl (ih m' hm n' (i + 1) ys' s₀' s7 σ7 H7 hn' w7 st8 fr8 G8)
        | cont =>
          obtain ⟨σ7, H7, G7, n7⟩ := hs
          obtain ⟨m', hm, w7⟩ := hN ys' σ7 H7 n7
          obtain ⟨G8, st8, fr8⟩ := back G7
          exact seg_again rfl (ih m' hm n' (i + 1) ys' s₀' s7 σ7 H7 hn' w7 st8 fr8 G8)
        | brk =>
          obtain ⟨σ7, H7, G7, n7⟩ := hs
          exact seg_leaf (.ok .next) (k.ok n' ys' s₀' s7 .next hn' ⟨σ7, H7, (back G7).1, n7⟩)
        | ret v =>
          obtain ⟨x7, σ7, H7, G7, r7, n7⟩ := hs
          exact seg_leaf (.ok (.ret v)) (k.ok n' ys' s₀' s7 (.ret v) hn' ⟨x7, σ7, H7, (back G7).1, r7, n7⟩)
  exact loop m0 n 0 ys s₀ s2 σ H2 hn w0 st2 (fun b hb => (f2 b hb).1) ⟨acc, cc, r, I2⟩
end
end L2

set_option Elab.async false
set_option linter.all false
set_option maxRecDepth 100000
set_option maxHeartbeats 4000000
/-! max(xs, default=d), min(xs, default=d), ints -/
namespace L2
open PySem PySem.Spec PyProof.Rows
def mxD (d : Int) : List Int → Int
  | [] => d
  | n :: ns => ns.foldl max n
def mnD (d : Int) : List Int → Int
  | [] => d
  | n :: ns => ns.foldl min n
theorem foldl_max (n : Int) : ∀ ns : List Int, (ns.foldl max n = n ∨ ns.foldl max n ∈ ns) ∧ n ≤ ns.foldl max n ∧ ∀ y ∈ ns, y ≤ ns.foldl max n
  | [] => ⟨.inl rfl, Int.le_refl _, fun _ h => nomatch h⟩
  | k :: ns => by
    obtain ⟨h1, h2, h3⟩ := foldl_max (max n k) ns
    rw [List.foldl_cons]
    refine ⟨?_, by omega, fun y hy => ?_⟩
    · rcases h1 with h1 | h1
      · rcases Int.le_total n k with h | h
        · exact .inr (by rw [h1, Int.max_eq_right h]; exact List.mem_cons_self)
        · exact .inl (by rw [h1, Int.max_eq_left h])
      · exact .inr (List.mem_cons_of_mem _ h1)
    · rcases List.mem_cons.mp hy with rfl | hy
      · omega
      · exact h3 y hy
theorem foldl_min (n : Int) : ∀ ns : List Int, (ns.foldl min n = n ∨ ns.foldl min n ∈ ns) ∧ ns.foldl min n ≤ n ∧ ∀ y ∈ ns, ns.foldl min n ≤ y
  | [] => ⟨.inl rfl, Int.le_refl _, fun _ h => nomatch h⟩
  | k :: ns => by
    obtain ⟨h1, h2, h3⟩ := foldl_min (min n k) ns
    rw [List.foldl_cons]
    refine ⟨?_, by omega, fun y hy => ?_⟩
    · rcases h1 with h1 | h1
      · rcases Int.le_total n k with h | h
        · exact .inl (by rw [h1, Int.min_eq_left h])
        · exact .inr (by rw [h1, Int.min_eq_right h]; exact List.mem_cons_self)
      · exact .inr (List.mem_cons_of_mem _ h1)
    · rcases List.mem_cons.mp hy with rfl | hy
      · omega
      · exact h3 y hy
theorem mxD_mem {d : Int} {ns : List Int} (h : ns ≠ []) : mxD d ns ∈ ns ∧ ∀ y ∈ ns, y ≤ mxD d ns := by
  cases ns with
  | nil => exact absurd rfl h
  | cons n ns =>
    obtain ⟨h1, h2, h3⟩ := foldl_max n ns
    refine ⟨?_, fun y hy => ?_⟩
    · rcases h1 with h1 | h1
      · exact List.mem_cons.mpr (.inl h1)
      · exact List.mem_cons_of_mem _ h1
    · rcases List.mem_cons.mp hy with rfl | hy
      · exact h2
      · exact h3 y hy
theorem mnD_mem {d : Int} {ns : List Int} (h : ns ≠ []) : mnD d ns ∈ ns ∧ ∀ y ∈ ns, mnD d ns ≤ y := by
  cases ns with
  | nil => exact absurd rfl h
  | cons n ns =>
    obtain ⟨h1, h2, h3⟩ := foldl_min n ns
    refine ⟨?_, fun y hy => ?_⟩
    · rcases h1 with h1 | h1
      · exact List.mem_cons.mpr (.inl h1)
      · exact List.mem_cons_of_mem _ h1
    · rcases List.mem_cons.mp hy with rfl | hy
      · exact h2
      · exact h3 y hy
section
variable {X : Cx}
def rMxD (K : PySem.W.Frag) (f : Int → List Int → Int) : List V → List V → Hp → VK → Prop := fun vs zs H Q => ∃ (a : Addr) (ns : List Int) (d : Int), vs = [V.ref a] ∧ zs = [.int d] ∧ SqL K H a (ns.map V.int) ∧ Q (.int (f d ns)) H
theorem ints_pd (ns : List Int) : (ns.map V.int).map pd = ns.map PyData.int := by
  rw [List.map_map]
  rfl
theorem ints_alike (ns : List Int) : PySem.W.AlikeAll (ns.map PyData.int) := by
  refine ⟨fun x hx y hy => ?_, fun x hx => ?_⟩
  · obtain ⟨a, _, rfl⟩ := List.mem_map.mp hx
    obtain ⟨b, _, rfl⟩ := List.mem_map.mp hy
    rfl
  · obtain ⟨a, _, rfl⟩ := List.mem_map.mp hx
    exact fun z => nomatch z
theorem ints_dep (ns : List Int) : PyData.depthAll (ns.map PyData.int) = 0 := by
  rw [← ints_pd]
  exact (lay_all fl_ints).2
theorem cr_maxD (hc : X.calm = true) (hu : X.A.units + 64 < cLine) : CallRK X (.builtin "max") [Str.ofString "default"] (rMxD X.K mxD) := by
  intro pins s σ H vs zs us ws Q I r rz h
  obtain ⟨a, ns, d, rfl, rfl, hs, q⟩ := h
  obtain rfl := Vals.ref1 r
  obtain ⟨w1, rfl, e1⟩ := vals1 rz
  obtain ⟨its, rv, hl, _⟩ := I.list hs
  have hd : DpAll X.K H (ns.map V.int) (ns.map PyData.int) := by rw [← ints_pd]; exact dp_all fl_ints
  obtain ⟨as, h4⟩ := Dp.readsAll I _ _ its hd rv
  refine PySem.W.max_list_default (xs := ns.map PyData.int) (I.ok.hd hc) hl.isList (by simpa using h4) (ints_alike ns) (by rw [ints_dep]; omega) (fun he h' tk hk => ?_) (fun y ys i v h' tk bs he hi hr hk => ?_)
  · have hn : ns = [] := List.map_eq_nil_iff.mp he
    subst hn
    exact ⟨.int d, H, I.kept hk, e1, q⟩
  · cases ns with
    | nil => cases he
    | cons n ns =>
      rw [List.map_cons] at he
      injection he with he1 he2
      subst he1 he2
      rw [PySem.W.maxD_ints] at hr
      cases hr
      exact ⟨.int _, H, I.kept hk, ⟨_, rfl⟩, q⟩
theorem cr_minD (hc : X.calm = true) (hu : X.A.units + 64 < cLine) : CallRK X (.builtin "min") [Str.ofString "default"] (rMxD X.K mnD) := by
  intro pins s σ H vs zs us ws Q I r rz h
  obtain ⟨a, ns, d, rfl, rfl, hs, q⟩ := h
  obtain rfl := Vals.ref1 r
  obtain ⟨w1, rfl, e1⟩ := vals1 rz
  obtain ⟨its, rv, hl, _⟩ := I.list hs
  have hd : DpAll X.K H (ns.map V.int) (ns.map PyData.int) := by rw [← ints_pd]; exact dp_all fl_ints
  obtain ⟨as, h4⟩ := Dp.readsAll I _ _ its hd rv
  refine PySem.W.min_list_default (xs := ns.map PyData.int) (I.ok.hd hc) hl.isList (by simpa using h4) (ints_alike ns) (by rw [ints_dep]; omega) (fun he h' tk hk => ?_) (fun y ys i v h' tk bs he hi hr hk => ?_)
  · have hn : ns = [] := List.map_eq_nil_iff.mp he
    subst hn
    exact ⟨.int d, H, I.kept hk, e1, q⟩
  · cases ns with
    | nil => cases he
    | cons n ns =>
      rw [List.map_cons] at he
      injection he with he1 he2
      subst he1 he2
      rw [PySem.W.minD_ints] at hr
      cases hr
      exact ⟨.int _, H, I.kept hk, ⟨_, rfl⟩, q⟩
end
end L2

set_option Elab.async false
set_option linter.unusedSectionVars false
namespace K18
/-! who is silent behind an outcome; outcomes; milder races: plain mathematics -/
variable {ds : List Wd} {es : List En} {w : Nat} {t z : Int}
theorem early_shut (hr : Run ds es) (ho : out ds es = some (w, t)) {j : Nat} (he : early ds w t j = true) : shut ds es j = true := by
  have sp := outN_spec (ds := ds) (es := es) ds.length
  have ho' : outN ds es ds.length = some (w, t) := ho
  rw [ho'] at sp
  obtain ⟨h1, ⟨a, b, h2, rfl⟩, h3⟩ := sp
  obtain ⟨e1, e2, e3⟩ := early_iff.mp he
  unfold shut
  rw [e1, Bool.true_and]
  cases hE : ent es j with
  | none => rfl
  | some p =>
    obtain ⟨a', b'⟩ := p
    exfalso
    obtain ⟨_, q2, q3, q4, q5⟩ := hr.2 j a' b' hE
    have f : fin ds j = bg ds j + 2 * ms ds j := rfl
    rcases h3 j a' b' (has_lt e1) hE with h | ⟨h, h'⟩
    · rcases e3 with e | ⟨e, _⟩ <;> omega
    · rcases e3 with e | ⟨e, e'⟩ <;> omega
theorem shut_run {k : Nat} (hk : k < ds.length) : shut ds (run ds w t) k = early ds w t k := by
  unfold shut
  rw [ent_run hk]
  by_cases e : k = w
  · rw [if_pos e]
    have h0 : early ds w t k = false := by
      cases h : early ds w t k with
      | false => rfl
      | true => exact absurd e (early_iff.mp h).2.1
    rw [h0]
    by_cases e2 : t - bg ds w - ls ds w ≤ ms ds w
    · rw [if_pos e2]
      exact Bool.and_false _
    · rw [if_neg e2]
      exact Bool.and_false _
  · rw [if_neg e]
    cases h : early ds w t k with
    | true =>
      rw [if_pos rfl, (early_iff.mp h).1]
      rfl
    | false =>
      rw [if_neg (by decide)]
      cases h2 : has ds k with
      | true => rw [if_pos rfl]; rfl
      | false => rfl
theorem out_of (hw : w < ds.length) (h1 : ∃ a b, ent es w = some (a, b) ∧ t = bg ds w + a + b) (h2 : ∀ j a b, j < ds.length → ent es j = some (a, b) → t < bg ds j + a + b ∨ (t = bg ds j + a + b ∧ w ≤ j)) : out ds es = some (w, t) := by
  obtain ⟨a, b, e1, e2⟩ := h1
  have sp := outN_spec (ds := ds) (es := es) ds.length
  unfold out
  cases ho : outN ds es ds.length with
  | none =>
    rw [ho] at sp
    rw [sp w hw] at e1
    cases e1
  | some r =>
    obtain ⟨w', t'⟩ := r
    rw [ho] at sp
    obtain ⟨s1, ⟨a', b', s2, s2'⟩, s3⟩ := sp
    have q1 := h2 w' a' b' s1 s2
    have q2 := s3 w a b hw e1
    have ht : t = t' := by omega
    have hww : w = w' := by omega
    rw [ht, hww]
theorem shut_w (ho : out ds es = some (w, t)) : shut ds es w = false := by
  have sp := outN_spec (ds := ds) (es := es) ds.length
  have ho' : outN ds es ds.length = some (w, t) := ho
  rw [ho'] at sp
  obtain ⟨_, ⟨a, b, h2, _⟩, _⟩ := sp
  unfold shut
  rw [h2]
  exact Bool.and_false _
theorem filter_same {α : Type} : ∀ {l : List α} {p q : α → Bool}, (∀ x ∈ l, p x = true → q x = true) → (l.filter q).length ≤ (l.filter p).length → ∀ x ∈ l, q x = p x
  | [], _, _, _, _, _, hx => nomatch hx
  | y :: l, p, q, h, hl, x, hx => by
    have hm := filter_mono (l := l) fun x hx => h x (List.mem_cons_of_mem _ hx)
    rw [List.filter_cons, List.filter_cons] at hl
    have hy := h y List.mem_cons_self
    cases hp : p y with
    | true =>
      rw [hp, hy hp, if_pos rfl, if_pos rfl] at hl
      rcases List.mem_cons.mp hx with rfl | hx
      · rw [hp, hy hp]
      · exact filter_same (fun x hx => h x (List.mem_cons_of_mem _ hx)) (Nat.le_of_succ_le_succ hl) x hx
    | false =>
      cases hq : q y with
      | true =>
        rw [hp, hq, if_pos rfl, if_neg (by decide)] at hl
        have hl' : (l.filter q).length + 1 ≤ (l.filter p).length := hl
        omega
      | false =>
        rw [hp, hq, if_neg (by decide), if_neg (by decide)] at hl
        rcases List.mem_cons.mp hx with rfl | hx
        · rw [hp, hq]
        · exact filter_same (fun x hx => h x (List.mem_cons_of_mem _ hx)) hl x hx
/-- the run that leaves k silent, too -/
theorem run_less (hf : Fit ds) (hc : can ds z w t = true) (hlt : ((hurs ds w t).length : Int) < z) {k : Nat} (hk : has ds k = true) (hkw : k ≠ w) : ∃ es, es ∈ lim z ds ∧ out ds es = some (w, t) ∧ shut ds es k = true := by
  obtain ⟨r1, r2, r3⟩ := run_of_can hf hc
  have hkl := has_lt hk
  have len : (run ds w t).length = ds.length := r1.1
  have he : ∀ j, ent ((run ds w t).set k none) j = if j = k then none else ent (run ds w t) j := fun j => by
    unfold ent
    by_cases e : j = k
    · subst e
      rw [if_pos rfl, List.getElem?_set_self (by omega)]
      rfl
    · rw [if_neg e, List.getElem?_set_ne (fun z => e z.symm)]
  have sp := outN_spec (ds := ds) (es := run ds w t) ds.length
  have ho' : outN ds (run ds w t) ds.length = some (w, t) := r3
  rw [ho'] at sp
  obtain ⟨s1, ⟨a, b, s2, s2'⟩, s3⟩ := sp
  refine ⟨(run ds w t).set k none, mem_lim.mpr ⟨⟨by rw [List.length_set]; exact len, fun j a b h => ?_⟩, ?_⟩, out_of s1 ⟨a, b, by rw [he, if_neg (fun z => hkw z.symm)]; exact s2, s2'⟩ fun j a b hj h => ?_, ?_⟩
  · rw [he] at h
    by_cases e : j = k
    · rw [if_pos e] at h
      cases h
    · rw [if_neg e] at h
      exact r1.2 j a b h
  · have h1 : qn ds ((run ds w t).set k none) ≤ (hurs ds w t).length + 1 := by
      unfold qn hurs
      have key : ∀ l : List Nat, l.Nodup → (∀ j ∈ l, j < ds.length) → (l.filter (shut ds ((run ds w t).set k none))).length ≤ (l.filter (early ds w t)).length + (if k ∈ l then 1 else 0) := by
        intro l
        induction l with
        | nil => intro _ _; exact Nat.zero_le _
        | cons x l ih =>
          intro hd hl
          have hd' := List.nodup_cons.mp hd
          have ih' := ih hd'.2 fun j hj => hl j (List.mem_cons_of_mem _ hj)
          rw [List.filter_cons, List.filter_cons]
          by_cases e : x = k
          · subst e
            rw [if_neg hd'.1] at ih'
            rw [if_pos List.mem_cons_self]
            have h1 : (if shut ds ((run ds w t).set x none) x = true then x :: List.filter (shut ds ((run ds w t).set x none)) l else List.filter (shut ds ((run ds w t).set x none)) l).length ≤ (List.filter (shut ds ((run ds w t).set x none)) l).length + 1 := by
              split
              · exact Nat.le_refl _
              · exact Nat.le_succ _
            have h2 : (List.filter (early ds w t) l).length ≤ (if early ds w t x = true then x :: List.filter (early ds w t) l else List.filter (early ds w t) l).length := by
              split
              · exact Nat.le_succ _
              · exact Nat.le_refl _
            omega
          · have hs : shut ds ((run ds w t).set k none) x = early ds w t x := by
              rw [← shut_run (w := w) (t := t) (hl x List.mem_cons_self)]
              unfold shut
              rw [he, if_neg e]
            have hm : (if k ∈ x :: l then 1 else 0) = if k ∈ l then 1 else 0 := by
              by_cases h : k ∈ l
              · rw [if_pos h, if_pos (List.mem_cons_of_mem _ h)]
              · rw [if_neg h, if_neg (fun z => (List.mem_cons.mp z).elim (fun q => e q.symm) h)]
            rw [hs, hm]
            split
            · show List.length _ + 1 ≤ List.length _ + 1 + _
              omega
            · exact ih'
      have := key (List.range ds.length) List.nodup_range fun j hj => List.mem_range.mp hj
      rw [if_pos (List.mem_range.mpr hkl)] at this
      exact this
    omega
  · rw [he] at h
    by_cases e : j = k
    · rw [if_pos e] at h
      cases h
    · rw [if_neg e] at h
      exact s3 j a b hj h
  · unfold shut
    rw [he, if_pos rfl, hk]
    rfl
/-- the runs with one outcome -/
def rowsO (ds : List Wd) (z : Int) (w : Nat) (t : Int) : List (List En) := (lim z ds).filter fun es => decide (out ds es = some (w, t))
theorem rows_ne (hf : Fit ds) : rowsO ds z w t ≠ [] ↔ can ds z w t = true := by
  constructor
  · intro h
    cases hr : rowsO ds z w t with
    | nil => exact absurd hr h
    | cons es l =>
      have hm : es ∈ rowsO ds z w t := by rw [hr]; exact List.mem_cons_self
      obtain ⟨h1, h2⟩ := List.mem_filter.mp hm
      obtain ⟨h3, h4⟩ := mem_lim.mp h1
      exact can_of_run h3 h4 (of_decide_eq_true h2)
  · intro h he
    obtain ⟨r1, r2, r3⟩ := run_of_can hf h
    have hm : run ds w t ∈ rowsO ds z w t := List.mem_filter.mpr ⟨mem_lim.mpr ⟨r1, r2⟩, decide_eq_true r3⟩
    rw [he] at hm
    cases hm
def lot (ds : List Wd) (es : List En) : List Nat := (List.range ds.length).filter (shut ds es)
def sureL (ds : List Wd) (rs : List (List En)) : List Nat := (List.range ds.length).filter fun k => decide ((rs.filter fun es => decide (k ∉ lot ds es)) = [])
def someL (ds : List Wd) (rs : List (List En)) : List Nat := (List.range ds.length).filter fun k => decide ((rs.filter fun es => decide (k ∈ lot ds es)) ≠ [])
def after (ds : List Wd) (z : Int) (w : Nat) (t : Int) : List Nat := if ((hurs ds w t).length : Int) = z then hurs ds w t else (plan ds).filter fun j => decide (j ≠ w)
theorem mem_lot {k : Nat} (hk : k < ds.length) : k ∈ lot ds es ↔ shut ds es k = true := by
  unfold lot
  rw [List.mem_filter, List.mem_range]
  exact ⟨fun h => h.2, fun h => ⟨hk, h⟩⟩
theorem sure_is (hf : Fit ds) (hc : can ds z w t = true) : sureL ds (rowsO ds z w t) = hurs ds w t := by
  unfold sureL hurs
  refine List.filter_congr fun k hk => ?_
  have hkl := List.mem_range.mp hk
  rw [Bool.eq_iff_iff, decide_eq_true_eq, List.filter_eq_nil_iff]
  constructor
  · intro h
    obtain ⟨r1, r2, r3⟩ := run_of_can hf hc
    have hm : run ds w t ∈ rowsO ds z w t := List.mem_filter.mpr ⟨mem_lim.mpr ⟨r1, r2⟩, decide_eq_true r3⟩
    have q := h _ hm
    rw [decide_eq_true_eq, Decidable.not_not, mem_lot hkl, shut_run hkl] at q
    exact q
  · intro h es hes
    obtain ⟨h1, h2⟩ := List.mem_filter.mp hes
    rw [decide_eq_true_eq, Decidable.not_not, mem_lot hkl]
    exact early_shut (mem_lim.mp h1).1 (of_decide_eq_true h2) h
theorem some_is (hf : Fit ds) (hc : can ds z w t = true) : someL ds (rowsO ds z w t) = after ds z w t := by
  have hle := (can_iff.mp hc).2.2
  have mem : ∀ k, k < ds.length → (decide ((rowsO ds z w t).filter (fun es => decide (k ∈ lot ds es)) ≠ []) = true ↔ ∃ es, es ∈ lim z ds ∧ out ds es = some (w, t) ∧ shut ds es k = true) := fun k hk => by
    rw [decide_eq_true_eq]
    constructor
    · intro h
      cases hr : (rowsO ds z w t).filter (fun es => decide (k ∈ lot ds es)) with
      | nil => exact absurd hr h
      | cons es l =>
        have hm : es ∈ (rowsO ds z w t).filter (fun es => decide (k ∈ lot ds es)) := by rw [hr]; exact List.mem_cons_self
        obtain ⟨h1, h2⟩ := List.mem_filter.mp hm
        obtain ⟨h3, h4⟩ := List.mem_filter.mp h1
        exact ⟨es, h3, of_decide_eq_true h4, (mem_lot hk).mp (of_decide_eq_true h2)⟩
    · rintro ⟨es, h1, h2, h3⟩ he
      have hm : es ∈ (rowsO ds z w t).filter (fun es => decide (k ∈ lot ds es)) := List.mem_filter.mpr ⟨List.mem_filter.mpr ⟨h1, decide_eq_true h2⟩, decide_eq_true ((mem_lot hk).mpr h3)⟩
      rw [he] at hm
      cases hm
  unfold someL after
  by_cases hz : ((hurs ds w t).length : Int) = z
  · rw [if_pos hz]
    unfold hurs
    refine List.filter_congr fun k hk => ?_
    have hkl := List.mem_range.mp hk
    rw [Bool.eq_iff_iff, mem k hkl]
    constructor
    · rintro ⟨es, h1, h2, h3⟩
      obtain ⟨h4, h5⟩ := mem_lim.mp h1
      have hq : ((List.range ds.length).filter (shut ds es)).length ≤ ((List.range ds.length).filter (early ds w t)).length := by
        have : (qn ds es : Int) ≤ ((hurs ds w t).length : Int) := by omega
        exact Int.ofNat_le.mp this
      rw [← filter_same (fun x _ hx => early_shut h4 h2 hx) hq k hk]
      exact h3
    · intro he
      obtain ⟨r1, r2, r3⟩ := run_of_can hf hc
      exact ⟨_, mem_lim.mpr ⟨r1, r2⟩, r3, by rw [shut_run hkl]; exact he⟩
  · rw [if_neg hz]
    unfold plan
    rw [List.filter_filter]
    refine List.filter_congr fun k hk => ?_
    have hkl := List.mem_range.mp hk
    rw [Bool.eq_iff_iff, mem k hkl, Bool.and_eq_true, decide_eq_true_eq]
    constructor
    · rintro ⟨es, h1, h2, h3⟩
      refine ⟨fun e => ?_, ?_⟩
      · subst e
        rw [shut_w h2] at h3
        cases h3
      · unfold shut at h3
        rw [Bool.and_eq_true] at h3
        exact h3.1
    · rintro ⟨h1, h2⟩
      exact run_less hf hc (by omega) h2 h1
/-! milder races -/
theorem late_mono {ds' : List Wd} {E E' : List Int} {n n' : Nat} {L' : Int} (hp : E.Perm (ends ds)) (hs : E.Pairwise (· ≤ ·)) (hp' : E'.Perm (ends ds')) (hs' : E'.Pairwise (· ≤ ·)) (hl : ds'.length = ds.length) (hn : n ≤ n')
    (h : ∀ j, has ds' j = true → has ds j = true ∧ fin ds j ≤ fin ds' j) (hL : E'[n']? = some L') : ∃ L, E[n]? = some L ∧ L ≤ L' := by
  have k1 := count_le hs' hL
  rw [perm_count hp', ends_count, hl] at k1
  have k2 : ((List.range ds.length).filter fun j => has ds' j && decide (fin ds' j ≤ L')).length ≤ ((List.range ds.length).filter fun j => has ds j && decide (fin ds j ≤ L')).length := filter_mono fun j _ hj => by
    rw [Bool.and_eq_true, decide_eq_true_eq] at hj ⊢
    obtain ⟨h1, h2⟩ := h j hj.1
    exact ⟨h1, by omega⟩
  rw [← ends_count (ds := ds) (fun x => decide (x ≤ L')), ← perm_count hp] at k2
  have k3 := List.length_filter_le (fun x => decide (x ≤ L')) E
  have hlt : n < E.length := by omega
  refine ⟨E[n], List.getElem?_eq_getElem hlt, ?_⟩
  by_cases q : E[n] ≤ L'
  · exact q
  · have k4 := count_lt hs (List.getElem?_eq_getElem hlt)
    have k5 : (E.filter fun x => decide (x ≤ L')).length ≤ (E.filter fun x => decide (x < E[n])).length := filter_mono fun x _ hx => by
      rw [decide_eq_true_eq] at hx ⊢
      omega
    omega
/-! outcomes -/
abbrev Wn := Nat × Int × Int
def hit (m : Int) (q : Wn) : Bool := decide (q.2.1 ≤ m) && decide (m ≤ q.2.2)
def ocN (W : List Wn) (lo : Int) (n : Nat) : List (Int × Nat) := (List.range n).flatMap fun i : Nat => (W.filter (hit (lo + (i : Int)))).map fun q => (lo + (i : Int), q.1)
theorem ocN_succ (W : List Wn) (lo : Int) (n : Nat) : ocN W lo (n + 1) = ocN W lo n ++ (W.filter (hit (lo + (n : Int)))).map fun q => (lo + (n : Int), q.1) := by
  unfold ocN
  rw [List.range_succ, List.flatMap_append]
  simp
def loW (W : List Wn) : Int := L2.mnD 0 (W.map fun q => q.2.1)
def hiW (W : List Wn) : Int := L2.mxD (-1) (W.map fun q => q.2.2)
def ocs (W : List Wn) : List (Int × Nat) := ocN W (loW W) (hiW W + 1 - loW W).toNat
theorem mem_ocs {W : List Wn} {m : Int} {w : Nat} : (m, w) ∈ ocs W ↔ ∃ q ∈ W, q.1 = w ∧ q.2.1 ≤ m ∧ m ≤ q.2.2 := by
  unfold ocs ocN
  rw [List.mem_flatMap]
  constructor
  · rintro ⟨i, hi, h⟩
    obtain ⟨q, hq, e⟩ := List.mem_map.mp h
    obtain ⟨h1, h2⟩ := List.mem_filter.mp hq
    unfold hit at h2
    rw [Bool.and_eq_true, decide_eq_true_eq, decide_eq_true_eq] at h2
    injection e with e1 e2
    subst e1 e2
    exact ⟨q, h1, rfl, h2⟩
  · rintro ⟨q, hq, rfl, h1, h2⟩
    have hne : W ≠ [] := fun z => by rw [z] at hq; cases hq
    have a := (L2.mnD_mem (d := 0) (ns := W.map fun q => q.2.1) (fun z => hne (List.map_eq_nil_iff.mp z))).2 _ (List.mem_map.mpr ⟨q, hq, rfl⟩)
    have b := (L2.mxD_mem (d := -1) (ns := W.map fun q => q.2.2) (fun z => hne (List.map_eq_nil_iff.mp z))).2 _ (List.mem_map.mpr ⟨q, hq, rfl⟩)
    have a' : loW W ≤ q.2.1 := a
    have b' : q.2.2 ≤ hiW W := b
    have e : loW W + (((m - loW W).toNat : Nat) : Int) = m := by omega
    refine ⟨(m - loW W).toNat, List.mem_range.mpr (by omega), List.mem_map.mpr ⟨q, List.mem_filter.mpr ⟨hq, ?_⟩, by rw [e]⟩⟩
    rw [e]
    unfold hit
    rw [decide_eq_true h1, decide_eq_true h2]
    rfl
end K18

set_option Elab.async false
namespace K18
/-! how many runs -/
def qp (ds : List Wd) (es : List En) (i : Nat) : Nat := ((List.range i).filter (shut ds es)).length
def cnt (p : List En → Bool) (l : List (List En)) : Nat := (l.filter p).length
theorem shut_snoc {ds : List Wd} {es : List En} {e : En} {j : Nat} : shut ds (es ++ [e]) j = (has ds j && (if j < es.length then ent es j else if j = es.length then e else none).isNone) := by
  unfold shut
  rw [ent_snoc]
theorem qp_snoc {ds : List Wd} {es : List En} {e : En} : qp ds (es ++ [e]) (es.length + 1) = qp ds es es.length + (if has ds es.length = true ∧ e = none then 1 else 0) := by
  unfold qp
  rw [List.range_succ, List.filter_append, List.length_append]
  congr 1
  · congr 1
    refine List.filter_congr fun j hj => ?_
    rw [shut_snoc, if_pos (List.mem_range.mp hj)]
    rfl
  · rw [List.filter_cons, shut_snoc, if_neg (Nat.lt_irrefl _), if_pos rfl]
    cases has ds es.length <;> cases e <;> simp
theorem cnt_map {f : En → List En} {p : List En → Bool} (l : List En) : cnt p (l.map f) = (l.filter fun e => p (f e)).length := by
  unfold cnt
  rw [List.filter_map, List.length_map]
  rfl
theorem cnt_app {p : List En → Bool} {a b : List (List En)} : cnt p (a ++ b) = cnt p a + cnt p b := by
  unfold cnt
  rw [List.filter_append, List.length_append]
theorem pairs_some {l m : Int} {n : Nat} {e : En} (h : e ∈ pairs l m n) : e ≠ none := by
  obtain ⟨a, b, rfl, _⟩ := mem_pairs.mp h
  exact fun z => nomatch z
theorem cnt_more {ds : List Wd} {d : Wd} {i q : Nat} (hd : ds[i]? = some d) : ∀ {rs : List (List En)}, (∀ es ∈ rs, es.length = i) →
    cnt (fun es => decide (qp ds es (i + 1) = q)) (more rs d) = (if d.1.isSome = true then cnt (fun es => decide (qp ds es i = q)) rs * ((d.2.2 + 1 - d.2.1).toNat * (d.2.2 + 1 - d.2.1).toNat) + cnt (fun es => decide (qp ds es i + 1 = q)) rs else cnt (fun es => decide (qp ds es i = q)) rs)
  | [], _ => by
    unfold more cnt
    cases d.1.isSome <;> simp
  | es :: rs, h => by
    have ih := cnt_more (q := q) hd (rs := rs) fun e he => h e (List.mem_cons_of_mem _ he)
    have hl := h es List.mem_cons_self
    have e1 : more (es :: rs) d = ((ents d).map fun e => es ++ [e]) ++ more rs d := by
      unfold more
      rw [List.flatMap_cons]
    have hh : has ds i = d.1.isSome := by
      unfold has
      rw [hd]
    rw [e1, cnt_app, ih, cnt_map]
    have e2 : ∀ e, qp ds (es ++ [e]) (i + 1) = qp ds es i + (if d.1.isSome = true ∧ e = none then 1 else 0) := fun e => by
      have := qp_snoc (ds := ds) (es := es) (e := e)
      rw [hl, hh] at this
      exact this
    have e3 : ∀ r : Nat, cnt (fun es => decide (qp ds es i = r)) (es :: rs) = (if qp ds es i = r then 1 else 0) + cnt (fun es => decide (qp ds es i = r)) rs := fun r => by
      unfold cnt
      rw [List.filter_cons]
      by_cases hq : qp ds es i = r
      · simp [hq]; omega
      · simp [hq]
    have e4 : cnt (fun es => decide (qp ds es i + 1 = q)) (es :: rs) = (if qp ds es i + 1 = q then 1 else 0) + cnt (fun es => decide (qp ds es i + 1 = q)) rs := by
      unfold cnt
      rw [List.filter_cons]
      by_cases hq : qp ds es i + 1 = q
      · simp [hq]; omega
      · simp [hq]
    rw [e3, e4]
    cases hs : d.1.isSome with
    | false =>
      rw [if_neg (by decide), if_neg (by decide)]
      have : ((ents d).filter fun e => decide (qp ds (es ++ [e]) (i + 1) = q)).length = if qp ds es i = q then 1 else 0 := by
        unfold ents
        rw [hs, if_neg (by decide), List.filter_cons, e2, hs]
        by_cases hq : qp ds es i = q <;> simp [hq]
      rw [this]
    | true =>
      rw [if_pos rfl, if_pos rfl]
      have : ((ents d).filter fun e => decide (qp ds (es ++ [e]) (i + 1) = q)).length = (if qp ds es i + 1 = q then 1 else 0) + (if qp ds es i = q then (d.2.2 + 1 - d.2.1).toNat * (d.2.2 + 1 - d.2.1).toNat else 0) := by
        unfold ents
        rw [hs, if_pos rfl, List.filter_cons, e2, hs]
        have e5 : ((pairs d.2.1 d.2.2 (d.2.2 + 1 - d.2.1).toNat).filter fun e => decide (qp ds (es ++ [e]) (i + 1) = q)) = (pairs d.2.1 d.2.2 (d.2.2 + 1 - d.2.1).toNat).filter fun _ => decide (qp ds es i = q) := List.filter_congr fun e he => by
          rw [e2, if_neg (fun z => pairs_some he z.2)]
          rfl
        rw [e5]
        have e6 : ((pairs d.2.1 d.2.2 (d.2.2 + 1 - d.2.1).toNat).filter fun _ => decide (qp ds es i = q)).length = if qp ds es i = q then (d.2.2 + 1 - d.2.1).toNat * (d.2.2 + 1 - d.2.1).toNat else 0 := by
          by_cases hq : qp ds es i = q
          · rw [decide_eq_true hq, if_pos hq, List.filter_eq_self.mpr (fun _ _ => rfl), pairs_len]
          · rw [decide_eq_false hq, if_neg hq]
            simp
        rw [show (if (true = true ∧ (none : En) = none) then 1 else 0) = 1 from if_pos ⟨rfl, rfl⟩]
        by_cases hq : qp ds es i + 1 = q
        · rw [decide_eq_true hq, if_pos rfl, List.length_cons, e6, if_pos hq]
          omega
        · rw [decide_eq_false hq, if_neg (by decide), e6, if_neg hq]
          omega
      rw [this, Nat.add_mul]
      by_cases hq : qp ds es i = q
      · rw [if_pos hq, if_pos hq, Nat.one_mul]
        omega
      · rw [if_neg hq, if_neg hq, Nat.zero_mul]
        omega
def nq (ds : List Wd) (i q : Nat) : Nat := cnt (fun es => decide (qp ds es i = q)) (rns ds i)
theorem nq_zero (ds : List Wd) (q : Nat) : nq ds 0 q = if q = 0 then 1 else 0 := by
  show cnt (fun es => decide (qp ds es 0 = q)) [[]] = _
  unfold cnt
  rw [List.filter_cons]
  by_cases h : q = 0
  · subst h
    rw [if_pos rfl, if_pos (show decide (qp ds [] 0 = 0) = true from rfl)]
    rfl
  · rw [if_neg h, if_neg (fun z => h (of_decide_eq_true z).symm)]
    rfl
def wid (ds : List Wd) (i : Nat) : Int := ms ds i - ls ds i + 1
theorem nq_succ {ds : List Wd} {i q : Nat} (hf : Fit ds) (hi : i < ds.length) : (nq ds (i + 1) q : Int) = if has ds i = true then (nq ds i q : Int) * wid ds i * wid ds i + (if q = 0 then 0 else (nq ds i (q - 1) : Int)) else (nq ds i q : Int) := by
  obtain ⟨d, hd⟩ : ∃ d, ds[i]? = some d := ⟨_, List.getElem?_eq_getElem hi⟩
  have e : rns ds (i + 1) = more (rns ds i) d := by
    show (match ds[i]? with | some d => more (rns ds i) d | none => rns ds i) = _
    rw [hd]
  have hh : has ds i = d.1.isSome := by
    unfold has
    rw [hd]
  have hm : ms ds i = d.2.2 := by
    unfold ms
    rw [hd]
  have hl : ls ds i = d.2.1 := by
    unfold ls
    rw [hd]
  unfold nq
  rw [e, cnt_more hd fun es hes => ((mem_rns (Nat.le_of_lt hi)).mp hes).1, hh]
  cases hs : d.1.isSome with
  | false => rw [if_neg (by decide), if_neg (by decide)]
  | true =>
    rw [if_pos rfl, if_pos rfl]
    have h1 := hf i (by rw [hh, hs])
    rw [hm, hl] at h1
    have hw : ((d.2.2 + 1 - d.2.1).toNat : Int) = wid ds i := by
      unfold wid
      rw [hm, hl]
      omega
    rw [Int.natCast_add, Int.natCast_mul, Int.natCast_mul, hw, Int.mul_assoc]
    congr 1
    by_cases hq : q = 0
    · rw [if_pos hq]
      have : cnt (fun es => decide (qp ds es i + 1 = q)) (rns ds i) = 0 := by
        unfold cnt
        rw [List.filter_eq_nil_iff.mpr fun es _ => by rw [decide_eq_true_eq]; omega]
        rfl
      rw [this]
      rfl
    · rw [if_neg hq]
      congr 2
      funext es
      exact decide_eq_decide.mpr ⟨fun z => by omega, fun z => by omega⟩
/-- the row of counts, as the program keeps it -/
def cts (ds : List Wd) (z i : Nat) : List Int := (List.range (z + 1)).map fun q => (nq ds i q : Int)
def stepC (c : Int) (cs : List Int) : List Int := List.zipWith (fun h s => h * c * c + s) cs (0 :: cs.dropLast)
theorem cts_zero (ds : List Wd) (z : Nat) : cts ds z 0 = 1 :: List.replicate z 0 := by
  unfold cts
  rw [List.range_succ_eq_map, List.map_cons, nq_zero, if_pos rfl, List.map_map]
  congr 1
  refine List.eq_replicate_iff.mpr ⟨by rw [List.length_map, List.length_range], fun x hx => ?_⟩
  obtain ⟨q, _, rfl⟩ := List.mem_map.mp hx
  show (nq ds 0 (q + 1) : Int) = 0
  rw [nq_zero, if_neg (by omega)]
  rfl
theorem cts_get {ds : List Wd} {z i q : Nat} (h : q ≤ z) : (cts ds z i)[q]? = some (nq ds i q : Int) := by
  unfold cts
  rw [List.getElem?_map, List.getElem?_range (by omega)]
  rfl
theorem cts_succ {ds : List Wd} {z i : Nat} (hf : Fit ds) (hi : i < ds.length) : cts ds z (i + 1) = if has ds i = true then stepC (wid ds i) (cts ds z i) else cts ds z i := by
  cases hs : has ds i with
  | false =>
    rw [if_neg (by decide)]
    unfold cts
    refine List.map_congr_left fun q _ => ?_
    rw [nq_succ hf hi, hs, if_neg (by decide)]
  | true =>
    rw [if_pos rfl]
    have hlen : (cts ds z i).length = z + 1 := by
      unfold cts
      rw [List.length_map, List.length_range]
    refine List.ext_getElem? fun q => ?_
    by_cases hq : q ≤ z
    · rw [cts_get hq]
      unfold stepC
      rw [List.getElem?_zipWith, cts_get hq]
      cases q with
      | zero =>
        rw [List.getElem?_cons_zero, nq_succ hf hi, hs, if_pos rfl, if_pos rfl]
      | succ q =>
        rw [List.getElem?_cons_succ, List.getElem?_dropLast, hlen, if_pos (by omega), cts_get (by omega), nq_succ hf hi, hs, if_pos rfl, if_neg (by omega)]
        rfl
    · rw [List.getElem?_eq_none (by unfold cts; rw [List.length_map, List.length_range]; omega), List.getElem?_eq_none]
      unfold stepC
      rw [List.length_zipWith, hlen]
      omega
theorem foldl_plan {α : Type} (ds : List Wd) (f : α → Nat → α) (a : α) (g : Nat → α) (h0 : g 0 = a) (h : ∀ i, i < ds.length → g (i + 1) = if has ds i = true then f (g i) i else g i) : (plan ds).foldl f a = g ds.length := by
  unfold plan
  have : ∀ n, n ≤ ds.length → ((List.range n).filter (has ds)).foldl f a = g n := fun n => by
    induction n with
    | zero => exact fun _ => h0.symm
    | succ n ih =>
      intro hn
      rw [List.range_succ, List.filter_append, List.foldl_append, ih (by omega), h n (by omega), List.filter_cons]
      cases has ds n <;> rfl
  exact this _ (Nat.le_refl _)
theorem cts_plan {ds : List Wd} {z : Nat} (hf : Fit ds) : (plan ds).foldl (fun cs j => stepC (wid ds j) cs) (1 :: List.replicate z 0) = cts ds z ds.length :=
  foldl_plan ds _ _ (cts ds z) (cts_zero ds z) fun _ hi => cts_succ hf hi
theorem out_plan {ds : List Wd} {es : List En} (hr : Run ds es) : (plan ds).foldl (step ds es) none = out ds es :=
  foldl_plan ds _ _ (outN ds es) rfl fun i _ => by
    cases hs : has ds i with
    | true => rfl
    | false =>
      rw [if_neg (by decide)]
      show step ds es (outN ds es i) i = _
      unfold step
      cases he : ent es i with
      | none => rfl
      | some p =>
        obtain ⟨a, b⟩ := p
        have := (hr.2 i a b he).1
        rw [hs] at this
        cases this
theorem sum_cts {ds : List Wd} : ∀ z : Nat, (cts ds z ds.length).sum = ((lim (z : Int) ds).length : Int) := by
  have h1 : ∀ z : Nat, (cts ds z ds.length).sum = (cnt (fun es => decide (qp ds es ds.length ≤ z)) (rns ds ds.length) : Int) := fun z => by
    induction z with
    | zero =>
      show (nq ds ds.length 0 : Int) + (0 : Int) = _
      rw [Int.add_zero]
      unfold nq
      congr 2
      funext es
      exact decide_eq_decide.mpr ⟨fun h => by omega, fun h => by omega⟩
    | succ z ih =>
      have : cts ds (z + 1) ds.length = cts ds z ds.length ++ [(nq ds ds.length (z + 1) : Int)] := by
        unfold cts
        rw [List.range_succ (n := z + 1), List.map_append]
        rfl
      rw [this, List.sum_append, ih]
      show (cnt _ _ : Int) + ((nq ds ds.length (z + 1) : Int) + 0) = _
      rw [Int.add_zero]
      rw [← Int.natCast_add]
      congr 1
      unfold nq cnt
      induction rns ds ds.length with
      | nil => rfl
      | cons es l ih =>
        simp only [List.filter_cons]
        by_cases a1 : qp ds es ds.length ≤ z
        · rw [decide_eq_true a1, decide_eq_false (show ¬ qp ds es ds.length = z + 1 by omega), decide_eq_true (show qp ds es ds.length ≤ z + 1 by omega)]
          simp only [if_true, if_false, List.length_cons]
          simp
          omega
        · by_cases a2 : qp ds es ds.length = z + 1
          · rw [decide_eq_false a1, decide_eq_true a2, decide_eq_true (show qp ds es ds.length ≤ z + 1 by omega)]
            simp only [if_true, List.length_cons]
            simp
            omega
          · rw [decide_eq_false a1, decide_eq_false a2, decide_eq_false (show ¬ qp ds es ds.length ≤ z + 1 by omega)]
            simpa using ih
  intro z
  rw [h1]
  unfold lim cnt
  congr 2
  refine List.filter_congr fun es _ => ?_
  show decide (qn ds es ≤ z) = _
  exact decide_eq_decide.mpr ⟨fun h => by omega, fun h => by omega⟩
end K18

set_option Elab.async false
namespace K18
/-! the race played moment by moment -/
abbrev Sm := List (Int × Nat) × List Nat
def simStep (ds : List Wd) (es : List En) (m : Int) (s : Sm) (w : Nat) : Sm :=
  if (has ds w && decide (bg ds w = m)) = true ∧ (s.1.any fun p => decide (p.1 ≤ m)) = false then (match ent es w with | none => s.1 | some (a, b) => s.1 ++ [(m + (a + b), w)], s.2 ++ [w]) else s
def simW (ds : List Wd) (es : List En) (m : Int) (s : Sm) (n : Nat) : Sm := (List.range n).foldl (simStep ds es m) s
def sim (ds : List Wd) (es : List En) (n : Nat) : Sm := (List.range n).foldl (fun (s : Sm) (m : Nat) => simW ds es (m : Int) s ds.length) ([], [])
theorem simW_succ {ds : List Wd} {es : List En} {m : Int} {s : Sm} {n : Nat} : simW ds es m s (n + 1) = simStep ds es m (simW ds es m s n) n := by
  unfold simW
  rw [List.range_succ, List.foldl_append]
  rfl
theorem sim_succ {ds : List Wd} {es : List En} {n : Nat} : sim ds es (n + 1) = simW ds es (n : Int) (sim ds es n) ds.length := by
  unfold sim
  rw [List.range_succ, List.foldl_append]
  rfl
def bef (o : Option (Nat × Int)) (m : Int) : Bool := match o with | none => true | some (_, t) => decide (m < t)
def sentL (ds : List Wd) (es : List En) : List Nat := (plan ds).filter fun v => bef (out ds es) (bg ds v)
structure Inv (ds : List Wd) (es : List En) (m : Int) (w : Nat) (s : Sm) : Prop where
  gone : ∀ v, v ∈ s.2 ↔ has ds v = true ∧ bef (out ds es) (bg ds v) = true ∧ (bg ds v < m ∨ (bg ds v = m ∧ v < w))
  ans : ∀ p, p ∈ s.1 ↔ ∃ v a b, v ∈ s.2 ∧ ent es v = some (a, b) ∧ p = (bg ds v + (a + b), v)
  len : s.1.length ≤ s.2.length
def Pos (ds : List Wd) : Prop := ∀ j, has ds j = true → 0 ≤ bg ds j ∧ bg ds j ≤ 4 ∧ 1 ≤ ls ds j
theorem out_none {ds : List Wd} {es : List En} (hr : Run ds es) (h : out ds es = none) (j : Nat) : ent es j = none := by
  by_cases q : j < ds.length
  · have sp := outN_spec (ds := ds) (es := es) ds.length
    have ho' : outN ds es ds.length = none := h
    rw [ho'] at sp
    exact sp j q
  · exact ent_none (by rw [hr.1]; omega)
theorem out_some {ds : List Wd} {es : List En} {k : Nat} {t : Int} (hr : Run ds es) (h : out ds es = some (k, t)) : (∃ a b, ent es k = some (a, b) ∧ t = bg ds k + (a + b)) ∧ ∀ j a b, ent es j = some (a, b) → t < bg ds j + (a + b) ∨ (t = bg ds j + (a + b) ∧ k ≤ j) := by
  have sp := outN_spec (ds := ds) (es := es) ds.length
  have ho' : outN ds es ds.length = some (k, t) := h
  rw [ho'] at sp
  obtain ⟨_, ⟨a, b, h1, h2⟩, h3⟩ := sp
  refine ⟨⟨a, b, h1, by omega⟩, fun j a b he => ?_⟩
  have hj : j < ds.length := has_lt (hr.2 j a b he).1
  have := h3 j a b hj he
  omega
theorem any_bef {ds : List Wd} {es : List En} {m : Int} {w : Nat} {s : Sm} (hr : Run ds es) (hp : Pos ds) (i : Inv ds es m w s) : (s.1.any fun p => decide (p.1 ≤ m)) = !bef (out ds es) m := by
  rw [Bool.eq_iff_iff, List.any_eq_true]
  cases ho : out ds es with
  | none =>
    refine ⟨fun ⟨p, h, _⟩ => ?_, fun h => by cases h⟩
    obtain ⟨v, a, b, _, he, _⟩ := (i.ans p).mp h
    rw [out_none hr ho v] at he
    cases he
  | some km =>
    obtain ⟨k, t⟩ := km
    obtain ⟨⟨a, b, h1, h2⟩, h3⟩ := out_some hr ho
    show _ ↔ (!decide (m < t)) = true
    rw [Bool.not_eq_true', decide_eq_false_iff_not]
    constructor
    · rintro ⟨p, h, hm⟩
      obtain ⟨v, a', b', _, he, rfl⟩ := (i.ans p).mp h
      have := h3 v a' b' he
      have hm := of_decide_eq_true hm
      dsimp only at hm
      omega
    · intro h
      obtain ⟨g1, g2, g3, g4, g5⟩ := hr.2 k a b h1
      obtain ⟨p1, p2, p3⟩ := hp k g1
      refine ⟨(bg ds k + (a + b), k), (i.ans _).mpr ⟨k, a, b, (i.gone k).mpr ⟨g1, ?_, .inl (by omega)⟩, h1, rfl⟩, decide_eq_true (by dsimp only; omega)⟩
      rw [ho]
      exact decide_eq_true (by omega)
theorem inv_step {ds : List Wd} {es : List En} {m : Int} {w : Nat} {s : Sm} (hr : Run ds es) (hp : Pos ds) (i : Inv ds es m w s) : Inv ds es m (w + 1) (simStep ds es m s w) := by
  unfold simStep
  by_cases hc : (has ds w && decide (bg ds w = m)) = true ∧ (s.1.any fun p => decide (p.1 ≤ m)) = false
  · rw [if_pos hc]
    obtain ⟨c1, c2⟩ := hc
    rw [any_bef hr hp i] at c2
    rw [Bool.and_eq_true, decide_eq_true_eq] at c1
    obtain ⟨c1, c3⟩ := c1
    have hb : bef (out ds es) (bg ds w) = true := by
      rw [c3]
      cases hq : bef (out ds es) m with
      | true => rfl
      | false => rw [hq] at c2; cases c2
    have hg : ∀ v, v ∈ s.2 ++ [w] ↔ has ds v = true ∧ bef (out ds es) (bg ds v) = true ∧ (bg ds v < m ∨ (bg ds v = m ∧ v < w + 1)) := fun v => by
      rw [List.mem_append, List.mem_singleton, i.gone]
      constructor
      · rintro (⟨h1, h2, h3⟩ | rfl)
        · exact ⟨h1, h2, by omega⟩
        · exact ⟨c1, hb, by omega⟩
      · rintro ⟨h1, h2, h3⟩
        by_cases e : v = w
        · exact .inr e
        · exact .inl ⟨h1, h2, by omega⟩
    cases he : ent es w with
    | none =>
      refine ⟨hg, fun p => ?_, ?_⟩
      · show p ∈ s.1 ↔ _
        rw [i.ans]
        constructor
        · rintro ⟨v, a, b, h1, h2, h3⟩
          exact ⟨v, a, b, List.mem_append_left _ h1, h2, h3⟩
        · rintro ⟨v, a, b, h1, h2, h3⟩
          rcases List.mem_append.mp h1 with h | h
          · exact ⟨v, a, b, h, h2, h3⟩
          · rw [List.mem_singleton.mp h, he] at h2
            cases h2
      · show s.1.length ≤ (s.2 ++ [w]).length
        rw [List.length_append]
        have := i.len
        omega
    | some q =>
      obtain ⟨a, b⟩ := q
      refine ⟨hg, fun p => ?_, ?_⟩
      · show p ∈ s.1 ++ [(m + (a + b), w)] ↔ _
        rw [List.mem_append, List.mem_singleton, i.ans]
        constructor
        · rintro (⟨v, a, b, h1, h2, h3⟩ | rfl)
          · exact ⟨v, a, b, List.mem_append_left _ h1, h2, h3⟩
          · exact ⟨w, a, b, List.mem_append_right _ (List.mem_singleton.mpr rfl), he, by rw [c3]⟩
        · rintro ⟨v, a', b', h1, h2, h3⟩
          rcases List.mem_append.mp h1 with h | h
          · exact .inl ⟨v, a', b', h, h2, h3⟩
          · rw [List.mem_singleton.mp h] at h2 h3
            rw [he] at h2
            cases h2
            exact .inr (by rw [h3, c3])
      · show (s.1 ++ [(m + (a + b), w)]).length ≤ (s.2 ++ [w]).length
        rw [List.length_append, List.length_append]
        have := i.len
        simp
        omega
  · rw [if_neg hc]
    refine ⟨fun v => ?_, i.ans, i.len⟩
    rw [i.gone]
    constructor
    · rintro ⟨h1, h2, h3⟩
      exact ⟨h1, h2, by omega⟩
    · rintro ⟨h1, h2, h3⟩
      refine ⟨h1, h2, ?_⟩
      by_cases e : v = w ∧ bg ds v = m
      · obtain ⟨rfl, e⟩ := e
        refine absurd ⟨?_, ?_⟩ hc
        · rw [h1, decide_eq_true e]
          rfl
        · rw [any_bef hr hp i, ← e, h2]
          rfl
      · omega
theorem inv_w {ds : List Wd} {es : List En} {m : Int} {s : Sm} (hr : Run ds es) (hp : Pos ds) (i : Inv ds es m 0 s) : ∀ n, Inv ds es m n (simW ds es m s n)
  | 0 => i
  | n + 1 => by
    rw [simW_succ]
    exact inv_step hr hp (inv_w hr hp i n)
theorem inv_next {ds : List Wd} {es : List En} {m : Int} {s : Sm} (i : Inv ds es m ds.length s) : Inv ds es (m + 1) 0 s := by
  refine ⟨fun v => ?_, i.ans, i.len⟩
  rw [i.gone]
  constructor
  · rintro ⟨h1, h2, h3⟩
    exact ⟨h1, h2, by omega⟩
  · rintro ⟨h1, h2, h3⟩
    have := has_lt h1
    exact ⟨h1, h2, by omega⟩
theorem inv_sim {ds : List Wd} {es : List En} (hr : Run ds es) (hp : Pos ds) : ∀ n : Nat, Inv ds es (n : Int) 0 (sim ds es n)
  | 0 => ⟨fun v => ⟨fun h => (nomatch h), fun ⟨h1, h2, h3⟩ => by
      have := hp v h1
      omega⟩, fun p => ⟨fun h => (nomatch h), fun ⟨v, a, b, h, _⟩ => nomatch h⟩, Nat.le_refl _⟩
  | n + 1 => by
    rw [sim_succ]
    have := inv_next (inv_w hr hp (inv_sim hr hp n) ds.length)
    rw [show ((n + 1 : Nat) : Int) = (n : Int) + 1 from rfl]
    exact this
theorem simS_len {ds : List Wd} {es : List En} {m : Int} {s : Sm} {w : Nat} : (simStep ds es m s w).2.length ≤ s.2.length + 1 := by
  unfold simStep
  by_cases hc : (has ds w && decide (bg ds w = m)) = true ∧ (s.1.any fun p => decide (p.1 ≤ m)) = false
  · rw [if_pos hc, List.length_append]
    exact Nat.le_refl _
  · rw [if_neg hc]
    omega
theorem simW_len {ds : List Wd} {es : List En} {m : Int} {s : Sm} : ∀ n, (simW ds es m s n).2.length ≤ s.2.length + n
  | 0 => Nat.le_refl _
  | n + 1 => by
    rw [simW_succ]
    have h1 := simS_len (ds := ds) (es := es) (m := m) (s := simW ds es m s n) (w := n)
    have h2 := simW_len (ds := ds) (es := es) (m := m) (s := s) n
    omega
theorem sim_len {ds : List Wd} {es : List En} : ∀ n, (sim ds es n).2.length ≤ n * ds.length
  | 0 => Nat.zero_le _
  | n + 1 => by
    rw [sim_succ, Nat.succ_mul]
    exact Nat.le_trans (simW_len _) (Nat.add_le_add_right (sim_len n) _)
theorem gone_is {ds : List Wd} {es : List En} (hr : Run ds es) (hp : Pos ds) : (List.range ds.length).filter (fun v => decide (v ∈ (sim ds es 5).2)) = sentL ds es := by
  unfold sentL plan
  rw [List.filter_filter]
  refine List.filter_congr fun v hv => ?_
  rw [Bool.eq_iff_iff, decide_eq_true_eq, (inv_sim hr hp 5).gone, Bool.and_eq_true]
  constructor
  · rintro ⟨h1, h2, _⟩
    exact ⟨h2, h1⟩
  · rintro ⟨h1, h2⟩
    have := hp v h2
    exact ⟨h2, h1, .inl (by omega)⟩
theorem ans_nil {ds : List Wd} {es : List En} (hr : Run ds es) (hp : Pos ds) : (sim ds es 5).1 = [] ↔ out ds es = none := by
  constructor
  · intro h
    cases ho : out ds es with
    | none => rfl
    | some km =>
      obtain ⟨k, t⟩ := km
      obtain ⟨⟨a, b, h1, h2⟩, h3⟩ := out_some hr ho
      obtain ⟨g1, g2, g3, g4, g5⟩ := hr.2 k a b h1
      obtain ⟨p1, p2, p3⟩ := hp k g1
      have : (bg ds k + (a + b), k) ∈ (sim ds es 5).1 := ((inv_sim hr hp 5).ans _).mpr ⟨k, a, b, ((inv_sim hr hp 5).gone k).mpr ⟨g1, by rw [ho]; exact decide_eq_true (by omega), .inl (by omega)⟩, h1, rfl⟩
      rw [h] at this
      cases this
  · intro ho
    refine List.eq_nil_iff_forall_not_mem.mpr fun p h => ?_
    obtain ⟨v, a, b, _, he, _⟩ := ((inv_sim hr hp 5).ans p).mp h
    rw [out_none hr ho v] at he
    cases he
def lt2 (p q : Int × Nat) : Bool := decide (p.1 < q.1 ∨ (p.1 = q.1 ∧ p.2 < q.2))
theorem ans_min {ds : List Wd} {es : List En} {k : Nat} {t : Int} (hr : Run ds es) (hp : Pos ds) (ho : out ds es = some (k, t)) : (t, k) ∈ (sim ds es 5).1 ∧ ∀ p ∈ (sim ds es 5).1, lt2 p (t, k) = false := by
  obtain ⟨⟨a, b, h1, h2⟩, h3⟩ := out_some hr ho
  obtain ⟨g1, g2, g3, g4, g5⟩ := hr.2 k a b h1
  obtain ⟨p1, p2, p3⟩ := hp k g1
  refine ⟨((inv_sim hr hp 5).ans _).mpr ⟨k, a, b, ((inv_sim hr hp 5).gone k).mpr ⟨g1, by rw [ho]; exact decide_eq_true (by omega), .inl (by omega)⟩, h1, by rw [h2]⟩, fun p h => ?_⟩
  obtain ⟨v, a', b', _, he, rfl⟩ := ((inv_sim hr hp 5).ans p).mp h
  have := h3 v a' b' he
  unfold lt2
  rw [decide_eq_false_iff_not]
  dsimp only
  omega
def minF (l : List (Int × Nat)) (f : Int × Nat) : Int × Nat := l.foldl (fun f p => if lt2 p f = true then p else f) f
theorem min_is {q : Int × Nat} : ∀ {l : List (Int × Nat)} {f : Int × Nat}, (∀ p ∈ l, lt2 p q = false) → (f = q ∨ (q ∈ l ∧ lt2 f q = false)) → minF l f = q
  | [], f, _, h => by
    rcases h with h | h
    · exact h
    · cases h.1
  | p :: l, f, h, hf => by
    show minF l (if lt2 p f = true then p else f) = q
    have hp := h p List.mem_cons_self
    refine min_is (fun x hx => h x (List.mem_cons_of_mem _ hx)) ?_
    rcases hf with rfl | ⟨h1, h2⟩
    · rw [hp]
      exact .inl rfl
    · rcases List.mem_cons.mp h1 with rfl | h1
      · by_cases e : lt2 q f = true
        · rw [if_pos e]
          exact .inl rfl
        · rw [if_neg e]
          left
          unfold lt2 at e h2
          rw [decide_eq_true_eq] at e
          rw [decide_eq_false_iff_not] at h2
          obtain ⟨q1, q2⟩ := q
          obtain ⟨f1, f2⟩ := f
          dsimp only at e h2
          rw [show f1 = q1 by omega, show f2 = q2 by omega]
      · refine .inr ⟨h1, ?_⟩
        by_cases e : lt2 p f = true
        · rw [if_pos e]
          exact hp
        · rw [if_neg e]
          exact h2
/-! the outcomes rise -/
theorem ocN_lt {W : List Wn} {lo : Int} (hw : W.Pairwise fun a b => a.1 < b.1) : ∀ n, (ocN W lo n).Pairwise (fun p q => lt2 p q = true) ∧ ∀ p ∈ ocN W lo n, p.1 < lo + (n : Int)
  | 0 => ⟨List.Pairwise.nil, fun p h => nomatch h⟩
  | n + 1 => by
    obtain ⟨h1, h2⟩ := ocN_lt hw n
    rw [ocN_succ]
    refine ⟨List.pairwise_append.mpr ⟨h1, ?_, fun p hp q hq => ?_⟩, fun p hp => ?_⟩
    · rw [List.pairwise_map]
      refine (hw.filter _).imp fun h => ?_
      exact decide_eq_true (.inr ⟨rfl, h⟩)
    · obtain ⟨x, _, rfl⟩ := List.mem_map.mp hq
      exact decide_eq_true (.inl (h2 p hp))
    · rcases List.mem_append.mp hp with h | h
      · have := h2 p h
        omega
      · obtain ⟨x, _, rfl⟩ := List.mem_map.mp h
        dsimp only
        omega
theorem lt2_irr (p : Int × Nat) : lt2 p p = false := by
  unfold lt2
  rw [decide_eq_false_iff_not]
  omega
theorem ocs_lt {W : List Wn} (hw : W.Pairwise fun a b => a.1 < b.1) : (ocs W).Pairwise (fun p q => lt2 p q = true) ∧ (ocs W).Nodup := by
  have h := (ocN_lt (lo := loW W) hw (hiW W + 1 - loW W).toNat).1
  refine ⟨h, ?_⟩
  rw [List.nodup_iff_pairwise_ne]
  exact h.imp fun h e => by
    rw [e, lt2_irr] at h
    cases h
/-! what came, each once -/
def came1 (acc : List (Int × Nat)) (o : Option (Nat × Int)) : List (Int × Nat) := match o with
  | none => acc
  | some (w, t) => if (t, w) ∈ acc then acc else acc ++ [(t, w)]
def cameL (os : List (Option (Nat × Int))) : List (Int × Nat) := os.foldl came1 []
theorem cameL_snoc {os : List (Option (Nat × Int))} {o : Option (Nat × Int)} : cameL (os ++ [o]) = came1 (cameL os) o := by
  unfold cameL
  rw [List.foldl_append]
  rfl
theorem came_facts : ∀ {os : List (Option (Nat × Int))} {acc : List (Int × Nat)}, acc.Nodup → (os.foldl came1 acc).Nodup ∧ ∀ t w, (t, w) ∈ os.foldl came1 acc ↔ (t, w) ∈ acc ∨ some (w, t) ∈ os
  | [], acc, h => ⟨h, fun t w => ⟨.inl, fun q => q.elim id fun z => nomatch z⟩⟩
  | o :: os, acc, h => by
    have hs : (came1 acc o).Nodup ∧ ∀ t w, (t, w) ∈ came1 acc o ↔ (t, w) ∈ acc ∨ o = some (w, t) := by
      cases o with
      | none => exact ⟨h, fun t w => ⟨.inl, fun q => q.elim id fun z => nomatch z⟩⟩
      | some km =>
        obtain ⟨k, m⟩ := km
        unfold came1
        by_cases hm : (m, k) ∈ acc
        · dsimp only
          rw [if_pos hm]
          refine ⟨h, fun t w => ⟨.inl, fun q => q.elim id fun z => ?_⟩⟩
          cases z
          exact hm
        · dsimp only
          rw [if_neg hm]
          refine ⟨List.nodup_append.mpr ⟨h, List.nodup_cons.mpr ⟨(fun z => nomatch z), List.nodup_nil⟩, fun a ha b hb e => hm (by rw [← List.mem_singleton.mp hb, ← e]; exact ha)⟩, fun t w => ?_⟩
          rw [List.mem_append, List.mem_singleton]
          constructor
          · rintro (q | q)
            · exact .inl q
            · cases q
              exact .inr rfl
          · rintro (q | q)
            · exact .inl q
            · cases q
              exact .inr rfl
    obtain ⟨h1, h2⟩ := came_facts (os := os) hs.1
    refine ⟨h1, fun t w => ?_⟩
    show (t, w) ∈ os.foldl came1 (came1 acc o) ↔ _
    rw [h2, hs.2, List.mem_cons]
    constructor
    · rintro ((q | q) | q)
      · exact .inl q
      · exact .inr (.inl q.symm)
      · exact .inr (.inr q)
    · rintro (q | q | q)
      · exact .inl (.inl q)
      · exact .inl (.inr q.symm)
      · exact .inr q
theorem mem_came {os : List (Option (Nat × Int))} {t : Int} {w : Nat} : (t, w) ∈ cameL os ↔ some (w, t) ∈ os := by
  unfold cameL
  rw [(came_facts List.nodup_nil).2]
  exact ⟨fun q => q.elim (fun z => nomatch z) id, .inr⟩
theorem came_nodup {os : List (Option (Nat × Int))} : (cameL os).Nodup := (came_facts List.nodup_nil).1
theorem came_len : ∀ {os : List (Option (Nat × Int))} {acc : List (Int × Nat)}, (os.foldl came1 acc).length ≤ acc.length + os.length
  | [], _ => Nat.le_refl _
  | o :: os, acc => by
    have h : (came1 acc o).length ≤ acc.length + 1 := by
      unfold came1
      cases o with
      | none => exact Nat.le_succ _
      | some km =>
        dsimp only
        split
        · exact Nat.le_succ _
        · rw [List.length_append]
          exact Nat.le_refl _
    have := came_len (os := os) (acc := came1 acc o)
    show (os.foldl came1 (came1 acc o)).length ≤ _
    rw [List.length_cons]
    omega
end K18

set_option Elab.async false
set_option linter.all false
set_option maxRecDepth 100000
set_option maxHeartbeats 4000000
/-! a generator def of the top that keeps its promise; list(f(..)) of it -/
namespace L2
open PySem PySem.Spec PyProof.Rows GenW
section
variable {P : Program} {w : World} {K : PySem.W.Frag} {mg : Str → Option Value} {base : Heap}
structure OwnG (P : Program) (w : World) (K : PySem.W.Frag) (mg : Str → Option Value) (base : Heap) (x : Str) (k : Nat) (ps : List Str) (sp : SpG) : Prop where
  ex : ∃ (f : Addr) (fd : FuncData), GFn P w K mg base k f fd ps sp ∧ mg x = some (.ref f) ∧ PySem.W.keepIn K (.ref f) = true ∧ Binds K fd ps []
theorem DefAt.ownG {x : Str} {st : Stmt} {ps : List Str} {k : Nat} {sp : SpG} (D : DefAt K mg x st ps) (h : ∀ f fd, Fun K x x st f fd → GFn P w K mg base k f fd ps sp) : OwnG P w K mg base x k ps sp := by
  obtain ⟨f, fd, F, hm, hb⟩ := D.ex
  exact ⟨f, fd, h f fd F, hm, F.kp, hb⟩
/-- a generator def by its body -/
theorem gfn_fun {x qual : Str} {st : Stmt} {f : Addr} {fd : FuncData} {N ps : List Str} {k : Nat} {sp : SpG} (F : Fun K x qual st f fd) (S : GScope N ps (defScope st)) (len : ∀ vs H Q E, sp vs H Q E → vs.length = ps.length)
    (hbody : ∀ (cdv : Value) (A : Around) (outer : List Env) (s : Shared) (H : Hp) (vs : List V) (Q : List V → Hp → Prop) (E : XK) (pn : List (Addr × Obj)), Room k (A.deeper (envOfC qual (defScope st) s.heap.objs.size f cdv)) → sp vs H Q E →
      ∃ t, GSs (gcxOf P w K mg base N qual (defScope st) f cdv A outer s H E pn) (defBody st) t ∧ t { nx := fun ys _ H' => Q ys H', rt := fun ys v H' => v = .non ∧ Q ys H' } [] (start N vs) H) : GFn P w K mg base (k + 1) f fd ps sp := by
  obtain ⟨oc, od, kV, doc, pm, an, cdv, ct, osl, rfl, lk, hcd⟩ := F.ex
  exact gfn_of lk hcd S len fun A outer s H vs Q E pn hr hsp => hbody cdv A outer s H vs Q E pn hr hsp
end
section
variable {X : Cx} {x nm : Str} {k : Nat} {ps : List Str} {sp : SpG} {e : Expr} {es : List Expr} {t : TA} {p p2 pos pos2 : Pos}
theorem noStop0 {K : PySem.W.Frag} : NoStop K E0 := fun _ _ _ h => False.elim h
/-- list(f(e, ..)) -/
theorem pe_listOwnG (O : OwnG X.prog X.w X.K X.mg X.base x k ps sp) (hr : Room (k + 3) X.A) (ha : PA X (e :: es) t) (hmg : X.mg nm = none) (hgl : Gl X nm := by rfl) (hg : Gl X x := by rfl) (hv : bootBuiltins nm = some (.type "list") := by decide +kernel) (hnm : nm ≠ "__name__" := by decide) (hdb : (nm == ("__debug__" : Str)) = false := by decide) (hdb2 : (x == ("__debug__" : Str)) = false := by decide)
    (he : starEach (e :: es) X.env = (false, eval e X.env) :: starEach es X.env := by rfl) (hpl : (backTo pos (starEach es X.env)).any (·.1) = false := by rfl)
    (he2 : starEach [Expr.Call (.Name x p) (e :: es) [] pos] X.env = (false, eval (Expr.Call (.Name x p) (e :: es) [] pos) X.env) :: starEach [] X.env := by rfl) : PE X (.Call (.Name nm p2) [.Call (.Name x p) (e :: es) [] pos] [] pos2) (tListG (tCallG sp [] E0 t)) := by
  obtain ⟨f, fd, F, hm, hk, hb⟩ := O.ex
  exact pe_listG (pgen_call F (hr.mono (by omega)) hg hm hk hb .nil ha hdb2 he hpl) passL noStop0 hr hgl hmg hv hnm hdb he2
end
section
variable {K : PySem.W.Frag} {g : TG} {tb : TGn} {D : GEnds} {ys : List V} {σ : St} {H : Hp}
theorem gfor_range {lo : Int} {n : Nat} (Pv : Nat → List V → St → Hp → Prop) (h0 : Pv 0 ys σ H) (hs : ∀ i ys σ H, i < n → Pv i ys σ H → g (.int (lo + i)) σ H fun σ2 H2 => tb { D with nx := Pv (i + 1), ct := Pv (i + 1), bk := D.nx } ys σ2 H2) (hd : ∀ ys σ H, Pv n ys σ H → D.nx ys σ H) :
    ∃ W : Nat → Nat → List V → St → Hp → Prop, (∃ m, W 0 m ys σ H) ∧ ∀ i m ys σ H, W i m ys σ H →
      ((Itr lo n).stop i H ∧ D.nx ys σ H) ∨ ((Itr lo n).go i H ∧ ∃ N : List V → St → Hp → Prop, (∀ ys' σ' H', N ys' σ' H' → ∃ m', m' < m ∧ W (i + 1) m' ys' σ' H') ∧ ∀ x H', (Itr lo n).yld i H x H' → g x σ H' fun σ2 H2 => tb { D with nx := N, ct := N, bk := D.nx } ys σ2 H2) := by
  refine ⟨fun i m ys σ H => m = n - i ∧ i ≤ n ∧ Pv i ys σ H, ⟨n - 0, rfl, Nat.zero_le _, h0⟩, ?_⟩
  rintro i m ys σ H ⟨rfl, hi, pv⟩
  by_cases hlt : i < n
  · refine .inr ⟨hlt, Pv (i + 1), fun ys' σ' H' q => ⟨n - (i + 1), by omega, rfl, hlt, q⟩, fun x H' hy => ?_⟩
    obtain ⟨rfl, rfl⟩ := hy
    exact hs i ys σ _ hlt pv
  · have e : i = n := by omega
    subst e
    exact .inl ⟨Nat.le_refl _, hd ys σ H pv⟩
theorem gfor_list {a : Addr} {xs : List V} (Pv : Nat → List V → St → Hp → Prop) (h0 : Pv 0 ys σ H) (hl : ∀ i ys σ H, i ≤ xs.length → Pv i ys σ H → SqL K H a xs) (hs : ∀ i x ys σ H, xs[i]? = some x → Pv i ys σ H → g x σ H fun σ2 H2 => tb { D with nx := Pv (i + 1), ct := Pv (i + 1), bk := D.nx } ys σ2 H2) (hd : ∀ ys σ H, Pv xs.length ys σ H → D.nx ys σ H) :
    ∃ W : Nat → Nat → List V → St → Hp → Prop, (∃ m, W 0 m ys σ H) ∧ ∀ i m ys σ H, W i m ys σ H →
      ((Itl K a).stop i H ∧ D.nx ys σ H) ∨ ((Itl K a).go i H ∧ ∃ N : List V → St → Hp → Prop, (∀ ys' σ' H', N ys' σ' H' → ∃ m', m' < m ∧ W (i + 1) m' ys' σ' H') ∧ ∀ x H', (Itl K a).yld i H x H' → g x σ H' fun σ2 H2 => tb { D with nx := N, ct := N, bk := D.nx } ys σ2 H2) := by
  refine ⟨fun i m ys σ H => m = xs.length - i ∧ i ≤ xs.length ∧ Pv i ys σ H, ⟨xs.length - 0, rfl, Nat.zero_le _, h0⟩, ?_⟩
  rintro i m ys σ H ⟨rfl, hi, pv⟩
  have hq := hl i ys σ H hi pv
  by_cases hlt : i < xs.length
  · have hx : xs[i]? = some xs[i] := List.getElem?_eq_getElem hlt
    refine .inr ⟨⟨xs, xs[i], hq, hx⟩, Pv (i + 1), fun ys' σ' H' q => ⟨xs.length - (i + 1), by omega, rfl, hlt, q⟩, fun x H' hy => ?_⟩
    obtain ⟨rfl, hy⟩ := hy
    exact hs i x ys σ _ (hy xs hq) pv
  · have e : i = xs.length := by omega
    subst e
    exact .inl ⟨⟨xs, hq, Nat.le_refl _⟩, hd ys σ H pv⟩
theorem gfor_tup {a : Addr} {xs : List V} (Pv : Nat → List V → St → Hp → Prop) (h0 : Pv 0 ys σ H) (hl : ∀ i ys σ H, i ≤ xs.length → Pv i ys σ H → SqT K H a xs) (hs : ∀ i x ys σ H, xs[i]? = some x → Pv i ys σ H → g x σ H fun σ2 H2 => tb { D with nx := Pv (i + 1), ct := Pv (i + 1), bk := D.nx } ys σ2 H2) (hd : ∀ ys σ H, Pv xs.length ys σ H → D.nx ys σ H) :
    ∃ W : Nat → Nat → List V → St → Hp → Prop, (∃ m, W 0 m ys σ H) ∧ ∀ i m ys σ H, W i m ys σ H →
      ((Itt K a).stop i H ∧ D.nx ys σ H) ∨ ((Itt K a).go i H ∧ ∃ N : List V → St → Hp → Prop, (∀ ys' σ' H', N ys' σ' H' → ∃ m', m' < m ∧ W (i + 1) m' ys' σ' H') ∧ ∀ x H', (Itt K a).yld i H x H' → g x σ H' fun σ2 H2 => tb { D with nx := N, ct := N, bk := D.nx } ys σ2 H2) := by
  refine ⟨fun i m ys σ H => m = xs.length - i ∧ i ≤ xs.length ∧ Pv i ys σ H, ⟨xs.length - 0, rfl, Nat.zero_le _, h0⟩, ?_⟩
  rintro i m ys σ H ⟨rfl, hi, pv⟩
  have hq := hl i ys σ H hi pv
  by_cases hlt : i < xs.length
  · have hx : xs[i]? = some xs[i] := List.getElem?_eq_getElem hlt
    refine .inr ⟨⟨xs, xs[i], hq, hx⟩, Pv (i + 1), fun ys' σ' H' q => ⟨xs.length - (i + 1), by omega, rfl, hlt, q⟩, fun x H' hy => ?_⟩
    obtain ⟨rfl, hy⟩ := hy
    exact hs i x ys σ _ (hy xs hq) pv
  · have e : i = xs.length := by omega
    subst e
    exact .inl ⟨⟨xs, hq, Nat.le_refl _⟩, hd ys σ H pv⟩
end
end L2

set_option Elab.async false
set_option linter.all false
set_option maxRecDepth 100000
set_option maxHeartbeats 4000000
/-! ==, not in over data, the kit's own part named -/
namespace L2
open PySem PySem.Spec PyProof.Rows
section
variable {X : Cx} {K : PySem.W.Frag}
theorem op_eqDK (h : X.K = K) (hu : X.A.units + 64 < cLine) : OpR X (compareOp .Eq) (rEqD K) := by
  subst h
  exact op_eqD hu
theorem op_neDK (h : X.K = K) (hu : X.A.units + 64 < cLine) : OpR X (compareOp .NotEq) (rNeD K) := by
  subst h
  exact op_neD hu
theorem op_inDK (h : X.K = K) (hu : X.A.units + 65 < cLine) : OpR X (compareOp .In) (rInD K) := by
  subst h
  exact op_inD hu
theorem op_notInDK (h : X.K = K) (hu : X.A.units + 65 < cLine) : OpR X (compareOp .NotIn) (rNotInD K) := by
  subst h
  exact op_notInD hu
end
end L2

set_option Elab.async false
set_option maxRecDepth 100000
set_option maxHeartbeats 4000000
namespace K18
open PySem PySem.Spec PyProof.Rows L2
theorem en_non {H : Hp} {v : V} {e : En} (h : EnAt H v e) : decide (v = .non) = e.isNone := by
  cases e with
  | none => rw [show v = .non from h]; rfl
  | some p =>
    obtain ⟨t, rfl, _⟩ := h
    rfl
theorem ent_at {es : List En} {i : Nat} {e : En} (h : es[i]? = some e) : ent es i = e := by
  unfold ent
  rw [h]
  rfl
theorem more_snoc {rs : List (List En)} {es : List En} {d : Wd} : more (rs ++ [es]) d = more rs d ++ (ents d).map fun e => es ++ [e] := by
  unfold more
  rw [List.flatMap_append]
  simp
theorem rns_succ {ds : List Wd} {i : Nat} {d : Wd} (h : ds[i]? = some d) : rns ds (i + 1) = more (rns ds i) d := by
  show (match ds[i]? with | some d => more (rns ds i) d | none => rns ds i) = _
  rw [h]
theorem rns_len {ds : List Wd} (g : Gds ds) : ∀ {i : Nat}, i ≤ 3 → (rns ds i).length ≤ 101 ^ i
  | 0, _ => by unfold rns; exact Nat.le_refl _
  | i + 1, hi => by
    have ih := rns_len g (i := i) (by omega)
    cases hd : ds[i]? with
    | none =>
      have : rns ds (i + 1) = rns ds i := by
        show (match ds[i]? with | some d => more (rns ds i) d | none => rns ds i) = _
        rw [hd]
      rw [this]
      exact Nat.le_trans ih (Nat.pow_le_pow_right (by decide) (Nat.le_succ i))
    | some d =>
      rw [rns_succ hd, more_len, Nat.pow_succ]
      refine Nat.mul_le_mul ih (ents_len ?_)
      obtain ⟨_, h2, _, h4⟩ := g i d hd
      omega
theorem big_sz {n : Nat} (h : n ≤ 101 ^ 3) : n < sizeLine := Nat.lt_of_le_of_lt h (by decide)
theorem rns_big {ds : List Wd} (g : Gds ds) {i : Nat} (hi : i ≤ 3) : (rns ds i).length ≤ 101 ^ 3 := Nat.le_trans (rns_len g hi) (Nat.pow_le_pow_right (by decide) hi)
theorem len_in {ds : List Wd} {i : Nat} {es : List En} (hi : i ≤ ds.length) (h : es ∈ rns ds i) : es.length = i := ((mem_rns hi).mp h).1
def rV : Option (Nat × Int) → List V
  | none => [.non, .non]
  | some (k, m) => [nI k, .int m]
def RowAt (H : Hp) (v : V) (o : Option (Nat × Int)) : Prop := ∃ t u, v = .ref t ∧ H t = some (.tup (rV o ++ [.ref u]))
theorem RowAt.k {H H' : Hp} (e : KT H H') (v : V) (o : Option (Nat × Int)) (h : RowAt H v o) : RowAt H' v o := by
  obtain ⟨t, u, h1, h2⟩ := h
  exact ⟨t, u, h1, e _ _ h2⟩
theorem Rel2.of_get {α : Type} {R : V → α → Prop} : ∀ {vs : List V} {qs : List α}, vs.length = qs.length → (∀ (i : Nat) (x : V) (q : α), vs[i]? = some x → qs[i]? = some q → R x q) → Rel2 R vs qs
  | [], [], _, _ => trivial
  | [], _ :: _, h, _ => nomatch h
  | _ :: _, [], h, _ => nomatch h
  | _ :: _, _ :: _, h, k => ⟨k 0 _ _ rfl rfl, Rel2.of_get (Nat.succ.inj h) fun i x q h1 h2 => k (i + 1) x q h1 h2⟩
theorem wl_of {b D : Addr} {H : Hp} {qs : List V} {ds : List Wd} (hD : H D = some (.lst qs)) (h : TupsB b H qs ds) : Wl H D ds ∧ Gds ds := by
  refine ⟨⟨qs, hD, Rel2.of_get h.1 fun i x d h1 h2 => ?_⟩, fun j d hd => ?_⟩
  · obtain ⟨_, q, e1, e2, _⟩ := h.2 i x d h1 h2
    exact ⟨q, e1, e2⟩
  · obtain ⟨x, hx⟩ : ∃ x, qs[j]? = some x := ⟨_, List.getElem?_eq_getElem (by rw [h.1]; exact (List.getElem?_eq_some_iff.mp hd).1)⟩
    exact (h.2 j x d hx hd).1
theorem gds_fit {ds : List Wd} (g : Gds ds) : Fit ds := fun j hj => by
  obtain ⟨d, hd⟩ : ∃ d, ds[j]? = some d := ⟨_, List.getElem?_eq_getElem (has_lt hj)⟩
  obtain ⟨_, _, a3, a4⟩ := at_d hd
  obtain ⟨_, _, g3, _⟩ := g j d hd
  rw [a3, a4]
  exact g3
section
variable {P : Program} {w : World} {K : PySem.W.Frag} {mg : Str → Option Value} {base : Heap} {A : Ad}
def spQuiet : Sp := fun vs H Q _ => ∃ (D : Addr) (ds : List Wd) (v : V) (es : List En), vs = [.ref D, v] ∧ Wl H D ds ∧ RnAt H v es ∧ es.length = ds.length ∧ ds.length ≤ 1000 ∧ Q (.int (qn ds es : Nat)) H
theorem ok_quiet {f : Addr} {fd : FuncData} (F : Fun K "_law_quiet_ways" "_law_quiet_ways" s__law_quiet_ways f fd) (T : Txt K mg A) : FnOk P w K mg base CX0 1 f fd pm__law_quiet_ways spQuiet := by
  refine F.ok sc__law_quiet_ways (fun vs H Q E h => ?_) (fun cdv A' outer sh H vs Q E hr h => ?_)
  · obtain ⟨_, _, _, _, rfl, _⟩ := h
    rfl
  · obtain ⟨D, ds, v, es, rfl, hW, hrn, hel, hsm, k⟩ := h
    refine ⟨_, pss_cons (ps_set (i := 2) sc__law_quiet_ways.nd rfl (Or.inl rfl) (pe_int))
      (pss_cons (ps_for PassesOwn.never rfl (pi_range1 rfl T.n_range (pa_cons (pe_callB call_len_seq (by rfl) T.n_len (by decide +kernel) (pa_cons (pv 0) pa_nil)) pa_nil)) (pg_name (i := 3) sc__law_quiet_ways.nd rfl (Or.inl rfl)) (pss_one (ps_set (i := 2) sc__law_quiet_ways.nd rfl (Or.inl rfl) (pe_op op_add (pv 2) (pe_callTy call_int1 (by rfl) T.n_int (by decide +kernel) (pa_cons (pe_and (pe_cmpR op_notN (pe_ix ix_tup (pe_ix ix_list (pv 0) (pv 3) (fun _ _ => rfl)) (pe_int) (fun _ _ => rfl)) (pe_non) (nomark _)) (pe_one (pe_cmpR op_isN (pe_ix ix_tup (pv 1) (pv 3) (fun _ _ => rfl)) (pe_non) (nomark _)))) pa_nil))))))
      (pss_one (ps_ret (pv 2)))), ?_⟩
    obtain ⟨qs, hD, rq⟩ := id hW
    obtain ⟨tr, us, rfl, htr, rr⟩ := id hrn
    refine ⟨_, rfl, D, qs, rfl, .inl (SqL.of hD), _, rfl, by omega, by rw [rq.len]; omega, ?_⟩
    rw [rq.len]
    refine for_range (n := ds.length) (fun i σ' H' => H' = H ∧ ∃ o3, σ' = [some (.ref D), some (.ref tr), some (.int ((qp ds es i : Nat) : Int)), o3]) ⟨rfl, _, rfl⟩ (fun i σ' H1 hi pv => ?_) (fun σ' H1 pv => ?_)
    · obtain ⟨rfl, o3, rfl⟩ := pv
      rw [Int.zero_add]
      obtain ⟨d, hd⟩ : ∃ d, ds[i]? = some d := ⟨_, List.getElem?_eq_getElem hi⟩
      obtain ⟨en, he⟩ : ∃ en, es[i]? = some en := ⟨_, List.getElem?_eq_getElem (by omega)⟩
      obtain ⟨x, hx, tq, rfl, ht⟩ := rq.got hd
      obtain ⟨y, hy, hE⟩ := rr.got he
      have hsh : shut ds es i = (d.1.isSome && en.isNone) := by
        unfold shut
        rw [(at_d hd).1, ent_at he]
      have hq : qp ds es (i + 1) = qp ds es i + (if shut ds es i = true then 1 else 0) := by
        unfold qp
        rw [List.range_succ, List.filter_append, List.length_append, List.filter_cons]
        cases shut ds es i <;> rfl
      refine ⟨_, rfl, _, rfl, _, rfl, D, qs, (i : Int), .ref tq, rfl, rfl, SqL.of hD, atI_nat hx, tq, _, 0, bV d.1, rfl, rfl, SqT.of ht, rfl, rfl, ?_⟩
      rw [hq, hsh, Int.natCast_add]
      cases hb : d.1 with
      | none => exact ⟨_, rfl, iteF (.inr ⟨_, rfl, _, _, rfl, rfl, rfl, _, rfl⟩)⟩
      | some n =>
        refine ⟨_, rfl, iteT ⟨_, rfl, _, rfl, tr, us, (i : Int), y, rfl, rfl, SqT.of htr, atI_nat hy, rfl, .inr ⟨_, rfl, _, _, rfl, rfl, ?_⟩⟩⟩
        rw [en_non hE]
        cases en with
        | none => exact ⟨rfl, _, rfl⟩
        | some q => exact ⟨rfl, _, rfl⟩
    · obtain ⟨rfl, o3, rfl⟩ := pv
      exact ⟨_, rfl, k⟩
theorem pair_row {H : Hp} {acc : List V} {l m a : Int} {n : Nat} (h : Rel2 (EnAt H) acc ((List.range n).map fun b : Nat => some (a, l + (b : Int)))) (t : Addr) (ht : H t = some (.tup [.int a, .int (l + (n : Int))])) : Rel2 (EnAt H) (acc ++ [.ref t]) ((List.range (n + 1)).map fun b : Nat => some (a, l + (b : Int))) := by
  rw [List.range_succ, List.map_append]
  exact Rel2.cat h (Rel2.one ⟨t, rfl, ht⟩)
def prs (d : Wd) : List En := if d.1.isSome = true then pairs d.2.1 d.2.2 (d.2.2 + 1 - d.2.1).toNat else []
def spAll : Sp := fun vs H Q _ => ∃ (D : Addr) (ds : List Wd) (z : Int), vs = [.ref D, .int z] ∧ Wl H D ds ∧ Gds ds ∧ ds.length ≤ 3 ∧ ∀ L ys H', Ext H H' → H L = none → H' L = some (.lst ys) → Rel2 (RnAt H') ys (lim z ds) → Q (.ref L) H'
theorem ok_allRuns {f : Addr} {fd : FuncData} (F : Fun K "_law_all_runs" "_law_all_runs" s__law_all_runs f fd) (T : Txt K mg A) (O__law_quiet_ways : Own P w K mg base CX0 "_law_quiet_ways" 1 pm__law_quiet_ways spQuiet) : FnOk P w K mg base CX0 2 f fd pm__law_all_runs spAll := by
  refine F.ok sc__law_all_runs (fun vs H Q E h => ?_) (fun cdv A' outer s H vs Q E hr h => ?_)
  · obtain ⟨_, _, _, rfl, _⟩ := h
    rfl
  · obtain ⟨D, ds, z, rfl, hW, hg, h3, k⟩ := h
    refine ⟨_, pss_cons (ps_set (i := 2) sc__law_all_runs.nd rfl (Or.inl rfl) (pe_lst (pa_cons (pe_tup (pa_nil)) pa_nil)))
      (pss_cons (ps_for PassesOwn.never rfl (pi_list (pv 0)) (pg_name (i := 3) sc__law_all_runs.nd rfl (Or.inl rfl)) (pss_cons (ps_set (i := 4) sc__law_all_runs.nd rfl (Or.inl rfl) (pe_lst (pa_nil)))
      (Evl.pss_cut (ps_if (pt_cmpR op_notN (pe_ix ix_tup (pv 3) (pe_int) (fun _ _ => rfl)) (pe_non) (nomark _)) (pss_one (ps_for PassesOwn.never rfl (pi_range2 rfl T.n_range (pa_cons (pe_ix ix_tup (pv 3) (pe_int) (fun _ _ => rfl)) (pa_cons (pe_op op_add (pe_ix ix_tup (pv 3) (pe_int) (fun _ _ => rfl)) (pe_int)) pa_nil))) (pg_name (i := 5) sc__law_all_runs.nd rfl (Or.inr rfl)) (pss_one (ps_set (i := 4) sc__law_all_runs.nd rfl (Or.inl rfl) (pe_op op_cat (pv 4) (pe_lc (own := [("_law_two", 8)]) (g := gName 8) (by rfl) sc__law_all_runs.nd (pi_range2 rfl T.n_range (pa_cons (pe_ix ix_tup (pv 3) (pe_int) (fun _ _ => rfl)) (pa_cons (pe_op op_add (pe_ix ix_tup (pv 3) (pe_int) (fun _ _ => rfl)) (pe_int)) pa_nil))) (blkOk_by (own := [("_law_two", 8)]) (N := nm__law_all_runs) (sc := defScope s__law_all_runs) (by decide +kernel)) (fun _ _ _ _ _ => pg_name (i := 8) sc__law_all_runs.nd rfl (Or.inl rfl)) (fun s1 H1 C1 cl fp => pts_nil) (fun s1 H1 C1 cl fp => pe_tup (pa_cons (pv 5) (pa_cons (pv 8) pa_nil))))))))) (pss_nil))
      (pss_cons (ps_set (i := 6) sc__law_all_runs.nd rfl (Or.inl rfl) (pe_lst (pa_nil)))
      (pss_cons (ps_for PassesOwn.never rfl (pi_list (pv 2)) (pg_name (i := 7) sc__law_all_runs.nd rfl (Or.inr rfl)) (pss_one (ps_set (i := 6) sc__law_all_runs.nd rfl (Or.inl rfl) (pe_op op_cat (pv 6) (pe_lc (own := [("_law_pair", 9)]) (g := gName 9) (by rfl) sc__law_all_runs.nd (pi_list (pe_op op_cat (pe_lst (pa_cons (pe_non) pa_nil)) (pv 4))) (blkOk_by (own := [("_law_pair", 9)]) (N := nm__law_all_runs) (sc := defScope s__law_all_runs) (by decide +kernel)) (fun _ _ _ _ _ => pg_name (i := 9) sc__law_all_runs.nd rfl (Or.inl rfl)) (fun s1 H1 C1 cl fp => pts_nil) (fun s1 H1 C1 cl fp => pe_op op_catE (pv 7) (pe_tup (pa_cons (pv 9) pa_nil))))))))
      (pss_one (ps_set (i := 2) sc__law_all_runs.nd rfl (Or.inl rfl) (pv 6))))))))
      (pss_one (ps_ret (pe_lc (own := [("_law_row", 7)]) (g := gName 7) (by rfl) sc__law_all_runs.nd (pi_list (pv 2)) (blkOk_by (own := [("_law_row", 7)]) (N := nm__law_all_runs) (sc := defScope s__law_all_runs) (by decide +kernel)) (fun _ _ _ _ _ => pg_name (i := 7) sc__law_all_runs.nd rfl (Or.inl rfl)) (fun s1 H1 C1 cl fp => pts_one (pt_cmpR op_le (pe_own O__law_quiet_ways (hr.mono (by decide)) pass0 (pa_cons (pv 0) (pa_cons (pv 7) pa_nil))) (pv 1) (nomark _))) (fun s1 H1 C1 cl fp => pv 7))))), ?_⟩
    obtain ⟨qs, hD, rq⟩ := id hW
    refine ⟨by show 0 ≤ sizeLine; decide, fun t0 ht0 => ⟨by show 1 ≤ sizeLine; decide, fun L0 hL0 => ?_⟩⟩
    have e0 := (Ext.upd (o := .tup []) ht0).trans (Ext.upd (o := .lst [.ref t0]) hL0)
    have r0 : Rel2 (RnAt (upd (upd H t0 (.tup [])) L0 (.lst [.ref t0]))) [.ref t0] (rns ds 0) := ⟨⟨t0, [], rfl, Ext.upd hL0 _ _ upd_same, trivial⟩, trivial⟩
    have hl0 : upd (upd H t0 (.tup [])) L0 (.lst [.ref t0]) L0 = some (.lst [.ref t0]) := upd_same
    generalize upd (upd H t0 (.tup [])) L0 (.lst [.ref t0]) = H0 at e0 r0 hl0 ⊢
    refine ⟨_, rfl, D, rfl, ⟨_, SqL.of (e0 _ _ hD)⟩, ?_⟩
    refine for_list (xs := qs) (fun i σ' H' => ∃ L ys o3 o4 o5 o6 o7, σ' = [some (.ref D), some (.int z), some (.ref L), o3, o4, o5, o6, o7, Option.none, Option.none] ∧ Ext H H' ∧ H' L = some (.lst ys) ∧ Rel2 (RnAt H') ys (rns ds i)) ⟨L0, _, _, _, _, _, _, rfl, e0, hl0, r0⟩ (fun i σ' H' _ pv => by obtain ⟨_, _, _, _, _, _, _, _, e, _⟩ := pv; exact SqL.of (e _ _ hD)) (fun i x σ' H1 hx pv => ?_) (fun σ' H1 pv => ?_)
    · obtain ⟨L, ys, o3, o4, o5, o6, o7, rfl, e1, hL, r1⟩ := pv
      obtain ⟨d, hd, q, rfl, hq⟩ := rq.get hx
      have hi : i < ds.length := (List.getElem?_eq_some_iff.mp hd).1
      obtain ⟨g1, g2, g3, g4⟩ := hg i d hd
      refine ⟨by show 0 ≤ sizeLine; decide, fun P0 hP0 => ?_⟩
      have eP := Ext.upd (o := .lst []) hP0
      have hP1 : upd H1 P0 (.lst []) P0 = some (.lst []) := upd_same
      generalize upd H1 P0 (.lst []) = H2 at eP hP1 ⊢
      have hq2 := eP _ _ (e1 _ _ hq)
      refine ⟨fun σ' H' => ∃ Pp ps o5', σ' = [some (.ref D), some (.int z), some (.ref L), some (.ref q), some (.ref Pp), o5', o6, o7, Option.none, Option.none] ∧ Ext H1 H' ∧ H' Pp = some (.lst ps) ∧ Rel2 (EnAt H') ps (prs d), ?_, ?_⟩
      · refine ⟨_, rfl, q, _, 0, bV d.1, rfl, rfl, SqT.of hq2, rfl, rfl, _, rfl, ?_⟩
        obtain ⟨b, l, m⟩ := d
        have g2' : 1 ≤ l := g2
        have g3' : l ≤ m := g3
        have g4' : m ≤ 10 := g4
        cases b with
        | none => exact iteF ⟨P0, [], _, rfl, eP, hP1, trivial⟩
        | some n =>
          refine iteT ?_
          refine ⟨_, rfl, q, _, 1, .int l, rfl, rfl, SqT.of hq2, rfl, _, rfl, q, _, 2, .int m, rfl, rfl, SqT.of hq2, rfl, _, _, rfl, rfl, l, m + 1, rfl, ⟨by omega, by omega, by omega, by omega⟩, ?_⟩
          refine for_range (n := (m + 1 - l).toNat) (fun i σ' H' => ∃ Pp ps o5', σ' = [some (.ref D), some (.int z), some (.ref L), some (.ref q), some (.ref Pp), o5', o6, o7, Option.none, Option.none] ∧ Ext H1 H' ∧ H' Pp = some (.lst ps) ∧ Rel2 (EnAt H') ps (pairs l m i)) ⟨P0, [], _, rfl, eP, hP1, trivial⟩ (fun i σ' H3 hi pv => ?_) (fun σ' H3 pv => ?_)
          · obtain ⟨Pp, ps, o5', rfl, e3, hPp, rp⟩ := pv
            have hq3 := e3 _ _ (e1 _ _ hq)
            refine ⟨_, rfl, _, rfl, q, _, 1, .int l, rfl, rfl, SqT.of hq3, rfl, _, rfl, q, _, 2, .int m, rfl, rfl, SqT.of hq3, rfl, _, _, rfl, rfl, l, m + 1, rfl, ⟨by omega, by omega, by omega, by omega⟩, fun C hC => ?_⟩
            refine lc_range (n := (m + 1 - l).toNat) (fun j H' => Ext H3 H' ∧ ∃ acc, H' C = some (.lst acc) ∧ Rel2 (EnAt H') acc ((List.range j).map fun b : Nat => some (l + (i : Int), l + (b : Int)))) ⟨Ext.upd hC, [], upd_same, trivial⟩ (fun j H4 hj pv => ?_) (fun H4 pv => ?_)
            · obtain ⟨e4, acc, ha, ra⟩ := pv
              refine ⟨rfl, _, rfl, _, rfl, by show 2 ≤ sizeLine; decide, fun t ht => ?_⟩
              have e5 := Ext.upd (o := .tup [.int (l + (i : Int)), .int (l + (j : Int))]) ht
              have ha3 := e5 _ _ ha
              refine ⟨acc, ha3, small_sz ?_, ext_mut (e4.trans e5) hC, acc ++ [.ref t], upd_same, ?_⟩
              · rw [ra.len, List.length_map, List.length_range]
                omega
              · rw [List.range_succ, List.map_append]
                have kt := kt_set (ys := acc ++ [.ref t]) ha3
                exact Rel2.cat (ra.to (EnAt.k ((Ext.kt e5).trans kt))) (Rel2.one ⟨t, rfl, kt _ _ upd_same⟩)
            · obtain ⟨e4, acc, ha, ra⟩ := pv
              refine ⟨Pp, C, ps, acc, rfl, rfl, e4 _ _ hPp, ha, ?_, fun L2 hL2 => ?_⟩
              · rw [rp.len, ra.len, pairs_len, List.length_map, List.length_range]
                have h10 : (m + 1 - l).toNat ≤ 10 := by omega
                have := Nat.mul_le_mul (show i ≤ 10 by omega) h10
                exact Nat.le_trans (show _ ≤ 1000 by omega) (by decide)
              · have e5 := Ext.upd (o := .lst (ps ++ acc)) hL2
                refine ⟨L2, ps ++ acc, _, rfl, (e3.trans e4).trans e5, upd_same, ?_⟩
                rw [pairs_succ]
                exact Rel2.cat (rp.to (EnAt.k ((Ext.kt e4).trans (Ext.kt e5)))) (ra.to (EnAt.k (Ext.kt e5)))
          · obtain ⟨Pp, ps, o5', rfl, e3, hPp, rp⟩ := pv
            exact ⟨Pp, ps, _, rfl, e3, hPp, rp⟩
      · rintro σ' H3 ⟨Pp, ps, o5', rfl, e3, hPp, rp⟩
        have r3 := r1.to (RnAt.k (Ext.kt e3))
        have hL3 := e3 _ _ hL
        have e03 := e1.trans e3
        clear hP1 eP hq2 r1 hL e1
        refine ⟨by show 0 ≤ sizeLine; decide, fun M0 hM0 => ?_⟩
        have eM := Ext.upd (o := .lst []) hM0
        refine ⟨_, rfl, L, rfl, ⟨_, SqL.of (eM _ _ hL3)⟩, ?_⟩
        refine for_list (xs := ys) (fun j σ' H' => ∃ M zs o7', σ' = [some (.ref D), some (.int z), some (.ref L), some (.ref q), some (.ref Pp), o5', some (.ref M), o7', Option.none, Option.none] ∧ Ext H3 H' ∧ H' M = some (.lst zs) ∧ Rel2 (RnAt H') zs (more ((rns ds i).take j) d)) ⟨M0, [], _, rfl, eM, upd_same, trivial⟩ (fun j σ' H' _ pv => by obtain ⟨_, _, _, _, e, _⟩ := pv; exact SqL.of (e _ _ hL3)) (fun j x σ' H4 hx pv => ?_) (fun σ' H4 pv => ?_)
        · obtain ⟨M, zs, o7', rfl, e4, hM, r4⟩ := pv
          obtain ⟨es, hes, hrn⟩ := r3.get hx
          have hP4 := e4 _ _ hPp
          have rp4 := rp.to (EnAt.k (Ext.kt e4))
          refine ⟨_, rfl, by show 1 ≤ sizeLine; decide, fun N0 hN0 => ?_⟩
          have eN := Ext.upd (o := .lst [.non]) hN0
          refine ⟨_, rfl, N0, Pp, _, ps, rfl, rfl, upd_same, eN _ _ hP4, ?_, fun N1 hN1 => ?_⟩
          · rw [rp4.len]
            have h1 : (ents d).length ≤ 101 := ents_len (by omega)
            have h2 : (ents d).length = (prs d).length + 1 := rfl
            exact Nat.le_trans (show 1 + (prs d).length ≤ 1000 by omega) (by decide)
          · have e5 := eN.trans (Ext.upd (o := .lst ([V.non] ++ ps)) hN1)
            have ru : Rel2 (EnAt (upd (upd H4 N0 (.lst [.non])) N1 (.lst ([V.non] ++ ps)))) ([V.non] ++ ps) (ents d) := ⟨rfl, rp4.to (EnAt.k (Ext.kt e5))⟩
            have hl1 : upd (upd H4 N0 (.lst [.non])) N1 (.lst ([V.non] ++ ps)) N1 = some (.lst ([V.non] ++ ps)) := upd_same
            generalize upd (upd H4 N0 (.lst [.non])) N1 (.lst ([V.non] ++ ps)) = H5 at e5 ru hl1 ⊢
            generalize [V.non] ++ ps = us at ru hl1 ⊢
            refine ⟨N1, rfl, ⟨_, SqL.of hl1⟩, fun C hC => ?_⟩
            obtain ⟨tr, vs, rfl, htr, rr⟩ := RnAt.k (Ext.kt (e4.trans e5)) _ _ hrn
            have lvs : vs.length = i := by rw [rr.len]; exact len_in (Nat.le_of_lt hi) (List.mem_of_getElem? hes)
            refine lc_list (xs := us) (fun m H' => Ext H5 H' ∧ ∃ acc, H' C = some (.lst acc) ∧ Rel2 (RnAt H') acc (((ents d).take m).map fun e => es ++ [e])) ⟨Ext.upd hC, [], upd_same, trivial⟩ (fun m H' _ pv => SqL.of (pv.1 _ _ hl1)) (fun m x H6 hx pv => ?_) (fun H6 pv => ?_)
            · obtain ⟨e6, acc, ha, ra⟩ := pv
              obtain ⟨en, hen, hE⟩ := ru.get hx
              refine ⟨rfl, _, rfl, _, rfl, by show 1 ≤ sizeLine; decide, fun t1 ht1 => ?_⟩
              have e7 := Ext.upd (o := .tup [x]) ht1
              refine ⟨tr, t1, vs, [x], rfl, rfl, e7 _ _ (e6 _ _ htr), upd_same, Nat.le_trans (show vs.length + 1 ≤ 1001 by omega) (by decide), fun p H8 e8 hp => ?_⟩
              have e68 := (e6.trans e7).trans e8
              have ha8 := e8 _ _ (e7 _ _ ha)
              have kt := kt_set (ys := acc ++ [.ref p]) ha8
              refine ⟨acc, ha8, small_sz ?_, ext_mut e68 hC, acc ++ [.ref p], upd_same, ?_⟩
              · rw [ra.len, List.length_map, List.length_take]
                have := ents_len (d := d) (by omega)
                omega
              · rw [take_snoc hen, List.map_append]
                refine Rel2.cat (ra.to (RnAt.k ((Ext.kt (e7.trans e8)).trans kt))) (Rel2.one ⟨p, vs ++ [x], rfl, kt _ _ hp, Rel2.cat (rr.to (EnAt.k ((Ext.kt e68).trans kt))) (Rel2.one (EnAt.k ((Ext.kt e68).trans kt) _ _ hE))⟩)
            · obtain ⟨e6, acc, ha, ra⟩ := pv
              rw [List.take_of_length_le (by rw [ru.len]; exact Nat.le_refl _)] at ra
              have e56 := e5.trans e6
              refine ⟨M, C, zs, acc, rfl, rfl, e56 _ _ hM, ha, ?_, fun M2 hM2 => ?_⟩
              · rw [r4.len, ra.len, more_len, List.length_map, List.length_take]
                have h1 : (rns ds i).length ≤ 101 ^ 2 := Nat.le_trans (rns_len hg (by omega)) (Nat.pow_le_pow_right (by decide) (by omega))
                have h2 := ents_len (d := d) (by omega)
                exact Nat.le_trans (Nat.add_le_add (Nat.mul_le_mul (Nat.le_trans (Nat.min_le_right j (rns ds i).length) h1) h2) h2) (by decide)
              · have e7 := Ext.upd (o := .lst (zs ++ acc)) hM2
                refine ⟨M2, zs ++ acc, _, rfl, (e4.trans e56).trans e7, upd_same, ?_⟩
                rw [take_snoc hes, more_snoc]
                exact Rel2.cat (r4.to (RnAt.k (Ext.kt (e56.trans e7)))) (ra.to (RnAt.k (Ext.kt e7)))
        · obtain ⟨M, zs, o7', rfl, e4, hM, r4⟩ := pv
          rw [List.take_of_length_le (by rw [r3.len]; exact Nat.le_refl _), ← rns_succ hd] at r4
          exact ⟨_, rfl, M, zs, _, _, _, _, _, rfl, e03.trans e4, hM, r4⟩
    · obtain ⟨L, ys, o3, o4, o5, o6, o7, rfl, e1, hL, r1⟩ := pv
      rw [rq.len] at r1
      refine ⟨_, rfl, L, rfl, ⟨_, SqL.of hL⟩, fun C hC => ?_⟩
      refine lc_list (xs := ys) (fun m H' => Ext H1 H' ∧ ∃ acc, H' C = some (.lst acc) ∧ Rel2 (RnAt H') acc (((rns ds ds.length).take m).filter fun es => decide ((qn ds es : Int) ≤ z))) ⟨Ext.upd hC, [], upd_same, trivial⟩ (fun m H' _ pv => SqL.of (pv.1 _ _ hL)) (fun m x H2 hx pv => ?_) (fun H2 pv => ?_)
      · obtain ⟨e2, acc, ha, ra⟩ := pv
        obtain ⟨es, hes, hrn⟩ := r1.get hx
        have e12 := e1.trans e2
        refine ⟨rfl, _, rfl, _, rfl, D, ds, x, es, rfl, hW.ext e12, RnAt.k (Ext.kt e2) _ _ hrn, len_in (Nat.le_refl _) (List.mem_of_getElem? hes), by omega, _, rfl, _, _, rfl, rfl, _, rfl, ?_⟩
        rw [take_snoc hes, List.filter_append, List.filter_cons]
        cases hb : decide ((qn ds es : Int) ≤ z) with
        | true =>
          have kt := kt_set (ys := acc ++ [x]) ha
          refine iteT ⟨_, rfl, acc, ha, big_sz ?_, ext_mut e2 hC, acc ++ [x], upd_same, ?_⟩
          · rw [ra.len]
            refine Nat.le_trans (List.length_filter_le _ _) ?_
            rw [List.length_take]
            exact Nat.le_trans (Nat.min_le_right _ _) (rns_big hg h3)
          · rw [if_pos rfl, List.filter_nil]
            exact Rel2.cat (ra.to (RnAt.k kt)) (Rel2.one (RnAt.k ((Ext.kt e2).trans kt) _ _ hrn))
        | false =>
          refine iteF ⟨e2, acc, ha, ?_⟩
          rw [if_neg (by decide), List.filter_nil, List.append_nil]
          exact ra
      · obtain ⟨e2, acc, ha, ra⟩ := pv
        rw [List.take_of_length_le (by rw [r1.len]; exact Nat.le_refl _)] at ra
        exact k C acc H2 (e1.trans e2) (ext_none e1 hC) ha ra
end
end K18

set_option Elab.async false
set_option maxRecDepth 100000
set_option maxHeartbeats 4000000
namespace K18
open PySem PySem.Spec PyProof.Rows L2
theorem inV_nI (k : Nat) : ∀ ns : List Nat, inV (nI k) (ns.map nI) = decide (k ∈ ns) := fun ns => by
  have : ns.map nI = (ns.map fun (i : Nat) => (i : Int)).map V.int := by
    rw [List.map_map]
    rfl
  rw [this]
  have z := inV_ints (k : Int) (ns.map fun (i : Nat) => (i : Int))
  rw [show inV (nI k) ((ns.map fun (i : Nat) => (i : Int)).map V.int) = _ from z]
  refine decide_eq_decide.mpr ⟨fun h => ?_, fun h => List.mem_map.mpr ⟨k, h, rfl⟩⟩
  obtain ⟨i, hi, e⟩ := List.mem_map.mp h
  have : i = k := by omega
  rw [← this]
  exact hi
theorem flat_nI (ns : List Nat) : (ns.map nI).all flatV = true := by
  rw [List.all_eq_true]
  intro v hv
  obtain ⟨n, _, rfl⟩ := List.mem_map.mp hv
  rfl
theorem empty_dec {α : Type} [DecidableEq α] {l : List V} {m : List α} (h : l.length = m.length) : l.isEmpty = decide (m = []) := by
  cases l with
  | nil =>
    have : m = [] := List.length_eq_zero_iff.mp h.symm
    rw [this]
    rfl
  | cons _ _ =>
    have : m ≠ [] := fun z => by rw [z] at h; cases h
    rw [decide_eq_false this]
    rfl
theorem gds_pos {ds : List Wd} (g : Gds ds) : Pos ds := fun j hj => by
  obtain ⟨d, hd⟩ : ∃ d, ds[j]? = some d := ⟨_, List.getElem?_eq_getElem (has_lt hj)⟩
  obtain ⟨a1, a2, a3, a4⟩ := at_d hd
  obtain ⟨g1, g2, g3, g4⟩ := g j d hd
  rw [a1] at hj
  obtain ⟨n, hn⟩ := Option.isSome_iff_exists.mp hj
  have := g1 n hn
  rw [a2, a3, hn]
  exact ⟨this.1, this.2, g2⟩
def PrAt (H : Hp) (v : V) (q : Int × Nat) : Prop := ∃ t, v = .ref t ∧ H t = some (.tup [.int q.1, nI q.2])
theorem PrAt.k {H H' : Hp} (e : KT H H') (v : V) (q : Int × Nat) (h : PrAt H v q) : PrAt H' v q := by
  obtain ⟨t, h1, h2⟩ := h
  exact ⟨t, h1, e _ _ h2⟩
theorem lex2 (p q : Int × Nat) : HT.lexLt [p.1, (p.2 : Int)] [q.1, (q.2 : Int)] = lt2 p q := by
  unfold lt2
  simp only [HT.lexLt]
  by_cases h : p.1 = q.1
  · rw [if_pos h]
    by_cases h2 : (p.2 : Int) = (q.2 : Int)
    · rw [if_pos h2, decide_eq_false (by omega)]
    · rw [if_neg h2]
      exact decide_eq_decide.mpr ⟨fun z => by omega, fun z => by omega⟩
  · rw [if_neg h]
    exact decide_eq_decide.mpr ⟨fun z => by omega, fun z => by omega⟩
def prD (q : Int × Nat) : PyData := .tuple [.int q.1, .int (q.2 : Int)]
theorem pr_shp (q : Int × Nat) : SeqAt.shaped (prD q) = true := rfl
theorem pr_lay : ∀ qs : List (Int × Nat), PyData.canLayAll0 (qs.map prD) = true ∧ PyData.depthAll (qs.map prD) ≤ 1
  | [] => ⟨rfl, by decide⟩
  | q :: qs => by
    obtain ⟨h1, h2⟩ := pr_lay qs
    refine ⟨?_, ?_⟩
    · show ((true && (true && true)) && PyData.canLayAll0 (qs.map prD)) = true
      rw [h1]
      rfl
    · show max (PyData.depth (prD q)) (PyData.depthAll (qs.map prD)) ≤ 1
      exact Nat.max_le.mpr ⟨by show max 0 (max 0 0) + 1 ≤ 1; decide, h2⟩
theorem prs_shp (qs : List (Int × Nat)) : SeqAt.shaped (.list (qs.map prD)) = true := by
  obtain ⟨h1, h2⟩ := pr_lay qs
  show (PyData.canLayAll0 (qs.map prD) && decide (PyData.depthAll (qs.map prD) + 1 ≤ 64)) = true
  rw [h1, decide_eq_true (by omega)]
  rfl
theorem pr_eqv (p q : Int × Nat) : PyData.eqv (prD p) (prD q) = decide (p = q) := by
  show ((p.1 == q.1) && (((p.2 : Int) == (q.2 : Int)) && true)) = _
  rw [Bool.eq_iff_iff]
  obtain ⟨a, b⟩ := p
  obtain ⟨c, d⟩ := q
  simp
  omega
theorem pr_any {q : Int × Nat} {qs : List (Int × Nat)} : ((qs.map prD).any fun z => PyData.eqv z (prD q)) = decide (q ∈ qs) := by
  rw [Bool.eq_iff_iff, List.any_eq_true, decide_eq_true_eq]
  constructor
  · rintro ⟨x, hx, he⟩
    obtain ⟨p, hp, rfl⟩ := List.mem_map.mp hx
    rw [pr_eqv, decide_eq_true_eq] at he
    rw [← he]
    exact hp
  · intro h
    exact ⟨prD q, List.mem_map.mpr ⟨q, h, rfl⟩, by rw [pr_eqv]; exact decide_eq_true rfl⟩
section
variable {P : Program} {w : World} {K : PySem.W.Frag} {mg : Str → Option Value} {base : Heap} {A : Ad}
theorem pr_dp {H : Hp} {v : V} {q : Int × Nat} (h : PrAt H v q) : Dp K H v (prD q) := by
  obtain ⟨t, rfl, ht⟩ := h
  exact .tup (SqT.of ht) (.cons (.int _) (.cons (.int _) .nil))
theorem prs_dp {H : Hp} : ∀ {xs : List V} {qs : List (Int × Nat)}, Rel2 (PrAt H) xs qs → DpAll K H xs (qs.map prD)
  | [], [], _ => .nil
  | [], _ :: _, h => nomatch h
  | _ :: _, [], h => nomatch h
  | _ :: _, _ :: _, ⟨h1, h2⟩ => .cons (pr_dp h1) (prs_dp h2)
theorem prs_nil {qs : List (Int × Nat)} : PyData.eqv (.list (qs.map prD)) (.list []) = decide (qs = []) := by
  cases qs with
  | nil => rfl
  | cons q l => rfl
def spOut : Sp := fun vs H Q _ => ∃ (D : Addr) (ds : List Wd) (v : V) (es : List En), vs = [.ref D, v] ∧ Wl H D ds ∧ RnAt H v es ∧ Run ds es ∧ Gds ds ∧ ds.length ≤ 3 ∧ ∀ t u H', Ext H H' → H' t = some (.tup (rV (out ds es) ++ [.ref u])) → H' u = some (.tup ((sentL ds es).map nI)) → Q (.ref t) H'
theorem ok_outcome {f : Addr} {fd : FuncData} (F : Fun K "_law_outcome" "_law_outcome" s__law_outcome f fd) (T : Txt K mg A) : FnOk P w K mg base CX0 1 f fd pm__law_outcome spOut := by
  refine F.ok sc__law_outcome (fun vs H Q E h => ?_) (fun cdv A' outer s H vs Q E hr h => ?_)
  · obtain ⟨_, _, _, _, rfl, _⟩ := h
    rfl
  · obtain ⟨D, ds, v, es, rfl, hW, hrn, hrun, hg, h3, k⟩ := h
    refine ⟨_, pss_cons (ps_set (i := 2) sc__law_outcome.nd rfl (Or.inl rfl) (pe_lst (pa_nil)))
      (pss_cons (ps_set (i := 3) sc__law_outcome.nd rfl (Or.inr rfl) (pe_lst (pa_nil)))
      (pss_cons (ps_for PassesOwn.never rfl (pi_range1 rfl T.n_range (pa_cons (pe_int) pa_nil)) (pg_name (i := 4) sc__law_outcome.nd rfl (Or.inr rfl)) (pss_one (ps_for PassesOwn.never rfl (pi_range1 rfl T.n_range (pa_cons (pe_callB call_len_seq (by rfl) T.n_len (by decide +kernel) (pa_cons (pv 0) pa_nil)) pa_nil)) (pg_name (i := 5) sc__law_outcome.nd rfl (Or.inl rfl)) (pss_one (ps_if (PW.pt (pw_and (pt_cmpR op_eq (pe_ix ix_tup (pe_ix ix_list (pv 0) (pv 5) (fun _ _ => rfl)) (pe_int) (fun _ _ => rfl)) (pv 4) (nomark _)) (pw_and1 (pt_not (pt_val (pe_callB (cr_any rfl) (by rfl) T.n_any (by decide +kernel) (pa_cons (pe_lc (own := [("_law_at", 8), ("_law_other", 9)]) (g := gTup K 2 (gCons (gName 8) (gCons (gName 9) (gNil)))) (by rfl) sc__law_outcome.nd (pi_list (pv 2)) (blkOk_by (own := [("_law_at", 8), ("_law_other", 9)]) (N := nm__law_outcome) (sc := defScope s__law_outcome) (by decide +kernel)) (fun _ _ _ _ _ => pg_tup rfl (pgs_cons (pg_name (i := 8) sc__law_outcome.nd rfl (Or.inl rfl)) (pgs_cons (pg_name (i := 9) sc__law_outcome.nd rfl (Or.inl rfl)) (pgs_nil)))) (fun s1 H1 C1 cl fp => pts_nil) (fun s1 H1 C1 cl fp => pe_cmpR op_le (pv 8) (pv 4) (nomark _))) pa_nil))))))) (pss_cons (ps_expr (pe_bm PySem.F.plainAttrs_list PySem.F.slot_list_append PySem.F.type_list_append mt_append (pv 3) (pa_cons (pv 5) pa_nil)))
      (pss_one (ps_if (pt_cmpR op_notN (pe_ix ix_tup (pv 1) (pv 5) (fun _ _ => rfl)) (pe_non) (nomark _)) (pss_one (ps_expr (pe_bm PySem.F.plainAttrs_list PySem.F.slot_list_append PySem.F.type_list_append mt_append (pv 2) (pa_cons (pe_tup (pa_cons (pe_op op_add (pv 4) (pe_callB (cr_sumT rfl) (by rfl) T.n_sum (by decide +kernel) (pa_cons (pe_ix ix_tup (pv 1) (pv 5) (fun _ _ => rfl)) pa_nil))) (pa_cons (pv 5) pa_nil))) pa_nil)))) (pss_nil)))) (pss_nil))))))
      (pss_cons (ps_set (i := 3) sc__law_outcome.nd rfl (Or.inr rfl) (pe_callTy call_tuple_of (by rfl) T.n_tuple (by decide +kernel) (pa_cons (pe_lc (own := [("_law_way", 5)]) (g := gName 5) (by rfl) sc__law_outcome.nd (pi_range1 rfl T.n_range (pa_cons (pe_callB call_len_seq (by rfl) T.n_len (by decide +kernel) (pa_cons (pv 0) pa_nil)) pa_nil)) (blkOk_by (own := [("_law_way", 5)]) (N := nm__law_outcome) (sc := defScope s__law_outcome) (by decide +kernel)) (fun _ _ _ _ _ => pg_name (i := 5) sc__law_outcome.nd rfl (Or.inl rfl)) (fun s1 H1 C1 cl fp => pts_one (pt_cmpR (op_in_seqK (K := K) rfl) (pv 5) (pv 3) (by with_unfolding_all rfl))) (fun s1 H1 C1 cl fp => pv 5)) pa_nil)))
      (pss_cons (ps_if (pt_cmpR (op_eqD hr.units) (pv 2) (pe_lst (pa_nil)) (nomark _)) (pss_one (ps_ret (pe_tup (pa_cons (pe_non) (pa_cons (pe_non) (pa_cons (pv 3) pa_nil)))))) (pss_nil))
      (pss_cons (ps_set (i := 6) sc__law_outcome.nd rfl (Or.inl rfl) (pe_ix ix_list (pv 2) (pe_int) (fun _ _ => rfl)))
      (pss_cons (ps_for PassesOwn.never rfl (pi_list (pv 2)) (pg_name (i := 7) sc__law_outcome.nd rfl (Or.inl rfl)) (pss_one (ps_if (pt_cmpR (op_ltT hr.units0) (pv 7) (pv 6) (nomark _)) (pss_one (ps_set (i := 6) sc__law_outcome.nd rfl (Or.inl rfl) (pv 7))) (pss_nil))))
      (pss_one (ps_ret (pe_tup (pa_cons (pe_ix ix_tup (pv 6) (pe_int) (fun _ _ => rfl)) (pa_cons (pe_ix ix_tup (pv 6) (pe_int) (fun _ _ => rfl)) (pa_cons (pv 3) pa_nil)))))))))))), ?_⟩
    have hp := gds_pos hg
    obtain ⟨qs, hD, rq⟩ := id hW
    obtain ⟨tr, us, rfl, htr, rr⟩ := id hrn
    have hel : es.length = ds.length := hrun.1
    refine ⟨by show 0 ≤ sizeLine; decide, fun An hAn => ⟨by show 0 ≤ sizeLine; decide, fun Go hGo => ?_⟩⟩
    have eA := Ext.upd (o := .lst []) hAn
    have hGo0 : H Go = none := ext_none eA hGo
    have nAG : An ≠ Go := ne_of_none upd_same hGo
    have e0 : Ext H (upd (upd H An (.lst [])) Go (.lst [])) := eA.trans (Ext.upd hGo)
    have hA0 : upd (upd H An (.lst [])) Go (.lst []) An = some (.lst []) := by rw [upd_ne nAG]; exact upd_same
    have hG0 : upd (upd H An (.lst [])) Go (.lst []) Go = some (.lst []) := upd_same
    generalize upd (upd H An (.lst [])) Go (.lst []) = H0 at e0 hA0 hG0 ⊢
    refine ⟨5, rfl, by omega, by omega, ?_⟩
    refine for_range (n := 5) (fun i σ' H' => Ext H H' ∧ (∃ o4 o5, σ' = [some (.ref D), some (.ref tr), some (.ref An), some (.ref Go), o4, o5, none, none, none, none]) ∧ ∃ avs, H' An = some (.lst avs) ∧ Rel2 (PrAt H') avs (sim ds es i).1 ∧ H' Go = some (.lst ((sim ds es i).2.map nI))) ⟨e0, ⟨_, _, rfl⟩, [], hA0, trivial, hG0⟩ (fun i σ' H1 hi pv => ?_) (fun σ' H1 pv => ?_)
    · obtain ⟨e1, ⟨o4, o5, rfl⟩, avs, hA1, ra1, hG1⟩ := pv
      have hi5 : i < 5 := hi
      rw [Int.zero_add]
      refine ⟨_, rfl, D, qs, rfl, .inl (SqL.of (e1 _ _ hD)), _, rfl, by omega, by rw [rq.len]; omega, ?_⟩
      rw [rq.len]
      refine for_range (n := ds.length) (fun j σ' H' => Ext H H' ∧ (∃ o5, σ' = [some (.ref D), some (.ref tr), some (.ref An), some (.ref Go), some (.int (i : Int)), o5, none, none, none, none]) ∧ ∃ avs, H' An = some (.lst avs) ∧ Rel2 (PrAt H') avs (simW ds es (i : Int) (sim ds es i) j).1 ∧ H' Go = some (.lst ((simW ds es (i : Int) (sim ds es i) j).2.map nI))) ⟨e1, ⟨_, rfl⟩, avs, hA1, ra1, hG1⟩ (fun j σ' H2 hj pv => ?_) (fun σ' H2 pv => ?_)
      · obtain ⟨e2, ⟨o5', rfl⟩, avs2, hA2, ra2, hG2⟩ := pv
        rw [Int.zero_add, simW_succ]
        have hlen : (simW ds es (i : Int) (sim ds es i) j).2.length ≤ 15 := by
          have h1 := simW_len (ds := ds) (es := es) (m := (i : Int)) (s := sim ds es i) j
          have h2 := sim_len (ds := ds) (es := es) i
          have h3 := Nat.mul_le_mul (show i ≤ 4 by omega) h3
          omega
        have hlen1 := (inv_w hrun hp (inv_sim hrun hp i) j).len
        generalize simW ds es (i : Int) (sim ds es i) j = S at ra2 hG2 hlen hlen1 ⊢
        obtain ⟨d, hd⟩ : ∃ d, ds[j]? = some d := ⟨_, List.getElem?_eq_getElem hj⟩
        obtain ⟨en, he⟩ : ∃ en, es[j]? = some en := ⟨_, List.getElem?_eq_getElem (by omega)⟩
        obtain ⟨x, hx, tq, rfl, ht⟩ := rq.got hd
        obtain ⟨y, hy, hE⟩ := rr.got he
        refine ⟨_, rfl, _, rfl, D, qs, (j : Int), .ref tq, rfl, rfl, SqL.of (e2 _ _ hD), atI_nat hx, tq, _, 0, bV d.1, rfl, rfl, SqT.of (e2 _ _ ht), rfl, _, rfl, bV_sc d.1 (some (i : Int)), _, rfl, ?_⟩
        have hbw : (has ds j && decide (bg ds j = (i : Int))) = decide (d.1 = some (i : Int)) := by
          obtain ⟨a1, a2, _⟩ := at_d hd
          rw [a1, a2]
          cases d.1 with
          | none => rfl
          | some n =>
            show (true && decide (n = (i : Int))) = _
            rw [Bool.true_and]
            exact decide_eq_decide.mpr ⟨fun z => by rw [z], fun z => by injection z⟩
        rw [show decide (bV d.1 = V.int (i : Int)) = decide (d.1 = some (i : Int)) from bV_eq d.1 (some (i : Int))]
        have stay : ∀ H3, Ext H2 H3 → simStep ds es (i : Int) S j = S → Ext H H3 ∧ (∃ o5, [some (.ref D), some (.ref tr), some (.ref An), some (.ref Go), some (.int (i : Int)), some (.int (j : Int)), none, none, none, none] = [some (.ref D), some (.ref tr), some (.ref An), some (.ref Go), some (.int (i : Int)), o5, none, none, none, (none : Option V)]) ∧ ∃ avs, H3 An = some (.lst avs) ∧ Rel2 (PrAt H3) avs (simStep ds es (i : Int) S j).1 ∧ H3 Go = some (.lst ((simStep ds es (i : Int) S j).2.map nI)) := fun H3 e3 hs => by
          rw [hs]
          exact ⟨e2.trans e3, ⟨_, rfl⟩, avs2, e3 _ _ hA2, ra2.to (PrAt.k (Ext.kt e3)), e3 _ _ hG2⟩
        by_cases hb : d.1 = some (i : Int)
        · rw [decide_eq_true hb] at hbw ⊢
          refine iteT ⟨_, rfl, An, rfl, ⟨_, SqL.of hA2⟩, fun C hC => ?_⟩
          refine lc_list (xs := avs2) (fun m H' => Ext H2 H' ∧ H' C = some (.lst (((S.1.take m).map fun p => decide (p.1 ≤ (i : Int))).map V.bl))) ⟨Ext.upd hC, upd_same⟩ (fun m H' _ pv => SqL.of (pv.1 _ _ hA2)) (fun m x H3 hx pv => ?_) (fun H3 pv => ?_)
          · obtain ⟨e3, ha⟩ := pv
            obtain ⟨p, hp, t, rfl, ht⟩ := ra2.get hx
            refine ⟨t, _, rfl, SqT.of (e3 _ _ ht), rfl, _, _, rfl, _, _, rfl, rfl, rfl, _, rfl, _, rfl, _, _, rfl, rfl, _, ha, small_sz ?_, ext_mut e3 hC, ?_⟩
            · rw [List.length_map, List.length_map, List.length_take]
              omega
            · rw [upd_same, take_snoc hp, List.map_append, List.map_append]
              rfl
          · obtain ⟨e3, ha⟩ := pv
            rw [List.take_of_length_le (by rw [ra2.len]; exact Nat.le_refl _)] at ha
            refine ⟨C, _, rfl, SqL.of ha, _, rfl, ?_⟩
            rw [show ((S.1.map fun p => decide (p.1 ≤ (i : Int))).any id) = S.1.any fun p => decide (p.1 ≤ (i : Int)) by rw [List.any_map]; rfl]
            cases hany : S.1.any fun p => decide (p.1 ≤ (i : Int)) with
            | true => exact iteF (stay H3 e3 (by unfold simStep; rw [hany]; exact if_neg fun z => nomatch z.2))
            | false =>
              have hst : simStep ds es (i : Int) S j = (match ent es j with | none => S.1 | some (a, b) => S.1 ++ [((i : Int) + (a + b), j)], S.2 ++ [j]) := by
                unfold simStep
                rw [hany, hbw]
                exact if_pos ⟨rfl, rfl⟩
              rw [hst, ent_at he]
              clear stay ha hst
              have hG3 := e3 _ _ hG2
              have hA3 := e3 _ _ hA2
              have ra3 := ra2.to (PrAt.k (Ext.kt e3))
              refine iteT ⟨_, rfl, .inl ⟨rfl, _, SqL.of hG3⟩, _, rfl, Go, _, _, rfl, rfl, hG3, small_sz (by rw [List.length_map]; omega), ?_⟩
              have e4 : Ext H (upd H3 Go (.lst (S.2.map nI ++ [V.int (j : Int)]))) := ext_mut (e2.trans e3) hGo0
              have hG4 : upd H3 Go (.lst (S.2.map nI ++ [V.int (j : Int)])) Go = some (.lst ((S.2 ++ [j]).map nI)) := by
                rw [upd_same, List.map_append]
                rfl
              have hA4 : upd H3 Go (.lst (S.2.map nI ++ [V.int (j : Int)])) An = some (.lst avs2) := by
                rw [upd_ne nAG]
                exact hA3
              have ra4 := ra3.to (PrAt.k (kt_set (ys := S.2.map nI ++ [V.int (j : Int)]) hG3))
              generalize upd H3 Go (.lst (S.2.map nI ++ [V.int (j : Int)])) = H4 at e4 hG4 hA4 ra4 ⊢
              refine ⟨_, rfl, _, rfl, tr, us, (j : Int), y, rfl, rfl, SqT.of (e4 _ _ htr), atI_nat hy, rfl, _, rfl, ?_⟩
              rw [en_non hE]
              cases en with
              | none => exact iteF ⟨e4, ⟨_, rfl⟩, avs2, hA4, ra4, hG4⟩
              | some q =>
                obtain ⟨a, b⟩ := q
                obtain ⟨ty, rfl, hty⟩ := hE
                refine iteT ⟨_, rfl, .inl ⟨rfl, _, SqL.of hA4⟩, _, rfl, _, rfl, _, rfl, tr, us, (j : Int), .ref ty, rfl, rfl, SqT.of (e4 _ _ htr), atI_nat hy, ty, [a, b], rfl, SqT.of (e4 _ _ hty), _, _, rfl, rfl, _, rfl, by show 2 ≤ sizeLine; decide, fun t ht => ?_⟩
                have hs2 : [a, b].sum = a + b := by
                  show a + (b + 0) = a + b
                  omega
                rw [hs2]
                have e5 := Ext.upd (o := .tup [.int ((i : Int) + (a + b)), .int (j : Int)]) ht
                have ht5 : (upd H4 t (.tup [.int ((i : Int) + (a + b)), .int (j : Int)])) t = some (.tup [.int ((i : Int) + (a + b)), nI j]) := upd_same
                have nt : t ≠ An := (ne_of_none hA4 ht).symm
                have hA5 := e5 _ _ hA4
                have hG5 := e5 _ _ hG4
                have e05 := e4.trans e5
                have kt := kt_set (ys := avs2 ++ [.ref t]) hA5
                refine ⟨An, avs2, _, rfl, rfl, hA5, small_sz (by rw [ra4.len]; omega), ext_mut e05 hAn, ⟨_, rfl⟩, avs2 ++ [.ref t], upd_same, Rel2.cat (ra4.to (PrAt.k ((Ext.kt e5).trans kt))) (Rel2.one ⟨t, rfl, kt _ _ ht5⟩), ?_⟩
                rw [upd_ne nAG.symm]
                exact hG5
        · rw [decide_eq_false hb] at hbw ⊢
          exact iteF (iteF (stay H2 Ext.rfl' (by unfold simStep; rw [hbw]; exact if_neg fun z => nomatch z.1)))
      · obtain ⟨e2, ⟨o5', rfl⟩, avs2, hA2, ra2, hG2⟩ := pv
        rw [← sim_succ] at ra2 hG2
        exact ⟨e2, ⟨_, _, rfl⟩, avs2, hA2, ra2, hG2⟩
    · obtain ⟨e1, ⟨o4, o5, rfl⟩, avs, hA1, ra1, hG1⟩ := pv
      have hgl : (sim ds es 5).2.length ≤ 15 := by
        have h2 := sim_len (ds := ds) (es := es) 5
        omega
      have hal := (inv_sim hrun hp 5).len
      have hgone := gone_is hrun hp
      have hnil := ans_nil hrun hp
      have hmin : ∀ k t, out ds es = some (k, t) → (t, k) ∈ (sim ds es 5).1 ∧ ∀ p ∈ (sim ds es 5).1, lt2 p (t, k) = false := fun k t ho => ans_min hrun hp ho
      generalize sim ds es 5 = S at ra1 hG1 hgl hal hgone hnil hmin
      have hD1 := e1 _ _ hD
      refine ⟨_, rfl, D, qs, rfl, .inl (SqL.of hD1), _, rfl, by omega, by rw [rq.len]; omega, ?_⟩
      rw [rq.len]
      refine lc_rgR (n := ds.length) (b := fun v => decide (v ∈ S.2)) (f := nI) (small_sz (by omega)) (fun x => rfl) (fun m hm H2 e2 Q' q' => ?_) (fun m hm _ H2 e2 Q' q' => ⟨_, by rw [Int.zero_add]; rfl, q' _ Ext.rfl'⟩) (fun B H3 hB e3 hlB => ?_)
      · rw [Int.zero_add]
        refine ⟨_, rfl, _, rfl, Go, _, rfl, .inl (SqL.of (e2 _ _ hG1)), rfl, flat_nI _, _, rfl, ?_⟩
        rw [show inV (V.int (m : Int)) (S.2.map nI) = decide (m ∈ S.2) from inV_nI m S.2]
        exact q' H2 Ext.rfl'
      · rw [hgone] at hlB
        refine ⟨B, _, rfl, .inl ⟨SqL.of hlB, fun u hu => ?_⟩⟩
        have e4 := e3.trans (Ext.upd (o := .tup ((sentL ds es).map nI)) hu)
        have hu4 : (upd H3 u (.tup ((sentL ds es).map nI))) u = some (.tup ((sentL ds es).map nI)) := upd_same
        generalize upd H3 u (.tup ((sentL ds es).map nI)) = H4 at e4 hu4 ⊢
        have hA4 := e4 _ _ hA1
        have ra4 := ra1.to (PrAt.k (Ext.kt e4))
        have e14 := e1.trans e4
        refine ⟨_, rfl, by show 0 ≤ sizeLine; decide, fun N0 hN0 => ?_⟩
        have e5 := Ext.upd (o := .lst []) hN0
        refine ⟨_, _, .lst (SqL.of (e5 _ _ hA4)) (prs_dp (ra4.to (PrAt.k (Ext.kt e5)))), .lst (SqL.of upd_same) .nil, prs_shp _, rfl, _, rfl, ?_⟩
        rw [prs_nil]
        have hA5 := e5 _ _ hA4
        have ra5 := ra4.to (PrAt.k (Ext.kt e5))
        have hu5 := e5 _ _ hu4
        have e15 := e14.trans e5
        generalize upd H4 N0 (.lst []) = H5 at hA5 ra5 hu5 e15 ⊢
        cases ho : out ds es with
        | none =>
          rw [decide_eq_true (hnil.mpr ho)]
          refine iteT ⟨_, rfl, by show 3 ≤ sizeLine; decide, fun t ht => ?_⟩
          have e6 := Ext.upd (o := .tup [V.non, .non, .ref u]) ht
          refine k t u _ (e15.trans e6) ?_ (e6 _ _ hu5)
          rw [ho]
          exact upd_same
        | some km =>
          obtain ⟨k', m'⟩ := km
          obtain ⟨hm1, hm2⟩ := hmin k' m' ho
          have hne : S.1 ≠ [] := fun z => by rw [z] at hm1; cases hm1
          rw [decide_eq_false hne]
          obtain ⟨p0, hp0⟩ : ∃ p0, S.1[0]? = some p0 := ⟨_, List.getElem?_eq_getElem (List.length_pos_iff.mpr hne)⟩
          obtain ⟨v0, hv0, hpr0⟩ := ra5.got hp0
          refine iteF ⟨_, rfl, An, avs, ((0 : Nat) : Int), v0, rfl, rfl, SqL.of hA5, atI_nat hv0, ?_⟩
          refine ⟨_, rfl, An, rfl, ⟨_, SqL.of hA5⟩, ?_⟩
          refine for_list (xs := avs) (fun m σ' H' => H' = H5 ∧ ∃ o7 v, σ' = [some (.ref D), some (.ref tr), some (.ref An), some (.ref u), o4, o5, some v, o7, none, none] ∧ PrAt H5 v (minF (S.1.take m) p0)) ⟨rfl, _, v0, rfl, hpr0⟩ (fun m σ' H' _ pv => by rw [pv.1]; exact SqL.of hA5) (fun m x σ' H6 hx pv => ?_) (fun σ' H6 pv => ?_)
          · obtain ⟨rfl, o7, v, rfl, t, rfl, ht⟩ := pv
            obtain ⟨p, hp, t2, rfl, ht2⟩ := ra5.get hx
            refine ⟨_, rfl, _, rfl, t2, t, [p.1, (p.2 : Int)], [(minF (S.1.take m) p0).1, ((minF (S.1.take m) p0).2 : Int)], rfl, rfl, SqT.of ht2, SqT.of ht, _, rfl, ?_⟩
            rw [lex2]
            have hs : minF (S.1.take (m + 1)) p0 = if lt2 p (minF (S.1.take m) p0) = true then p else minF (S.1.take m) p0 := by
              rw [take_snoc hp]
              unfold minF
              rw [List.foldl_append]
              rfl
            rw [hs]
            cases hlt : lt2 p (minF (S.1.take m) p0) with
            | true => exact iteT ⟨_, rfl, rfl, _, _, rfl, t2, rfl, ht2⟩
            | false => exact iteF ⟨rfl, _, _, rfl, t, rfl, ht⟩
          · obtain ⟨rfl, o7, v, rfl, t, rfl, ht⟩ := pv
            rw [List.take_of_length_le (by rw [ra5.len]; exact Nat.le_refl _), min_is hm2 (.inr ⟨hm1, hm2 p0 (List.mem_of_getElem? hp0)⟩)] at ht
            refine ⟨_, rfl, t, _, 1, nI k', rfl, rfl, SqT.of ht, rfl, _, rfl, t, _, 0, .int m', rfl, rfl, SqT.of ht, rfl, _, rfl, by show 3 ≤ sizeLine; decide, fun t3 ht3 => ?_⟩
            have e6 := Ext.upd (o := .tup [nI k', .int m', .ref u]) ht3
            refine k t3 u _ (e15.trans e6) ?_ (e6 _ _ hu5)
            rw [ho]
            exact upd_same
end
end K18

set_option Elab.async false
set_option maxRecDepth 100000
set_option maxHeartbeats 4000000
namespace K18
open PySem PySem.Spec PyProof.Rows L2
def oF (x y z : V) : List (Str × V) := [("winner", x), ("moment", y), ("sent", z)]
def enD : En → PyData | none => .none | some (a, b) => .tuple [.int a, .int b]
section
variable {P : Program} {w : World} {K : PySem.W.Frag} {mg : Str → Option Value} {base : Heap} {A : Ad}
theorem en_dp {H : Hp} {v : V} {e : En} (h : EnAt H v e) : Dp K H v (enD e) := by
  cases e with
  | none => rw [show v = .non from h]; exact .non
  | some p =>
    obtain ⟨a, b⟩ := p
    obtain ⟨t, rfl, ht⟩ := h
    exact .tup (SqT.of ht) (.cons (.int _) (.cons (.int _) .nil))
theorem ens_dp {H : Hp} : ∀ {xs : List V} {qs : List En}, Rel2 (EnAt H) xs qs → DpAll K H xs (qs.map enD)
  | [], [], _ => .nil
  | [], _ :: _, h => nomatch h
  | _ :: _, [], h => nomatch h
  | _ :: _, _ :: _, ⟨h1, h2⟩ => .cons (en_dp h1) (ens_dp h2)
def OutD (A : Ad) (H : Hp) (p : Addr) (o : Option (Nat × Int)) (sent : List Nat) : Prop := ∃ dx T x y, rV o = [x, y] ∧ H p = some (.ins A.Outcome dx (oF x y (.ref T))) ∧ H T = some (.tup (sent.map nI))
def spOInit (A : Ad) : Sp := fun vs H Q _ => ∃ (p dx T : Addr) (x y : V) (xs : List V), vs = [.ref p, x, y, .ref T] ∧ H p = some (.ins A.Outcome dx []) ∧ H T = some (.tup xs) ∧ T ≠ p ∧
  ∀ H', H' p = some (.ins A.Outcome dx (oF x y (.ref T))) → (∀ a o, a ≠ p → H a = some o → H' a = some o) → Q .non H'
theorem ok_oInit {f : Addr} {fd : FuncData} (F : Fun K "__init__" "Outcome.__init__" s_Outcome_init f fd) (T : Txt K mg A) : FnOk P w K mg base CX0 1 f fd pm_Outcome_init (spOInit A) := by
  refine F.ok sc_Outcome_init (fun vs H Q E h => ?_) (fun cdv A' outer s H vs Q E hr h => ?_)
  · obtain ⟨_, _, _, _, _, _, rfl, _⟩ := h
    rfl
  · obtain ⟨p, dx, T2, x, y, xs, rfl, hp, hT, nT, k⟩ := h
    refine ⟨_, pss_cons (ps_fld (pv 0) (pv 1) rfl)
      (pss_cons (ps_fld (pv 0) (pv 2) rfl)
      (pss_one (ps_fld (pv 0) (pe_callTy call_tuple_of (by rfl) T.n_tuple (by decide +kernel) (pa_cons (pv 3) pa_nil)) rfl))), ?_⟩
    refine ⟨_, rfl, _, rfl, p, A.Outcome, dx, [], rfl, hp, T.Outcome.cl, T.o_winner, (by show 0 < 1000; decide), ?_⟩
    refine ⟨_, rfl, _, rfl, p, A.Outcome, dx, _, rfl, upd_same, T.Outcome.cl, T.o_moment, (by show 1 < 1000; decide), ?_⟩
    refine ⟨_, rfl, T2, xs, rfl, .inr ⟨SqT.of (by rw [upd_ne nT, upd_ne nT]; exact hT), _, rfl, p, A.Outcome, dx, _, rfl, upd_same, T.Outcome.cl, T.o_sent, (by show 2 < 1000; decide), ?_⟩⟩
    refine k _ upd_same fun a o ha ho => ?_
    rw [upd_ne ha, upd_ne ha, upd_ne ha]
    exact ho
def spGreater : Sp := fun vs H Q _ => ∃ i j : Int, vs = [.int i, .int j] ∧ Q (.int (if j > i then j else i)) H
theorem ok_greater {f : Addr} {fd : FuncData} (F : Fun K "greater" "greater" s_greater f fd) (T : Txt K mg A) : FnOk P w K mg base CX0 1 f fd pm_greater spGreater := by
  refine F.ok sc_greater (fun vs H Q E h => ?_) (fun cdv A' outer s H vs Q E hr h => ?_)
  · obtain ⟨_, _, rfl, _⟩ := h
    rfl
  · obtain ⟨i, j, rfl, k⟩ := h
    refine ⟨_, pss_one (ps_ret (pe_callB (call_max2 rfl) (by rfl) T.n_max (by decide +kernel) (pa_cons (pe_callTy call_int1 (by rfl) T.n_int (by decide +kernel) (pa_cons (pv 0) pa_nil)) (pa_cons (pe_callTy call_int1 (by rfl) T.n_int (by decide +kernel) (pa_cons (pv 1) pa_nil)) pa_nil)))), ?_⟩
    exact ⟨_, rfl, .inl ⟨i, rfl, _, rfl, .inl ⟨j, rfl, i, j, rfl, k⟩⟩⟩
def spFits (K : PySem.W.Frag) (A : Ad) : Sp := fun vs H Q _ => ∃ (q : Addr) (d : Wd) (v : V) (e : En), vs = [.ref q, v] ∧ WayD K A H q d ∧ EnAt H v e ∧ (∀ a b, e = some (a, b) → d.1.isSome = true ∧ d.2.1 ≤ a ∧ a ≤ d.2.2 ∧ d.2.1 ≤ b ∧ b ≤ d.2.2) ∧ ∀ H', Ext H H' → Q (.bl true) H'
theorem ok_fits {f : Addr} {fd : FuncData} (F : Fun K "fits" "fits" s_fits f fd) (T : Txt K mg A) (O_is_between : Own P w K mg base CX0 "is_between" 2 pm_is_between (spBetween K)) (O_is_tuple_of : Own P w K mg base CX0 "is_tuple_of" 1 pm_is_tuple_of (spTupleOf K)) : FnOk P w K mg base CX0 3 f fd pm_fits (spFits K A) := by
  refine F.ok sc_fits (fun vs H Q E h => ?_) (fun cdv A' outer s H vs Q E hr h => ?_)
  · obtain ⟨_, _, _, _, rfl, _⟩ := h
    rfl
  · obtain ⟨q, d, v, e, rfl, hW, hE, hfit, k⟩ := h
    refine ⟨_, pss_cons (ps_if (pt_cmpR op_isN (pv 1) (pe_non) (nomark _)) (pss_one (ps_ret (pe_bl))) (pss_nil))
      (pss_cons (ps_if (PW.pt (pw_or (pt_cmpR op_isN (pe_fld (pv 0) rfl) (pe_non) (nomark _)) (pw_or1 (pt_not (pt_val (pe_own O_is_tuple_of (hr.mono (by decide)) pass0 (pa_cons (pv 1) (pa_cons (pe_int) pa_nil)))))))) (pss_one (ps_ret (pe_bl))) (pss_nil))
      (pss_one (ps_ret (pe_callB (cr_all rfl) (by rfl) T.n_all (by decide +kernel) (pa_cons (pe_lc (own := [("delay", 2)]) (g := gName 2) (by rfl) sc_fits.nd (pi_tup (pv 1)) (blkOk_by (own := [("delay", 2)]) (N := nm_fits) (sc := defScope s_fits) (by decide +kernel)) (fun _ _ _ _ _ => pg_name (i := 2) sc_fits.nd rfl (Or.inl rfl)) (fun s1 H1 C1 cl fp => pts_nil) (fun s1 H1 C1 cl fp => pe_own O_is_between (hr.mono (by decide)) pass0 (pa_cons (pv 2) (pa_cons (pe_fldK (K := K) rfl (pv 0) rfl) (pa_cons (pe_fldK (K := K) rfl (pv 0) rfl) pa_nil))))) pa_nil))))), ?_⟩
    refine ⟨_, rfl, rfl, _, rfl, ?_⟩
    rw [en_non hE]
    cases e with
    | none => exact iteT (k _ Ext.rfl')
    | some ab =>
      obtain ⟨a, b⟩ := ab
      obtain ⟨f0, f1, f2, f3, f4⟩ := hfit a b rfl
      obtain ⟨dx, T2, xs, hq, hT, hxs⟩ := id hW
      obtain ⟨t, rfl, ht⟩ := id hE
      obtain ⟨n, hn⟩ := Option.isSome_iff_exists.mp f0
      refine iteF ⟨_, rfl, q, A.Way, dx, _, _, rfl, hq, T.Way.cl, T.w_begin, rfl, rfl, _, rfl, ?_⟩
      rw [show decide (bV d.1 = V.non) = false by rw [hn]; rfl]
      refine iteF ⟨_, rfl, .ref t, .tuple [.int a, .int b], 2, rfl, en_dp hE, _, rfl, iteF ?_⟩
      have hin : ∀ (i : Nat) (y : V), ([V.int a, .int b] : List V)[i]? = some y → ∃ c, y = .int c ∧ d.2.1 ≤ c ∧ c ≤ d.2.2 := fun i y h => by
        rcases i with _ | _ | i
        · cases h
          exact ⟨a, rfl, f1, f2⟩
        · cases h
          exact ⟨b, rfl, f3, f4⟩
        · cases h
      refine ⟨_, rfl, t, rfl, ⟨_, SqT.of ht⟩, fun C hC => ?_⟩
      refine lc_it (walk_tup (xs := [V.int a, .int b])) (fun i H' => Ext H H' ∧ H' C = some (.lst ((List.replicate i true).map V.bl))) ⟨Ext.upd hC, upd_same⟩ (fun i H' _ pv => SqT.of (pv.1 _ _ ht)) (fun i x H' H2 hi pv hy => ?_) (fun H' pv => ?_)
      · obtain ⟨e2, hC2⟩ := pv
        obtain ⟨rfl, hx⟩ := hy
        obtain ⟨c, rfl, c1, c2⟩ := hin i x hx
        have hi2 : i < 2 := hi
        have hq2 := e2 _ _ hq
        refine ⟨rfl, _, rfl, _, rfl, q, A.Way, dx, _, _, rfl, hq2, T.Way.cl, T.w_least, rfl, _, rfl, q, A.Way, dx, _, _, rfl, hq2, T.Way.cl, T.w_most, rfl, .int c, .int c, d.2.1, d.2.2, rfl, .int _, ?_⟩
        rw [bet_int, decide_eq_true c1, decide_eq_true c2]
        refine ⟨_, hC2, small_sz (by rw [List.length_map, List.length_replicate]; omega), ext_mut e2 hC, ?_⟩
        rw [upd_same, List.replicate_succ', List.map_append]
        rfl
      · obtain ⟨e2, hC2⟩ := pv
        exact ⟨C, _, rfl, SqL.of hC2, k _ e2⟩
def spWrong (K : PySem.W.Frag) (A : Ad) : Sp := fun vs H Q _ => ∃ (p : Addr) (ds : List Wd) (z : Int) (v : V) (es : List En), vs = [.ref p, v] ∧ RaceD K A H p ds z ∧ ds.length ≤ 1000 ∧ RnAt H v es ∧ Run ds es ∧ (qn ds es : Int) ≤ z ∧ ∀ t H', Ext H H' → H' t = some (.tup []) → Q (.ref t) H'
theorem ok_wrong {f : Addr} {fd : FuncData} (F : Fun K "wrong_of" "wrong_of" s_wrong_of f fd) (T : Txt K mg A) (O_greater : Own P w K mg base CX0 "greater" 1 pm_greater spGreater) (O_fits : Own P w K mg base CX0 "fits" 3 pm_fits (spFits K A)) (O_Race_planned : OwnM P w K mg base CX0 A.Race "planned" 2 pm_Race_planned (spPlanned K A)) : FnOk P w K mg base CX0 4 f fd pm_wrong_of (spWrong K A) := by
  refine F.ok sc_wrong_of (fun vs H Q E h => ?_) (fun cdv A' outer s H vs Q E hr h => ?_)
  · obtain ⟨_, _, _, _, _, rfl, _⟩ := h
    rfl
  · obtain ⟨p, ds, z, v, es, rfl, hR, hsm, hrn, hrun, hq, k⟩ := h
    refine ⟨_, pss_cons (ps_if (pt_not (pt_val (pe_callB call_isi (by rfl) T.n_isinstance (by decide +kernel) (pa_cons (pv 1) (pa_cons (pe_bltn (v := .ty "tuple") (by rfl) T.n_tuple (by decide +kernel) rfl) pa_nil))))) (pss_one (ps_ret (pe_tup (pa_cons (pe_non) pa_nil)))) (pss_nil))
      (pss_cons (ps_for PassesOwn.never rfl (pi_range1 rfl T.n_range (pa_cons (pe_own O_greater (hr.mono (by decide)) pass0 (pa_cons (pe_callB call_len_seq (by rfl) T.n_len (by decide +kernel) (pa_cons (pv 1) pa_nil)) (pa_cons (pe_callB call_len_seq (by rfl) T.n_len (by decide +kernel) (pa_cons (pe_fld (pv 0) rfl) pa_nil)) pa_nil))) pa_nil)) (pg_name (i := 2) sc_wrong_of.nd rfl (Or.inl rfl)) (pss_one (ps_if (PW.pt (pw_or (pt_cmpR op_ge (pv 2) (pe_callB call_len_seq (by rfl) T.n_len (by decide +kernel) (pa_cons (pv 1) pa_nil)) (nomark _)) (pw_or (pt_cmpR op_ge (pv 2) (pe_callB call_len_seq (by rfl) T.n_len (by decide +kernel) (pa_cons (pe_fld (pv 0) rfl) pa_nil)) (nomark _)) (pw_or1 (pt_not (pt_val (pe_own O_fits (hr.mono (by decide)) pass0 (pa_cons (pe_ix ix_tup (pe_fld (pv 0) rfl) (pv 2) (fun _ _ => rfl)) (pa_cons (pe_ix ix_tup (pv 1) (pv 2) (fun _ _ => rfl)) pa_nil))))))))) (pss_one (ps_ret (pe_tup (pa_cons (pv 2) pa_nil)))) (pss_nil))))
      (pss_cons (ps_setLc (i := 3) (own := [("way", 4)]) (g := gName 4) (by rfl) sc_wrong_of.nd rfl rfl (sw_true rfl rfl rfl (by decide +kernel)) (pi_tup (pe_ownM0 O_Race_planned (pv 0) T.Race.cl (hr.mono (by decide)) pass0)) (blkOk_by (own := [("way", 4)]) (N := nm_wrong_of) (sc := defScope s_wrong_of) (by decide +kernel)) (fun _ _ _ _ _ => pg_name (i := 4) sc_wrong_of.nd rfl (Or.inl rfl)) (fun s1 H1 C1 cl fp => pts_one (pt_cmpR op_isN (pe_ix (ix_tupK (K := K) rfl) (pv 1) (pv 4) (fun _ _ => rfl)) (pe_non) (nomark _))) (fun s1 H1 C1 cl fp => pv 4))
      (pss_one (ps_ret (pe_ifExp (pt_cmpR op_gt (pe_callB call_len_seq (by rfl) T.n_len (by decide +kernel) (pa_cons (pv 3) pa_nil)) (pe_fld (pv 0) rfl) (nomark _)) (pe_tup (pa_cons (pe_non) pa_nil)) (pe_tup (pa_nil))))))), ?_⟩
    obtain ⟨tr, us, rfl, htr, rr⟩ := id hrn
    obtain ⟨dx, T1, ws, hp, hT, hws⟩ := id hR
    have hel : es.length = ds.length := hrun.1
    have hul : us.length = ds.length := by rw [rr.len, hel]
    refine ⟨_, rfl, .ref tr, .ty "tuple", _, .type "tuple", true, rfl, .ty _, dp_ty (.tup (SqT.of htr) (ens_dp rr)), kd_tup, _, rfl, iteF ?_⟩
    refine ⟨_, rfl, tr, us, rfl, .inr (SqT.of htr), _, rfl, p, A.Race, dx, _, _, rfl, hp, T.Race.cl, T.r_ways, rfl, T1, ws, rfl, .inr hT, _, _, rfl, ?_⟩
    rw [hul, hws.1, if_neg (Int.lt_irrefl _)]
    refine ⟨_, rfl, by omega, by omega, ?_⟩
    refine for_range (n := ds.length) (fun i σ' H' => Ext H H' ∧ ∃ o2, σ' = [some (.ref p), some (.ref tr), o2, none, none]) ⟨Ext.rfl', _, rfl⟩ (fun i σ' H1 hi pv => ?_) (fun σ' H1 pv => ?_)
    · obtain ⟨e1, o2, rfl⟩ := pv
      rw [Int.zero_add]
      obtain ⟨d, hd⟩ : ∃ d, ds[i]? = some d := ⟨_, List.getElem?_eq_getElem hi⟩
      obtain ⟨en, he⟩ : ∃ en, es[i]? = some en := ⟨_, List.getElem?_eq_getElem (by omega)⟩
      obtain ⟨y, hy, hE⟩ := rr.got he
      obtain ⟨x, hx⟩ : ∃ x, ws[i]? = some x := ⟨_, List.getElem?_eq_getElem (by rw [hws.1]; exact hi)⟩
      obtain ⟨q, rfl, hwq⟩ := hws.2 i x d hx hd
      have hp1 := e1 _ _ hp
      have hT1 := hT.ext e1
      refine ⟨_, rfl, _, rfl, tr, us, rfl, .inr (SqT.of (e1 _ _ htr)), _, _, rfl, rfl, _, rfl, ?_⟩
      rw [decide_eq_false (show ¬ (i : Int) ≥ (us.length : Int) by omega)]
      refine iteF ⟨_, rfl, _, rfl, p, A.Race, dx, _, _, rfl, hp1, T.Race.cl, T.r_ways, rfl, T1, ws, rfl, .inr hT1, _, _, rfl, rfl, _, rfl, ?_⟩
      rw [decide_eq_false (show ¬ (i : Int) ≥ (ws.length : Int) by rw [hws.1]; omega)]
      refine iteF ⟨_, rfl, p, A.Race, dx, _, _, rfl, hp1, T.Race.cl, T.r_ways, rfl, _, rfl, T1, ws, (i : Int), .ref q, rfl, rfl, hT1, atI_nat hx, _, rfl, _, rfl, tr, us, (i : Int), y, rfl, rfl, SqT.of (e1 _ _ htr), atI_nat hy, ?_⟩
      refine ⟨q, d, y, en, rfl, hwq.ext e1, EnAt.k (Ext.kt e1) _ _ hE, fun a b hab => ?_, fun H2 e2 => ⟨_, rfl, iteF ⟨e1.trans e2, _, rfl⟩⟩⟩
      rw [← ent_at he] at hab
      obtain ⟨h1, h2, h3, h4, h5⟩ := hrun.2 i a b hab
      obtain ⟨a1, a2, a3, a4⟩ := at_d hd
      rw [a1] at h1
      rw [a3] at h2 h4
      rw [a4] at h3 h5
      exact ⟨h1, h2, h3, h4, h5⟩
    · obtain ⟨e1, o2, rfl⟩ := pv
      have hp1 := e1 _ _ hp
      refine ⟨_, rfl, p, dx, _, rfl, hp1, rfl, p, ds, z, rfl, hR.ext e1, hsm, fun tp H2 e2 htp => ⟨tp, rfl, ⟨_, SqT.of htp⟩, fun C hC => ?_⟩⟩
      rw [pl_plan] at htp
      have htr2 := e2 _ _ (e1 _ _ htr)
      refine lc_it (walk_tup (xs := (plan ds).map nI)) (fun i H' => Ext H2 H' ∧ H' C = some (.lst ((((plan ds).take i).filter fun j => (ent es j).isNone).map nI))) ⟨Ext.upd hC, upd_same⟩ (fun i H' _ pv => SqT.of (pv.1 _ _ htp)) (fun i x H' H3 hi pv hy => ?_) (fun H' pv => ?_)
      · obtain ⟨e3, hC3⟩ := pv
        obtain ⟨rfl, hx⟩ := hy
        rw [List.getElem?_map] at hx
        obtain ⟨j, hj, rfl⟩ := Option.map_eq_some_iff.mp hx
        obtain ⟨_, hjl⟩ := plan_has hj
        obtain ⟨en, he⟩ : ∃ en, es[j]? = some en := ⟨_, List.getElem?_eq_getElem (by omega)⟩
        obtain ⟨y, hy, hE⟩ := rr.got he
        refine ⟨rfl, _, rfl, _, rfl, tr, us, (j : Int), y, rfl, rfl, SqT.of (e3 _ _ htr2), atI_nat hy, rfl, _, rfl, ?_⟩
        rw [en_non hE, take_snoc hj, List.filter_append, List.filter_cons, ent_at he]
        cases en with
        | none =>
          refine iteT ⟨_, rfl, _, hC3, small_sz ?_, ext_mut e3 hC, ?_⟩
          · rw [List.length_map]
            refine Nat.le_trans (List.length_filter_le _ _) ?_
            rw [List.length_take]
            have := plan_len ds
            omega
          · rw [upd_same, List.map_append]
            rfl
        | some ab =>
          refine iteF ⟨e3, ?_⟩
          rw [hC3]
          simp
      · obtain ⟨e3, hC3⟩ := pv
        rw [List.length_map, List.take_length] at hC3
        have hfl : ((plan ds).filter fun j => (ent es j).isNone).length = qn ds es := by
          unfold plan qn
          rw [List.filter_filter]
          congr 1
          refine List.filter_congr fun j _ => ?_
          unfold shut
          exact Bool.and_comm _ _
        have e03 := (e1.trans e2).trans e3
        refine ⟨_, rfl, C, _, rfl, .inl (SqL.of hC3), _, rfl, p, A.Race, dx, _, _, rfl, e03 _ _ hp, T.Race.cl, T.r_silent, rfl, _, _, rfl, rfl, _, rfl, ?_⟩
        rw [List.length_map, hfl, decide_eq_false (show ¬ (qn ds es : Int) > z by omega)]
        refine iteF ⟨by show 0 ≤ sizeLine; decide, fun t ht => ?_⟩
        exact k t _ (e03.trans (Ext.upd ht)) upd_same
end
end K18

set_option Elab.async false
set_option maxRecDepth 100000
set_option maxHeartbeats 4000000
namespace K18
open PySem PySem.Spec PyProof.Rows L2
theorem step_some {ds : List Wd} {es : List En} {best : Option (Nat × Int)} {j : Nat} {a b : Int} (he : ent es j = some (a, b)) : step ds es best j = match best with
    | none => some (j, bg ds j + a + b)
    | some (k', m') => if bg ds j + a + b < m' then some (j, bg ds j + a + b) else some (k', m') := by
  unfold step
  first
    | (rw [he]; done)
    | (rw [he]; cases best <;> rfl)
section
variable {P : Program} {w : World} {K : PySem.W.Frag} {mg : Str → Option Value} {base : Heap} {A : Ad}
def spOutOf (K : PySem.W.Frag) (A : Ad) : Sp := fun vs H Q _ => ∃ (p : Addr) (ds : List Wd) (z : Int) (v : V) (es : List En), vs = [.ref p, v] ∧ RaceD K A H p ds z ∧ ds.length ≤ 1000 ∧ RnAt H v es ∧ Run ds es ∧ ∀ q H', Ext H H' → OutD A H' q (out ds es) (sentL ds es) → Q (.ref q) H'
theorem ok_outOf {f : Addr} {fd : FuncData} (F : Fun K "outcome_of" "outcome_of" s_outcome_of f fd) (T : Txt K mg A) (O_Race_planned : OwnM P w K mg base CX0 A.Race "planned" 2 pm_Race_planned (spPlanned K A)) (O_Outcome : OwnC P w K mg base CX0 "Outcome" A.Outcome 1 pm_Outcome_init (spOInit A)) : FnOk P w K mg base CX0 4 f fd pm_outcome_of (spOutOf K A) := by
  refine F.ok sc_outcome_of (fun vs H Q E h => ?_) (fun cdv A' outer s H vs Q E hr h => ?_)
  · obtain ⟨_, _, _, _, _, rfl, _⟩ := h
    rfl
  · obtain ⟨p, ds, z, v, es, rfl, hR, hsm, hrn, hrun, k⟩ := h
    refine ⟨_, pss_cons (ps_set (i := 2) sc_outcome_of.nd rfl (Or.inl rfl) (pe_non))
      (pss_cons (ps_set (i := 3) sc_outcome_of.nd rfl (Or.inr rfl) (pe_non))
      (pss_cons (ps_for PassesOwn.never rfl (pi_tup (pe_ownM0 O_Race_planned (pv 0) T.Race.cl (hr.mono (by decide)) pass0)) (pg_name (i := 4) sc_outcome_of.nd rfl (Or.inl rfl)) (pss_one (ps_if (pt_cmpR op_notN (pe_ix ix_tup (pv 1) (pv 4) (fun _ _ => rfl)) (pe_non) (nomark _)) (pss_cons (ps_set (i := 5) sc_outcome_of.nd rfl (Or.inl rfl) (pe_op op_add (pe_fld (pe_ix ix_tup (pe_fld (pv 0) rfl) (pv 4) (fun _ _ => rfl)) rfl) (pe_callB (cr_sumT rfl) (by rfl) T.n_sum (by decide +kernel) (pa_cons (pe_ix ix_tup (pv 1) (pv 4) (fun _ _ => rfl)) pa_nil))))
      (pss_one (ps_if (PW.pt (pw_or (pt_cmpR op_isN (pv 3) (pe_non) (nomark _)) (pw_or1 (pt_cmpR op_lt (pv 5) (pv 3) (nomark _))))) (pss_cons (ps_set (i := 2) sc_outcome_of.nd rfl (Or.inl rfl) (pv 4))
      (pss_one (ps_set (i := 3) sc_outcome_of.nd rfl (Or.inr rfl) (pv 5)))) (pss_nil)))) (pss_nil))))
      (pss_cons (ps_setLc (i := 6) (own := [("way", 4)]) (g := gName 4) (by rfl) sc_outcome_of.nd rfl rfl (sw_true rfl rfl rfl (by decide +kernel)) (pi_tup (pe_ownM0 O_Race_planned (pv 0) T.Race.cl (hr.mono (by decide)) pass0)) (blkOk_by (own := [("way", 4)]) (N := nm_outcome_of) (sc := defScope s_outcome_of) (by decide +kernel)) (fun _ _ _ _ _ => pg_name (i := 4) sc_outcome_of.nd rfl (Or.inl rfl)) (fun s1 H1 C1 cl fp => pts_one (PW.pt (pw_or (pt_cmpR op_isN (pv 3) (pe_non) (nomark _)) (pw_or1 (pt_cmpR op_lt (pe_fldK (K := K) rfl (pe_ix (ix_tupK (K := K) rfl) (pe_fldK (K := K) rfl (pv 0) rfl) (pv 4) (fun _ _ => rfl)) rfl) (pv 3) (nomark _)))))) (fun s1 H1 C1 cl fp => pv 4))
      (pss_one (ps_ret (pe_new O_Outcome (hr.mono (by decide)) pass0 (pa_cons (pv 2) (pa_cons (pv 3) (pa_cons (pe_callTy call_tuple_of (by rfl) T.n_tuple (by decide +kernel) (pa_cons (pv 6) pa_nil)) pa_nil))))))))), ?_⟩
    obtain ⟨tr, us, rfl, htr, rr⟩ := id hrn
    obtain ⟨dx, T1, ws, hp, hT, hws⟩ := id hR
    have hel : es.length = ds.length := hrun.1
    refine ⟨_, rfl, p, dx, _, rfl, hp, rfl, p, ds, z, rfl, hR, hsm, fun tp H1 e1 htp => ⟨tp, rfl, ⟨_, SqT.of htp⟩, ?_⟩⟩
    rw [pl_plan] at htp
    have hl : ∀ i, (plan ds).take i = (plan ds).take i := fun _ => rfl
    refine for_it (walk_tup (xs := (plan ds).map nI)) (fun i σ' H' => H' = H1 ∧ ∃ wv mv o4 o5, σ' = [some (.ref p), some (.ref tr), some wv, some mv, o4, o5, none] ∧ rV (((plan ds).take i).foldl (step ds es) none) = [wv, mv]) ⟨rfl, _, _, _, _, rfl, rfl⟩ (fun i σ' H' _ pv => by rw [pv.1]; exact SqT.of htp) (fun i x σ' H' H2 hi pv hy => ?_) (fun σ' H' pv => ?_)
    · obtain ⟨rfl, wv, mv, o4, o5, rfl, hrv⟩ := pv
      obtain ⟨rfl, hx⟩ := hy
      rw [List.getElem?_map] at hx
      obtain ⟨j, hj, rfl⟩ := Option.map_eq_some_iff.mp hx
      obtain ⟨hhas, hjl⟩ := plan_has hj
      obtain ⟨en, he⟩ : ∃ en, es[j]? = some en := ⟨_, List.getElem?_eq_getElem (by omega)⟩
      obtain ⟨y, hy, hE⟩ := rr.got he
      have htr1 := e1 _ _ htr
      rw [take_snoc hj, List.foldl_append]
      refine ⟨_, rfl, _, rfl, tr, us, (j : Int), y, rfl, rfl, SqT.of htr1, atI_nat hy, rfl, _, rfl, ?_⟩
      rw [en_non hE]
      have hst : step ds es (((plan ds).take i).foldl (step ds es) none) j = [j].foldl (step ds es) (((plan ds).take i).foldl (step ds es) none) := rfl
      rw [← hst]
      generalize ((plan ds).take i).foldl (step ds es) none = best at hrv hst ⊢
      cases en with
      | none =>
        refine iteF ⟨rfl, _, _, _, _, rfl, ?_⟩
        unfold step
        rw [ent_at he]
        exact hrv
      | some ab =>
        obtain ⟨a, b⟩ := ab
        obtain ⟨ty, rfl, hty⟩ := hE
        obtain ⟨d, hd⟩ : ∃ d, ds[j]? = some d := ⟨_, List.getElem?_eq_getElem hjl⟩
        obtain ⟨x, hxw⟩ : ∃ x, ws[j]? = some x := ⟨_, List.getElem?_eq_getElem (by rw [hws.1]; exact hjl)⟩
        obtain ⟨q, rfl, hwq⟩ := hws.2 j x d hxw hd
        obtain ⟨dq, Tq, xq, hq, _, _⟩ := id (hwq.ext e1)
        obtain ⟨a1, a2, _, _⟩ := at_d hd
        rw [a1] at hhas
        obtain ⟨n, hn⟩ := Option.isSome_iff_exists.mp hhas
        rw [hn] at hq a2
        refine iteT ⟨_, rfl, p, A.Race, dx, _, _, rfl, e1 _ _ hp, T.Race.cl, T.r_ways, rfl, _, rfl, T1, ws, (j : Int), .ref q, rfl, rfl, hT.ext e1, atI_nat hxw, q, A.Way, dq, _, _, rfl, hq, T.Way.cl, T.w_begin, rfl, _, rfl, _, rfl, tr, us, (j : Int), .ref ty, rfl, rfl, SqT.of htr1, atI_nat hy, ty, [a, b], rfl, SqT.of (e1 _ _ hty), _, _, rfl, rfl, ?_⟩
        have hans : bg ds j + a + b = n + (a + b) := by
          rw [a2]
          show n + a + b = n + (a + b)
          omega
        rw [show [a, b].sum = a + b by show a + (b + 0) = a + b; omega]
        rw [step_some (ent_at he), hans]
        cases best with
        | none =>
          cases hrv
          exact ⟨_, rfl, rfl, _, rfl, iteT (iteT ⟨_, rfl, _, rfl, rfl, _, _, _, _, rfl, rfl⟩)⟩
        | some km =>
          obtain ⟨k', m'⟩ := km
          cases hrv
          refine ⟨_, rfl, rfl, _, rfl, iteF ⟨_, rfl, _, rfl, _, _, rfl, rfl, _, rfl, ?_⟩⟩
          by_cases hlt : n + (a + b) < m'
          · rw [decide_eq_true hlt]
            refine iteT ⟨_, rfl, _, rfl, rfl, _, _, _, _, rfl, ?_⟩
            dsimp only
            rw [if_pos hlt]
            rfl
          · rw [decide_eq_false hlt]
            refine iteF ⟨rfl, _, _, _, _, rfl, ?_⟩
            dsimp only
            rw [if_neg hlt]
            rfl
    · obtain ⟨rfl, wv, mv, o4, o5, rfl, hrv⟩ := pv
      rw [List.length_map, List.take_length, out_plan hrun] at hrv
      have hp1 := e1 _ _ hp
      have hR1 := hR.ext e1
      refine ⟨_, rfl, p, dx, _, rfl, hp1, rfl, p, ds, z, rfl, hR1, hsm, fun tp2 H2 e2 htp2 => ⟨tp2, rfl, ⟨_, SqT.of htp2⟩, fun C hC => ?_⟩⟩
      rw [pl_plan] at htp2
      have hp2 := e2 _ _ hp1
      refine lc_it (walk_tup (xs := (plan ds).map nI)) (fun i H' => Ext H2 H' ∧ H' C = some (.lst ((((plan ds).take i).filter fun v => bef (out ds es) (bg ds v)).map nI))) ⟨Ext.upd hC, upd_same⟩ (fun i H' _ pv => SqT.of (pv.1 _ _ htp2)) (fun i x H' H3 hi pv hy => ?_) (fun H' pv => ?_)
      · obtain ⟨e3, hC3⟩ := pv
        obtain ⟨rfl, hx⟩ := hy
        rw [List.getElem?_map] at hx
        obtain ⟨j, hj, rfl⟩ := Option.map_eq_some_iff.mp hx
        obtain ⟨hhas, hjl⟩ := plan_has hj
        obtain ⟨d, hd⟩ : ∃ d, ds[j]? = some d := ⟨_, List.getElem?_eq_getElem hjl⟩
        obtain ⟨x, hxw⟩ : ∃ x, ws[j]? = some x := ⟨_, List.getElem?_eq_getElem (by rw [hws.1]; exact hjl)⟩
        obtain ⟨q, rfl, hwq⟩ := hws.2 j x d hxw hd
        have e123 := (e1.trans e2).trans e3
        obtain ⟨dq, Tq, xq, hq, _, _⟩ := id (hwq.ext e123)
        obtain ⟨a1, a2, _, _⟩ := at_d hd
        rw [a1] at hhas
        obtain ⟨n, hn⟩ := Option.isSome_iff_exists.mp hhas
        rw [hn] at hq a2
        have hb : bg ds j = n := a2
        rw [take_snoc hj, List.filter_append, List.filter_cons, hb]
        have yes : bef (out ds es) n = true → ∃ acc, H3 C = some (.lst acc) ∧ acc.length < sizeLine ∧ Ext H2 (upd H3 C (.lst (acc ++ [nI j]))) ∧ upd H3 C (.lst (acc ++ [nI j])) C = some (.lst (((((plan ds).take i).filter fun v => bef (out ds es) (bg ds v)) ++ (if bef (out ds es) n = true then j :: List.filter (fun v => bef (out ds es) (bg ds v)) [] else List.filter (fun v => bef (out ds es) (bg ds v)) [])).map nI)) := fun h => by
          refine ⟨_, hC3, small_sz ?_, ext_mut e3 hC, ?_⟩
          · rw [List.length_map]
            refine Nat.le_trans (List.length_filter_le _ _) ?_
            rw [List.length_take]
            have := plan_len ds
            omega
          · rw [upd_same, if_pos h, List.map_append]
            rfl
        have no : bef (out ds es) n = false → Ext H2 H3 ∧ H3 C = some (.lst (((((plan ds).take i).filter fun v => bef (out ds es) (bg ds v)) ++ (if bef (out ds es) n = true then j :: List.filter (fun v => bef (out ds es) (bg ds v)) [] else List.filter (fun v => bef (out ds es) (bg ds v)) [])).map nI)) := fun h => by
          refine ⟨e3, ?_⟩
          rw [h, if_neg (by decide), List.filter_nil, List.append_nil]
          exact hC3
        cases ho : out ds es with
        | none =>
          rw [ho] at hrv yes
          cases hrv
          exact ⟨rfl, _, rfl, rfl, _, rfl, iteT (iteT ⟨_, rfl, yes rfl⟩)⟩
        | some km =>
          obtain ⟨k', m'⟩ := km
          rw [ho] at hrv yes no
          cases hrv
          refine ⟨rfl, _, rfl, rfl, _, rfl, iteF ⟨_, rfl, p, A.Race, dx, _, _, rfl, e3 _ _ hp2, T.Race.cl, T.r_ways, rfl, _, rfl, T1, ws, (j : Int), .ref q, rfl, rfl, hT.ext e123, atI_nat hxw, q, A.Way, dq, _, _, rfl, hq, T.Way.cl, T.w_begin, rfl, _, rfl, _, _, rfl, rfl, _, rfl, ?_⟩⟩
          cases hlt : decide (n < m') with
          | true => exact iteT ⟨_, rfl, yes hlt⟩
          | false => exact iteF (no hlt)
      · obtain ⟨e3, hC3⟩ := pv
        rw [List.length_map, List.take_length] at hC3
        have hC4 : H' C = some (.lst ((sentL ds es).map nI)) := hC3
        have e03 := (e1.trans e2).trans e3
        refine ⟨_, rfl, _, rfl, _, rfl, C, _, rfl, .inl ⟨SqL.of hC4, fun u hu => fun x0 dn hx0 hdx0 hne0 => ?_⟩⟩
        have e4 := Ext.upd (o := .tup ((sentL ds es).map nI)) hu
        have hu4 : (upd H' u (.tup ((sentL ds es).map nI))) u = some (.tup ((sentL ds es).map nI)) := upd_same
        generalize upd H' u (.tup ((sentL ds es).map nI)) = H4 at e4 hu4 hx0 hdx0 ⊢
        have e5 := (Ext.upd (o := .own x0) hdx0).upd' (o := .ins A.Outcome dn []) (by rw [upd_ne hne0.symm]; exact hx0)
        have nux : u ≠ x0 := ne_of_none hu4 hx0
        refine ⟨x0, dn, u, wv, mv, _, rfl, upd_same, e5 _ _ hu4, nux, fun H6 h6 hB => ⟨rfl, ?_⟩⟩
        refine k x0 H6 (fun a o h => hB a o (ne_of_none ((e03.trans e4) _ _ h) hx0) (e5 _ _ ((e03.trans e4) _ _ h))) ⟨dn, u, wv, mv, hrv, h6, hB u _ nux (e5 _ _ hu4)⟩
def spPlayed (K : PySem.W.Frag) (A : Ad) : Sp := fun vs H Q _ => ∃ (p : Addr) (ds : List Wd) (z : Int) (v : V) (es : List En), vs = [.ref p, v] ∧ RaceD K A H p ds z ∧ ds.length ≤ 1000 ∧ RnAt H v es ∧ Run ds es ∧ (qn ds es : Int) ≤ z ∧ ∀ q H', Ext H H' → OutD A H' q (out ds es) (sentL ds es) → Q (.ref q) H'
theorem ok_played {f : Addr} {fd : FuncData} (F : Fun K "played" "played" s_played f fd) (T : Txt K mg A) (O_wrong_of : Own P w K mg base CX0 "wrong_of" 4 pm_wrong_of (spWrong K A)) (O_outcome_of : Own P w K mg base CX0 "outcome_of" 4 pm_outcome_of (spOutOf K A)) : FnOk P w K mg base CX0 5 f fd pm_played (spPlayed K A) := by
  refine F.ok sc_played (fun vs H Q E h => ?_) (fun cdv A' outer s H vs Q E hr h => ?_)
  · obtain ⟨_, _, _, _, _, rfl, _⟩ := h
    rfl
  · obtain ⟨p, ds, z, v, es, rfl, hR, hsm, hrn, hrun, hq, k⟩ := h
    refine ⟨_, pss_cons (ps_set (i := 2) sc_played.nd rfl (Or.inl rfl) (pe_own O_wrong_of (hr.mono (by decide)) pass0 (pa_cons (pv 0) (pa_cons (pv 1) pa_nil))))
      (pss_cons (ps_if (pt_truth (pv 2) (by intro _; rfl)) (pss_dead) (pss_nil))
      (pss_one (ps_ret (pe_own O_outcome_of (hr.mono (by decide)) pass0 (pa_cons (pv 0) (pa_cons (pv 1) pa_nil)))))), ?_⟩
    refine ⟨_, rfl, _, rfl, p, ds, z, v, es, rfl, hR, hsm, hrn, hrun, hq, fun t H1 e1 ht => ?_⟩
    refine ⟨_, rfl, _, .inr (.inl ⟨[], SqT.of ht, rfl⟩), iteF ⟨_, rfl, _, rfl, p, ds, z, v, es, rfl, hR.ext e1, hsm, RnAt.k (Ext.kt e1) _ _ hrn, hrun, fun q H2 e2 ho => k q H2 (e1.trans e2) ho⟩⟩
end
end K18

set_option Elab.async false
set_option maxRecDepth 100000
set_option maxHeartbeats 4000000
namespace K18
open PySem PySem.Spec PyProof.Rows L2
theorem small_sz' {n : Nat} (h : n ≤ 1000) : n ≤ sizeLine := Nat.le_trans h (by decide)
theorem flat_rep : ∀ n : Nat, (List.replicate n [V.int 0]).flatten = (List.replicate n (0 : Int)).map V.int
  | 0 => rfl
  | n + 1 => by
    rw [List.replicate_succ, List.flatten_cons, flat_rep n, List.replicate_succ]
    rfl
theorem cut_last (xs : List V) : cutV xs none (some (-1)) = xs.dropLast := by
  show (xs.drop 0).take ((if (-1 : Int) < 0 then ((-1 : Int) + (xs.length : Int)).toNat else min ((-1 : Int).toNat) xs.length) - 0) = _
  rw [if_pos (by decide), List.drop_zero, List.dropLast_eq_take]
  congr 1
  omega
theorem stepC_len {c : Int} {cs : List Int} : (stepC c cs).length ≤ cs.length := by
  unfold stepC
  rw [List.length_zipWith]
  exact Nat.min_le_left _ _
section
variable {P : Program} {w : World} {K : PySem.W.Frag} {mg : Str → Option Value} {base : Heap} {A : Ad}
def spCount (K : PySem.W.Frag) (A : Ad) : Sp := fun vs H Q _ => ∃ (p : Addr) (ds : List Wd) (z : Nat), vs = [.ref p] ∧ RaceD K A H p ds (z : Int) ∧ ds.length ≤ 3 ∧ Gds ds ∧ z ≤ 3 ∧ ∀ H', Ext H H' → Q (.int ((lim (z : Int) ds).length : Int)) H'
theorem ok_count {f : Addr} {fd : FuncData} (F : Fun K "run_count" "run_count" s_run_count f fd) (T : Txt K mg A) (O_Race_planned : OwnM P w K mg base CX0 A.Race "planned" 2 pm_Race_planned (spPlanned K A)) : FnOk P w K mg base CX0 4 f fd pm_run_count (spCount K A) := by
  refine F.ok sc_run_count (fun vs H Q E h => ?_) (fun cdv A' outer s H vs Q E hr h => ?_)
  · obtain ⟨_, _, _, rfl, _⟩ := h
    rfl
  · obtain ⟨p, ds, z, rfl, hR, h3, hg, hz, k⟩ := h
    refine ⟨_, pss_cons (ps_set (i := 1) sc_run_count.nd rfl (Or.inl rfl) (pe_op op_cat (pe_lst (pa_cons (pe_int) pa_nil)) (pe_op op_rep (pe_lst (pa_cons (pe_int) pa_nil)) (pe_fld (pv 0) rfl))))
      (pss_cons (ps_for PassesOwn.never rfl (pi_tup (pe_ownM0 O_Race_planned (pv 0) T.Race.cl (hr.mono (by decide)) pass0)) (pg_name (i := 2) sc_run_count.nd rfl (Or.inl rfl)) (pss_cons (ps_set (i := 3) sc_run_count.nd rfl (Or.inr rfl) (pe_op op_add (pe_op op_sub (pe_fld (pe_ix ix_tup (pe_fld (pv 0) rfl) (pv 2) (fun _ _ => rfl)) rfl) (pe_fld (pe_ix ix_tup (pe_fld (pv 0) rfl) (pv 2) (fun _ _ => rfl)) rfl)) (pe_int)))
      (pss_cons (ps_set (i := 4) sc_run_count.nd rfl (Or.inl rfl) (pe_op op_cat (pe_lst (pa_cons (pe_int) pa_nil)) (pe_slice sl_list (pv 1) po_none (po_some (pe_un un_neg (pe_int))))))
      (pss_one (ps_setLc (i := 1) (own := [("heard", 5), ("silent", 6)]) (g := gTup K 2 (gCons (gName 5) (gCons (gName 6) (gNil)))) (by rfl) sc_run_count.nd rfl rfl (sw_true rfl rfl rfl (by decide +kernel)) (RZ.pi_zipA (by rfl) T.n_zip (pa_cons (pv 1) (pa_cons (pv 4) pa_nil))) (blkOk_by (own := [("heard", 5), ("silent", 6)]) (N := nm_run_count) (sc := defScope s_run_count) (by decide +kernel)) (fun _ _ _ _ _ => pg_tup rfl (pgs_cons (pg_name (i := 5) sc_run_count.nd rfl (Or.inl rfl)) (pgs_cons (pg_name (i := 6) sc_run_count.nd rfl (Or.inl rfl)) (pgs_nil)))) (fun s1 H1 C1 cl fp => pts_nil) (fun s1 H1 C1 cl fp => pe_op op_add (pe_op op_mul (pe_op op_mul (pv 5) (pv 3)) (pv 3)) (pv 6)))))))
      (pss_one (ps_ret (pe_callB (cr_sum rfl) (by rfl) T.n_sum (by decide +kernel) (pa_cons (pv 1) pa_nil))))), ?_⟩
    have hf := gds_fit hg
    obtain ⟨dx, T1, ws, hp, hT, hws⟩ := id hR
    refine ⟨by show 1 ≤ sizeLine; decide, fun p1 hp1 => ⟨by show 1 ≤ sizeLine; decide, fun p2 hp2 => ?_⟩⟩
    have e1 := Ext.upd (o := .lst [.int 1]) hp1
    have e2 := Ext.upd (o := .lst [.int 0]) hp2
    have h1 := e2 _ _ (show upd H p1 (.lst [.int 1]) p1 = some (.lst [.int 1]) from upd_same)
    have h2 : upd (upd H p1 (.lst [.int 1])) p2 (.lst [.int 0]) p2 = some (.lst [.int 0]) := upd_same
    have e12 := e1.trans e2
    generalize upd (upd H p1 (.lst [.int 1])) p2 (.lst [.int 0]) = H2 at h1 h2 e12 ⊢
    refine ⟨_, rfl, p, A.Race, dx, _, _, rfl, e12 _ _ hp, T.Race.cl, T.r_silent, rfl, p2, (z : Int), [.int 0], rfl, rfl, h2, by omega, by omega, small_sz' (by show 1 * ((z : Int)).toNat ≤ 1000; omega), fun p3 hp3 => ?_⟩
    rw [Int.toNat_natCast, flat_rep]
    have e3 := Ext.upd (o := .lst ((List.replicate z (0 : Int)).map V.int)) hp3
    refine ⟨p1, p3, _, _, rfl, rfl, e3 _ _ h1, upd_same, small_sz' (by rw [List.length_map, List.length_replicate]; show 1 + z ≤ 1000; omega), fun C0 hC0 => ?_⟩
    have e4 := Ext.upd (o := .lst ([V.int 1] ++ (List.replicate z (0 : Int)).map V.int)) hC0
    have hC1 : (upd (upd H2 p3 (.lst ((List.replicate z (0 : Int)).map V.int))) C0 (.lst ([V.int 1] ++ (List.replicate z (0 : Int)).map V.int))) C0 = some (.lst ((1 :: List.replicate z (0 : Int)).map V.int)) := upd_same
    have e14 := (e12.trans e3).trans e4
    generalize upd (upd H2 p3 (.lst ((List.replicate z (0 : Int)).map V.int))) C0 (.lst ([V.int 1] ++ (List.replicate z (0 : Int)).map V.int)) = H4 at hC1 e14 ⊢
    have hp4 := e14 _ _ hp
    refine ⟨_, rfl, p, dx, _, rfl, hp4, rfl, p, ds, (z : Int), rfl, hR.ext e14, by omega, fun tp H5 e5 htp => ⟨tp, rfl, ⟨_, SqT.of htp⟩, ?_⟩⟩
    rw [pl_plan] at htp
    have e15 := e14.trans e5
    refine for_it (walk_tup (xs := (plan ds).map nI)) (fun i σ' H' => Ext H5 H' ∧ ∃ C cs o2 o3 o4, σ' = [some (.ref p), some (.ref C), o2, o3, o4, none, none] ∧ H' C = some (.lst (cs.map V.int)) ∧ cs.length ≤ z + 1 ∧ cs = ((plan ds).take i).foldl (fun cs j => stepC (wid ds j) cs) (1 :: List.replicate z 0)) ⟨Ext.rfl', C0, _, _, _, _, rfl, e5 _ _ hC1, by show (1 :: List.replicate z (0 : Int)).length ≤ z + 1; rw [List.length_cons, List.length_replicate]; omega, rfl⟩ (fun i σ' H' _ pv => SqT.of (pv.1 _ _ htp)) (fun i x σ' H' H6 hi pv hy => ?_) (fun σ' H' pv => ?_)
    · obtain ⟨e6, C, cs, o2, o3, o4, rfl, hC, hcl, hcs⟩ := pv
      obtain ⟨rfl, hx⟩ := hy
      rw [List.getElem?_map] at hx
      obtain ⟨j, hj, rfl⟩ := Option.map_eq_some_iff.mp hx
      obtain ⟨hhas, hjl⟩ := plan_has hj
      obtain ⟨d, hd⟩ : ∃ d, ds[j]? = some d := ⟨_, List.getElem?_eq_getElem hjl⟩
      obtain ⟨x, hxw⟩ : ∃ x, ws[j]? = some x := ⟨_, List.getElem?_eq_getElem (by rw [hws.1]; exact hjl)⟩
      obtain ⟨q, rfl, hwq⟩ := hws.2 j x d hxw hd
      have e16 := e15.trans e6
      have hp6 := e16 _ _ hp
      have hT6 := hT.ext e16
      obtain ⟨dq, Tq, xq, hq, _, _⟩ := id (hwq.ext e16)
      obtain ⟨a1, a2, a3, a4⟩ := at_d hd
      obtain ⟨g1, g2, g3, g4⟩ := hg j d hd
      refine ⟨_, rfl, p, A.Race, dx, _, _, rfl, hp6, T.Race.cl, T.r_ways, rfl, _, rfl, T1, ws, (j : Int), .ref q, rfl, rfl, hT6, atI_nat hxw, q, A.Way, dq, _, _, rfl, hq, T.Way.cl, T.w_most, rfl, _, rfl, p, A.Race, dx, _, _, rfl, hp6, T.Race.cl, T.r_ways, rfl, _, rfl, T1, ws, (j : Int), .ref q, rfl, rfl, hT6, atI_nat hxw, q, A.Way, dq, _, _, rfl, hq, T.Way.cl, T.w_least, rfl, _, _, rfl, rfl, _, _, rfl, rfl, ?_⟩
      have hw : d.2.2 - d.2.1 + 1 = wid ds j := by
        unfold wid
        rw [a3, a4]
      refine ⟨by show 1 ≤ sizeLine; decide, fun p5 hp5 => ?_⟩
      have e7 := Ext.upd (o := .lst [.int 0]) hp5
      refine ⟨_, rfl, _, rfl, _, rfl, C, _, rfl, SqL.of (e7 _ _ hC), fun p6 hp6' => ?_⟩
      have e8 := Ext.upd (o := .lst (cutV (cs.map V.int) none (some (-1)))) hp6'
      refine ⟨p5, p6, _, _, rfl, rfl, e8 _ _ upd_same, upd_same, small_sz' ?_, fun Ah hAh => ?_⟩
      · have := cutV_length (cs.map V.int) none (some (-1))
        rw [List.length_map] at this
        show 1 + _ ≤ 1000
        omega
      · have e9 := Ext.upd (o := .lst ([V.int 0] ++ cutV (cs.map V.int) none (some (-1)))) hAh
        have hA : (upd (upd (upd H6 p5 (.lst [.int 0])) p6 (.lst (cutV (cs.map V.int) none (some (-1))))) Ah (.lst ([V.int 0] ++ cutV (cs.map V.int) none (some (-1))))) Ah = some (.lst ((0 :: cs.dropLast).map V.int)) := by
          rw [upd_same, cut_last, ← List.map_dropLast]
          rfl
        have e79 := (e7.trans e8).trans e9
        generalize upd (upd (upd H6 p5 (.lst [.int 0])) p6 (.lst (cutV (cs.map V.int) none (some (-1))))) Ah (.lst ([V.int 0] ++ cutV (cs.map V.int) none (some (-1)))) = H9 at e79 hA ⊢
        have hC9 := e79 _ _ hC
        refine ⟨_, rfl, _, rfl, C, Ah, _, _, rfl, .inl ⟨SqL.of hC9, SqL.of hA, fun D hD => ?_⟩⟩
        have hn : (stepC (wid ds j) cs).length = min (cs.map V.int).length ((0 :: cs.dropLast).map V.int).length := by
          unfold stepC
          rw [List.length_map, List.length_map, List.length_zipWith]
        refine lc_it (walk_zip (K := K) (a := C) (b := Ah) (xs := cs.map V.int) (ys := (0 :: cs.dropLast).map V.int) hn) (fun i H' => Ext H9 H' ∧ H' D = some (.lst (((stepC (wid ds j) cs).take i).map V.int))) ⟨Ext.upd hD, upd_same⟩ (fun i H' _ pv => ⟨SqL.of (pv.1 _ _ hC9), SqL.of (pv.1 _ _ hA)⟩) (fun i v H' H'' hi pv y => ?_) (fun H' pv => ?_)
        · obtain ⟨e10, hD10⟩ := pv
          obtain ⟨T, x, y, rfl, hT, rfl, h1, h2⟩ := y
          dsimp only at h1 h2
          rw [List.getElem?_map] at h1 h2
          obtain ⟨a, ha, rfl⟩ := Option.map_eq_some_iff.mp h1
          obtain ⟨b, hb, rfl⟩ := Option.map_eq_some_iff.mp h2
          have eT := Ext.upd (o := .tup [V.int a, .int b]) hT
          have hs : (stepC (wid ds j) cs)[i]? = some (a * wid ds j * wid ds j + b) := by
            unfold stepC
            rw [List.getElem?_zipWith, ha, hb]
          have g4' : d.2.2 ≤ 10 := g4
          refine ⟨T, _, rfl, SqT.of upd_same, rfl, _, _, rfl, _, _, rfl, rfl, rfl, _, rfl, _, rfl, _, _, rfl, rfl, .inr ⟨?_, ?_⟩, _, rfl, _, _, rfl, rfl, .inr ⟨?_, ?_⟩, _, rfl, _, _, rfl, rfl, _, eT _ _ hD10, small_sz ?_, ext_mut (e10.trans eT) hD, ?_⟩
          · show -(2 ^ 64) < d.2.2 - d.2.1 + 1
            omega
          · show d.2.2 - d.2.1 + 1 < 2 ^ 64
            omega
          · show -(2 ^ 64) < d.2.2 - d.2.1 + 1
            omega
          · show d.2.2 - d.2.1 + 1 < 2 ^ 64
            omega
          · rw [List.length_map, List.length_take]
            have := stepC_len (c := wid ds j) (cs := cs)
            omega
          · rw [upd_same, take_snoc hs, List.map_append, ← hw]
            rfl
        · obtain ⟨e10, hD10⟩ := pv
          rw [List.take_length] at hD10
          refine ⟨(e6.trans e79).trans e10, D, _, _, _, _, rfl, hD10, Nat.le_trans stepC_len hcl, ?_⟩
          rw [take_snoc hj, List.foldl_append, hcs]
          rfl
    · obtain ⟨e6, C, cs, o2, o3, o4, rfl, hC, hcl, hcs⟩ := pv
      rw [List.length_map, List.take_length, cts_plan hf] at hcs
      refine ⟨_, rfl, C, cs, rfl, SqL.of hC, ?_⟩
      rw [hcs, sum_cts]
      exact k _ (e15.trans e6)
end
end K18

set_option Elab.async false
set_option maxRecDepth 100000
set_option maxHeartbeats 4000000
namespace K18
open PySem PySem.Spec PyProof.Rows L2
abbrev s_outcomes : Stmt := top 37
abbrev nm_outcomes : List Str := ["race", "wins", "low", "high", "moment", "way", "first", "last", "win"]
abbrev pm_outcomes : List Str := ["race"]
theorem sc_outcomes : GScope nm_outcomes pm_outcomes (defScope s_outcomes) := ⟨rfl, rfl, rfl, by decide +kernel, rfl, by decide +kernel, by decide +kernel⟩

theorem moms_facts {ds : List Wd} {z : Int} {w : Nat} : (moms ds z w).Nodup ∧ (moms ds z w).Pairwise (· ≤ ·) ∧ ∀ x, x ∈ moms ds z w ↔ can ds z w x = true := by
  unfold moms
  cases h : has ds w with
  | false =>
    rw [if_neg (by decide)]
    refine ⟨List.nodup_nil, List.Pairwise.nil, fun x => ⟨(fun h => nomatch h), fun hc => ?_⟩⟩
    rw [can_no h] at hc
    cases hc
  | true =>
    rw [if_pos rfl]
    refine ⟨?_, ?_, fun x => ?_⟩
    · rw [List.nodup_iff_pairwise_ne, List.pairwise_map]
      exact (List.nodup_range.filter _).imp fun h e => h (by omega)
    · rw [List.pairwise_map]
      exact (List.pairwise_lt_range.filter _).imp fun h => by omega
    · rw [List.mem_map]
      constructor
      · rintro ⟨m, hm, rfl⟩
        exact (List.mem_filter.mp hm).2
      · intro hc
        obtain ⟨h1, ⟨h2, h3⟩, h4⟩ := can_iff.mp hc
        refine ⟨(x - opn ds w).toNat, List.mem_filter.mpr ⟨List.mem_range.mpr (by omega), ?_⟩, by omega⟩
        rw [Int.toNat_of_nonneg (by omega), show opn ds w + (x - opn ds w) = x by omega]
        exact hc
def wnL (ds : List Wd) (z : Int) : List Wn := (wins ds z).map fun w => (w, opn ds w, ((moms ds z w).getLast?).getD 0)
theorem mem_wins {ds : List Wd} {z : Int} {w : Nat} : w ∈ wins ds z ↔ ∃ L, (moms ds z w).getLast? = some L ∧ w < ds.length := by
  unfold wins
  rw [List.mem_filter, List.mem_range, Option.isSome_iff_exists]
  exact ⟨fun ⟨a, L, b⟩ => ⟨L, b, a⟩, fun ⟨L, b, a⟩ => ⟨a, L, b⟩⟩
theorem last_can {ds : List Wd} {z : Int} {w : Nat} {L : Int} (h : (moms ds z w).getLast? = some L) : can ds z w L = true := (moms_facts.2.2 L).mp (List.mem_of_getLast? h)
theorem last_max {ds : List Wd} {z : Int} {w : Nat} {L t : Int} (h : (moms ds z w).getLast? = some L) (hc : can ds z w t = true) : t ≤ L := by
  obtain ⟨_, hs, hm⟩ := moms_facts (ds := ds) (z := z) (w := w)
  have ht := (hm t).mpr hc
  obtain ⟨ys, e⟩ := List.getLast?_eq_some_iff.mp h
  rw [e] at ht hs
  rcases List.mem_append.mp ht with h' | h'
  · exact (List.pairwise_append.mp hs).2.2 t h' L (by simp)
  · rw [List.mem_singleton.mp h']
    exact Int.le_refl _
theorem can_ocs {ds : List Wd} {z : Int} {w : Nat} {t : Int} : (t, w) ∈ ocs (wnL ds z) ↔ can ds z w t = true := by
  rw [mem_ocs]
  unfold wnL
  constructor
  · rintro ⟨q, hq, rfl, h1, h2⟩
    obtain ⟨v, hv, rfl⟩ := List.mem_map.mp hq
    obtain ⟨L, hL, _⟩ := mem_wins.mp hv
    dsimp only at h1 h2 ⊢
    rw [hL] at h2
    exact can_mono (last_can hL) h1 h2
  · intro hc
    have hm := (moms_facts (ds := ds) (z := z) (w := w)).2.2 t |>.mpr hc
    cases hL : (moms ds z w).getLast? with
    | none =>
      rw [List.getLast?_eq_none_iff] at hL
      rw [hL] at hm
      cases hm
    | some L =>
      have hh := can_iff.mp hc
      refine ⟨_, List.mem_map.mpr ⟨w, mem_wins.mpr ⟨L, hL, has_lt hh.1⟩, rfl⟩, rfl, hh.2.1.1, ?_⟩
      dsimp only
      rw [hL]
      exact last_max hL hc
theorem wnL_len {ds : List Wd} {z : Int} : (wnL ds z).length ≤ ds.length := by
  unfold wnL wins
  rw [List.length_map]
  refine Nat.le_trans (List.length_filter_le _ _) ?_
  rw [List.length_range]
  exact Nat.le_refl _
theorem wn_small {ds : List Wd} {z : Int} (g : Gds ds) {q : Wn} (h : q ∈ wnL ds z) : 0 ≤ q.2.1 ∧ q.2.1 ≤ 24 ∧ 0 ≤ q.2.2 ∧ q.2.2 ≤ 24 := by
  obtain ⟨v, hv, rfl⟩ := List.mem_map.mp h
  obtain ⟨L, hL, _⟩ := mem_wins.mp hv
  have hc := can_iff.mp (last_can hL)
  obtain ⟨a, b, c⟩ := gds_sm g hc.1
  dsimp only
  rw [hL]
  show 0 ≤ opn ds v ∧ opn ds v ≤ 24 ∧ 0 ≤ L ∧ L ≤ 24
  omega
theorem lohi {ds : List Wd} {z : Int} (g : Gds ds) : 0 ≤ loW (wnL ds z) ∧ loW (wnL ds z) ≤ 24 ∧ -1 ≤ hiW (wnL ds z) ∧ hiW (wnL ds z) ≤ 24 := by
  cases hW : wnL ds z with
  | nil => exact ⟨by decide, by decide, by decide, by decide⟩
  | cons q l =>
    have hne : wnL ds z ≠ [] := by rw [hW]; exact fun z => nomatch z
    rw [← hW]
    obtain ⟨a, ha, ea⟩ := List.mem_map.mp (mnD_mem (d := 0) (ns := (wnL ds z).map fun q => q.2.1) (fun z => hne (List.map_eq_nil_iff.mp z))).1
    obtain ⟨b, hb, eb⟩ := List.mem_map.mp (mxD_mem (d := -1) (ns := (wnL ds z).map fun q => q.2.2) (fun z => hne (List.map_eq_nil_iff.mp z))).1
    have h1 := wn_small g ha
    have h2 := wn_small g hb
    have e1 : loW (wnL ds z) = a.2.1 := ea.symm
    have e2 : hiW (wnL ds z) = b.2.2 := eb.symm
    omega
def WnAt (H : Hp) (v : V) (q : Wn) : Prop := ∃ t, v = .ref t ∧ H t = some (.tup [nI q.1, .int q.2.1, .int q.2.2])
theorem WnAt.k {H H' : Hp} (e : KT H H') (v : V) (q : Wn) (h : WnAt H v q) : WnAt H' v q := by
  obtain ⟨t, h1, h2⟩ := h
  exact ⟨t, h1, e _ _ h2⟩
theorem ocN_len (W : List Wn) (lo : Int) : ∀ n, (ocN W lo n).length ≤ n * W.length
  | 0 => Nat.zero_le _
  | n + 1 => by
    rw [ocN_succ, List.length_append, List.length_map, Nat.succ_mul]
    exact Nat.add_le_add (ocN_len W lo n) (List.length_filter_le _ _)
def CwE (A : Ad) (E : XK) (H : Hp) (v : V) : Prop := ∀ H', Ext H H' → ∀ e, H' e = none → E (.ref A.CannotWin) (some e) (upd H' e (.xd [("way", v)]))
section
variable {P : Program} {w : World} {K : PySem.W.Frag} {mg : Str → Option Value} {base : Heap} {A : Ad}
theorem ok_xc {f : Addr} {fd : FuncData} (F : Fun K "__init__" "CannotWin.__init__" s_CannotWin_init f fd) (T : Txt K mg A) : FnOk P w K mg base CX0 1 f fd ["self", "way"] (spXI A.CannotWin "way") := by
  refine F.ok sc_CannotWin_init (fun vs H Q E h => ?_) (fun cdv A' outer s H vs Q E hr h => ?_)
  · obtain ⟨a, y, rfl, _⟩ := h
    rfl
  · obtain ⟨a, y, rfl, ha, q⟩ := h
    refine ⟨_, pss_one (ps_ost (pv 0) (pv 1)), ?_⟩
    exact ⟨_, rfl, _, rfl, a, A.CannotWin, rfl, T.CannotWin.ox, T.CannotWin.noA, .inl ⟨ha, fun dx h1 h2 => q dx h1 h2⟩⟩
def spCheckWin (K : PySem.W.Frag) (A : Ad) : Sp := fun vs H Q E => ∃ (p : Addr) (ds : List Wd) (z : Int) (w : Nat) (t : Int), vs = [.ref p, nI w, .int t] ∧ RaceD K A H p ds z ∧ ds.length ≤ 1000 ∧ w < ds.length ∧ (can ds z w t = false → CwE A E H (nI w)) ∧ (can ds z w t = true → ∀ H', Ext H H' → Q .non H')
theorem ok_checkWin {f : Addr} {fd : FuncData} (F : Fun K "check_win" "check_win" s_check_win f fd) (T : Txt K mg A) (O_Race_can_win : OwnM P w K mg base (L2.CX P w) A.Race "can_win" 8 pm_Race_can_win (spCan K A)) (X_CannotWin : XCls P w K mg base "CannotWin" "way" A.CannotWin) : FnOk P w K mg base (L2.CX P w) 9 f fd pm_check_win (spCheckWin K A) := by
  refine F.okX sc_check_win (fun vs H Q E h => ?_) (fun cdv A' outer s H vs Q E hr h => ?_)
  · obtain ⟨_, _, _, _, _, rfl, _⟩ := h
    rfl
  · obtain ⟨p, ds, z, w, t, rfl, hR, hsm, hw, qE, qQ⟩ := h
    refine ⟨_, pss_one (ps_if (pt_not (pt_val (pe_ownM O_Race_can_win (pv 0) T.Race.cl (hr.mono (by decide)) passL (pa_cons (pv 1) (pa_cons (pv 2) pa_nil))))) (pss_one (ps_raise rfl (takes_of rfl rfl rfl rfl) (pmk_X X_CannotWin (hr.mono (by decide)) (pv 1) rfl))) (pss_nil)), ?_⟩
    obtain ⟨dx, T1, ws, hp, hT, hws⟩ := id hR
    refine ⟨_, rfl, p, dx, _, rfl, hp, rfl, _, rfl, _, rfl, p, ds, z, _, .int (w : Int), t, rfl, hR, hsm, .int _, (fun h => by rw [bet_in hw] at h; cases h), fun w' hw' _ H1 e1 => ⟨_, rfl, ?_⟩⟩
    obtain rfl : w = w' := by injection hw' with hw'; omega
    cases hc : can ds z w t with
    | true => exact iteF (qQ hc _ e1)
    | false => exact iteT ⟨_, rfl, mkX_fin fun e he => qE hc _ e1 e he⟩
def spSilent (K : PySem.W.Frag) (A : Ad) : Sp := fun vs H Q E => ∃ (p : Addr) (ds : List Wd) (z : Int) (w : Nat) (t : Int), vs = [.ref p, nI w, .int t] ∧ RaceD K A H p ds z ∧ ds.length ≤ 1000 ∧ w < ds.length ∧ (can ds z w t = false → CwE A E H (nI w)) ∧
  (can ds z w t = true → ∀ T a b H', Ext H H' → H' T = some (.tup [.ref a, .ref b]) → H' a = some (.tup ((hurs ds w t).map nI)) → H' b = some (.tup ((after ds z w t).map nI)) → Q (.ref T) H')
theorem ok_silent {f : Addr} {fd : FuncData} (F : Fun K "silent_after" "silent_after" s_silent_after f fd) (T : Txt K mg A) (O_check_win : Own P w K mg base (L2.CX P w) "check_win" 9 pm_check_win (spCheckWin K A)) (O_Race_hurried : OwnM P w K mg base (L2.CX P w) A.Race "hurried" 7 pm_Race_hurried (spHur K A)) (O_Race_planned : OwnM P w K mg base CX0 A.Race "planned" 2 pm_Race_planned (spPlanned K A)) :
    FnOk P w K mg base (L2.CX P w) 10 f fd pm_silent_after (spSilent K A) := by
  refine F.okX sc_silent_after (fun vs H Q E h => ?_) (fun cdv A' outer s H vs Q E hr h => ?_)
  · obtain ⟨_, _, _, _, _, rfl, _⟩ := h
    rfl
  · obtain ⟨p, ds, z, w, t, rfl, hR, hsm, hw, qE, qQ⟩ := h
    refine ⟨_, pss_cons (ps_expr (pe_ownS O_check_win (hr.mono (by decide)) (takes_of rfl rfl rfl rfl) (pa_cons (pv 0) (pa_cons (pv 1) (pa_cons (pv 2) pa_nil)))))
      (pss_cons (ps_set (i := 3) sc_silent_after.nd rfl (Or.inl rfl) (pe_ownM O_Race_hurried (pv 0) T.Race.cl (hr.mono (by decide)) passL (pa_cons (pv 1) (pa_cons (pv 2) pa_nil))))
      (pss_cons (ps_if (pt_cmpR op_eq (pe_callB call_len_seq (by rfl) T.n_len (by decide +kernel) (pa_cons (pv 3) pa_nil)) (pe_fld (pv 0) rfl) (nomark _)) (pss_one (ps_ret (pe_tup (pa_cons (pv 3) (pa_cons (pv 3) pa_nil))))) (pss_nil))
      (pss_one (ps_ret (pe_tup (pa_cons (pv 3) (pa_cons (pe_callTy call_tuple_of (by rfl) T.n_tuple (by decide +kernel) (pa_cons (pe_lc (own := [("other", 4)]) (g := gName 4) (by rfl) sc_silent_after.nd (pi_tup (pe_ownM0 O_Race_planned (pv 0) T.Race.cl (hr.mono (by decide)) pass0)) (blkOk_by (own := [("other", 4)]) (N := nm_silent_after) (sc := defScope s_silent_after) (by decide +kernel)) (fun _ _ _ _ _ => pg_name (i := 4) sc_silent_after.nd rfl (Or.inl rfl)) (fun s1 H1 C1 cl fp => pts_one (pt_cmpR op_ne (pv 4) (pv 1) (nomark _))) (fun s1 H1 C1 cl fp => pv 4)) pa_nil)) pa_nil))))))), ?_⟩
    refine ⟨_, rfl, _, rfl, _, rfl, p, ds, z, w, t, rfl, hR, hsm, hw, qE, fun hc H1 e1 => ?_⟩
    have hR1 := hR.ext e1
    obtain ⟨dx, T1, ws, hp, hT, hws⟩ := id hR1
    refine ⟨_, rfl, p, dx, _, rfl, hp, rfl, _, rfl, _, rfl, p, ds, z, _, .int (w : Int), t, rfl, hR1, hsm, .int _, (fun h => by rw [bet_in hw] at h; cases h), fun w' hw' _ tq H2 e2 htq => ?_⟩
    obtain rfl : w = w' := by injection hw' with hw'; omega
    have hp2 := e2 _ _ hp
    refine ⟨_, rfl, tq, _, rfl, .inr (SqT.of htq), _, rfl, p, A.Race, dx, _, _, rfl, hp2, T.Race.cl, T.r_silent, rfl, rfl, _, rfl, ?_⟩
    rw [List.length_map, dvi]
    have q := qQ hc
    unfold after at q
    by_cases hz : ((hurs ds w t).length : Int) = z
    · rw [decide_eq_true hz]
      rw [if_pos hz] at q
      refine iteT ⟨_, rfl, _, rfl, by show 2 ≤ sizeLine; decide, fun T3 hT3 => ?_⟩
      have e3 := Ext.upd (o := .tup [V.ref tq, .ref tq]) hT3
      exact q T3 tq tq _ ((e1.trans e2).trans e3) upd_same (e3 _ _ htq) (e3 _ _ htq)
    · rw [decide_eq_false hz]
      rw [if_neg hz] at q
      refine iteF ⟨_, rfl, _, rfl, p, dx, _, rfl, hp2, rfl, p, ds, z, rfl, hR1.ext e2, hsm, fun tp H3 e3 htp => ⟨tp, rfl, ⟨_, SqT.of htp⟩, fun D hD => ?_⟩⟩
      rw [pl_plan] at htp
      refine lc_it (walk_tup (xs := (plan ds).map nI)) (fun i H' => Ext H3 H' ∧ H' D = some (.lst ((((plan ds).take i).filter fun j => decide (j ≠ w)).map nI))) ⟨Ext.upd hD, upd_same⟩ (fun i H' _ pv => SqT.of (pv.1 _ _ htp)) (fun i x H' H4 hi pv hy => ?_) (fun H' pv => ?_)
      · obtain ⟨e4, hD4⟩ := pv
        obtain ⟨rfl, hx⟩ := hy
        rw [List.getElem?_map] at hx
        obtain ⟨j, hj, rfl⟩ := Option.map_eq_some_iff.mp hx
        refine ⟨rfl, _, rfl, _, rfl, rfl, _, rfl, ?_⟩
        rw [show (!decide (nI j = nI w)) = decide (j ≠ w) by unfold nI; rw [dvi, ← decide_not]; exact decide_eq_decide.mpr ⟨fun q e => q (by omega), fun q e => q (by omega)⟩]
        rw [take_snoc hj, List.filter_append, List.map_append]
        by_cases hjw : j = w
        · rw [decide_eq_false (fun q => q hjw)]
          refine iteF ⟨e4, ?_⟩
          rw [show [j].filter (fun j => decide (j ≠ w)) = [] by simp [hjw], List.map_nil, List.append_nil]
          exact hD4
        · rw [decide_eq_true hjw]
          refine iteT ⟨_, rfl, _, hD4, small_sz ?_, ext_mut e4 hD, ?_⟩
          · rw [List.length_map]
            refine Nat.le_trans (List.length_filter_le _ _) ?_
            rw [List.length_take]
            have := plan_len ds
            omega
          · rw [upd_same, show [j].filter (fun j => decide (j ≠ w)) = [j] by simp [hjw]]
            rfl
      · obtain ⟨e4, hD4⟩ := pv
        rw [List.length_map, List.take_length] at hD4
        refine ⟨D, _, rfl, .inl ⟨SqL.of hD4, fun T2 hT2 => ⟨by show 2 ≤ sizeLine; decide, fun T3 hT3 => ?_⟩⟩⟩
        have e5 := Ext.upd (o := .tup (((plan ds).filter fun j => decide (j ≠ w)).map nI)) hT2
        have e6 := Ext.upd (o := .tup [V.ref tq, .ref T2]) hT3
        exact q T3 tq T2 _ (((((e1.trans e2).trans e3).trans e4).trans e5).trans e6) upd_same (e6 _ _ (e5 _ _ (e4 _ _ (e3 _ _ htq)))) (e6 _ _ upd_same)
def spOutc (K : PySem.W.Frag) (A : Ad) : SpG := fun vs H Q _ => ∃ (p : Addr) (ds : List Wd) (z : Int), vs = [.ref p] ∧ RaceD K A H p ds z ∧ ds.length ≤ 4 ∧ Gds ds ∧ ∀ xs H', Ext H H' → Rel2 (PrAt H') xs (ocs (wnL ds z)) → Q xs H'
theorem ok_outc {f : Addr} {fd : FuncData} (F : Fun K "outcomes" "outcomes" s_outcomes f fd) (T : Txt K mg A) (O_Race_winners : OwnM P w K mg base CX0 A.Race "winners" 10 pm_Race_winners (spWins K A)) (O_Way_window : OwnM P w K mg base CX0 A.Way "window" 1 pm_Way_window (spWindow K A))
    (O_Race_last_win : OwnM P w K mg base (L2.CX P w) A.Race "last_win" 9 pm_Race_last_win (spLast K A)) : GFn P w K mg base 11 f fd pm_outcomes (spOutc K A) := by
  refine gfn_fun F sc_outcomes (fun vs H Q E h => ?_) (fun cdv A' outer s H vs Q E pn hr h => ?_)
  · obtain ⟨_, _, _, rfl, _⟩ := h
    rfl
  · obtain ⟨p, ds, z, rfl, hR, h4, hg, qQ⟩ := h
    refine ⟨_, gss_cons (gs_ps (ps_setLc (i := 1) (own := [("way", 5)]) (g := gName 5) (by rfl) sc_outcomes.nd rfl rfl (sw_true rfl rfl rfl (by decide +kernel)) (pi_tup (pe_ownM0 O_Race_winners (pv 0) T.Race.cl (hr.mono (by decide)) pass0)) (blkOk_by (own := [("way", 5)]) (N := nm_outcomes) (sc := defScope s_outcomes) (by decide +kernel)) (fun _ _ _ _ _ => pg_name (i := 5) sc_outcomes.nd rfl (Or.inl rfl)) (fun s1 H1 C1 cl fp => pts_nil) (fun s1 H1 C1 cl fp => pe_tup (pa_cons (pv 5) (pa_cons (pe_ix (ix_tupK (K := K) rfl) (pe_ownM0 O_Way_window (pe_ix (ix_tupK (K := K) rfl) (pe_fldK (K := K) rfl (pv 0) rfl) (pv 5) (fun _ _ => rfl)) T.Way.cl (hr.mono (by decide)) pass0) (pe_int) (fun _ _ => rfl)) (pa_cons (pe_ownM (O_Race_last_win) (pv 0) T.Race.cl (hr.mono (by decide)) passL (pa_cons (pv 5) pa_nil)) pa_nil))))))
      (gss_cons (gs_ps (ps_set (i := 2) sc_outcomes.nd rfl (Or.inl rfl) (pe_callBK (cr_minD rfl hr.units) (by rfl) T.n_min (by decide +kernel) (pa_cons (pe_lc (own := [("win", 8)]) (g := gName 8) (by rfl) sc_outcomes.nd (pi_list (pv 1)) (blkOk_by (own := [("win", 8)]) (N := nm_outcomes) (sc := defScope s_outcomes) (by decide +kernel)) (fun _ _ _ _ _ => pg_name (i := 8) sc_outcomes.nd rfl (Or.inl rfl)) (fun s1 H1 C1 cl fp => pts_nil) (fun s1 H1 C1 cl fp => pe_callTy call_int1 (by rfl) T.n_int (by decide +kernel) (pa_cons (pe_ix (ix_tupK (K := K) rfl) (pv 8) (pe_int) (fun _ _ => rfl)) pa_nil))) pa_nil) (pk_cons (pe_int) pk_nil))))
      (gss_cons (gs_ps (ps_set (i := 3) sc_outcomes.nd rfl (Or.inl rfl) (pe_callBK (cr_maxD rfl hr.units) (by rfl) T.n_max (by decide +kernel) (pa_cons (pe_lc (own := [("win", 8)]) (g := gName 8) (by rfl) sc_outcomes.nd (pi_list (pv 1)) (blkOk_by (own := [("win", 8)]) (N := nm_outcomes) (sc := defScope s_outcomes) (by decide +kernel)) (fun _ _ _ _ _ => pg_name (i := 8) sc_outcomes.nd rfl (Or.inl rfl)) (fun s1 H1 C1 cl fp => pts_nil) (fun s1 H1 C1 cl fp => pe_callTy call_int1 (by rfl) T.n_int (by decide +kernel) (pa_cons (pe_ix (ix_tupK (K := K) rfl) (pv 8) (pe_int) (fun _ _ => rfl)) pa_nil))) pa_nil) (pk_cons (pe_un un_neg (pe_int)) pk_nil))))
      (gss_cons (gs_for owns_gcx rfl (pi_range2 rfl T.n_range (pa_cons (pv 2) (pa_cons (pe_op op_add (pv 3) (pe_int)) pa_nil))) (pg_name (i := 4) sc_outcomes.nd rfl (Or.inl rfl)) (gss_cons (gs_for owns_gcx rfl (pi_list (pv 1)) (pg_tup rfl (pgs_cons (pg_name (i := 5) sc_outcomes.nd rfl (Or.inl rfl)) (pgs_cons (pg_name (i := 6) sc_outcomes.nd rfl (Or.inl rfl)) (pgs_cons (pg_name (i := 7) sc_outcomes.nd rfl (Or.inl rfl)) (pgs_nil))))) (gss_cons (gs_if (pt_chain op_le op_le (pv 6) (pv 4) (pv 7)) (gss_cons (gs_yield (pe_tup (pa_cons (pv 4) (pa_cons (pv 5) pa_nil))))
      (gss_nil)) (gss_nil))
      (gss_nil)))
      (gss_nil)))
      (gss_nil)))), ?_⟩
    obtain ⟨dx, T1, ws, hp, hT, hws⟩ := id hR
    have hsm : ds.length ≤ 1000 := by omega
    refine ⟨_, rfl, p, dx, _, rfl, hp, rfl, p, ds, z, rfl, hR, hsm, hg, fun q H1 e1 hq => ⟨q, rfl, ⟨_, SqT.of hq⟩, fun D hD => ?_⟩⟩
    have hR1 := hR.ext e1
    have hp1 := e1 _ _ hp
    refine lc_it (walk_tup (xs := (wins ds z).map nI)) (fun i H' => Ext H1 H' ∧ ∃ acc, H' D = some (.lst acc) ∧ Rel2 (WnAt H') acc (((wins ds z).take i).map fun w => (w, opn ds w, ((moms ds z w).getLast?).getD 0))) ⟨Ext.upd hD, [], upd_same, trivial⟩ (fun i H' _ pv => SqT.of (pv.1 _ _ hq)) (fun i x H' H2 hi pv hy => ?_) (fun H' pv => ?_)
    · obtain ⟨e2, acc, hacc, hrel⟩ := pv
      obtain ⟨rfl, hx⟩ := hy
      rw [List.getElem?_map] at hx
      obtain ⟨j, hj, rfl⟩ := Option.map_eq_some_iff.mp hx
      obtain ⟨L, hL, hjn⟩ := mem_wins.mp (List.mem_of_getElem? hj)
      have hh := (can_iff.mp (last_can hL)).1
      obtain ⟨dx', T1', ws', q', dq, fs, dj, hp', hT', hx', hqi, hq', hl, hlk, a1, a2⟩ := way_at (hR1.ext e2) hjn
      refine ⟨rfl, _, rfl, _, rfl, p, A.Race, dx', _, _, rfl, hp', T.Race.cl, T.r_ways, rfl, _, rfl, T1', ws', (j : Int), .ref q', rfl, rfl, hT', atI_nat hx', q', dq, _, rfl, hqi, hlk, q', dj.1, dj.2.1, dj.2.2, [], rfl, hq', (fun hn => by rw [a1, hn] at hh; cases hh), fun n hn tw H3 e3 htw => ⟨tw, _, 0, .int (n + 2 * dj.2.1), rfl, rfl, SqT.of htw, rfl, ?_⟩⟩
      obtain ⟨o1, o2⟩ := a2 n hn
      rw [o1]
      have hR3 := (hR1.ext e2).ext e3
      refine ⟨_, rfl, p, dx', _, rfl, e3 _ _ hp', rfl, _, rfl, p, ds, z, _, .int (j : Int), rfl, hR3, hsm, hg, .int _, (fun h => by rw [bet_in hjn] at h; cases h), fun w' hw' _ H4 e4 => ?_⟩
      obtain rfl : j = w' := by injection hw' with hw'; omega
      rw [hL]
      refine ⟨by show 3 ≤ sizeLine; decide, fun t ht => ?_⟩
      have e5 := Ext.upd (o := .tup [nI j, .int (opn ds j), bV (some L)]) ht
      have e35 := (e3.trans e4).trans e5
      have ha5 := e35 _ _ hacc
      have kt := kt_set (ys := acc ++ [.ref t]) ha5
      refine ⟨acc, ha5, small_sz ?_, ext_mut (e2.trans e35) hD, acc ++ [.ref t], upd_same, ?_⟩
      · rw [hrel.len, List.length_map, List.length_take]
        have := wnL_len (ds := ds) (z := z)
        unfold wnL at this
        rw [List.length_map] at this
        omega
      · rw [take_snoc hj, List.map_append]
        refine Rel2.cat (hrel.to (WnAt.k ((Ext.kt e35).trans kt))) (Rel2.one ⟨t, rfl, kt _ _ ?_⟩)
        dsimp only
        rw [hL]
        exact upd_same
    · obtain ⟨e2, acc, hacc, hrel⟩ := pv
      rw [List.length_map, List.take_length] at hrel
      have hrel' : Rel2 (WnAt H') acc (wnL ds z) := hrel
      clear hrel
      have e02 := e1.trans e2
      have hlW := wnL_len (ds := ds) (z := z)
      have hal := hrel'.len
      obtain ⟨g1, g2, g3, g4⟩ := lohi (z := z) hg
      have hsmall : ∀ q ∈ wnL ds z, 0 ≤ q.2.1 ∧ q.2.1 ≤ 24 ∧ 0 ≤ q.2.2 ∧ q.2.2 ≤ 24 := fun q hq => wn_small hg hq
      unfold loW at g1 g2
      unfold hiW at g3 g4
      have fin1 : ∀ xs H', Ext H H' → Rel2 (PrAt H') xs (ocs (wnL ds z)) → Q xs H' := qQ
      unfold ocs loW hiW at fin1
      generalize wnL ds z = W at hrel' hlW hal g1 g2 g3 g4 hsmall fin1
      refine ⟨_, rfl, D, rfl, ⟨_, SqL.of hacc⟩, fun D2 hD2 => ?_⟩
      refine lc_list (xs := acc) (fun i H3 => Ext H' H3 ∧ H3 D2 = some (.lst ((((W.take i).map fun q => q.2.1)).map V.int))) ⟨Ext.upd hD2, upd_same⟩ (fun i H3 _ pv => SqL.of (pv.1 _ _ hacc)) (fun i x H3 hx pv => ?_) (fun H3 pv => ?_)
      · obtain ⟨e3, h2⟩ := pv
        obtain ⟨qn, hqn, t, rfl, ht⟩ := hrel'.get hx
        refine ⟨rfl, _, rfl, t, _, 1, .int qn.2.1, rfl, rfl, SqT.of (e3 _ _ ht), rfl, .inl ⟨_, rfl, _, h2, small_sz ?_, ext_mut e3 hD2, ?_⟩⟩
        · rw [List.length_map, List.length_map, List.length_take]
          omega
        · rw [upd_same, take_snoc hqn, List.map_append, List.map_append]
          rfl
      · obtain ⟨e3, h2⟩ := pv
        rw [hal, List.take_length] at h2
        refine ⟨D2, W.map (fun q => q.2.1), 0, rfl, rfl, SqL.of h2, ?_⟩
        refine ⟨_, rfl, D, rfl, ⟨_, SqL.of (e3 _ _ hacc)⟩, fun D3 hD3 => ?_⟩
        refine lc_list (xs := acc) (fun i H4 => Ext H3 H4 ∧ H4 D3 = some (.lst ((((W.take i).map fun q => q.2.2)).map V.int))) ⟨Ext.upd hD3, upd_same⟩ (fun i H4 _ pv => SqL.of (pv.1 _ _ (e3 _ _ hacc))) (fun i x H4 hx pv => ?_) (fun H4 pv => ?_)
        · obtain ⟨e4, h3⟩ := pv
          obtain ⟨qn, hqn, t, rfl, ht⟩ := hrel'.get hx
          refine ⟨rfl, _, rfl, t, _, 2, .int qn.2.2, rfl, rfl, SqT.of (e4 _ _ (e3 _ _ ht)), rfl, .inl ⟨_, rfl, _, h3, small_sz ?_, ext_mut e4 hD3, ?_⟩⟩
          · rw [List.length_map, List.length_map, List.length_take]
            omega
          · rw [upd_same, take_snoc hqn, List.map_append, List.map_append]
            rfl
        · obtain ⟨e4, h3⟩ := pv
          rw [hal, List.take_length] at h3
          refine ⟨1, rfl, D3, W.map (fun q => q.2.2), -1, rfl, rfl, SqL.of h3, ?_⟩
          generalize mnD 0 (W.map fun q => q.2.1) = lo at g1 g2 fin1 ⊢
          generalize mxD (-1) (W.map fun q => q.2.2) = hi at g3 g4 fin1 ⊢
          have e34 := e3.trans e4
          have hacc4 := e34 _ _ hacc
          have hrel4 := hrel'.to (WnAt.k (Ext.kt e34))
          refine ⟨_, rfl, _, rfl, _, _, rfl, rfl, lo, hi + 1, rfl, ⟨by omega, by omega, by omega, by omega⟩, ?_⟩
          refine gfor_range (fun i ys σ' H' => Ext H4 H' ∧ Rel2 (PrAt H') ys (ocN W lo i) ∧ ∃ o4 o5 o6 o7, σ' = [some (.ref p), some (.ref D), some (.int lo), some (.int hi), o4, o5, o6, o7, none]) ⟨Ext.rfl', trivial, _, _, _, _, rfl⟩ (fun i ys σ' H5 hi' pv => ?_) (fun ys σ' H5 pv => ?_)
          · obtain ⟨e5, hy5, o4, o5, o6, o7, rfl⟩ := pv
            refine ⟨_, rfl, D, rfl, ⟨_, SqL.of (e5 _ _ hacc4)⟩, ?_⟩
            refine gfor_list (xs := acc) (fun j ys σ' H' => Ext H5 H' ∧ Rel2 (PrAt H') ys (ocN W lo i ++ ((W.take j).filter (hit (lo + (i : Int)))).map fun q => (lo + (i : Int), q.1)) ∧ ∃ o5 o6 o7, σ' = [some (.ref p), some (.ref D), some (.int lo), some (.int hi), some (.int (lo + (i : Int))), o5, o6, o7, none]) ⟨Ext.rfl', by simpa using hy5, _, _, _, rfl⟩ (fun j ys σ' H' _ pv => SqL.of (pv.1 _ _ (e5 _ _ hacc4))) (fun j x ys σ' H6 hx pv => ?_) (fun ys σ' H6 pv => ?_)
            · obtain ⟨e6, hy6, o5, o6, o7, rfl⟩ := pv
              obtain ⟨qn, hqn, t, rfl, ht⟩ := hrel4.get hx
              have hyl : ys.length ≤ 1000 := by
                rw [hy6.len, List.length_append, List.length_map]
                have h1 := ocN_len W lo i
                have h2 := List.length_filter_le (hit (lo + (i : Int))) (W.take j)
                rw [List.length_take] at h2
                have h3 : i * W.length ≤ 26 * 4 := Nat.mul_le_mul (by omega) (by omega)
                omega
              refine ⟨t, _, rfl, SqT.of (e6 _ _ (e5 _ _ ht)), rfl, _, _, rfl, _, _, rfl, _, _, rfl, rfl, ?_⟩
              rw [take_snoc hqn, List.filter_append, List.map_append, ← List.append_assoc]
              have keep : hit (lo + (i : Int)) qn = false → ∃ o5 o6 o7, Ext H5 H6 ∧ Rel2 (PrAt H6) ys (ocN W lo i ++ ((W.take j).filter (hit (lo + (i : Int)))).map (fun q => (lo + (i : Int), q.1)) ++ ([qn].filter (hit (lo + (i : Int)))).map fun q => (lo + (i : Int), q.1)) ∧ [some (.ref p), some (.ref D), some (.int lo), some (.int hi), some (.int (lo + (i : Int))), some (nI qn.1), some (.int qn.2.1), some (.int qn.2.2), none] = [some (.ref p), some (.ref D), some (.int lo), some (.int hi), some (.int (lo + (i : Int))), o5, o6, o7, (none : Option V)] := fun h => by
                refine ⟨_, _, _, e6, ?_, rfl⟩
                rw [show [qn].filter (hit (lo + (i : Int))) = [] by simp [h], List.map_nil, List.append_nil]
                exact hy6
              refine ⟨_, rfl, _, rfl, _, _, rfl, rfl, _, rfl, ?_⟩
              cases h1 : decide (qn.2.1 ≤ lo + (i : Int)) with
              | false => exact iteF ⟨_, rfl, iteF (by obtain ⟨a5, a6, a7, x1, x2, x3⟩ := keep (by unfold hit; rw [h1]; rfl); exact ⟨x1, x2, a5, a6, a7, x3⟩)⟩
              | true =>
                refine iteT ⟨_, rfl, _, _, rfl, rfl, _, rfl, ?_⟩
                cases h2 : decide (lo + (i : Int) ≤ qn.2.2) with
                | false => exact iteF (by obtain ⟨a5, a6, a7, x1, x2, x3⟩ := keep (by unfold hit; rw [h1, h2]; rfl); exact ⟨x1, x2, a5, a6, a7, x3⟩)
                | true =>
                  refine iteT ⟨small_sz (by omega), _, rfl, _, rfl, by show 2 ≤ sizeLine; decide, fun t2 ht2 => ?_⟩
                  have e7 := Ext.upd (o := .tup [.int (lo + (i : Int)), nI qn.1]) ht2
                  refine ⟨e6.trans e7, ?_, _, _, _, rfl⟩
                  rw [show [qn].filter (hit (lo + (i : Int))) = [qn] by simp [hit, h1, h2]]
                  exact Rel2.cat (hy6.to (PrAt.k (Ext.kt e7))) (Rel2.one ⟨t2, rfl, upd_same⟩)
            · obtain ⟨e6, hy6, o5, o6, o7, rfl⟩ := pv
              rw [hal, List.take_length, ← ocN_succ] at hy6
              exact ⟨e5.trans e6, hy6, _, _, _, _, rfl⟩
          · obtain ⟨e5, hy5, o4, o5, o6, o7, rfl⟩ := pv
            exact fin1 _ _ ((e02.trans e34).trans e5) hy5
end
end K18

set_option Elab.async false
set_option linter.all false
/-! all, any within comprehensions: the kit's own part named -/
namespace L2
open PySem PySem.Spec PyProof.Rows
section
variable {X : Cx} {K : PySem.W.Frag}
theorem cr_allK (h : X.K = K) (hc : X.calm = true) : CallR X (.builtin "all") (rAll K) := by
  subst h
  exact cr_all hc
theorem cr_anyK (h : X.K = K) (hc : X.calm = true) : CallR X (.builtin "any") (rAny K) := by
  subst h
  exact cr_any hc
end
end L2

set_option Elab.async false
set_option maxRecDepth 100000
set_option maxHeartbeats 4000000
namespace K18
open PySem PySem.Spec PyProof.Rows L2
theorem eq_rV (o : Option (Nat × Int)) (w : Nat) (t : Int) : PyData.eqvAll ((rV o).map pd) (([.int (w : Int), .int t] : List V).map pd) = decide (o = some (w, t)) := by
  cases o with
  | none => rfl
  | some p =>
    obtain ⟨k, m⟩ := p
    show (((k : Int) == (w : Int)) && ((m == t) && true)) = _
    rw [Bool.eq_iff_iff]
    simp
    intro _
    omega
theorem cut_rV {o : Option (Nat × Int)} {u : Addr} : cutV (rV o ++ [V.ref u]) none (some 2) = rV o := by
  cases o with
  | none => rfl
  | some p => rfl
theorem fl_rV (o : Option (Nat × Int)) : ∀ v ∈ rV o, Fl v := by
  cases o with
  | none =>
    intro v hv
    simp only [rV, List.mem_cons, List.not_mem_nil, or_false] at hv
    rcases hv with rfl | rfl <;> trivial
  | some p =>
    intro v hv
    simp only [rV, List.mem_cons, List.not_mem_nil, or_false] at hv
    rcases hv with rfl | rfl <;> trivial
theorem fl_two (w : Nat) (t : Int) : ∀ v ∈ ([nI w, .int t] : List V), Fl v := fun v hv => by
  simp only [List.mem_cons, List.not_mem_nil, or_false] at hv
  rcases hv with rfl | rfl <;> trivial
theorem fl_nIs (ns : List Nat) : ∀ v ∈ ns.map nI, Fl v := fun v hv => by
  obtain ⟨n, _, rfl⟩ := List.mem_map.mp hv
  trivial
def pairD (xs ys : List Nat) : PyData := .tuple [.tuple ((xs.map nI).map pd), .tuple ((ys.map nI).map pd)]
theorem pair_shp (xs ys : List Nat) : SeqAt.shaped (pairD xs ys) = true := by
  obtain ⟨a1, d1⟩ := lay_all (fl_nIs xs)
  obtain ⟨a2, d2⟩ := lay_all (fl_nIs ys)
  show ((PyData.canLayAll0 ((xs.map nI).map pd) && (PyData.canLayAll0 ((ys.map nI).map pd) && true)) && decide (max (PyData.depthAll ((xs.map nI).map pd) + 1) (max (PyData.depthAll ((ys.map nI).map pd) + 1) 0) + 1 ≤ 64)) = true
  rw [a1, a2, d1, d2]
  decide
theorem pair_eqv (xs ys : List Nat) : PyData.eqv (pairD xs ys) (pairD xs ys) = true := by
  show (PyData.eqvAll ((xs.map nI).map pd) ((xs.map nI).map pd) && (PyData.eqvAll ((ys.map nI).map pd) ((ys.map nI).map pd) && true)) = true
  rw [eqv_same (fl_nIs xs), eqv_same (fl_nIs ys)]
  rfl
def alwL (ds : List Wd) (rs : List (List En)) : List Nat := (plan ds).filter fun k => rs.all fun es => (ent es k).isNone
def somL (ds : List Wd) (rs : List (List En)) : List Nat := (plan ds).filter fun k => rs.any fun es => (ent es k).isNone
theorem alw_sure {ds : List Wd} {rs : List (List En)} (hne : rs ≠ []) : alwL ds rs = sureL ds rs := by
  unfold alwL sureL plan
  rw [List.filter_filter]
  refine List.filter_congr fun k hk => ?_
  have hkl := List.mem_range.mp hk
  rw [Bool.eq_iff_iff, Bool.and_eq_true, List.all_eq_true, decide_eq_true_eq, List.filter_eq_nil_iff]
  constructor
  · rintro ⟨h1, h2⟩ es hes
    rw [decide_eq_true_eq, Decidable.not_not, mem_lot hkl]
    unfold shut
    rw [h2, h1 es hes]
    rfl
  · intro h
    have hh : ∀ es ∈ rs, shut ds es k = true := fun es hes => by
      have := h es hes
      rw [decide_eq_true_eq, Decidable.not_not, mem_lot hkl] at this
      exact this
    obtain ⟨es0, h0⟩ := List.exists_mem_of_ne_nil rs hne
    exact ⟨fun es hes => (Bool.and_eq_true_iff.mp (hh es hes)).2, (Bool.and_eq_true_iff.mp (hh es0 h0)).1⟩
theorem som_some {ds : List Wd} {rs : List (List En)} : somL ds rs = someL ds rs := by
  unfold somL someL plan
  rw [List.filter_filter]
  refine List.filter_congr fun k hk => ?_
  have hkl := List.mem_range.mp hk
  rw [Bool.eq_iff_iff, Bool.and_eq_true, List.any_eq_true, decide_eq_true_eq]
  constructor
  · rintro ⟨⟨es, h1, h2⟩, h3⟩ h
    have := List.filter_eq_nil_iff.mp h es h1
    rw [decide_eq_true_eq, mem_lot hkl] at this
    exact this (by unfold shut; rw [h2, h3]; rfl)
  · intro h
    obtain ⟨es, he⟩ := List.exists_mem_of_ne_nil _ h
    obtain ⟨h1, h2⟩ := List.mem_filter.mp he
    rw [decide_eq_true_eq, mem_lot hkl] at h2
    obtain ⟨h3, h4⟩ := Bool.and_eq_true_iff.mp h2
    exact ⟨⟨es, h1, h4⟩, h3⟩
section
variable {P : Program} {w : World} {K : PySem.W.Frag} {mg : Str → Option Value} {base : Heap} {A : Ad}
theorem pair_dp {H : Hp} {T a b : Addr} {xs ys : List Nat} (h1 : H T = some (.tup [.ref a, .ref b])) (h2 : H a = some (.tup (xs.map nI))) (h3 : H b = some (.tup (ys.map nI))) : Dp K H (.ref T) (pairD xs ys) :=
  .tup (SqT.of h1) (.cons (.tup (SqT.of h2) (dp_all (fl_nIs xs))) (.cons (.tup (SqT.of h3) (dp_all (fl_nIs ys))) .nil))
def spSils : Sp := fun vs H Q _ => ∃ (D R En : Addr) (ds : List Wd) (z : Int) (ys os : List V) (w : Nat) (t : Int), vs = [.ref D, .ref R, .ref En, nI w, .int t] ∧ Wl H D ds ∧ Gds ds ∧ ds.length ≤ 3 ∧ H R = some (.lst ys) ∧ Rel2 (RnAt H) ys (lim z ds) ∧ H En = some (.lst os) ∧ Rel2 (RowAt H) os (outs z ds) ∧ can ds z w t = true ∧
  ∀ T a b H', Ext H H' → H' T = some (.tup [.ref a, .ref b]) → H' a = some (.tup ((hurs ds w t).map nI)) → H' b = some (.tup ((after ds z w t).map nI)) → Q (.ref T) H'
theorem ok_sils {f : Addr} {fd : FuncData} (F : Fun K "_law_silences" "_law_silences" s__law_silences f fd) (T : Txt K mg A) : FnOk P w K mg base CX0 1 f fd pm__law_silences spSils := by
  refine F.ok sc__law_silences (fun vs H Q E h => ?_) (fun cdv A' outer s H vs Q E hr h => ?_)
  · obtain ⟨_, _, _, _, _, _, _, _, _, rfl, _⟩ := h
    rfl
  · obtain ⟨D, R, En, ds, z, ys, os, w, t, rfl, hW, hg, h3, hR, ry, hE, ro, hc, k⟩ := h
    refine ⟨_, pss_cons (ps_set (i := 5) sc__law_silences.nd rfl (Or.inr rfl) (pe_lc (own := [("_law_k", 8)]) (g := gName 8) (by rfl) sc__law_silences.nd (pi_range1 rfl T.n_range (pa_cons (pe_callB call_len_seq (by rfl) T.n_len (by decide +kernel) (pa_cons (pv 1) pa_nil)) pa_nil)) (blkOk_by (own := [("_law_k", 8)]) (N := nm__law_silences) (sc := defScope s__law_silences) (by decide +kernel)) (fun _ _ _ _ _ => pg_name (i := 8) sc__law_silences.nd rfl (Or.inl rfl)) (fun s1 H1 C1 cl fp => pts_one (pt_cmpR (op_eqDK (K := K) rfl hr.units) (pe_slice sl_tupE (pe_ix (ix_listK (K := K) rfl) (pv 2) (pv 8) (fun _ _ => rfl)) po_none (po_some (pe_int))) (pe_tup (pa_cons (pv 3) (pa_cons (pv 4) pa_nil))) (nomark _))) (fun s1 H1 C1 cl fp => pe_ix (ix_listK (K := K) rfl) (pv 1) (pv 8) (fun _ _ => rfl))))
      (pss_cons (ps_setLc (i := 6) (own := [("_law_k", 8)]) (g := gName 8) (by rfl) sc__law_silences.nd rfl rfl (sw_true rfl rfl rfl (by decide +kernel)) (pi_range1 rfl T.n_range (pa_cons (pe_callB call_len_seq (by rfl) T.n_len (by decide +kernel) (pa_cons (pv 0) pa_nil)) pa_nil)) (blkOk_by (own := [("_law_k", 8)]) (N := nm__law_silences) (sc := defScope s__law_silences) (by decide +kernel)) (fun _ _ _ _ _ => pg_name (i := 8) sc__law_silences.nd rfl (Or.inl rfl)) (fun s1 H1 C1 cl fp => pts_one (pt_cmpR op_notN (pe_ix (ix_tupK (K := K) rfl) (pe_ix (ix_listK (K := K) rfl) (pv 0) (pv 8) (fun _ _ => rfl)) (pe_int) (fun _ _ => rfl)) (pe_non) (nomark _))) (fun s1 H1 C1 cl fp => pv 8))
      (pss_cons (ps_set (i := 7) sc__law_silences.nd rfl (Or.inl rfl) (pe_callTy call_tuple_of (by rfl) T.n_tuple (by decide +kernel) (pa_cons (pe_lc (own := [("_law_k", 8)]) (g := gName 8) (by rfl) sc__law_silences.nd (pi_list (pv 6)) (blkOk_by (own := [("_law_k", 8)]) (N := nm__law_silences) (sc := defScope s__law_silences) (by decide +kernel)) (fun _ _ _ _ _ => pg_name (i := 8) sc__law_silences.nd rfl (Or.inr rfl)) (fun s1 H1 C1 cl fp => pts_one (pt_val (pe_callB (cr_allK (K := K) rfl rfl) (by rfl) T.n_all (by decide +kernel) (pa_cons (pe_lc (own := [("_law_row", 9)]) (g := gName 9) (by rfl) sc__law_silences.nd (pi_listK (K := K) rfl (pv 5)) (blkOk_by (own := [("_law_row", 9)]) (N := nm__law_silences) (by rfl)) (fun _ _ _ _ _ => pg_name (i := 9) sc__law_silences.nd rfl (Or.inl rfl)) (fun s12 H12 C12 cl2 fp2 => pts_nil) (fun s12 H12 C12 cl2 fp2 => pe_cmpR op_isN (pe_ix (ix_tupK (K := K) rfl) (pv 9) (pv 8) (fun _ _ => rfl)) (pe_non) (nomark _))) pa_nil)))) (fun s1 H1 C1 cl fp => pv 8)) pa_nil)))
      (pss_one (ps_ret (pe_tup (pa_cons (pv 7) (pa_cons (pe_callTy call_tuple_of (by rfl) T.n_tuple (by decide +kernel) (pa_cons (pe_lc (own := [("_law_k", 8)]) (g := gName 8) (by rfl) sc__law_silences.nd (pi_list (pv 6)) (blkOk_by (own := [("_law_k", 8)]) (N := nm__law_silences) (sc := defScope s__law_silences) (by decide +kernel)) (fun _ _ _ _ _ => pg_name (i := 8) sc__law_silences.nd rfl (Or.inr rfl)) (fun s1 H1 C1 cl fp => pts_one (pt_val (pe_callB (cr_anyK (K := K) rfl rfl) (by rfl) T.n_any (by decide +kernel) (pa_cons (pe_lc (own := [("_law_row", 9)]) (g := gName 9) (by rfl) sc__law_silences.nd (pi_listK (K := K) rfl (pv 5)) (blkOk_by (own := [("_law_row", 9)]) (N := nm__law_silences) (by rfl)) (fun _ _ _ _ _ => pg_name (i := 9) sc__law_silences.nd rfl (Or.inl rfl)) (fun s12 H12 C12 cl2 fp2 => pts_nil) (fun s12 H12 C12 cl2 fp2 => pe_cmpR op_isN (pe_ix (ix_tupK (K := K) rfl) (pv 9) (pv 8) (fun _ _ => rfl)) (pe_non) (nomark _))) pa_nil)))) (fun s1 H1 C1 cl fp => pv 8)) pa_nil)) pa_nil))))))), ?_⟩
    have hf := gds_fit hg
    obtain ⟨qs, hD, rq⟩ := id hW
    have hyl := ry.len
    have hol : os.length = ys.length := by
      rw [ro.len, hyl]
      unfold outs
      rw [List.length_map]
    have hbig : (lim z ds).length ≤ 101 ^ 3 := Nat.le_trans (List.length_filter_le _ _) (rns_big hg h3)
    refine ⟨_, rfl, R, ys, rfl, .inl (SqL.of hR), _, rfl, by omega, by omega, fun C hC => ?_⟩
    refine lc_range (lo := 0) (n := ys.length) (fun i H' => Ext H H' ∧ ∃ acc, H' C = some (.lst acc) ∧ Rel2 (RnAt H') acc (((lim z ds).take i).filter fun es => decide (out ds es = some (w, t)))) ⟨Ext.upd hC, [], upd_same, trivial⟩ (fun i H1 hi pv => ?_) (fun H1 pv => ?_)
    · obtain ⟨e1, acc, ha, ra⟩ := pv
      obtain ⟨y, hy⟩ : ∃ y, ys[i]? = some y := ⟨_, List.getElem?_eq_getElem hi⟩
      obtain ⟨es, hes, hrn⟩ := ry.get hy
      obtain ⟨v, hv⟩ : ∃ v, os[i]? = some v := ⟨_, List.getElem?_eq_getElem (by omega)⟩
      obtain ⟨o, ho, tt, u, rfl, ht⟩ := ro.get hv
      have hoo : o = out ds es := by
        unfold outs at ho
        rw [List.getElem?_map, hes] at ho
        exact (Option.some.inj ho).symm
      subst hoo
      rw [Int.zero_add]
      refine ⟨rfl, _, rfl, _, rfl, En, os, (i : Int), .ref tt, rfl, rfl, SqL.of (e1 _ _ hE), atI_nat hv, 2, rfl, tt, _, rfl, e1 _ _ ht, fun p' H2 e2 hp2 => ?_⟩
      rw [cut_rV] at hp2
      refine ⟨_, rfl, _, rfl, by show 2 ≤ sizeLine; decide, fun t3 ht3 => ?_⟩
      have e3 := Ext.upd (o := .tup [nI w, .int t]) ht3
      refine eqD_tup (SqT.of (e3 _ _ hp2)) (SqT.of upd_same) (fl_rV _) (fl_two w t) ⟨_, rfl, ?_⟩
      rw [show PyData.eqvAll ((rV (out ds es)).map pd) (([nI w, .int t] : List V).map pd) = _ from eq_rV (out ds es) w t]
      have e23 := e2.trans e3
      have ha3 := e23 _ _ ha
      have e13 := e1.trans e23
      rw [take_snoc hes, List.filter_append]
      by_cases hoo : out ds es = some (w, t)
      · rw [decide_eq_true hoo]
        have kt := kt_set (ys := acc ++ [y]) ha3
        refine iteT ⟨_, rfl, _, rfl, R, ys, (i : Int), y, rfl, rfl, SqL.of (e13 _ _ hR), atI_nat hy, acc, ha3, big_sz ?_, ext_mut e13 hC, acc ++ [y], upd_same, ?_⟩
        · rw [ra.len]
          refine Nat.le_trans (List.length_filter_le _ _) ?_
          rw [List.length_take]
          omega
        · rw [show [es].filter (fun es => decide (out ds es = some (w, t))) = [es] by simp [hoo]]
          exact Rel2.cat (ra.to (RnAt.k ((Ext.kt e23).trans kt))) (Rel2.one (RnAt.k ((Ext.kt e13).trans kt) _ _ hrn))
      · rw [decide_eq_false hoo]
        refine iteF ⟨e13, acc, ha3, ?_⟩
        rw [show [es].filter (fun es => decide (out ds es = some (w, t))) = [] by simp [hoo], List.append_nil]
        exact ra.to (RnAt.k (Ext.kt e23))
    · obtain ⟨e1, acc, ha, ra⟩ := pv
      rw [hyl, List.take_length] at ra
      have ra1 : Rel2 (RnAt H1) acc (rowsO ds z w t) := ra
      clear ra
      have hne := (rows_ne (z := z) (w := w) (t := t) hf).mpr hc
      have hlen : ∀ es ∈ rowsO ds z w t, es.length = ds.length := fun es h => ((mem_lim.mp (List.mem_filter.mp h).1).1).1
      have hrl : (rowsO ds z w t).length ≤ 101 ^ 3 := Nat.le_trans (List.length_filter_le _ _) hbig
      have hD1 := e1 _ _ hD
      refine ⟨_, rfl, D, qs, rfl, .inl (SqL.of hD1), _, rfl, by omega, by rw [rq.len]; omega, ?_⟩
      rw [rq.len]
      refine lc_rgR (n := ds.length) (b := fun j => has ds j) (f := nI) (small_sz (by omega)) (fun x => rfl) (fun m hm H2 e2 Q' q' => ?_) (fun m hm _ H2 e2 Q' q' => ⟨_, by rw [Int.zero_add]; rfl, q' _ Ext.rfl'⟩) (fun Nm H4 hNm e4 hN4 => ?_)
      · rw [Int.zero_add]
        obtain ⟨d, hd⟩ : ∃ d, ds[m]? = some d := ⟨_, List.getElem?_eq_getElem hm⟩
        obtain ⟨x, hx, tq, rfl, ht⟩ := rq.got hd
        refine ⟨_, rfl, _, rfl, D, qs, (m : Int), .ref tq, rfl, rfl, SqL.of (e2 _ _ hD1), atI_nat hx, tq, _, 0, bV d.1, rfl, rfl, SqT.of (e2 _ _ (e1 _ _ ht)), rfl, rfl, _, rfl, ?_⟩
        have h := q' H2 Ext.rfl'
        rw [(at_d hd).1] at h
        cases hb : d.1 with
        | none => rw [hb] at h; exact h
        | some n => rw [hb] at h; exact h
      have hC4 := e4 _ _ ha
      have ra4 := ra1.to (RnAt.k (Ext.kt e4))
      have e14 := e1.trans e4
      refine ⟨_, rfl, Nm, rfl, ⟨_, SqL.of hN4⟩, fun G hG => ?_⟩
      refine lc_list (xs := (plan ds).map nI) (fun i H' => Ext H4 H' ∧ H' G = some (.lst ((((plan ds).take i).filter fun k => (rowsO ds z w t).all fun es => (ent es k).isNone).map nI))) ⟨Ext.upd hG, upd_same⟩ (fun i H' _ pv => SqL.of (pv.1 _ _ hN4)) (fun i x H7 hx pv => ?_) (fun H7 pv => ?_)
      · obtain ⟨e7, hG7⟩ := pv
        rw [List.getElem?_map] at hx
        obtain ⟨j, hj, rfl⟩ := Option.map_eq_some_iff.mp hx
        obtain ⟨hhas, hjl⟩ := plan_has hj
        have hC7 := e7 _ _ hC4
        have ra7 := ra4.to (RnAt.k (Ext.kt e7))
        refine ⟨rfl, _, rfl, C, rfl, ⟨_, SqL.of hC7⟩, fun B2 hB2 => ?_⟩
        refine lc_list (xs := acc) (fun m H' => Ext H7 H' ∧ H' B2 = some (.lst ((((rowsO ds z w t).take m).map fun es => (ent es j).isNone).map V.bl))) ⟨Ext.upd hB2, upd_same⟩ (fun m H' _ pv => SqL.of (pv.1 _ _ hC7)) (fun m x H8 hx pv => ?_) (fun H8 pv => ?_)
        · obtain ⟨e8, hB8⟩ := pv
          obtain ⟨es, hes, hrn⟩ := ra7.get hx
          have hel := hlen es (List.mem_of_getElem? hes)
          obtain ⟨tr, us, rfl, htr, rr⟩ := RnAt.k (Ext.kt e8) _ _ hrn
          obtain ⟨en, he⟩ : ∃ en, es[j]? = some en := ⟨_, List.getElem?_eq_getElem (by omega)⟩
          obtain ⟨y, hy, hE⟩ := rr.got he
          refine ⟨rfl, _, rfl, _, rfl, tr, us, (j : Int), y, rfl, rfl, SqT.of htr, atI_nat hy, rfl, _, hB8, big_sz ?_, ext_mut e8 hB2, ?_⟩
          · rw [List.length_map, List.length_map, List.length_take]
            omega
          · rw [en_non hE, upd_same, take_snoc hes, List.map_append, List.map_append]
            show _ = some (HO.lst (_ ++ [V.bl (ent es j).isNone]))
            rw [ent_at he]
        · obtain ⟨e8, hB8⟩ := pv
          rw [ra7.len, List.take_length] at hB8
          refine ⟨B2, _, rfl, SqL.of hB8, _, rfl, ?_⟩
          rw [take_snoc hj, List.filter_append, List.filter_cons]
          have hcase : (((rowsO ds z w t).map fun es => (ent es j).isNone).all id) = (rowsO ds z w t).all fun es => (ent es j).isNone := by
            rw [List.all_map]
            rfl
          rw [hcase]
          have hG8 := e8 _ _ hG7
          cases hb : (rowsO ds z w t).all fun es => (ent es j).isNone with
          | true =>
            refine iteT ⟨_, rfl, _, hG8, small_sz ?_, ext_mut (e7.trans e8) hG, ?_⟩
            · rw [List.length_map]
              refine Nat.le_trans (List.length_filter_le _ _) ?_
              rw [List.length_take]
              have := plan_len ds
              omega
            · rw [upd_same, if_pos rfl, List.filter_nil, List.map_append]
              rfl
          | false =>
            refine iteF ⟨e7.trans e8, ?_⟩
            rw [if_neg (by decide), List.filter_nil, List.append_nil]
            exact hG8
      · obtain ⟨e5, hG5⟩ := pv
        rw [List.length_map, List.take_length] at hG5
        have hG6 : H7 G = some (.lst ((hurs ds w t).map nI)) := by
          rw [← sure_is hf hc, ← alw_sure hne]
          exact hG5
        refine ⟨G, _, rfl, .inl ⟨SqL.of hG6, fun u1 hu1 => ?_⟩⟩
        have e6 := e5.trans (Ext.upd (o := .tup ((hurs ds w t).map nI)) hu1)
        have hu5 : (upd H7 u1 (.tup ((hurs ds w t).map nI))) u1 = some (.tup ((hurs ds w t).map nI)) := upd_same
        generalize upd H7 u1 (.tup ((hurs ds w t).map nI)) = H5 at e6 hu5 ⊢
        have hN5 := e6 _ _ hN4
        have hC5 := e6 _ _ hC4
        have ra5 := ra4.to (RnAt.k (Ext.kt e6))
        have e15 := e14.trans e6
        clear hG5 hG6 e5 hu1 hG
        refine ⟨_, rfl, _, rfl, Nm, rfl, ⟨_, SqL.of hN5⟩, fun G2 hG2 => ?_⟩
        refine lc_list (xs := (plan ds).map nI) (fun i H' => Ext H5 H' ∧ H' G2 = some (.lst ((((plan ds).take i).filter fun k => (rowsO ds z w t).any fun es => (ent es k).isNone).map nI))) ⟨Ext.upd hG2, upd_same⟩ (fun i H' _ pv => SqL.of (pv.1 _ _ hN5)) (fun i x H7 hx pv => ?_) (fun H7 pv => ?_)
        · obtain ⟨e7, hG7⟩ := pv
          rw [List.getElem?_map] at hx
          obtain ⟨j, hj, rfl⟩ := Option.map_eq_some_iff.mp hx
          obtain ⟨hhas, hjl⟩ := plan_has hj
          have hC7 := e7 _ _ hC5
          have ra7 := ra5.to (RnAt.k (Ext.kt e7))
          refine ⟨rfl, _, rfl, C, rfl, ⟨_, SqL.of hC7⟩, fun B2 hB2 => ?_⟩
          refine lc_list (xs := acc) (fun m H' => Ext H7 H' ∧ H' B2 = some (.lst ((((rowsO ds z w t).take m).map fun es => (ent es j).isNone).map V.bl))) ⟨Ext.upd hB2, upd_same⟩ (fun m H' _ pv => SqL.of (pv.1 _ _ hC7)) (fun m x H8 hx pv => ?_) (fun H8 pv => ?_)
          · obtain ⟨e8, hB8⟩ := pv
            obtain ⟨es, hes, hrn⟩ := ra7.get hx
            have hel := hlen es (List.mem_of_getElem? hes)
            obtain ⟨tr, us, rfl, htr, rr⟩ := RnAt.k (Ext.kt e8) _ _ hrn
            obtain ⟨en, he⟩ : ∃ en, es[j]? = some en := ⟨_, List.getElem?_eq_getElem (by omega)⟩
            obtain ⟨y, hy, hE⟩ := rr.got he
            refine ⟨rfl, _, rfl, _, rfl, tr, us, (j : Int), y, rfl, rfl, SqT.of htr, atI_nat hy, rfl, _, hB8, big_sz ?_, ext_mut e8 hB2, ?_⟩
            · rw [List.length_map, List.length_map, List.length_take]
              omega
            · rw [en_non hE, upd_same, take_snoc hes, List.map_append, List.map_append]
              show _ = some (HO.lst (_ ++ [V.bl (ent es j).isNone]))
              rw [ent_at he]
          · obtain ⟨e8, hB8⟩ := pv
            rw [ra7.len, List.take_length] at hB8
            refine ⟨B2, _, rfl, SqL.of hB8, _, rfl, ?_⟩
            rw [take_snoc hj, List.filter_append, List.filter_cons]
            have hcase : (((rowsO ds z w t).map fun es => (ent es j).isNone).any id) = (rowsO ds z w t).any fun es => (ent es j).isNone := by
              rw [List.any_map]
              rfl
            rw [hcase]
            have hG8 := e8 _ _ hG7
            cases hb : (rowsO ds z w t).any fun es => (ent es j).isNone with
            | true =>
              refine iteT ⟨_, rfl, _, hG8, small_sz ?_, ext_mut (e7.trans e8) hG2, ?_⟩
              · rw [List.length_map]
                refine Nat.le_trans (List.length_filter_le _ _) ?_
                rw [List.length_take]
                have := plan_len ds
                omega
              · rw [upd_same, if_pos rfl, List.filter_nil, List.map_append]
                rfl
            | false =>
              refine iteF ⟨e7.trans e8, ?_⟩
              rw [if_neg (by decide), List.filter_nil, List.append_nil]
              exact hG8
        · obtain ⟨e8, hG8⟩ := pv
          rw [List.length_map, List.take_length] at hG8
          have hG9 : H7 G2 = some (.lst ((after ds z w t).map nI)) := by
            rw [← some_is hf hc, ← som_some]
            exact hG8
          refine ⟨G2, _, rfl, .inl ⟨SqL.of hG9, fun u2 hu2 => ⟨by show 2 ≤ sizeLine; decide, fun T3 hT3 => ?_⟩⟩⟩
          have e9 := Ext.upd (o := .tup ((after ds z w t).map nI)) hu2
          have e10 := Ext.upd (o := .tup [V.ref u1, .ref u2]) hT3
          exact k T3 u1 u2 _ (((e15.trans e8).trans e9).trans e10) upd_same (e10 _ _ (e9 _ _ (e8 _ _ hu5))) (e10 _ _ upd_same)
end
end K18

set_option Elab.async false
set_option linter.all false
set_option maxRecDepth 100000
set_option maxHeartbeats 4000000
/-! own errors with one field whose own base is OverflowError -/
namespace L2
open PySem PySem.Spec PyProof.Rows
open Builtin Builtin.ObjectAttr PySem.W PySem.HandSPX
/-- what stands behind the class itself -/
abbrev ofBack : List Value := [.type "OverflowError", .type "ArithmeticError", .type "Exception", .type "BaseException", .type "object"]
theorem of_calm (self : Value) (C : Addr) : refuseLoop self "__setattr__" (.ref C :: ofBack) = pure () := by
  rw [refuseLoop_ref]
  exact PySem.F.store_OverflowError.passes self
theorem of_has (Y : String) (C : Addr) : (Value.ref C :: ofBack).contains (.type Y) = ofBack.contains (.type Y) := by
  rw [List.contains_cons]
  rfl
section
variable {prog : Program} {w : World} {A : Around} {R : Result → Shared → Prop} {hp : Heap} {g : Array GenState} {d : Drawn} {t : Nat} {os : OsState}
/-- the first field of such an error -/
theorem of_first {K : Frag} {nm : Str} {tk : Tok} {val : Value} {a C : Addr} {parts : Array Value} {cd : ClassData}
    (inK : K.In hp) (at_a : hp.get? a = some { cls := .ref C, data := .fields parts }) (at_C : clsIn K C = some cd) (line : cd.mro = .ref C :: ofBack) (dct : cd.hasDict = true) (free : findIn K (.ref C) nm = some none)
    (goal : ∀ hp2 tk2 dx, (∀ b o, b ≠ a → hp.get? b = some o → hp2.get? b = some o) → hp.objs.size ≤ dx → dx ≠ a → hp2.get? a = some { cls := .ref C, dict := some dx, data := .fields parts } →
      hp2.Ns1 dx (fun y => if y = nm then some val else none) → R (.ok (.ret .none)) ⟨hp2, g, d, tk2, os⟩) :
    codeAny (model prog w) A (.call (.builtin "object.__setattr__") ⟨[.ref a, .str nm tk, val], []⟩) R ⟨hp, g, d, t, os⟩ := by
  have here : InstAt hp a { cls := .ref C, data := .fields parts } C none := ⟨at_a, rfl, rfl, trivial⟩
  have facts := F.store_object
  have full : cd.mro.isEmpty = false := by rw [line]; rfl
  have top : cd.mro.contains (.type "object") = true := by rw [line, of_has]; decide +kernel
  have off : a ≠ hp.objs.size := Nat.ne_of_lt (Heap.lt_size at_a)
  have isObj : Looks (model prog w) hp (isInstance (.ref a) (.type "object")) true :=
    here.type.andThen (looks_mroIn inK (by unfold mroIn; rw [at_C, Option.bind_some, if_neg (by rw [full]; decide), top]))
  refine codeAny_call_builtin facts.slot.plain facts.entry
    (@check_slot (model prog w) _ _ ⟨hp, g, d, t, os⟩ "object.__setattr__" "object" "__setattr__" (.ref a) [.str nm tk, val] [] _ facts.kind facts.split isObj (facts.args (.ref a) (.str nm tk) val) ?_)
  have mroL : Looks (model prog w) hp (mroOf (.ref C)) cd.mro := (looks_clsIn inK at_C).andThen .now
  have taker : Looks (model prog w) hp (storeTaker? none) none := .now
  have data : Looks (model prog w) hp (classData C) cd := looks_clsIn inK at_C
  rw [osa_eq, refuse_eq]
  refine wpAny_bind (wpAny_bind (here.type.at (wpAny_bind (mroL.at ?_))))
  rw [line, of_calm]
  refine wpAny_pure (wpAny_bind (here.type.at (wpAny_bind ((looks_findIn inK free).at (wpAny_bind (taker.at ?_))))))
  show wpAny _ _ (storeInOwnDict (.ref a) (.ref C) (.str nm tk) nm val false) _ _ _
  obtain ⟨c1, c2, c3, c4, c5, c6, c7, c8, c9, c10, c11⟩ := cd
  dsimp only at dct
  subst dct
  unfold storeInOwnDict ownDictForStores
  repeat (first | with_reducible refine store_in_new ?_ ?_ | with_reducible refine wpAny_loadPart_at at_a ?_ | with_reducible refine data.at ?_ | wp_step)
  · exact ⟨_, #[], _, (Heap.get?_update_ne _ _ _ _ off.symm).trans (Heap.get?_push_at rfl rfl), rfl, fun e he => absurd he (by simp), fun _ => rfl⟩
  · intro hp2 tk2 ns2 same
    have at_a2 : (hp.push { cls := .type "dict", data := .dict #[] }).get? a = some { cls := .ref C, data := .fields parts } := Heap.get?_push_of_some _ at_a
    refine goal hp2 tk2 hp.objs.size (fun b o hb ho => ?_) (Nat.le_refl _) off.symm ?_ ns2
    · exact (same.2 b (Nat.ne_of_lt (Heap.lt_size ho))).trans ((Heap.get?_update_ne _ _ _ _ hb).trans (Heap.get?_push_of_some _ ho))
    · exact (same.2 a off).trans (Heap.get?_update_self _ at_a2 rfl)
end
/-- what the top has of such a class -/
structure OofC (K : PySem.W.Frag) (C : Addr) : Prop where
  cls : ∃ nm q N bs sn sub ab col dd k0 k1 k2 k3 k5, K.lookup C = some (excClassObj nm q C N bs ofBack true sn sub ab col dd k0 k1 k2 k3 k5 "OverflowError.__new__")
  sa : findIn K (.ref C) "__setattr__" = some (some (.builtin "object.__setattr__"))
  exC : subIn K (.ref C) (.type "BaseException") = some true
  tyC : typeIn K (.ref C) = some (.type "type")
  kC : keepIn K (.ref C) = true
section
variable {X : Cx} {pins : List (Addr × Obj)} {σ : St} {H : Hp} {s : Shared} {a C : Addr} {f : Str} {y : V} {u : Value} {Q : Unit → Shared → Prop} {E : Value → Shared → Prop} {A : Around}
theorem of_store (T : OofC X.K C) (I : Inv X pins σ H s) (e : H a = some (exo a C none)) (free : findIn X.K (.ref C) f = some none) (ry : RelV y u)
    (goal : ∀ dx s', H dx = none → dx ≠ a → Inv X pins σ (upd (upd H dx (exd dx [(f, y)])) a (exo a C (some dx))) s' → Q () s') : wpAny (model X.prog X.w) A (setAttr (.ref a) f u) Q E s := by
  obtain ⟨nm, q, N, bs, sn, sub, ab, col, dd, k0, k1, k2, k3, k5, at_C⟩ := T.cls
  have data : clsIn X.K C = some { name := nm, bases := bs, mro := .ref C :: ofBack, ns := N, qualname := q, hasDict := true, slotNames := sn, subclasses := sub, abstract := ab, collection := col, hasDel := false } := by
    unfold clsIn
    rw [at_C] <;> rfl
  obtain ⟨t1, ho⟩ := exo_at I.hok e
  obtain ⟨hp, g, d, t, os⟩ := s
  refine set_plain I.kIn (ox := { cls := .ref C, dict := none, data := .fields #[.ref t1, .none, .none, .none, .bool false, .none] }) (od := none) ⟨ho, rfl, rfl, trivial⟩ T.sa ?_
  refine of_first I.kIn ho data rfl rfl free fun hp2 tk2 dx k far ne at_a ns2 => ?_
  have none_dx : H dx = none := I.hok.fresh far
  have old : ∀ {b : Addr} {o : Obj}, hp.get? b = some o → b ≠ dx := fun {b o} z => Nat.ne_of_lt (Nat.lt_of_lt_of_le (Heap.lt_size z) far)
  have other : ∀ {b : Addr}, H b = none → b ≠ a := fun {b} z w => by
    rw [w, e] at z
    cases z
  have U : Un X.fs [] H (upd (upd H dx (exd dx [(f, y)])) a (exo a C (some dx))) hp hp2 :=
    ⟨fun b o z n _ _ => k b o (other n) z, fun b o z n _ _ => ⟨o.slots, k b o (other n) z⟩, fun b o z n _ => by rw [upd_ne (other n), upd_ne (old z)]; exact n,
      fun b o z _ => by
        by_cases hb : b = a
        · rw [hb]
          exact ⟨_, at_a⟩
        · exact ⟨o, k b o hb z⟩,
      fun b xs z => by rw [upd_ne (at_ne e z exo_tup), upd_ne (ne_of_none z none_dx)]; exact z,
      fun b o v z => by rw [upd_ne (at_ne e z exo_frz), upd_ne (ne_of_none z none_dx)]; exact z,
      fun b ps z => ⟨#[], by rw [upd_ne (at_ne e z exo_tbl), upd_ne (ne_of_none z none_dx), z]; simp⟩⟩
  refine goal dx _ none_dx ne (I.un (t' := tk2) U fun b o z => ?_)
  by_cases hb : b = a
  · subst hb
    rw [upd_same] at z
    cases z
    exact exo_ok at_a
  · rw [upd_ne hb] at z
    by_cases hd : b = dx
    · subst hd
      rw [upd_same] at z
      cases z
      exact exd_ok ns2 (relO_put (fs := []) ry fun _ => True.intro)
    · rw [upd_ne hd] at z
      refine (I.hok b o z).stay (fun c v hc w => k c v ?_ w) (fun c hc => ?_) fun c xs hc => ?_
      · rcases hc with hc | hc
        · rw [hc]
          exact hb
        · exact at_ne e hc exo_own
      · rw [upd_ne (at_ne e hc exo_own), upd_ne (ne_of_none hc none_dx)]
        exact hc
      · rw [upd_ne (at_ne e hc exo_tup), upd_ne (ne_of_none hc none_dx)]
        exact hc
end
/-- self.f = e, the one field -/
def tOstO (K : PySem.W.Frag) (f : Str) (to te : TE) : TS := fun D σ H => te σ H fun y H1 => to σ H1 fun x H2 => ∃ a C : Addr, x = .ref a ∧ OofC K C ∧ findIn K (.ref C) f = some none ∧
  H2 a = some (exo a C none) ∧ ∀ dx, H2 dx = none → dx ≠ a → D.nx σ (upd (upd H2 dx (exd dx [(f, y)])) a (exo a C (some dx)))
section
variable {X : Cx} {o e : Expr} {es : List Expr} {to te : TE} {ta : TA} {f : Str} {p p' pos : Pos}
theorem ps_ostO (ho : PE X o to) (he : PE X e te) (hs : swapsWith e (some (.Attribute o f p')) pos.line X.env = pure false := by rfl) : PS X (.Assign [.Attribute o f p'] e pos) (tOstO X.K f to te) := by
  refine ⟨fun pins s σ H D I h => ?_⟩
  refine plainObj_wpAny_Assign_Attribute (thn (he.run pins s σ H _ I h) fun v s1 ⟨y, H1, I1, r1, q1⟩ => thn (ho.run pins s1 σ H1 _ I1 q1) fun u s2 ⟨x, H2, I2, r2, a, C, ex, T, free, ea, q⟩ => ?_) hs
  subst ex
  obtain rfl : u = Value.ref a := r2
  exact of_store T I2 ea free r1 fun dx s' n ne J => ⟨σ, _, J, q dx n ne⟩
/-- C(e, ..) of such a class -/
theorem pmk_oof {CX : CXT} {x : Str} {C fI : Addr} {k : Nat} {fd : FuncData} {ps : List Str} {sp : Sp} {ds : List Value} {dvs : List V} (T : OofC X.K C) (hasI : findIn X.K (.ref C) "__init__" = some (some (.ref fI))) (isF : typeIn X.K (.ref fI) = some (.type "function"))
    (G : FnOk X.prog X.w X.K X.mg X.base CX k fI fd ps sp) (room : Room (k + 1) X.A) (bind : Binds X.K fd ps ds) (dflt : Vals dvs ds) (pass : Passes CX X (fun _ _ _ => False)) (hg : Gl X x) (hm : X.mg x = some (.ref C)) (ha : PA X (e :: es) ta)
    (hdb : (x == ("__debug__" : Str)) = false := by decide) (he : starEach (e :: es) X.env = (false, eval e X.env) :: starEach es X.env := by rfl) (hpl : (backTo pos (starEach es X.env)).any (·.1) = false := by rfl) :
    PMk X (.Call (.Name x p) (e :: es) [] pos) (tMkO C sp dvs ta) := by
  intro pins s σ H Q I h
  obtain ⟨nm, q, N, bs, sn, sub, ab, col, dd, k0, k1, k2, k3, k5, at_C⟩ := T.cls
  refine wpAny_Call_Name_kw (ld_glob I hg hm ?_ hdb)
  refine callWith_K (h₀ := X.base) I.ok.mod.kin T.kC (thn (ha.run pos pins s σ H _ I h) fun us s1 ⟨vs, H1, I1, r1, hz, q1⟩ => ⟨I1.kIn, ?_⟩) he hpl
  show wpAny _ _ (call (.ref C) us) _ _ _
  obtain ⟨hp, g, dr, tk, os⟩ := s1
  have up1 : hp.objs.size ≤ hp.objs.size + 1 := Nat.le_succ _
  have free1 : H1 (hp.objs.size + 1) = none := I1.hok.fresh up1
  have want := q1 (hp.objs.size + 1) free1
  have kk : ∀ b o, hp.get? b = some o → ((hp.push (kdv_tup us)).push (excO C hp.objs.size)).get? b = some o := fun b o z => Heap.get?_push_of_some _ (Heap.get?_push_of_some _ z)
  have there : ((hp.push (kdv_tup us)).push (excO C hp.objs.size)).get? (hp.objs.size + 1) = some (excO C hp.objs.size) := by heap_get
  have I2 : Inv X pins σ (upd H1 (hp.objs.size + 1) (exo (hp.objs.size + 1) C none)) ⟨(hp.push (kdv_tup us)).push (excO C hp.objs.size), g, dr, tk, os⟩ :=
    I1.laid (t' := tk) (a := hp.objs.size + 1) (o := exo (hp.objs.size + 1) C none) (h' := (hp.push (kdv_tup us)).push (excO C hp.objs.size)) kk up1 (exo_ok there)
  have r2 : Vals (V.ref (hp.objs.size + 1) :: (vs ++ dvs)) (Value.ref (hp.objs.size + 1) :: (us ++ ds)) := .cons rfl (r1.append dflt)
  have many : (Value.ref (hp.objs.size + 1) :: us ++ ds).length = ps.length := by
    have z := r2.length
    rw [G.len _ _ _ _ want] at z
    exact z.symm
  have small : us.length ≤ sizeLine := by
    rw [← Paired.length r1, sizeLine_eq]
    omega
  refine wpAny_call (call_own F.excBase_OverflowError (fun Y => rfl) (I1.kIn _ _ at_C) (looks_findIn I1.kIn hasI) (fun self => bind_fn I1.kIn self isF) small
    (codeAny_mono (G.run _ X.stack _ _ ⟨Value.ref (hp.objs.size + 1) :: us, []⟩ (Value.ref (hp.objs.size + 1) :: (us ++ ds)) _ _ (fun _ _ _ => False) (room.make C us []) (I2.env0.make C us []) (bind _ (Value.ref (hp.objs.size + 1) :: us) I2.kIn many) r2 want) fun r s' hq' => ?_))
  cases r with
  | error er => exact pass pins σ _ _ er s' I2 hq'
  | ok fl =>
    cases fl with
    | ret u =>
      obtain ⟨v, H2, os2, bare2, un2, hok2, rv, ev, dd, fs, ea, ed, hd1, q2⟩ := hq'
      subst ev
      obtain ⟨h2, g2, d2, t2, os'⟩ := s'
      exact ⟨rv, mk_end (raises_own T.exC T.tyC) I1 up1 kk un2 hok2 os2 bare2 ea ed hd1 q2⟩
    | next => exact False.elim hq'
    | brk => exact False.elim hq'
    | cont => exact False.elim hq'
end
/-- all that is asked of the class x of such errors at C, whose field is f -/
structure OCls (P : Program) (w : World) (K : PySem.W.Frag) (mg : Str → Option Value) (base : Heap) (x f : Str) (C : Addr) : Prop where
  ox : OofC K C
  gC : mg x = some (.ref C)
  noA : findIn K (.ref C) f = some none
  ec : ExcC K C
  ini : ∃ (fI : Addr) (fd : FuncData), findIn K (.ref C) "__init__" = some (some (.ref fI)) ∧ typeIn K (.ref fI) = some (.type "function") ∧ FnOk P w K mg base CX0 1 fI fd ["self", f] (spXI C f) ∧ Binds K fd ["self", f] []
theorem OCls.xf {P : Program} {w : World} {K : PySem.W.Frag} {mg : Str → Option Value} {base : Heap} {x f : Str} {C : Addr} (T : OCls P w K mg base x f C) : XfC K C := ⟨T.ec.hg, T.ec.hk, T.ec.hs, T.ec.hd⟩
theorem pmk_O {X : Cx} {C : Addr} {x f : Str} {e : Expr} {te : TE} {p pos : Pos} (T : OCls X.prog X.w X.K X.mg X.base x f C) (room : Room 2 X.A) (he : PE X e te) (hg : Gl X x) (hdb : (x == ("__debug__" : Str)) = false := by decide)
    (hs : starEach [e] X.env = (false, eval e X.env) :: starEach [] X.env := by rfl) (hpl : (backTo pos (starEach [] X.env)).any (·.1) = false := by rfl) :
    PMk X (.Call (.Name x p) [e] [] pos) (tMkO C (spXI C f) [] (tCons te tNil)) := by
  obtain ⟨fI, fd, i1, i2, G, b⟩ := T.ini
  exact pmk_oof (dvs := []) (ds := []) T.ox i1 i2 G room b .nil pass0 hg T.gC (pa_cons he pa_nil hs) hdb hs hpl
/-- what the top has written of it -/
structure XOt (K : PySem.W.Frag) (mg : Str → Option Value) (x f : Str) (C : Addr) (st : Stmt) (qual : Str) : Prop where
  ox : OofC K C
  gC : mg x = some (.ref C)
  noA : findIn K (.ref C) f = some none
  ec : ExcC K C
  tI : ∃ fI, findIn K (.ref C) "__init__" = some (some (.ref fI)) ∧ typeIn K (.ref fI) = some (.type "function") ∧ ∃ fd, Fun K "__init__" qual st fI fd ∧ Binds K fd ["self", f] []
theorem XOt.cls {P : Program} {w : World} {K : PySem.W.Frag} {mg : Str → Option Value} {base : Heap} {x f : Str} {C : Addr} {st : Stmt} {qual : Str} (T : XOt K mg x f C st qual) (h : ∀ fI fd, Fun K "__init__" qual st fI fd → FnOk P w K mg base CX0 1 fI fd ["self", f] (spXI C f)) :
    OCls P w K mg base x f C := by
  obtain ⟨fI, i1, i2, fd, G, b⟩ := T.tI
  exact ⟨T.ox, T.gC, T.noA, T.ec, fI, fd, i1, i2, h fI fd G, b⟩
end L2

set_option Elab.async false
set_option linter.all false
set_option maxRecDepth 100000
/-! the bookkeeping of a walk over a list, whatever a turn's reading is -/
namespace L2
open PySem PySem.Spec PyProof.Rows
theorem steps_list {K : PySem.W.Frag} {a : Addr} {xs : List V} {H0 : Hp} {Qd : Hp → Prop} {step : V → Hp → (Hp → Prop) → Prop} (Pv : Nat → Hp → Prop) (h0 : Pv 0 H0) (hl : ∀ i H, i ≤ xs.length → Pv i H → SqL K H a xs)
    (hs : ∀ i x H, xs[i]? = some x → Pv i H → step x H (Pv (i + 1))) (hd : ∀ H, Pv xs.length H → Qd H) :
    ∃ W : Nat → Nat → Hp → Prop, (∃ m, W 0 m H0) ∧ ∀ i m H, W i m H →
      ((Itl K a).stop i H ∧ Qd H) ∨ ((Itl K a).go i H ∧ ∃ N : Hp → Prop, (∀ H', N H' → ∃ m', m' < m ∧ W (i + 1) m' H') ∧ ∀ x H', (Itl K a).yld i H x H' → step x H' N) := by
  refine ⟨fun i m H => m + i = xs.length ∧ Pv i H, ⟨xs.length, rfl, h0⟩, ?_⟩
  rintro i m H ⟨hm, pv⟩
  have q := hl i H (by omega) pv
  rcases Nat.lt_or_ge i xs.length with h | h
  · have hx : xs[i]? = some xs[i] := List.getElem?_eq_getElem h
    refine .inr ⟨⟨xs, xs[i], q, hx⟩, Pv (i + 1), fun H' pv' => ⟨m - 1, by omega, by omega, pv'⟩, fun x H' y => ?_⟩
    obtain ⟨y1, y2⟩ := y
    subst y1
    exact hs i x _ (y2 xs q) pv
  · obtain rfl : i = xs.length := by omega
    exact .inl ⟨⟨xs, q, Nat.le_refl _⟩, hd H pv⟩
def rLenK (K : PySem.W.Frag) : List V → Hp → VK → Prop := fun xs H Q => ∃ p ys, xs = [.ref p] ∧ (SqL K H p ys ∨ SqT K H p ys) ∧ Q (.int ys.length) H
theorem call_len_seqK {X : Cx} {K : PySem.W.Frag} (h : X.K = K) : CallR X (.builtin "len") (rLenK K) := by
  subst h
  exact call_len_seq
end L2

set_option Elab.async false
set_option linter.all false
set_option maxRecDepth 100000
set_option maxHeartbeats 4000000
/-! list(f(..)) of a generator def that may raise, in a try -/
namespace L2
open PySem PySem.Spec PyProof.Rows GenW
def tListGS (tg : XK → TGen) (E : St → XK) : TE := fun σ H Q => tg (E σ) σ H fun out H2 => ∀ p, H2 p = none → Q (.ref p) (upd H2 p (.lst out))
section
variable {X : Cx} {k : Nat} {p p2 pos pos2 : Pos} {e : Expr} {x nm : Str} {es : List Expr}
theorem pe_listGS {tg : XK → TGen} {E : St → XK} (made : ∀ E, PGen X k e (tg E) E) (pass : ∀ σ, PassesAt (CX X.prog X.w) X σ (E σ)) (nostop : ∀ σ, NoStop X.K (E σ)) (room : Room (k + 3) X.A) (hg : Gl X nm) (hmg : X.mg nm = none) (hv : bootBuiltins nm = some (.type "list"))
    (hnm : nm ≠ "__name__" := by decide) (hdb : (nm == ("__debug__" : Str)) = false := by decide) (he : starEach [e] X.env = (false, eval e X.env) :: starEach [] X.env := by rfl) : PE X (.Call (.Name nm p) [e] [] pos) (tListGS tg E) := by
  refine ⟨fun pins st σ H Q I want => ?_⟩
  refine wpAny_Call_Name_kw (ld_blt I hg hmg hv ?_ hnm hdb)
  refine PyProof.Rows.callWith_type1 ?_ he rfl
  rw [he]
  show wpAny _ _ (spliced ((false, eval e X.env) :: backTo pos (starEach [] X.env))) _ _ st
  refine Calls.spliced_cons (thn ((made (E σ)).run pins st σ H _ I want) fun u st1 ⟨H1, sc, ex, I1, exOk, gen⟩ => ?_)
  refine Calls.spliced_nil ?_
  have grown : sc.heap.objs.size ≤ st1.heap.objs.size := by
    obtain ⟨a, g, c, _, g1, g2, _⟩ := gen
    exact Nat.le_trans g1 (Nat.le_of_lt g2)
  refine call_list_new room I1.ok.frames gen (fun S st2 acc c H' ys a0 a1 a2 a3 a4 a5 a6 a7 a8 a9 => ?_) fun er st2 g left => ?_
  · exact ⟨.ref S, upd H' S (.lst ys), I1.drained (Nat.le_trans grown a0) a3 a1 a2 exOk a4 a5 a6 a7 a8, rfl, a9 S a8⟩
  · have kin : X.K.In st2.heap := by
      obtain ⟨a, B, H', cls, d, _, fl, _, ub, _⟩ := id left
      refine I1.ok.mod.kin.keeps fun b o eb => fl.1 b o (ub.keep b o (I1.bs b o eb).1 (I1.bs b o eb).2 fun hm => ?_)
      rcases List.mem_cons.mp (I1.stkSub b hm) with z | z
      · have z1 := Heap.lt_size eb
        have z2 := Nat.le_trans I1.ok.bsz I1.ok.above
        rw [z] at z1
        exact absurd (Nat.lt_of_lt_of_le z1 z2) (Nat.lt_irrefl _)
      · exact I1.ok.nofr eb z
    refine ⟨notStop_of (nostop σ) kin left, pass σ pins H1 sc er _ I1 ?_⟩
    obtain ⟨a, B, H', cls, d, z1, fl, z2, ub, z3, z4, z5, z6⟩ := left
    exact ⟨a, B, H', cls, d, z1, fl, z2, ub, z3, z4, allBare_setGen z5 rfl, z6⟩
/-- what is wished for, of errors that are no StopIteration -/
def noStopW (K : PySem.W.Frag) (W : WX) : WX := fun cls d σ H => PySem.W.subIn K cls (.type "StopIteration") = some false ∧ W cls d σ H
theorem pe_listOwnGS {ps : List Str} {sp : SpG} {t : TA} {W : WX} (O : OwnG X.prog X.w X.K X.mg X.base x k ps sp) (room : Room (k + 3) X.A) (tk : Takes X W) (ha : PA X (e :: es) t) (hmg : X.mg nm = none) (hgl : Gl X nm := by rfl) (hg : Gl X x := by rfl) (hv : bootBuiltins nm = some (.type "list") := by decide +kernel)
    (hnm : nm ≠ "__name__" := by decide) (hdb : (nm == ("__debug__" : Str)) = false := by decide) (hdb2 : (x == ("__debug__" : Str)) = false := by decide)
    (he : starEach (e :: es) X.env = (false, eval e X.env) :: starEach es X.env := by rfl) (hpl : (backTo pos (starEach es X.env)).any (·.1) = false := by rfl)
    (he2 : starEach [Expr.Call (.Name x p) (e :: es) [] pos] X.env = (false, eval (Expr.Call (.Name x p) (e :: es) [] pos) X.env) :: starEach [] X.env := by rfl) :
    PE X (.Call (.Name nm p2) [.Call (.Name x p) (e :: es) [] pos] [] pos2) (tListGS (fun E => tCallG sp [] E t) (WE (noStopW X.K W))) := by
  obtain ⟨f, fd, F, hm, hk, hb⟩ := O.ex
  exact pe_listGS (fun E => pgen_call (E := E) F (room.mono (by omega)) hg hm hk hb .nil ha hdb2 he hpl) (fun σ => passAt (tk.imp fun _ _ _ _ h => h.2) σ) (fun σ cls d H h => h.1) room hgl hmg hv hnm hdb he2
theorem pe_listOwnGSK {K : PySem.W.Frag} {ps : List Str} {sp : SpG} {t : TA} {W : WX} (hK : X.K = K) (O : OwnG X.prog X.w X.K X.mg X.base x k ps sp) (room : Room (k + 3) X.A) (tk : Takes X W) (ha : PA X (e :: es) t) (hmg : X.mg nm = none) (hgl : Gl X nm := by rfl) (hg : Gl X x := by rfl) (hv : bootBuiltins nm = some (.type "list") := by decide +kernel)
    (hnm : nm ≠ "__name__" := by decide) (hdb : (nm == ("__debug__" : Str)) = false := by decide) (hdb2 : (x == ("__debug__" : Str)) = false := by decide)
    (he : starEach (e :: es) X.env = (false, eval e X.env) :: starEach es X.env := by rfl) (hpl : (backTo pos (starEach es X.env)).any (·.1) = false := by rfl)
    (he2 : starEach [Expr.Call (.Name x p) (e :: es) [] pos] X.env = (false, eval (Expr.Call (.Name x p) (e :: es) [] pos) X.env) :: starEach [] X.env := by rfl) :
    PE X (.Call (.Name nm p2) [.Call (.Name x p) (e :: es) [] pos] [] pos2) (tListGS (fun E => tCallG sp [] E t) (WE (noStopW K W))) := by
  subst hK
  exact pe_listOwnGS O room tk ha hmg hgl hg hv hnm hdb hdb2 he hpl he2
end
section
variable {X : Cx} {K : PySem.W.Frag}
theorem op_ltTK (h : X.K = K) (hu : X.A.units < cLine) : OpR X (compareOp .Lt) (rLtT K) := by
  subst h
  exact op_ltT hu
end
end L2

set_option Elab.async false
set_option linter.all false
set_option maxRecDepth 100000
set_option maxHeartbeats 4000000
/-! set(list of ints) as a value; a tuple read backwards -/
namespace L2
open PySem PySem.Spec PyProof.Rows
section
variable {P : Program} {w : World} {A : Around} {E : Value → Shared → Prop} {s : Shared}
/-- the object that set(..) begins with -/
abbrev bareSet (w : World) : Obj := { cls := .type "set", dict := none, data := .set #[] 0 (.fresh 0 0 (!w.params.followText "set-order")) }
theorem set_of_list {l : Addr} {items : Array Value} (ns : List Int) {Q : Value → Shared → Prop} (calm : A.handled = none) (isL : s.heap.IsList l items) (areI : IntsAre items.toList ns) (few : ns.length + 1 < scanBound)
    (goal : ∀ (hp : Heap) (tk c : Nat), SetR w hp s.heap.objs.size (fun j => decide (j ∈ ns)) c → c ≤ ns.length → (∀ b o, s.heap.get? b = some o → hp.get? b = some o) → Q (.ref s.heap.objs.size) { s with heap := hp, toks := tk }) :
    wpAny (model P w) A (call (.type "set") [.ref l]) Q E s := by
  have same : items.size = ns.length := by
    have z := IntsAre.length areI
    rw [Array.length_toList] at z
    exact z
  obtain ⟨c, tl, mroS⟩ := F.called_set.mro
  have madeS := F.called_set.made
  have subS := F.called_set.sub
  refine wpAny_call (codeAny_of_tree ?_)
  show wpAny _ _ (callAny (.type "set") _) _ _ _
  refine wpAny_pure ⟨Code.quiet_builtin _ (by decide +kernel), codeAny_builtin F.entry_type_call ?_⟩
  rw [Around.under_plain (weight_type_call_type "set" [.ref l] []) rfl]
  have noT := F.called_set.notType
  have canC := F.called_set.canCreate
  have tcs := F.typeCall_set_1 (.ref l)
  repeat (any_goals (first | assumption | wp_step))
  refine codeAny_mono (code_set_led1 (.ref l) (E := E) (Q₁ := fun v st => v = .ref s.heap.objs.size ∧ st = { s with heap := s.heap.push (bareSet w) }) ⟨rfl, rfl⟩) fun r st back => ?_
  cases r with
  | error e => exact back
  | ok fl =>
    cases fl with
    | next => exact back.elim
    | brk => exact back.elim
    | cont => exact back.elim
    | ret v =>
      obtain ⟨rfl, rfl⟩ := back
      have atS : (s.heap.push (bareSet w)).get? s.heap.objs.size = some (bareSet w) := Heap.get?_push_size _ rfl
      have tyS : Shared.TypeIs { s with heap := s.heap.push (bareSet w) } (.ref s.heap.objs.size) "set" := ⟨_, atS, rfl⟩
      have iniL := F.called_set.init.lookup
      have iniB := F.called_set.init.bind (.ref s.heap.objs.size)
      repeat (any_goals (first | assumption | wp_step))
      refine codeAny_mono (codeAny_call_builtin (R := wants (fun r st2 => r = .none ∧ ∃ hp tk c, st2 = { s with heap := hp, toks := tk } ∧ SetR w hp s.heap.objs.size (fun j => decide (j ∈ ns)) c ∧ c ≤ ns.length ∧
        (∀ b o, s.heap.get? b = some o → hp.get? b = some o)) E) F.called_set.init.plain F.entry_set_init (check_set_init_1 tyS ?_)) fun r2 st2 back2 => ?_
      · obtain ⟨ol, atL, clL, nl, daL⟩ := isL
        obtain ⟨o1, o2, o3, o4⟩ := ol
        simp only at clL daL
        subst clL; subst daL
        have atL2 : (s.heap.push (bareSet w)).get? l = some { cls := .type "list", dict := o2, data := .seq items nl, slots := o4 } := Heap.get?_push_of_some _ atL
        have sub1 := F.sub_list_set
        have sub2 := F.sub_list_frozenset
        have ne1 : (Value.type "list" == Value.type "dict") = false := by decide
        have isL2 : (s.heap.push (bareSet w)).IsList l items := ⟨_, atL2, rfl, nl, rfl⟩
        unfold Builtin.«set.__init__» noKeywords Builtin.Frozenset.updateFrom
        generalize hold : pyIter = PI
        wp_walk
        subst hold
        refine wpAny_pyIter_list isL2 ?_
        refine wpAny_bind (wpAny_runValue ?_)
        have below : l < s.heap.objs.size := Heap.lt_size atL
        have calm3 : A.in1.in1.in1.handled = none := by simp [calm]
        have apart : l ≠ (s.heap.push (bareSet w)).objs.size := by
          rw [Heap.size_push]
          exact Nat.ne_of_lt (Nat.lt_succ_of_lt below)
        have outside : s.heap.objs.size ∉ [(s.heap.push (bareSet w)).objs.size, l] := by
          rw [Heap.size_push]
          simp only [List.mem_cons, List.mem_singleton, List.not_mem_nil, or_false, not_or]
          exact ⟨Nat.ne_of_lt (Nat.lt_succ_self _), Nat.ne_of_gt below⟩
        have each : ∀ (i : Nat) (v : Value), items[i]? = some v → ∃ k t, ns[i]? = some k ∧ v = .int k t := fun i v hv => by
          have hi : i < ns.length := by rw [← same]; exact (Array.getElem?_eq_some_iff.mp hv).1
          obtain ⟨t, e⟩ := PyProof.Rows.IntsAre.int_at areI i v (by rw [Array.getElem?_toList]; exact hv)
          refine ⟨ns[i], t, List.getElem?_eq_getElem hi, ?_⟩
          rw [e, List.getD_eq_getElem?_getD, List.getElem?_eq_getElem hi] <;> rfl
        refine set_update_ints ((Walks.list calm3 _ l apart items).toS) s.heap.objs.size outside ns same few each (items.size - 0) 0 _ (by omega) (Nat.zero_le _) ⟨⟨_, Heap.get?_push_size _ rfl, rfl, rfl⟩, (isL2.push _)⟩ ?begin ?done
        case begin => exact ⟨0, Nat.le_refl 0, setR_new_at (Heap.get?_push_of_some _ atS)⟩
        case done =>
          intro st3 c3 mv lec isS
          obtain ⟨hp, g3, d3, tk, os3⟩ := st3
          have eg : g3 = s.gens := mv.gens
          have ed : d3 = s.drawn := mv.drawn
          have eo : os3 = s.os := mv.os
          subst eg; subst ed; subst eo
          show wpAny _ _ _ _ _ _
          refine wpAny_pure ?_
          show wpAny _ _ (ret Value.none) _ _ _
          rw [same] at lec
          refine wpAny_pure ⟨rfl, hp, tk, c3, rfl, isS, lec, fun b o e => ?_⟩
          have b0 : b < s.heap.objs.size := Heap.lt_size e
          have b2 : b ≠ (s.heap.push (bareSet w)).objs.size := by
            rw [Heap.size_push]
            exact Nat.ne_of_lt (Nat.lt_succ_of_lt b0)
          exact mv.heap b o (by simp only [List.mem_cons, List.mem_singleton, List.not_mem_nil, or_false, not_or]; exact ⟨Nat.ne_of_lt b0, b2⟩) (Heap.get?_push_of_some _ (Heap.get?_push_of_some _ e))
      · cases r2 with
        | error e => exact back2
        | ok fl2 =>
          cases fl2 with
          | next => exact back2.elim
          | brk => exact back2.elim
          | cont => exact back2.elim
          | ret r =>
            obtain ⟨rfl, hp, tk, c3, rfl, isS, lec, keep⟩ := back2
            repeat (any_goals (first | assumption | wp_step))
            exact goal _ _ _ isS lec keep
end
def rSetLI (K : PySem.W.Frag) (w : World) : List V → Hp → VK → Prop := fun xs H Q => ∃ (l : Addr) (ns : List Int), xs = [.ref l] ∧ SqL K H l (ns.map V.int) ∧ ns.length ≤ 60 ∧ ∀ p c, H p = none → c ≤ ns.length → Q (.ref p) (upd H p (SetO w p (fun j => decide (j ∈ ns)) c))
theorem cr_setLI {X : Cx} (hc : X.calm = true) : CallR X (.type "set") (rSetLI X.K X.w) := by
  intro pins s σ H xs us Q I r h
  obtain ⟨l, ns, rfl, hq, small, q⟩ := h
  obtain ⟨u, rfl, rx⟩ := vals1 r
  cases rx
  obtain ⟨its, r2, pl, _⟩ := I.list hq
  refine set_of_list ns (I.ok.hd hc) pl.isList (by simpa using intsAre_of r2) (by unfold scanBound; omega) fun hp tk c isS lec keep => ?_
  exact ⟨.ref s.heap.objs.size, _, I.laid (t' := tk) keep (Nat.le_refl _) (setO_new isS), rfl, q _ c (I.hok.fresh (Nat.le_refl _)) lec⟩
end L2

set_option Elab.async false
set_option linter.all false
set_option maxRecDepth 100000
set_option maxHeartbeats 4000000
namespace L2
open PySem PySem.Spec PyProof.Rows
theorem back_places (n : Nat) : Builtin.Slice.slicePlaces ((n : Int) - 1) (-1) (-1) = n := by
  unfold Builtin.Slice.slicePlaces
  rw [if_neg (by omega)]
  by_cases h : ((n : Int) - 1) > -1
  · rw [if_pos h]
    have : ((n : Int) - 1 - -1 - 1) / (- -1) + 1 = (n : Int) := by
      rw [Int.neg_neg, Int.ediv_one]
      omega
    rw [this]
    exact Int.toNat_natCast n
  · rw [if_neg h]
    have : n = 0 := by omega
    rw [this]
    rfl
theorem back_pick (xs : Array Value) : ((List.range xs.size).filterMap fun (m : Nat) => xs[(((xs.size : Int) - 1) + (m : Int) * (-1)).toNat]?).toArray = xs.toList.reverse.toArray := by
  congr 1
  refine List.ext_getElem? fun i => ?_
  have hall : ∀ k, k ≤ xs.size → (List.range k).filterMap (fun (m : Nat) => xs[(((xs.size : Int) - 1) + (m : Int) * (-1)).toNat]?) = xs.toList.reverse.take k := fun k => by
    induction k with
    | zero => intro _; rfl
    | succ k ih =>
      intro hk
      rw [List.range_succ, List.filterMap_append, ih (by omega), List.take_add_one]
      congr 1
      have hi : (((xs.size : Int) - 1) + (k : Int) * (-1)).toNat = xs.size - 1 - k := by omega
      have hlt : xs.size - 1 - k < xs.size := by omega
      have hr : xs.toList.reverse[k]? = some xs[xs.size - 1 - k] := by
        rw [List.getElem?_reverse (by rw [Array.length_toList]; omega), Array.length_toList, Array.getElem?_toList]
        exact Array.getElem?_eq_getElem hlt
      rw [hr, List.filterMap_cons, hi, Array.getElem?_eq_getElem hlt]
      rfl
  rw [hall xs.size (Nat.le_refl _), List.take_of_length_le (by rw [List.length_reverse, Array.length_toList]; exact Nat.le_refl _)]
section
variable {prog : Program} {w : World} {A : Around} {E : Value → Shared → Prop} {s : Shared}
theorem slice_back {sl : Addr} {v1 v2 v3 : Value} {n : Nat} {Q : Int × Int × Nat → Shared → Prop} (isS : s.heap.IsSliceOf sl v1 v2 v3) (p1 : IsPart v1 none) (p2 : IsPart v2 none) (p3 : IsPart v3 (some (-1))) (goal : Q ((n : Int) - 1, -1, n) s) :
    wpAny (model prog w) A (Builtin.Slice.sliceApplied (.ref sl) (pure (n : Int))) Q E s := by
  obtain ⟨os, atS, clS, daS⟩ := id isS
  unfold Builtin.Slice.sliceApplied Builtin.Slice.sliceFields
  refine wpAny_bind (wpAny_bind (wpAny_field atS daS (x := v1) rfl (wpAny_bind (wpAny_field atS daS (x := v2) rfl (wpAny_bind (wpAny_field atS daS (x := v3) rfl (wpAny_pure ?_)))))))
  refine wpAny_bind (HT.slicePart_ p3 ?_)
  show wpAny _ _ (if ((-1 : Int) == 0) = true then _ else _) _ _ s
  rw [if_neg (by decide)]
  refine wpAny_bind (HT.slicePart_ p1 (wpAny_bind (HT.slicePart_ p2 (wpAny_bind (wpAny_pure ?_)))))
  show wpAny _ _ (pure ((n : Int) - 1, (-1 : Int), Builtin.Slice.slicePlaces ((n : Int) - 1) (-1) (-1))) _ _ s
  rw [back_places]
  exact wpAny_pure goal
theorem tuple_back {t sl : Addr} {items : Array Value} {v1 v2 v3 : Value} {Q : Value → Shared → Prop} (isT : IsTup s.heap t items) (isS : s.heap.IsSliceOf sl v1 v2 v3) (p1 : IsPart v1 none) (p2 : IsPart v2 none) (p3 : IsPart v3 (some (-1)))
    (goal : Q (.ref s.heap.objs.size) { s with heap := s.heap.push { cls := .type "tuple", data := .seq items.toList.reverse.toArray } }) (fits : items.size ≤ sizeLine) : wpAny (model prog w) A (getItem (.ref t) (.ref sl)) Q E s := by
  have okR : sizeOk (.seq items.toList.reverse.toArray) := by
    show items.toList.reverse.toArray.size ≤ sizeLine
    rw [List.size_toArray, List.length_reverse, Array.length_toList]
    exact fits
  obtain ⟨os, atS, clS, daS⟩ := id isS
  have tyS : s.TypeIs (.ref sl) "slice" := ⟨os, atS, clS⟩
  unfold getItem
  try with_reducible refine wpAny_holding ?_
  first | refine wpAny_bind (wpAny_pure ?_) | skip
  refine wpAny_bind (wpAny_sequenceKey isT.typeIs (by decide) ?_)
  refine wpAny_bind (wpAny_callSpecial?_slot (name := Str.ofString "__getitem__") isT.typeIs PyProof.Rows.slot_tuple_getitem (wpAny_call_entry PyProof.Rows.slot_tuple_getitem isT.typeIs entry_tuple_getitem ?_ (args_tuple_getitem _ _)))
  show wpAny _ _ (Builtin.Tuple.tupleItemsOf (.ref t) >>= _) _ _ s
  refine wpAny_bind (tupleItemsOf_ isT ?_)
  refine wpAny_bind (wpAny_typeOf tyS ?_)
  rw [if_pos (by decide)]
  refine wpAny_bind (slice_back isS p1 p2 p3 ?_)
  have no : ¬ ((((items.size : Int) - 1) == 0 && (-1 : Int) == 1 && items.size == items.size) = true) := by
    rw [show ((-1 : Int) == 1) = false by decide, Bool.and_false, Bool.false_and]
    exact Bool.false_ne_true
  show wpAny _ _ (if (((items.size : Int) - 1) == 0 && (-1 : Int) == 1 && items.size == items.size) = true then _ else _) _ _ s
  rw [if_neg no, back_pick]
  first
    | exact wpAny_bind (m := Builtin.Tuple.tupleExact _) (wpAny_newObj_type (wpAny_pure ⟨_, rfl, wpAny_pure goal⟩) okR)
    | exact wpAny_bind (m := Builtin.Tuple.tupleExact _) (wpAny_newObj_type (wpAny_bind (wpAny_pure (wpAny_pure ⟨_, rfl, wpAny_pure goal⟩))) okR)
    | exact wpAny_bind (wpAny_bind (m := Builtin.Tuple.tupleExact _) (wpAny_newObj_type (wpAny_pure (wpAny_pure ⟨_, rfl, wpAny_pure goal⟩)) okR))
    | exact wpAny_bind (wpAny_bind (m := Builtin.Tuple.tupleExact _) (wpAny_newObj_type (wpAny_pure ⟨_, rfl, wpAny_pure goal⟩) okR))
end
/-- t[::-1] -/
def tRevT (K : PySem.W.Frag) (te : TE) : TE := fun σ H Q => te σ H fun x H1 => ∃ a xs, x = .ref a ∧ SqT K H1 a xs ∧ ∀ p, H1 p = none → Q (.ref p) (upd H1 p (.tup xs.reverse))
theorem pe_revT {X : Cx} {e : Expr} {te : TE} {k : Nat} {p1 p2 p3 pos : Pos} (he : PE X e te) : PE X (.Subscript e (.Slice none none (some (.UnaryOp .USub (.Constant (.int 1) k p1) p2)) p3) pos) (tRevT X.K te) := by
  refine ⟨fun pins st σ H Q I want => ?_⟩
  refine Subscript_ (thn (he.run pins st σ H _ I want) fun v s1 ⟨x, H1, I1, r1, q1⟩ => ?_)
  obtain ⟨a, xs, ex, isT, q⟩ := q1
  subst ex
  cases r1
  have step : PO X (some (.UnaryOp .USub (.Constant (.int 1) k p1) p2)) (tPart (tUn (rU fun i => .int (-i)) (tC (.int 1)))) := po_some (pe_un un_neg pe_int)
  refine wpAny_Slice (thn (po_none.run pins s1 σ H1 (fun o H2 => o = none ∧ H2 = H1) I1 ⟨rfl, rfl⟩) fun vl s2 ⟨l, H2, I2, pl, el, e2⟩ => ?_)
  subst el e2
  refine thn (po_none.run pins s2 σ H2 (fun o H3 => o = none ∧ H3 = H2) I2 ⟨rfl, rfl⟩) fun vu s3 ⟨u, H3, I3, pu, eu, e3⟩ => ?_
  subst eu e3
  refine thn (step.run pins s3 σ H3 (fun o H4 => o = some (-1) ∧ H4 = H3) I3 ⟨1, rfl, -1, rfl, rfl, rfl⟩) fun vs s4 ⟨o, H4, I4, ps, eo, e4⟩ => ?_
  subst eo e4
  have I5 : Inv X pins σ H4 { s4 with heap := s4.heap.push { cls := .type "slice", data := .fields #[vl, vu, vs] } } := I4.kept (t' := s4.toks) fun b ob z => Heap.get?_push_of_some _ z
  obtain ⟨its, r, ht, hz⟩ := I5.tuple isT
  have many := r.length
  show wpAny (model X.prog X.w) X.A (subscriptTail e (.Slice none none (some (.UnaryOp .USub (.Constant (.int 1) k p1) p2)) p3) (.ref a) (.ref s4.heap.objs.size)) (EP X pins σ Q) X.xe { s4 with heap := s4.heap.push { cls := .type "slice", data := .fields #[vl, vu, vs] } }
  refine tail_any (ops := [.ref a, .ref s4.heap.objs.size]) ht.typeIs (PyProof.Rows.slot_tuple_getitem.lookup) ?_ (by with_unfolding_all rfl)
  refine tuple_back ht (Heap.IsSliceOf.new _ vl vu vs) pl pu ps ?_ (by rw [List.size_toArray]; omega)
  refine ⟨.ref _, _, I5.laid (t' := s4.toks) (o := .tup xs.reverse) (fun b ob z => Heap.get?_push_of_some _ z) (Nat.le_refl _) ?_, rfl, q _ (I5.hok.fresh (Nat.le_refl _))⟩
  exact ⟨by rw [List.length_reverse]; exact hz, _, r.reverse, IsTup.new _ _⟩
end L2

set_option Elab.async false
set_option linter.all false
set_option maxRecDepth 100000
/-! len of a set of ints: as many as its members -/
namespace L2
open PySem PySem.Spec PyProof.Rows
def rLenSetO (w : World) : List V → Hp → VK → Prop := fun xs H Q => ∃ (a : Addr) (S : Int → Bool) (n : Nat), xs = [.ref a] ∧ H a = some (SetO w a S n) ∧ n ≤ 1000 ∧ ((∃ l : List Int, l.Nodup ∧ l.length = n ∧ ∀ k, k ∈ l ↔ S k = true) → Q (.int n) H)
theorem cr_lenSetO {X : Cx} : CallR X (.builtin "len") (rLenSetO X.w) := by
  intro pins s σ H xs us Q I r h
  obtain ⟨a, S, n, rfl, ha, h64, q⟩ := h
  have R := setO_get I ha
  rw [Vals.ref1 r]
  obtain ⟨o, es, ep, t, ho, hex, hd, g, nd, hm, hb, hf, hn, hr, hl⟩ := R
  refine call_len_set ho hex hd hf (by rw [hn]; omega) ⟨.int n, H, I.tok _, ⟨_, by rw [hn]⟩, q ⟨es.toList.map keyOf, nd, ?_, fun k => (hm k).symm⟩⟩
  rw [List.length_map, Array.length_toList]
  exact hn
/-- the bookkeeping of a walk over a range, whatever a turn's reading is -/
theorem steps_range {lo : Int} {n : Nat} {H0 : Hp} {Qd : Hp → Prop} {step : V → Hp → (Hp → Prop) → Prop} (Pv : Nat → Hp → Prop) (h0 : Pv 0 H0)
    (hs : ∀ i H, i < n → Pv i H → step (.int (lo + i)) H (Pv (i + 1))) (hd : ∀ H, Pv n H → Qd H) :
    ∃ W : Nat → Nat → Hp → Prop, (∃ m, W 0 m H0) ∧ ∀ i m H, W i m H →
      ((Itr lo n).stop i H ∧ Qd H) ∨ ((Itr lo n).go i H ∧ ∃ N : Hp → Prop, (∀ H', N H' → ∃ m', m' < m ∧ W (i + 1) m' H') ∧ ∀ x H', (Itr lo n).yld i H x H' → step x H' N) := by
  refine ⟨fun i m H => m = n - i ∧ i ≤ n ∧ Pv i H, ⟨n, by simp, Nat.zero_le _, h0⟩, ?_⟩
  rintro i m H ⟨rfl, hi, p⟩
  by_cases hlt : i < n
  · refine .inr ⟨hlt, Pv (i + 1), fun H' p' => ⟨n - (i + 1), by omega, rfl, hlt, p'⟩, fun x H' y => ?_⟩
    obtain ⟨e, y⟩ := y
    subst e y
    exact hs i _ hlt p
  · obtain rfl : i = n := by omega
    exact .inl ⟨Nat.le_refl _, hd H p⟩
end L2

set_option Elab.async false
set_option linter.all false
set_option maxRecDepth 100000
set_option maxHeartbeats 4000000
/-! zip of two things, each a list or a tuple -/
namespace L2
open PySem PySem.Spec PyProof.Rows
def SqB (K : PySem.W.Frag) (t : Bool) (H : Hp) (a : Addr) (xs : List V) : Prop := match t with | true => SqT K H a xs | false => SqL K H a xs
def SeqB (h : Heap) (t : Bool) (a : Addr) (items : Array Value) : Prop := match t with | true => h.IsTuple a items | false => h.IsList a items
def IterB (h : Heap) (t : Bool) (it a : Addr) (i : Nat) : Prop := match t with | true => h.IsTupleIter it a i | false => h.IsListIter it a i
def obB (t : Bool) (a : Addr) : Obj := match t with | true => { cls := .type "tuple_iterator", data := .fields #[.ref a, .int 0 0] } | false => { cls := .type "list_iterator", data := .fields #[.ref a, .int 0 0] }
theorem drawsB {prog : Program} {w : World} {A : Around} (t : Bool) (hh : A.handled = none) (it l : Addr) (hne : l ≠ it) (items : Array Value) :
    Draws prog w A it [it, l] items.size (fun i v => items[i]? = some v) (fun i h => IterB h t it l i ∧ SeqB h t l items) := by
  cases t with
  | true => exact Draws.tuple hh it l hne items
  | false => exact Draws.list hh it l hne items
theorem beginsB (t : Bool) (l : Addr) (items : Array Value) : Begins (.ref l) (obB t l) (fun h => SeqB h t l items) := by
  cases t with
  | true => exact begins_tuple l items
  | false => exact begins_list l items
theorem iterB_new {h : Heap} {t : Bool} {it l : Addr} (e : h.get? it = some (obB t l)) : IterB h t it l 0 := by
  cases t with
  | true => exact ⟨_, e, rfl, rfl⟩
  | false => exact ⟨_, e, rfl, rfl⟩
theorem IterB.live {h : Heap} {t : Bool} {it a : Addr} {i : Nat} (q : IterB h t it a i) : ∃ o, h.get? it = some o ∧ ∀ v, o.data ≠ .cell v := by
  cases t with
  | true =>
    obtain ⟨o, e, _, d⟩ := q
    exact ⟨o, e, fun v q => by rw [d] at q; cases q⟩
  | false =>
    obtain ⟨o, e, _, d⟩ := q
    exact ⟨o, e, fun v q => by rw [d] at q; cases q⟩
theorem IterB.at {h h' : Heap} {t : Bool} {it a : Addr} {i : Nat} (q : IterB h t it a i) (k : ∀ o, h.get? it = some o → h'.get? it = some o) : IterB h' t it a i := by
  cases t with
  | true => exact Heap.IsTupleIter.at q k
  | false => exact Heap.IsListIter.at q k
theorem SeqB.lt {h : Heap} {t : Bool} {a : Addr} {items : Array Value} (q : SeqB h t a items) : a < h.objs.size := by
  cases t with
  | true =>
    obtain ⟨o, e, _⟩ := q
    exact Heap.lt_size e
  | false =>
    obtain ⟨o, e, _⟩ := q
    exact Heap.lt_size e
section
variable {X : Cx} {pins : List (Addr × Obj)} {σ : St} {H : Hp} {s : Shared}
theorem inv_seqB {t : Bool} {a : Addr} {xs : List V} (I : Inv X pins σ H s) (q : SqB X.K t H a xs) : ∃ its : List Value, Vals xs its ∧ SeqB s.heap t a its.toArray := by
  cases t with
  | true =>
    obtain ⟨its, rv, p, _⟩ := I.tuple q
    exact ⟨its, rv, p⟩
  | false =>
    obtain ⟨its, rv, p, _⟩ := I.list q
    exact ⟨its, rv, p.isList⟩
theorem inv_injB {t : Bool} {a : Addr} {xs ys : List V} (I : Inv X pins σ H s) (q : SqB X.K t H a xs) (q' : SqB X.K t H a ys) : xs = ys := by
  cases t with
  | true => exact I.tuple_inj q q'
  | false => exact I.list_inj q q'
end
theorem SqB.ext {K : PySem.W.Frag} {t : Bool} {H H' : Hp} {a : Addr} {xs : List V} (q : SqB K t H a xs) (e : Ext H H') : SqB K t H' a xs := by
  cases t with
  | true => exact SqT.ext q e
  | false => exact SqL.ext q e
/-- the two things as they stand at each turn, the items in new pairs -/
def ItzB (K : PySem.W.Frag) (t1 t2 : Bool) (a b : Addr) : It :=
  ⟨fun i H => ∃ (xs ys : List V), SqB K t1 H a xs ∧ SqB K t2 H b ys ∧ i < xs.length ∧ i < ys.length,
    fun i H v H' => ∃ T x y, v = .ref T ∧ H T = none ∧ H' = upd H T (.tup [x, y]) ∧ (∀ xs, SqB K t1 H a xs → xs[i]? = some x) ∧ ∀ ys, SqB K t2 H b ys → ys[i]? = some y,
    fun i H => ∃ xs ys : List V, SqB K t1 H a xs ∧ SqB K t2 H b ys ∧ i = min xs.length ys.length⟩
theorem turn_zipB {P : Program} {w : World} {K : PySem.W.Frag} {elts : List Expr} {kk : Nat} {tpos : Pos} {t1 t2 : Bool} {a b z TI TO i1 i2 : Addr} (D : ZipApart z TI TO i1 i2 a b) :
    Turn P w K (.Tuple elts kk tpos) (ItzB K t1 t2 a b) [z, TI, TO, i1, i2] z (fun i h => IsZip h z TI TO .none ∧ IsTupOf2 h TI (.ref i1) (.ref i2) ∧ (∃ x y, IsTupOf2 h TO x y) ∧ IterB h t1 i1 a i ∧ IterB h t2 i2 b i) where
  mem := by simp
  obj := fun i h st c hc => by
    obtain ⟨hz, hTI, ⟨x, y, hTO⟩, h1, h2⟩ := st
    have e' : c = z ∨ c = TI ∨ c = TO ∨ c = i1 ∨ c = i2 := by simpa using hc
    rcases e' with q | q | q | q | q
    · rw [q]; exact ⟨_, hz, fun v q => nomatch q⟩
    · rw [q]; exact ⟨_, hTI, fun v q => nomatch q⟩
    · rw [q]; exact ⟨_, hTO, fun v q => nomatch q⟩
    · rw [q]; exact h1.live
    · rw [q]; exact h2.live
  keep := fun i h h' st k => by
    obtain ⟨hz, hTI, ⟨x, y, hTO⟩, h1, h2⟩ := st
    exact ⟨k z (by simp) _ hz, k TI (by simp) _ hTI, ⟨x, y, k TO (by simp) _ hTO⟩, h1.at fun o q => k i1 (by simp) o q, h2.at fun o q => k i2 (by simp) o q⟩
  item := by
    intro X hP hw hK hc i pins s σ H E I hf st hg
    subst hP hw hK
    obtain ⟨hz, hTI, ⟨x0, y0, hTO⟩, h1, h2⟩ := st
    obtain ⟨xs, ys, hqx, hqy, hx, hy⟩ := hg
    obtain ⟨its, rv, p⟩ := inv_seqB I hqx
    obtain ⟨its2, rv2, p2⟩ := inv_seqB I hqy
    have l1 := rv.length
    have l2 := rv2.length
    have hzl : z < s.heap.objs.size := Heap.lt_size hz
    have Sp : ZipSep2 z TI TO i1 i2 [i1, a] [i2, b] := ⟨D.TIz, D.TOz, D.TITO, D.TIi1, by simp, by simp [Ne.symm D.i1z, Ne.symm D.l1z], by simp [D.TOi1, Ne.symm D.l1TO], D.TIi2, by simp, by simp [Ne.symm D.i2z, Ne.symm D.l2z], by simp [D.TOi2, Ne.symm D.l2TO], by simp [D.i12, Ne.symm D.l2i1], by simp [Ne.symm D.i12, Ne.symm D.l1i2]⟩
    have D1 := drawsB (prog := X.prog) (w := X.w) (A := X.A.in1) t1 (show X.A.in1.handled = none from I.ok.hd hc) i1 a D.l1i1 its.toArray
    have D2 := drawsB (prog := X.prog) (w := X.w) (A := X.A.in1) t2 (show X.A.in1.handled = none from I.ok.hd hc) i2 b D.l2i2 its2.toArray
    refine wpAny_pyNext_zipD2_item Sp D1 D2 hz hTI hTO ⟨h1, p⟩ ⟨h2, p2⟩ (by simp; omega) (by simp; omega) fun u u2 h' tk hP1 hP2 z' TO' h1' h2' hT hsz hk => ?_
    have hu : its[i]? = some u := by simpa using hP1
    have hu2 : its2[i]? = some u2 := by simpa using hP2
    obtain ⟨x, hxx⟩ : ∃ x, xs[i]? = some x := ⟨_, List.getElem?_eq_getElem hx⟩
    obtain ⟨y, hyy⟩ : ∃ y, ys[i]? = some y := ⟨_, List.getElem?_eq_getElem hy⟩
    obtain ⟨u', hu', ru⟩ := rv.get hxx
    obtain ⟨u2', hu2', ru2⟩ := rv2.get hyy
    obtain rfl : u' = u := Option.some.inj (hu'.symm.trans hu)
    obtain rfl : u2' = u2 := Option.some.inj (hu2'.symm.trans hu2)
    refine ⟨_, rfl, wpAny_letOwnedTupleGo_zip (s := { s with heap := h', toks := tk }) z' fun h'' z'' sb => ?_⟩
    have hT2 : h''.get? s.heap.objs.size = some { cls := .type "tuple", data := .seq #[u', u2'] } := (sb.2 _ (Nat.ne_of_gt hzl)).trans hT
    have new : ObjOk X.prog X.w (upd H s.heap.objs.size (.tup [x, y])) h'' s.heap.objs.size (.tup [x, y]) :=
      ⟨by show 2 ≤ sizeLine; decide, [u', u2'], .cons ru (.cons ru2 .nil), ⟨_, hT2, rfl, _, rfl⟩⟩
    have I1 : Inv X pins σ (upd H s.heap.objs.size (.tup [x, y])) { s with heap := h'', toks := tk } :=
      I.turnedNew (ch := [z, TI, TO, i1, i2]) (fun c o hb q => (sb.2 c (fun q' => hb (by simp [q']))).trans (hk c o (fun q' => hb (by simp [q'])) (fun q' => hb (by simp [q'])) (fun q' => hb (by simp [q'])) (fun q' => hb (by simp [q'])) q)) hf (Nat.le_refl _) new
    refine ⟨.ref s.heap.objs.size, _, I1, rfl, ⟨_, x, y, rfl, I.hok.fresh (Nat.le_refl _), rfl, fun l hl => by rw [inv_injB I hl hqx]; exact hxx, fun l hl => by rw [inv_injB I hl hqy]; exact hyy⟩, ⟨z'', ?_, ⟨u', u2', ?_⟩, ?_, ?_⟩, fun c hcm => ?_⟩
    · exact (sb.2 _ D.TIz).trans (hk _ _ D.TIz D.TITO D.TIi1 D.TIi2 hTI)
    · exact (sb.2 _ D.TOz).trans TO'
    · exact h1'.1.at fun o q => (sb.2 _ D.i1z).trans q
    · exact h2'.1.at fun o q => (sb.2 _ D.i2z).trans q
    · have hlt : c < s.heap.objs.size := by
        have e' : c = z ∨ c = TI ∨ c = TO ∨ c = i1 ∨ c = i2 := by simpa using hcm
        rcases e' with q | q | q | q | q
        · rw [q]; exact hzl
        · rw [q]; exact Heap.lt_size hTI
        · rw [q]; exact Heap.lt_size hTO
        · rw [q]; obtain ⟨_, e1, _⟩ := h1.live; exact Heap.lt_size e1
        · rw [q]; obtain ⟨_, e2, _⟩ := h2.live; exact Heap.lt_size e2
      rw [upd_ne (Nat.ne_of_lt hlt)]
      exact (hf c hcm).1
  done := by
    intro X hP hw hK hc i pins s σ H E I hf st hg
    subst hP hw hK
    obtain ⟨hz, hTI, ⟨x0, y0, hTO⟩, h1, h2⟩ := st
    obtain ⟨xs, ys, hqx, hqy, hend⟩ := hg
    obtain ⟨its, rv, p⟩ := inv_seqB I hqx
    obtain ⟨its2, rv2, p2⟩ := inv_seqB I hqy
    have l1 := rv.length
    have l2 := rv2.length
    have Sp : ZipSep2 z TI TO i1 i2 [i1, a] [i2, b] := ⟨D.TIz, D.TOz, D.TITO, D.TIi1, by simp, by simp [Ne.symm D.i1z, Ne.symm D.l1z], by simp [D.TOi1, Ne.symm D.l1TO], D.TIi2, by simp, by simp [Ne.symm D.i2z, Ne.symm D.l2z], by simp [D.TOi2, Ne.symm D.l2TO], by simp [D.i12, Ne.symm D.l2i1], by simp [Ne.symm D.i12, Ne.symm D.l1i2]⟩
    have D1 := drawsB (prog := X.prog) (w := X.w) (A := X.A.in1) t1 (show X.A.in1.handled = none from I.ok.hd hc) i1 a D.l1i1 its.toArray
    have D2 := drawsB (prog := X.prog) (w := X.w) (A := X.A.in1) t2 (show X.A.in1.handled = none from I.ok.hd hc) i2 b D.l2i2 its2.toArray
    refine wpAny_pyNext_zipD2_end Sp D1 D2 hz hTI hTO ⟨h1, p⟩ ⟨h2, p2⟩ (by simp; omega) (by simp; omega) (by simp; omega) fun h' tk hk => ⟨rfl, I.turnedL (t' := tk) (ch := [z, TI, TO, i1, i2]) (fun c o hb q =>
      hk c o (fun q' => hb (by simp [q'])) (fun q' => hb (by simp [q'])) (fun q' => hb (by simp [q'])) (fun q' => hb (by simp [q'])) q) hf⟩
  self := fun A i s Q E st h => wpAny_pyIter_zip st.1 h
def iZipB (K : PySem.W.Frag) (t1 t2 : Bool) (ta : TA) : TI := fun σ H R => ta σ H fun vs H1 => ∃ a b xs ys, vs = [.ref a, .ref b] ∧ SqB K t1 H1 a xs ∧ SqB K t2 H1 b ys ∧ R (ItzB K t1 t2 a b) H1
theorem pi_zipB {X : Cx} (t1 t2 : Bool) {e e2 : Expr} {ta : TA} {p pos tpos : Pos} {elts : List Expr} {kk : Nat} (hg : Gl X "zip") (hm : X.mg "zip" = none) (ha : PA X [e, e2] ta)
    (hs : starEach [e, e2] X.env = (false, eval e X.env) :: starEach [e2] X.env := by rfl) (hpl : (backTo pos (starEach [e2] X.env)).any (·.1) = false := by rfl) :
    PI X (.Tuple elts kk tpos) (.Call (.Name "zip" p) [e, e2] [] pos) (iZipB X.K t1 t2 ta) := by
  refine ⟨fun pins s σ H R I h => ?_⟩
  refine Call_ (ld_blt I hg hm PyProof.Rows.boot_zip (PyProof.Rows.callWith_type1 (thn (ha.run pos pins s σ H _ I h) fun us s1 ⟨vs, H1, I1, r1, q1⟩ => ?_) hs hpl))
  obtain ⟨a, b, xs, ys, ex, hqx, hqy, q⟩ := q1
  subst ex
  cases r1 with
  | cons r rr =>
    cases rr with
    | cons r' rr =>
      cases rr
      cases r
      cases r'
      have fresh5 : ∀ c, c ∈ [s1.heap.objs.size + 4, s1.heap.objs.size + 2, s1.heap.objs.size + 3, s1.heap.objs.size, s1.heap.objs.size + 1] → FpOk X pins H1 c := fun c hcm => by
        have e' : c = s1.heap.objs.size + 4 ∨ c = s1.heap.objs.size + 2 ∨ c = s1.heap.objs.size + 3 ∨ c = s1.heap.objs.size ∨ c = s1.heap.objs.size + 1 := by simpa using hcm
        have hle : s1.heap.objs.size ≤ c := by
          rcases e' with z | z | z | z | z
          · rw [z]; exact Nat.le_add_right _ _
          · rw [z]; exact Nat.le_add_right _ _
          · rw [z]; exact Nat.le_add_right _ _
          · rw [z]; exact Nat.le_refl _
          · rw [z]; exact Nat.le_add_right _ _
        exact I1.fpOk hle (I1.hok.fresh hle)
      obtain ⟨its, rv, p1⟩ := inv_seqB I1 hqx
      obtain ⟨its2, rv2, p2⟩ := inv_seqB I1 hqy
      refine zip_begins2 (beginsB t1 a its.toArray) (beginsB t2 b its2.toArray) p1 p2 fun h' hz hTI hTO h1 h2 hsz hk => wpAny_pyIter_zip hz ?_
      have I2 : Inv X pins σ H1 { s1 with heap := h' } := I1.kept (t' := s1.toks) hk
      exact ⟨s1.heap.objs.size + 4, [s1.heap.objs.size + 4, s1.heap.objs.size + 2, s1.heap.objs.size + 3, s1.heap.objs.size, s1.heap.objs.size + 1], _, _, H1, rfl, I2, turn_zipB (PySem.W.ktu_apart s1.heap.objs.size a b p1.lt p2.lt), ⟨hz, hTI, ⟨_, _, hTO⟩, iterB_new h1, iterB_new h2⟩, fresh5, q⟩
theorem walk_zipB {K : PySem.W.Frag} {t1 t2 : Bool} {a b : Addr} {xs ys : List V} {n : Nat} (hn : n = min xs.length ys.length) : Walk (ItzB K t1 t2 a b) n (fun H => SqB K t1 H a xs ∧ SqB K t2 H b ys) (YPair (fun i => xs[i]?) (fun i => ys[i]?)) := by
  subst hn
  refine ⟨fun i _ hi q => ⟨xs, ys, q.1, q.2, by omega, by omega⟩, fun _ q => ⟨xs, ys, q.1, q.2, rfl⟩, fun i H v H' _ q y => ?_⟩
  obtain ⟨T, x, y, e1, e2, e3, e4, e5⟩ := y
  exact ⟨T, x, y, e1, e2, e3, e4 xs q.1, e5 ys q.2⟩
end L2

set_option Elab.async false
set_option linter.all false
set_option maxRecDepth 100000
set_option maxHeartbeats 1000000
/-! list.remove of a flat item -/
namespace L2
open PySem PySem.Spec PyProof.Rows
section
variable {X : Cx}
def rRemF : V → List V → Hp → VK → Prop := fun x xs H Q => ∃ (l : Addr) (ys : List V) (y : V) (j : Nat) (z : V), x = .ref l ∧ xs = [y] ∧ H l = some (.lst ys) ∧ flatV y = true ∧ ys.all flatV = true ∧ ys[j]? = some z ∧ eqV z y = true ∧
  (∀ (m : Nat) (z' : V), m < j → ys[m]? = some z' → eqV z' y = false) ∧ Q .non (upd H l (.lst (ys.eraseIdx j)))
theorem mt_removeF : MtM X "list.remove" rRemF := by
  intro pins s σ H x xs v us Q I rx rxs h
  obtain ⟨l, ys, y, j, z, rfl, rfl, hH, fy, fys, hz, hzj, hno, q⟩ := h
  cases rx
  obtain ⟨u, rfl, ry⟩ := rxs.one
  obtain ⟨zz, its, n, rv, hl, e⟩ := I.lstM hH
  obtain ⟨w, hw, ru⟩ := rv.get hz
  obtain ⟨hjl, hje⟩ := List.getElem?_eq_some_iff.mp hw
  have hvl := rv.length
  have hj : j < its.toArray.size := by simpa using hjl
  refine call_meets PySem.F.slot_list_remove ⟨_, e, rfl⟩ PySem.F.entry_list_remove (PySem.F.args_list_remove_2 _ _)
    (SeqAt.list_removeAt l its.toArray n none #[] u (eqU y) j hj ?_ ?_ (by rw [List.size_toArray]; omega)) ⟨e, fun u' hu' => mem_eqAt ry fy rv fys u' (by simpa using hu'), ?_⟩
  · have e1 : its.toArray[j] = w := by simpa using hje
    rw [e1, eqU_of ru (flat_at fys hz)]
    exact hzj
  · intro m hm hmj
    have hml : m < its.length := by simpa using hm
    have hmy : m < ys.length := by omega
    have hy' : ys[m]? = some ys[m] := List.getElem?_eq_getElem hmy
    obtain ⟨u2, hu2, ru2⟩ := rv.get hy'
    obtain ⟨_, hme⟩ := List.getElem?_eq_some_iff.mp hu2
    have e1 : its.toArray[m] = u2 := by simpa using hme
    rw [e1, eqU_of ru2 (flat_at fys hy')]
    exact hno m _ hmj hy'
  · refine ⟨.non, _, I.lset (its' := its.eraseIdx j) (t' := s.toks) hH e ?_ (rv.eraseIdx j) ?_, rfl, q⟩
    · show its.toArray.eraseIdxIfInBounds j = (its.eraseIdx j).toArray
      rw [List.eraseIdxIfInBounds_toArray]
    · have := len_erase ys j
      omega
end
end L2

set_option Elab.async false
set_option linter.all false
set_option maxRecDepth 100000
set_option maxHeartbeats 4000000
/-! <= by an own __le__, + by an own __add__ (what stands to the right: an int, a bool, a text), the call of an instance by an own __call__; what is raised may be wished for -/
namespace PySem.W
open PySem PyProof.Rows
section
variable {prog : Program} {w : World} {A : Around} {E : Value → Shared → Prop} {s : Shared} {K : Frag} {x C L f : Addr} {h₀ : Heap} {m : Str → Option Value} {ox : Obj} {od : Option Obj}
theorem pyslot_K {M : Model} {h : Heap} {nm : String} (X : K.In h) (hs : findIn K (.ref C) (PySem.dunder nm) = some (some (.ref f))) (hr : findIn K (.ref C) (dunderR nm) = some none) : Looks M h (numberSlotInPython (.ref C) nm) true := by
  intro A Q E s k q
  unfold numberSlotInPython
  refine wpAny_bind ((looks_findIn X hs) A _ E s k ?_)
  refine wpAny_bind (wpAny_pure ?_)
  refine wpAny_bind ((looks_findIn X hr) A _ E s k ?_)
  refine wpAny_bind (wpAny_pure ?_)
  simp only [Bool.or_false, if_true]
  exact wpAny_pure q
theorem binop_KB {op : Operator} {b : Value} {T : String} {fT : Bool} {rT : Option Value} {Q : Value → Shared → Prop} (F : Fr h₀ L s.heap m) (X₀ : K.In h₀) (I : InstAt s.heap x ox C od) (hb : Looks (model prog w) s.heap (typeOf b) (.type T)) (hc : selfFirst K C = true)
    (hs : findIn K (.ref C) (PySem.dunder op.info.2) = some (some (.ref f))) (hr : findIn K (.ref C) (dunderR op.info.2) = some none) (hfT : fillsNumberSlot (.type T) op.info.2 = pure fT) (hsub : subIn K (.type T) (.ref C) = some false) (hrT : typeLookup (.type T) (dunderR op.info.2) = pure rT) (hf : isFn K (.ref f) = true)
    (h : wpAny (model prog w) A (call (.ref f) [.ref x, b]) (CmpBack Q) E s) : wpAny (model prog w) A (binaryOp op (.ref x) b) Q E s := by
  have X := X₀.keeps F.keep
  obtain ⟨cd, hcd, hm⟩ := any_some hc
  obtain ⟨rest, hm⟩ : ∃ rest, cd.mro = .ref C :: rest := by
    cases q : cd.mro with
    | nil => rw [q] at hm; cases hm
    | cons a r => rw [q] at hm; exact ⟨r, by rw [List.head?_cons] at hm; cases (beq_iff_eq.mp hm); rfl⟩
  unfold binaryOp
  refine wpAny_holding (wpAny_bind ?_)
  unfold binaryOp1
  refine wpAny_bind (I.type.here (wpAny_bind (hb.here (wpAny_bind ((fills_K X hcd hm hs).here ?_)))))
  have tail : wpAny (model prog w) A (tryMethod (.ref x) (PySem.dunder op.info.2) b) (fun r s' => ∃ v, r = some v ∧ Q v s') E s := by
    unfold tryMethod
    refine wpAny_bind (special_fn X I hs (beq_iff_eq.mp hf) (wpAny_mono h (fun v s' hv => ?_) fun _ _ e => e))
    cases v <;> first | exact hv.elim | exact wpAny_pure ⟨_, rfl, hv⟩
  simp only [show (Value.ref C == Value.type T) = false from rfl, Bool.false_eq_true, if_false]
  refine wpAny_bind (wpAny_of_eq hfT ?_)
  cases fT with
  | false =>
    simp only [Bool.and_false, Bool.false_eq_true, if_false, Bool.false_and]
    refine wpAny_bind (wpAny_pure ?_)
    simp only [Bool.false_eq_true, if_false, if_true]
    refine wpAny_bind (wpAny_mono tail (fun r s' z => ?_) fun _ _ e => e)
    obtain ⟨v, rfl, q⟩ := z
    exact wpAny_pure (wpAny_pure q)
  | true =>
    simp only [Bool.and_self, if_true]
    refine wpAny_bind ((looks_subIn X hsub).here ?_)
    simp only [Bool.false_eq_true, if_false, Bool.not_false, Bool.and_self, if_true]
    refine wpAny_bind ((pyslot_K X hs hr).here ?_)
    simp only [if_true]
    refine wpAny_bind (wpAny_of_eq (show numberSlotInPython (.type T) op.info.2 = pure false from rfl) ?_)
    simp only [Bool.not_false, if_true]
    refine wpAny_bind (wpAny_of_eq hrT ?_)
    refine wpAny_bind (wpAny_mono tail (fun r s' z => ?_) fun _ _ e => e)
    obtain ⟨v, rfl, q⟩ := z
    exact wpAny_pure (wpAny_pure q)
end
end PySem.W
namespace L2
open PySem PySem.Spec PyProof.Rows
section
variable {X : Cx} {CX : CXT} {k : Nat} {f C : Addr} {fd : FuncData} {ps : List Str} {sp : Sp} {E : St → XK}
/-- x <= y, x an instance of the class at C with an own __le__ that gives a bool -/
def rLeO (K : PySem.W.Frag) (C : Addr) (sp : Sp) : R2 := fun x y H Q => ∃ a dx fs t, x = .ref a ∧ H a = some (.ins C dx fs) ∧ TyX K H y t ∧ PySem.W.notFirst K C t = true ∧ sp [x, y] H (fun v H' => ∃ b, v = .bl b ∧ Q (.bl b) H') E0
theorem leO (O : OwnM X.prog X.w X.K X.mg X.base CX C "__le__" k ps sp) (hr : Room k X.A) (hx : Passes CX X E0) : OpR X (compareOp .LtE) (rLeO X.K C sp) := by
  obtain ⟨f, fd, F, M, hi, hb⟩ := O.ex
  intro pins s σ H x y v u Q I rx ry hq
  obtain ⟨a, dx, fs, t, rfl, ha, ty, hn, q⟩ := hq
  cases (show v = Value.ref a from rx)
  obtain ⟨P, Z, p, _⟩ := kit_of I ry ty
  obtain ⟨mA, J, _⟩ := ins_get I.hok ha
  obtain ⟨od, J, _⟩ := J.look
  obtain ⟨m, hF⟩ := I.fr
  show wpAny (model X.prog X.w) X.A (richCompare .LtE (.ref a) u) (EP X pins σ Q) X.xe s
  refine PySem.W.cmp_K (op := .LtE) (tb := t) hr.units0 hF I.ok.mod.kin J (Z.ty _ _ I.kIn p) hn M.at_ hi ?_
  refine wpAny_mono (run_at (vs := [.ref a, y]) F hr rfl hb hx I (.cons rfl (.cons ry .nil)) q) (fun v' s' z => ?_) fun _ _ e => e
  obtain ⟨w', H', I', rv, b, rfl, q'⟩ := z
  cases rv
  exact ⟨.bl b, H', I', rfl, q'⟩
/-- the built-in types that may stand to the right of an own + -/
def addTy (t : Value) : Prop := t = .type "int" ∨ t = .type "bool" ∨ t = .type "str"
structure AddM (K : PySem.W.Frag) (C : Addr) : Prop where
  self : PySem.W.selfFirst K C = true
  radd : PySem.W.findIn K (.ref C) "__radd__" = some none
  int : PySem.W.subIn K (.type "int") (.ref C) = some false
  bool : PySem.W.subIn K (.type "bool") (.ref C) = some false
  str : PySem.W.subIn K (.type "str") (.ref C) = some false
/-- x + y, x an instance of the class at C with an own __add__; what is raised is wished for -/
def tAddO (K : PySem.W.Frag) (C : Addr) (sp : Sp) (E : St → XK) (ta tb : TE) : TE := fun σ H Q => ta σ H fun x H1 => tb σ H1 fun y H2 => ∃ a dx fs t, x = .ref a ∧ H2 a = some (.ins C dx fs) ∧ TyX K H2 y t ∧ addTy t ∧ sp [x, y] H2 Q (E σ)
theorem pe_addO {W : WX} {a b : Expr} {ta tb : TE} {pos : Pos} (O : OwnM X.prog X.w X.K X.mg X.base (L2.CX X.prog X.w) C "__add__" k ps sp) (M' : AddM X.K C) (hr : Room k X.A) (tk : Takes X W) (ha : PE X a ta) (hb' : PE X b tb) : PE X (.BinOp a .Add b pos) (tAddO X.K C sp (WE W) ta tb) := by
  obtain ⟨f, fd, F, M, hi, hb⟩ := O.ex
  refine ⟨fun pins s σ H Q I h => ?_⟩
  refine wpAny_BinOp (binT ha hb' I h fun v u s2 x y H2 I2 rx ry q => ?_)
  obtain ⟨o, dx, fs, t, rfl, ho, ty, hty, q⟩ := q
  cases (show v = Value.ref o from rx)
  obtain ⟨P, Z, p, _⟩ := kit_of I2 ry ty
  obtain ⟨mA, J, _⟩ := ins_get I2.hok ho
  obtain ⟨od, J, _⟩ := J.look
  obtain ⟨m, hF⟩ := I2.fr
  have hcall := run_fnSD (us := [.ref o, u]) (vs := [.ref o, y]) F hr hb .nil (passAt tk σ) I2 (.cons rfl (.cons ry .nil)) (by exact q)
  have hcb : wpAny (model X.prog X.w) X.A (call (.ref f) [.ref o, u]) (PySem.W.CmpBack (EP X pins σ Q)) X.xe s2 := wpAny_mono hcall (fun w s' z => by
    obtain ⟨z', H', I', rz, qz⟩ := z
    exact SlX.cmpback rz ⟨z', H', I', rz, qz⟩) fun _ _ x => x
  rcases hty with rfl | rfl | rfl
  · exact PySem.W.binop_KB (op := .Add) (T := "int") (fT := true) (rT := some (.builtin "int.__radd__")) hF I2.ok.mod.kin J (Z.ty _ _ I2.kIn p) M'.self M.at_ M'.radd PySem.F.fills_int_add M'.int (by rw [typeLookup_type, builtinLookup_eq_fast]; kernel_rfl) hi hcb
  · exact PySem.W.binop_KB (op := .Add) (T := "bool") (fT := true) (rT := some (.builtin "int.__radd__")) hF I2.ok.mod.kin J (Z.ty _ _ I2.kIn p) M'.self M.at_ M'.radd PySem.F.fills_bool_add M'.bool (by rw [typeLookup_type, builtinLookup_eq_fast]; kernel_rfl) hi hcb
  · exact PySem.W.binop_KB (op := .Add) (T := "str") (fT := false) (rT := none) hF I2.ok.mod.kin J (Z.ty _ _ I2.kIn p) M'.self M.at_ M'.radd PySem.noFill_str_add M'.str (by rw [typeLookup_type, builtinLookup_eq_fast]; kernel_rfl) hi hcb
/-- f(e, ..), f an instance of the class at C with an own __call__; what is raised is wished for -/
def tCallOS (C : Addr) (sp : Sp) (E : St → XK) (tf : TE) (t : TA) : TE := fun σ H Q => tf σ H fun y H1 => ∃ a, y = V.ref a ∧ t σ H1 fun vs H2 => (∃ dx fs, H2 a = some (.ins C dx fs)) ∧ sp (V.ref a :: vs) H2 Q (E σ)
theorem pe_callOS {W : WX} {fe e : Expr} {es : List Expr} {tf : TE} {t : TA} {pos : Pos} (O : OwnM X.prog X.w X.K X.mg X.base (L2.CX X.prog X.w) C "__call__" k ps sp) (hn : ∀ g, PySem.W.findIn X.K (.ref C) "__call__" = some (some (.ref g)) → PySem.W.fnIn X.K g = true) (hf : PE X fe tf) (hr : Room k X.A) (tk : Takes X W) (ha : PA X (e :: es) t)
    (ht : eval (.Call fe (e :: es) [] pos) X.env = (do callWith pos (← eval fe X.env) [] (backTo pos (starEach (e :: es) X.env)) (backToKw pos (keywordEach [] X.env))) := by rfl)
    (he : starEach (e :: es) X.env = (false, eval e X.env) :: starEach es X.env := by rfl) (hpl : (backTo pos (starEach es X.env)).any (·.1) = false := by rfl) : PE X (.Call fe (e :: es) [] pos) (tCallOS C sp (WE W) tf t) := by
  obtain ⟨f, fd, F, M, hi, hb⟩ := O.ex
  refine ⟨fun pins s σ H Q I h => ?_⟩
  refine Call_ (thn (hf.run pins s σ H _ I h) fun u s1 ⟨y, H1, I1, ry, a, ey, q⟩ => ?_) ht
  subst ey
  obtain rfl : u = Value.ref a := ry
  refine StX.callO_with (thn (ha.run pos pins s1 σ H1 _ I1 q) fun us s2 ⟨vs, H2, I2, r, ⟨dx, fs, hz⟩, q2⟩ => ?_) he hpl
  obtain ⟨ox, od, J, hd⟩ := StX.insC_at I2 (.inr ⟨dx, fs, hz⟩ : StX.InsC X H2 a C)
  refine ⟨⟨C, ox, od, J, hd⟩, wpAny_call (PySem.W.kco_code I2.kIn J hd M.at_ hi (hn f M.at_) ?_)⟩
  have r2 : Vals (V.ref a :: vs) (Value.ref a :: us) := .cons rfl r
  have hl : (Value.ref a :: us).length = ps.length := by rw [← r2.length]; exact F.len _ _ _ _ q2
  refine codeAny_mono (F.run X.A X.stack s2 H2 ⟨Value.ref a :: us, []⟩ (Value.ref a :: us) (V.ref a :: vs) Q (WE W σ) hr I2.env0 (by have := hb s2 (Value.ref a :: us) I2.kIn (by simpa using hl); simpa using this) r2 q2) fun r s' hq => ?_
  cases r with
  | error e => exact passAt tk σ pins H2 s2 e s' I2 hq
  | ok fl =>
    cases fl with
    | ret u => exact I2.after hq
    | next => exact False.elim hq
    | brk => exact False.elim hq
    | cont => exact False.elim hq
end
end L2

set_option Elab.async false
set_option linter.all false
set_option maxRecDepth 100000
set_option maxHeartbeats 4000000
/-! a generator whose consumer may change things between its items: each stretch (from a wake to the next item) has a context of its own -/
namespace L2
open PySem PySem.Spec PyProof.Rows GenW
/-- the heap's first n places -/
def headH (h : Heap) (n : Nat) : Heap := ⟨h.objs.extract 0 n, h.life⟩
def headS (s : Shared) (n : Nat) : Shared := { s with heap := headH s.heap n }
theorem headH_size {h : Heap} {n : Nat} (hn : n ≤ h.objs.size) : (headH h n).objs.size = n := by
  show (h.objs.extract 0 n).size = n
  rw [Array.size_extract]; omega
theorem headH_get {h : Heap} {n b : Nat} (hb : b < n) : (headH h n).get? b = h.get? b := by
  have e : (headH h n).objs[b]? = h.objs[b]? := by
    show (h.objs.extract 0 n)[b]? = _
    rw [Array.getElem?_extract]
    by_cases hl : b < h.objs.size
    · rw [if_pos (by omega), Nat.zero_add]
    · rw [if_neg (by omega), Array.getElem?_eq_none (by omega)]
  unfold Heap.get?
  rw [e]
theorem headH_of {h : Heap} {n b : Nat} {o : Obj} (e : (headH h n).get? b = some o) : b < n ∧ h.get? b = some o := by
  have hb : b < n := by
    have q := Heap.lt_size e
    have z : (headH h n).objs.size ≤ n := by show (h.objs.extract 0 n).size ≤ n; rw [Array.size_extract]; omega
    exact Nat.lt_of_lt_of_le q z
  exact ⟨hb, by rw [← headH_get hb]; exact e⟩

/-- what a generator and its consumer have agreed on: cs: the consumer's state while the generator runs (what is out; heap); yd: what it wants of an item; kp: what it does to the heap until it asks again -/
structure Deal where
  cs : List V → Hp → Shared → Prop
  yd : List V → V → Hp → Prop
  kp : List V → V → Hp → Hp → Prop
  ad : List Addr := []
/-- the consumer's own places, made after the generator's: they stay while it runs -/
def AdOk (ad : List Addr) (n₀ : Nat) (outer : List Env) (H : Hp) (h : Heap) : Prop := ∀ b ∈ ad, n₀ < b ∧ H b = none ∧ b ∉ frs outer ∧ ∃ o, h.get? b = some o ∧ ∀ v, o.data ≠ .cell v
/-- the state in which it asks again -/
structure Wk (P : Program) (w : World) (base : Heap) (outer : List Env) (n₀ : Nat) (ad : List Addr) (H : Hp) (s : Shared) : Prop where
  bare : AllBare s.gens
  bs : ∀ b o, base.get? b = some o → s.heap.get? b = some o ∧ H b = none
  funs : s.heap.FunFrames base outer
  low : ∀ b ∈ frs outer, b < n₀ ∧ H b = none
  hok : HOk P w H s.heap
  sz : n₀ ≤ s.heap.objs.size
  ad : AdOk ad n₀ outer H s.heap
/-- a stretch's contexts -/
structure Fam (Fm : Cx → Prop) (n₀ : Nat) (X : Cx) : Prop where
  same : ∀ Z, Fm Z → Z = { X with s_0 := Z.s_0, H_0 := Z.H_0, xe := Z.xe }
  give : ∀ s H, s.heap.objs.size = n₀ → ∃ Z, Fm Z ∧ Z.s_0 = s ∧ Z.H_0 = H
  ex : X.ex = []
  bsz : X.base.objs.size ≤ n₀
  fn : ∀ Z, Fm Z → ∀ x, Z.fn x = true
  loc : X.env.locals = n₀
def Mine (X : Cx) (ip : List (Addr × Obj)) (b : Addr) : Prop := b = X.env.locals ∨ (∃ x, X.env.cells.lookup x = some b) ∨ ∃ p ∈ X.pn ++ ip, p.1 = b
section
variable {Fm : Cx → Prop} {n₀ : Nat} {X Z : Cx} {ip : List (Addr × Obj)} {σ : St} {H H2 : Hp} {s s2 : Shared}
theorem funFrames_cut {base h : Heap} {n : Nat} : ∀ {l : List Env}, h.FunFrames base l → (∀ b ∈ frs l, b < n) → (headH h n).FunFrames base l
  | [], _, _ => trivial
  | env :: l, hh, hl => by
    obtain ⟨hk, ⟨L, o, hf, hn, ho, hd⟩, hr⟩ := hh
    have hL : L < n := hl L (List.mem_filterMap.mpr ⟨env, List.mem_cons_self, hf⟩)
    refine ⟨hk, ⟨L, o, hf, hn, (headH_get hL).trans ho, hd⟩, funFrames_cut hr fun b hb => ?_⟩
    obtain ⟨e, he, q⟩ := List.mem_filterMap.mp hb
    exact hl b (List.mem_filterMap.mpr ⟨e, List.mem_cons_of_mem _ he, q⟩)
/-- the generator's state in the next stretch -/
theorem reseat {ad : List Addr} {h0 : Heap} (F : Fam Fm n₀ X) (hZ : Fm Z) (hz : Z.s_0.heap.objs.size = n₀) (I : Inv Z (pinsAt ad h0 ++ ip) σ H s) (w : Wk X.prog X.w X.base X.outer n₀ ad H2 s2)
    (mine : ∀ b, Mine Z ip b → ∀ o, s.heap.get? b = some o → s2.heap.get? b = some o ∧ H2 b = none) :
    ∃ Z', Fm Z' ∧ Z'.s_0 = headS s2 n₀ ∧ Z'.H_0 = H2 ∧ Inv Z' (pinsAt ad s2.heap ++ ip) σ H2 s2 := by
  obtain ⟨Z', hZ', e1, e2⟩ := F.give (headS s2 n₀) H2 (headH_size w.sz)
  refine ⟨Z', hZ', e1, e2, ?_⟩
  have q1 := F.same Z hZ
  have q2 := F.same Z' hZ'
  have hex : Z.ex = [] := by rw [q1]; exact F.ex
  have hex' : Z'.ex = [] := by rw [q2]; exact F.ex
  obtain ⟨ok, os, bare, base, ⟨m, hm, loc⟩, cell, free, freeC, pin, hok, len⟩ := I
  have a1 : Z.env = X.env := by rw [q1]
  have a2 : Z'.env = X.env := by rw [q2]
  have a3 : Z.N = X.N := by rw [q1]
  have a4 : Z'.N = X.N := by rw [q2]
  have a5 : Z.pn = X.pn := by rw [q1]
  have a6 : Z'.pn = X.pn := by rw [q2]
  have a7 : Z.outer = X.outer := by rw [q1]
  have a8 : Z'.outer = X.outer := by rw [q2]
  have a9 : Z'.base = X.base := by rw [q2]
  have b1 : Z'.prog = X.prog := by rw [q2]
  have b2 : Z'.w = X.w := by rw [q2]
  have hL : ∀ o, s.heap.get? X.env.locals = some o → s2.heap.get? X.env.locals = some o ∧ H2 X.env.locals = none := fun o e => mine _ (.inl (by rw [a1])) o e
  have hC : ∀ x c, X.env.cells.lookup x = some c → ∀ o, s.heap.get? c = some o → s2.heap.get? c = some o ∧ H2 c = none := fun x c h o e => mine _ (.inr (.inl ⟨x, by rw [a1]; exact h⟩)) o e
  rw [a1] at hm loc cell free freeC pin
  rw [a3] at loc len
  have ok' : Z'.Ok := by
    obtain ⟨mod, kind, glob, blt, above, inj, has, cab, hd, frames, stk, exf, bs, bsz, noex, exfs, funs, frf⟩ := ok
    rw [q1] at mod kind glob blt above inj has cab hd frames stk
    rw [q2]
    refine ⟨mod, kind, glob, blt, ?_, inj, has, fun x c h1 h2 => ?_, hd, frames, stk, ?_, ?_, ?_, ?_, ?_, ?_, ?_⟩
    · show Z'.s_0.heap.objs.size ≤ _
      rw [e1]; show (headH s2.heap n₀).objs.size ≤ _
      rw [headH_size w.sz, ← hz]; exact above
    · show Z'.s_0.heap.objs.size ≤ _
      rw [e1]; show (headH s2.heap n₀).objs.size ≤ _
      rw [headH_size w.sz, ← hz]; exact cab x c h1 h2
    · intro b hb; have hb : b ∈ X.ex := hb; rw [F.ex] at hb; cases hb
    · intro b o e
      show Z'.s_0.heap.get? b = some o ∧ Z'.H_0 b = none
      rw [e1, e2]
      have hl : b < n₀ := Nat.lt_of_lt_of_le (Heap.lt_size e) F.bsz
      obtain ⟨r1, r2⟩ := w.bs b o e
      exact ⟨(headH_get hl).trans r1, r2⟩
    · show X.base.objs.size ≤ Z'.s_0.heap.objs.size
      rw [e1]; show _ ≤ (headH s2.heap n₀).objs.size
      rw [headH_size w.sz]; exact F.bsz
    · intro b o _ hb; have hb : b ∈ X.ex := hb; rw [F.ex] at hb; cases hb
    · intro b hb; have hb : b ∈ X.ex := hb; rw [F.ex] at hb; cases hb
    · show Z'.s_0.heap.FunFrames X.base X.outer
      rw [e1]
      exact funFrames_cut w.funs fun b hb => (w.low b hb).1
    · intro b hb
      show Z'.H_0 b = none
      rw [e2]; exact (w.low b hb).2
  refine ⟨ok', by rw [e1]; rfl, w.bare, ?_, ⟨m, ?_, ?_⟩, ?_, ?_, ?_, ?_, by rw [b1, b2]; exact w.hok, by rw [a4]; exact len⟩
  · rw [e1, e2]
    exact Un.kept fun b o e => (headH_of e).2
  · rw [a2]
    obtain ⟨o, es, ep, ho, r⟩ := hm
    exact ⟨o, es, ep, (hL o ho).1, r⟩
  · rw [a2, a4]
    intro i x v h1 h2 h3
    obtain ⟨u, r, l⟩ := loc i x v h1 h2 h3
    refine ⟨u, r, ?_⟩
    rcases l with l | ⟨k, c, e, o, ho, hd⟩
    · exact .inl l
    · exact .inr ⟨k, c, e, o, (hC x c e o ho).1, hd⟩
  · rw [a2]
    intro x c e
    obtain ⟨v, o, ho, hd⟩ := cell x c e
    exact ⟨v, o, (hC x c e o ho).1, hd⟩
  · rw [a2]
    obtain ⟨o, es, ep, ho, r⟩ := hm
    exact (hL o ho).2
  · rw [a2]
    intro x c e
    obtain ⟨v, o, ho, hd⟩ := cell x c e
    exact (hC x c e o ho).2
  · rw [a2, a6]
    intro p hp
    rcases List.mem_append.mp hp with hp | hp
    · have hp' : p ∈ Z.pn ++ (pinsAt ad h0 ++ ip) := by rw [a5]; exact List.mem_append_left _ hp
      obtain ⟨r1, r2, r3, r4, r5⟩ := pin p hp'
      obtain ⟨t1, t2⟩ := mine p.1 (.inr (.inr ⟨p, by rw [a5]; exact List.mem_append_left _ hp, rfl⟩)) p.2 r1
      refine ⟨t1, t2, r3, ?_, r5⟩
      show p.1 ∉ frs Z'.outer
      rw [a8, ← a7]; exact r4
    rcases List.mem_append.mp hp with hp | hp
    · obtain ⟨hb, e⟩ := of_pinsAt hp
      obtain ⟨w1, w2, w3, o, w4, w5⟩ := w.ad p.1 hb
      rw [e] at w4
      cases w4
      refine ⟨e, w2, ?_, ?_, w5⟩
      · rw [F.loc]; exact Nat.ne_of_gt w1
      · show p.1 ∉ frs Z'.outer
        rw [a8]; exact w3
    · have hp' : p ∈ Z.pn ++ (pinsAt ad h0 ++ ip) := List.mem_append_right _ (List.mem_append_right _ hp)
      obtain ⟨r1, r2, r3, r4, r5⟩ := pin p hp'
      obtain ⟨t1, t2⟩ := mine p.1 (.inr (.inr ⟨p, List.mem_append_right _ hp, rfl⟩)) p.2 r1
      refine ⟨t1, t2, r3, ?_, r5⟩
      show p.1 ∉ frs Z'.outer
      rw [a8, ← a7]; exact r4
end
end L2

set_option Elab.async false
set_option linter.all false
set_option maxRecDepth 100000
set_option maxHeartbeats 4000000
/-! the statements of such a generator -/
namespace L2
open PySem PySem.Spec PyProof.Rows GenW
/-- where a stretch sits -/
structure Seat (Fm : Cx → Prop) (n₀ : Nat) (Dl : Deal) (ys : List V) (s₀ : Shared) (Z : Cx) : Prop where
  fm : Fm Z
  at0 : Z.s_0 = headS s₀ n₀
  cs : Dl.cs ys Z.H_0 s₀
  sz : n₀ ≤ s₀.heap.objs.size
  ad : ∀ b ∈ Dl.ad, ∃ o, s₀.heap.get? b = some o
/-- the consumer's own things at the last wake -/
abbrev Deal.cp (Dl : Deal) (s₀ : Shared) : List (Addr × Obj) := pinsAt Dl.ad s₀.heap
theorem Seat.size {Fm : Cx → Prop} {n₀ : Nat} {Dl : Deal} {ys : List V} {s₀ : Shared} {Z : Cx} (t : Seat Fm n₀ Dl ys s₀ Z) : Z.s_0.heap.objs.size = n₀ := by
  rw [t.at0]; exact headH_size t.sz
/-- an item is handed out; then asked again -/
def GY3 (P : Program) (w : World) (base : Heap) (outer : List Env) (pn : List (Addr × Obj)) (n₀ : Nat) (Dl : Deal) : Protocol := fun n s₀ v s kap =>
  ∃ (ys : List V) (x : V) (HE H1 : Hp) (mine : Addr → Prop), n + 1 + ys.length = sizeLine ∧ RelV x v ∧ Dl.cs ys HE s₀ ∧ n₀ ≤ s₀.heap.objs.size ∧ Un (frs outer) [] HE H1 (headH s₀.heap n₀) s.heap ∧ s.os = s₀.os ∧ AllBare s.gens ∧ HOk P w H1 s.heap ∧
    (∀ p ∈ pn, s.heap.get? p.1 = some p.2 ∧ H1 p.1 = none) ∧ n₀ ≤ s.heap.objs.size ∧ (∀ p ∈ Dl.cp s₀, s.heap.get? p.1 = some p.2 ∧ H1 p.1 = none) ∧ Dl.yd ys x H1 ∧ (∀ b, mine b → H1 b = none ∧ b ∉ frs outer ∧ ∃ o, s.heap.get? b = some o) ∧ (∀ b, mine b → b ∉ Dl.ad) ∧
    ∀ H2 s2, Wk P w base outer n₀ Dl.ad H2 s2 → Dl.cs (ys ++ [x]) H2 s2 → (∀ b, mine b → ∀ o, s.heap.get? b = some o → s2.heap.get? b = some o ∧ H2 b = none) → Dl.kp ys x H1 H2 → kap (.send .none) s2
/-- where its code stands -/
structure GC3 (X : Cx) (A : Around) (c : Code) (fs : List Frame) (gd : Bool → Bool) : Prop where
  over : A.over c fs = X.A
  split : splitAtGen fs = none
  guard : fs.any Frame.guarded = false
  gd : gd false = false
section
variable (Fm : Cx → Prop) (n₀ : Nat) (X : Cx) (Dl : Deal)
abbrev Cx.Y3 : Protocol := GY3 X.prog X.w X.base X.outer X.pn n₀ Dl
/-- what follows -/
structure GK3 (ip : List (Addr × Obj)) (A : Around) (R : GenEnd) (c : Code) (fs : List Frame) (K : Flow → Sem PySem.Fin) (J : Value → Sem PySem.Fin) (D : GEnds) : Prop where
  ok : ∀ (n : Nat) (ys : List V) (s₀ s : Shared) (f : Flow) (Z : Cx), Seat Fm n₀ Dl ys s₀ Z → n + ys.length = sizeLine → SP Z (Dl.cp s₀ ++ ip) (D.at ys) f s → Seg (model X.prog X.w) A R (X.Y3 n₀ Dl) n s₀ c (K f) fs s
  exc : ∀ (n : Nat) (ys : List V) (s₀ : Shared) (e : Value) (s : Shared) (Z : Cx), Seat Fm n₀ Dl ys s₀ Z → Z.xe e s → Seg (model X.prog X.w) A R (X.Y3 n₀ Dl) n s₀ c (J e) fs s
/-- whatever follows, from this tree -/
def GRun (m : Sem Flow) (t : TGn) : Prop :=
  ∀ (A : Around) (ip : List (Addr × Obj)) (R : GenEnd) (n : Nat) (ys : List V) (s₀ : Shared) (c : Code) (fs : List Frame) (K : Flow → Sem PySem.Fin) (J : Value → Sem PySem.Fin) (gd : Bool → Bool) (lv : List Value → List Value) (s : Shared) (σ : St) (H : Hp) (D : GEnds) (Z : Cx),
    (∀ p ∈ X.pn ++ ip, p.1 ∉ Dl.ad) → Seat Fm n₀ Dl ys s₀ Z → GC3 X A c fs gd → n + ys.length = sizeLine → GK3 Fm n₀ X Dl ip A R c fs K J D → Inv Z (Dl.cp s₀ ++ ip) σ H s → t D ys σ H → Seg (model X.prog X.w) A R (X.Y3 n₀ Dl) n s₀ c (m.wrap K J gd lv) fs s
structure GQ (st : Stmt) (t : TGn) : Prop where
  run : GRun Fm n₀ X Dl (exec st X.env) t
structure GQs (st : List Stmt) (t : TGn) : Prop where
  run : GRun Fm n₀ X Dl (execs st X.env) t
end
section
variable {Fm : Cx → Prop} {n₀ : Nat} {X : Cx} {Dl : Deal} {st : Stmt} {rest : List Stmt}
theorem Fam.env (F : Fam Fm n₀ X) {Z : Cx} (h : Fm Z) : Z.env = X.env ∧ Z.A = X.A ∧ Z.prog = X.prog ∧ Z.w = X.w ∧ Z.outer = X.outer ∧ Z.pn = X.pn ∧ Z.base = X.base ∧ Z.ex = X.ex ∧ Z.K = X.K ∧ Z.calm = X.calm := by
  have q := F.same Z h
  refine ⟨?_, ?_, ?_, ?_, ?_, ?_, ?_, ?_, ?_, ?_⟩ <;> rw [q]
/-- a statement that hands out nothing -/
theorem gq_ps (F : Fam Fm n₀ X) {t : TS} (h : ∀ Z, Fm Z → PS Z st t) : GQ Fm n₀ X Dl st (tPlain t) := by
  refine ⟨fun A ip R n ys s₀ c fs K J gd lv s σ H D Z hip z g hn k I ht => seg_wrap ?_⟩
  obtain ⟨e1, e2, e3, e4, _⟩ := F.env z.fm
  have q := (h Z z.fm).run (Dl.cp s₀ ++ ip) s σ H (D.at ys) I ht
  rw [e1, e2, e3, e4] at q
  rw [g.over]
  exact wpAny_mono q (fun f s' hs => k.ok n ys s₀ s' f Z z hn hs) fun x s' hx => k.exc n ys s₀ x s' Z z hx
theorem gqs_pss (F : Fam Fm n₀ X) {t : TS} (h : ∀ Z, Fm Z → PSs Z rest t) : GQs Fm n₀ X Dl rest (tPlain t) := by
  refine ⟨fun A ip R n ys s₀ c fs K J gd lv s σ H D Z hip z g hn k I ht => seg_wrap ?_⟩
  obtain ⟨e1, e2, e3, e4, _⟩ := F.env z.fm
  have q := (h Z z.fm).run (Dl.cp s₀ ++ ip) s σ H (D.at ys) I ht
  rw [e1, e2, e3, e4] at q
  rw [g.over]
  exact wpAny_mono q (fun f s' hs => k.ok n ys s₀ s' f Z z hn hs) fun x s' hx => k.exc n ys s₀ x s' Z z hx
theorem gqs_nil : GQs Fm n₀ X Dl [] tG0 :=
  ⟨fun A ip R n ys s₀ c fs K J gd lv s σ H D Z hip z g hn k I ht => seg_execs_nil (k.ok n ys s₀ s .next Z z hn ⟨σ, H, I, ht⟩)⟩
theorem gqs_cons {t u : TGn} (a : GQ Fm n₀ X Dl st t) (b : GQs Fm n₀ X Dl rest u) : GQs Fm n₀ X Dl (st :: rest) (tGThen t u) := by
  refine ⟨fun A ip R n ys s₀ c fs K J gd lv s σ H D Z hip z g hn k I ht => seg_execs_cons ?_⟩
  refine a.run A ip R n ys s₀ c fs _ J gd lv s σ H { D with nx := fun ys' σ' H' => u D ys' σ' H' } Z hip z g hn ⟨fun n' ys' s₀' s' f Z' z' hn' hs => ?_, k.exc⟩ I ht
  cases f with
  | next =>
    obtain ⟨σ', H', I', q⟩ := hs
    exact b.run A ip R n' ys' s₀' c fs K J gd lv s' σ' H' D Z' hip z' g hn' k I' q
  | brk => exact k.ok n' ys' s₀' s' .brk Z' z' hn' hs
  | cont => exact k.ok n' ys' s₀' s' .cont Z' z' hn' hs
  | ret u => exact k.ok n' ys' s₀' s' (.ret u) Z' z' hn' hs
theorem gq_if (F : Fam Fm n₀ X) {test : Expr} {body orelse : List Stmt} {pos : Pos} {tc : TT} {t u : TGn} (hc : ∀ Z, Fm Z → PT Z test tc) (hb : GQs Fm n₀ X Dl body t) (ho : GQs Fm n₀ X Dl orelse u) : GQ Fm n₀ X Dl (.If test body orelse pos) (tGIf tc t u) := by
  refine ⟨fun A ip R n ys s₀ c fs K J gd lv s σ H D Z hip z g hn k I ht => gseg_if ?_⟩
  obtain ⟨e1, e2, e3, e4, _⟩ := F.env z.fm
  have q := (hc Z z.fm).run (Dl.cp s₀ ++ ip) s σ H _ I ht
  rw [e1, e2, e3, e4] at q
  rw [g.over]
  refine wpAny_mono q (fun b s' hb' => ?_) fun x s' hx => k.exc n ys s₀ x s' Z z hx
  obtain ⟨H2, I2, q2⟩ := hb'
  cases b with
  | true => exact hb.run A ip R n ys s₀ c fs K J gd lv s' σ H2 D Z hip z g hn k I2 q2
  | false => exact ho.run A ip R n ys s₀ c fs K J gd lv s' σ H2 D Z hip z g hn k I2 q2
/-! ### yield -/
def tYield3 (Dl : Deal) (te : TE) : TGn := fun D ys σ H => ys.length < sizeLine ∧ te σ H fun x H1 => Dl.yd ys x H1 ∧ ∀ H2, Dl.kp ys x H1 H2 → D.nx (ys ++ [x]) σ H2
theorem gq_yield (F : Fam Fm n₀ X) {e : Expr} {yp pos : Pos} {te : TE} (he : ∀ Z, Fm Z → PE Z e te) (hco : X.env.scope.isCoroutine = false := by rfl) (hi : interactive X.env = false := by rfl) : GQ Fm n₀ X Dl (.Expr (.Yield (some e) yp) pos) (tYield3 Dl te) := by
  refine ⟨fun A ip R n ys s₀ c fs K J gd lv s σ H D Z hip z g hn k I ht => ?_⟩
  obtain ⟨hlt, ht⟩ := ht
  obtain ⟨n, rfl⟩ : ∃ m, n = m + 1 := ⟨n - 1, by omega⟩
  obtain ⟨e1, e2, e3, e4, e5, e6, _⟩ := F.env z.fm
  have q := (he Z z.fm).run (Dl.cp s₀ ++ ip) s σ H _ I ht
  rw [e1, e2, e3, e4] at q
  refine seg_Expr_Yield g.split g.gd g.guard ?_ hco hi
  rw [g.over]
  refine wpAny_mono q (fun v s' hv => ?_) fun x s' hx => k.exc _ ys s₀ x s' Z z hx
  obtain ⟨x, H1, I1, rv, yd, cont⟩ := hv
  intro kap hk
  have hb := I1.base
  have hfs : Z.fs = frs X.outer := by show frs Z.outer = _; rw [e5]
  have hex : Z.ex = [] := by rw [F.same Z z.fm]; exact F.ex
  rw [hfs, hex, z.at0] at hb
  refine ⟨ys, x, Z.H_0, H1, Mine Z ip, hn, rv, z.cs, z.sz, hb, by rw [I1.os, z.at0]; rfl, I1.bare, by rw [← e3, ← e4]; exact I1.hok, fun p hp => let ⟨r1, r2, _⟩ := I1.pin p (List.mem_append_left _ (by rw [e6]; exact hp)); ⟨r1, r2⟩, ?_, fun p hp => let ⟨r1, r2, _⟩ := I1.pin p (List.mem_append_right _ (List.mem_append_left _ hp)); ⟨r1, r2⟩, yd, fun b mb => ?_, fun b mb hb => ?_, fun H2 s2 wk cs2 mk kp => ?_⟩
  · have q := I1.sz
    rw [z.size] at q
    exact q
  · rw [← hfs]
    rcases mb with rfl | ⟨y, hy⟩ | ⟨p, hp, rfl⟩
    · obtain ⟨m, ⟨o, _, _, ho, _⟩, _⟩ := I1.loc
      refine ⟨I1.free, fun hm => ?_, o, ho⟩
      obtain ⟨_, o', ho', _⟩ := I1.ok.funs.mem hm
      exact absurd (Nat.lt_of_lt_of_le (Heap.lt_size ho') I1.ok.above) (Nat.lt_irrefl _)
    · obtain ⟨v, o, ho, _⟩ := I1.cell y b hy
      refine ⟨I1.freeC y b hy, fun hm => ?_, o, ho⟩
      obtain ⟨_, o', ho', hd'⟩ := I1.funs.mem hm
      have hfn : Z.fn y = true ∨ Z.fn y = false := by cases Z.fn y <;> simp
      rcases hfn with hf | hf
      · obtain ⟨_, o2, ho2, _⟩ := I1.ok.funs.mem hm
        exact absurd (Nat.lt_of_lt_of_le (Heap.lt_size ho2) (I1.ok.cab y b hf hy)) (Nat.lt_irrefl _)
      · exact absurd hf (by rw [F.fn Z z.fm y]; exact Bool.noConfusion)
    · obtain ⟨r1, r2, r3, r4, _⟩ := I1.pin p ((List.mem_append.mp hp).elim (List.mem_append_left _) fun h => List.mem_append_right _ (List.mem_append_right _ h))
      exact ⟨r2, r4, p.2, r1⟩
  · obtain ⟨o, ho⟩ := z.ad b hb
    obtain ⟨p1, _, p3, _, p5⟩ := I1.pin (b, o) (List.mem_append_right _ (List.mem_append_left _ (mem_pinsAt hb ho)))
    rcases mb with mb | ⟨y, hy⟩ | ⟨p, hp, rfl⟩
    · exact p3 mb
    · obtain ⟨v, o2, ho2, hd2⟩ := I1.cell y b hy
      rw [p1] at ho2
      cases ho2
      exact p5 _ hd2
    · exact hip p (by rw [← e6]; exact hp) hb
  · obtain ⟨Z', f1, f2, f3, I2⟩ := reseat F z.fm z.size I1 wk mk
    refine hk .none s2 (k.ok n (ys ++ [x]) s2 s2 .next Z' ⟨f1, f2, by rw [f3]; exact cs2, wk.sz, fun b hb => let ⟨_, _, _, o, e, _⟩ := wk.ad b hb; ⟨o, e⟩⟩ ?_ ⟨σ, H2, I2, cont H2 kp⟩)
    rw [List.length_append, List.length_singleton]; omega
end
end L2

set_option Elab.async false
set_option linter.all false
set_option maxRecDepth 100000
set_option maxHeartbeats 4000000
/-! its loops -/
namespace L2
open PySem PySem.Spec PyProof.Rows GenW
section
variable {Fm : Cx → Prop} {n₀ : Nat} {X : Cx} {Dl : Deal}
theorem GC3.loop {A : Around} {c c' : Code} {fs : List Frame} {gd : Bool → Bool} {k : Result → Sem PySem.Fin} {l kp : List Value} {p : Pos} (g : GC3 X A c fs gd) (hw : c'.weight = 0) (hu : c'.cUnits = 0) : GC3 X A c' (.ret k none (gd false) l c p kp :: fs) id := by
  refine ⟨(over_loop hw hu).trans g.over, ?_, ?_, rfl⟩
  · show Option.map _ (splitAtGen fs) = none
    rw [g.split]; rfl
  · show (gd false || List.any fs Frame.guarded) = false
    rw [g.gd, g.guard]; rfl
/-- what the loop's call goes on to -/
abbrev backK (env : Env) (K : Flow → Sem PySem.Fin) (J : Value → Sem PySem.Fin) (gd : Bool → Bool) (lv : List Value → List Value) : Result → Sem PySem.Fin := fun r => ((match r with | .ok f => (.pure f : Sem Flow) | .error e => .raise e).onRaise (cameBack env)).wrap K J gd lv
/-- an exception that leaves the loop's code -/
theorem mark3 {A : Around} {ip : List (Addr × Obj)} {R : GenEnd} {c c' : Code} {fs : List Frame} {K : Flow → Sem PySem.Fin} {J : Value → Sem PySem.Fin} {gd : Bool → Bool} {lv : List Value → List Value} {D : GEnds} {p : Pos} {Z : Cx} {n : Nat} {ys : List V} {s₀ s : Shared} {x : Value}
    (F : Fam Fm n₀ X) (z : Seat Fm n₀ Dl ys s₀ Z) (hp : PassesOwn (model X.prog X.w) X.A X.env Z.xe) (g : GC3 X A c fs gd) (k : GK3 Fm n₀ X Dl ip A R c fs K J D) (hw : c'.weight = 0) (hu : c'.cUnits = 0) (hx : Z.xe x s) :
    Seg (model X.prog X.w) A R (X.Y3 n₀ Dl) n s₀ c' (marked X.env x) (.ret (backK X.env K J gd lv) none (gd false) (lv []) c p [] :: fs) s := by
  have out : ∀ (y : Value) (s' : Shared), cameBackBy (model X.prog X.w) X.A X.env Z.xe y s' → Seg (model X.prog X.w) A R (X.Y3 n₀ Dl) n s₀ c (backK X.env K J gd lv (.error y)) fs s' := fun y s' h => by
    show Seg _ _ _ _ _ _ _ (((cameBack X.env y).bind fun _ => (Sem.raise y : Sem Flow)).wrap K J gd lv) _ _
    rw [Sem.bind_eq_wrap, Sem.wrap_wrap]
    refine seg_wrap ?_
    rw [g.over]
    exact wpAny_mono h (fun _ s2 hx => k.exc n ys s₀ y s2 Z z hx) fun u s2 hx => k.exc n ys s₀ u s2 Z z hx
  unfold marked
  rw [Sem.bind_eq_wrap]
  refine seg_wrap ?_
  rw [(g.loop (k := backK X.env K J gd lv) (l := lv []) (kp := []) (p := p) hw hu).over]
  exact wpAny_bind (wpAny_mono (hp x s hx) (fun _ s2 h => wpAny_theTreesLotGoes (seg_leaf (.error x) (out x s2 h))) fun y s2 h => seg_leaf (.error y) (out y s2 h))
theorem gq_while (F : Fam Fm n₀ X) {test : Expr} {body : List Stmt} {pos : Pos} {tc : TT} {tb : TGn} (hp : ∀ Z, Fm Z → PassesOwn (model X.prog X.w) X.A X.env Z.xe) (hc : ∀ Z, Fm Z → PT Z test tc) (hb : GQs Fm n₀ X Dl body tb) : GQ Fm n₀ X Dl (.While test body [] pos) (tGWhile tc tb) := by
  refine ⟨fun A ip R n ys s₀ c fs K J gd lv s σ H D Z hip z g hn k I ⟨W, ⟨m0, w0⟩, turn⟩ => seg_While fun p => ?_⟩
  have go : ∀ (m n : Nat) (ys : List V) (s₀ s : Shared) (σ : St) (H : Hp) (Z : Cx), Seat Fm n₀ Dl ys s₀ Z → n + ys.length = sizeLine → W m ys σ H → Inv Z (Dl.cp s₀ ++ ip) σ H s →
      Seg (model X.prog X.w) A R (X.Y3 n₀ Dl) n s₀ (.whileLoop test body [] X.env) ((model X.prog X.w).den (.whileLoop test body [] X.env)) (.ret (backK X.env K J gd lv) none (gd false) (lv []) c p [] :: fs) s := by
    intro m
    induction m using Nat.strongRecOn with
    | ind m ih =>
      intro n ys s₀ s σ H Z z hn w I
      obtain ⟨e1, e2, e3, e4, _⟩ := F.env z.fm
      have gl := g.loop (k := backK X.env K J gd lv) (l := lv []) (kp := []) (p := p) (c' := .whileLoop test body [] X.env) rfl rfl
      have em : ∀ (x : Value) (env : Env), ((do noteFrame x env; theTreesLotGoes x : Sem Unit).wrap (fun _ => (.raise x : Sem PySem.Fin)) .raise id id) = marked env x := fun x env => by unfold marked; rw [Sem.bind_eq_wrap]
      refine seg_whileLoop ?_
      rw [gl.over]
      have q := (hc Z z.fm).run (Dl.cp s₀ ++ ip) s σ H _ I (turn m ys σ H w)
      rw [e1, e2, e3, e4] at q
      refine wpAny_mono q (fun b s' hb' => ?_) fun x s' hx => by rw [em]; exact mark3 F z (hp Z z.fm) g k rfl rfl hx
      obtain ⟨H2, I2, q2⟩ := hb'
      cases b with
      | false =>
        rw [if_neg Bool.false_ne_true]
        exact seg_execs_nil (seg_leaf (.ok .next) (k.ok n ys s₀ s' .next Z z hn ⟨σ, H2, I2, q2⟩))
      | true =>
        obtain ⟨N, hN, q2⟩ := q2
        rw [if_pos rfl]
        refine hb.run A ip R n ys s₀ _ _ _ _ id id s' σ H2 { D with nx := N, ct := N, bk := D.nx } Z hip z gl hn ⟨fun n' ys' s₀' s3 f Z' z' hn' hs => ?_, fun n' ys' s₀' x s3 Z' z' hx => by rw [em]; exact mark3 F z' (hp Z' z'.fm) g k rfl rfl hx⟩ I2 q2
        cases f with
        | brk => exact seg_leaf (.ok .next) (k.ok n' ys' s₀' s3 .next Z' z' hn' hs)
        | ret v => exact seg_leaf (.ok (.ret v)) (k.ok n' ys' s₀' s3 (.ret v) Z' z' hn' hs)
        | next =>
          obtain ⟨σ3, H3, I3, n3⟩ := hs
          obtain ⟨m', hm, w3⟩ := hN ys' σ3 H3 n3
          exact seg_again rfl (ih m' hm n' ys' s₀' s3 σ3 H3 Z' z' hn' w3 I3)
        | cont =>
          obtain ⟨σ3, H3, I3, n3⟩ := hs
          obtain ⟨m', hm, w3⟩ := hN ys' σ3 H3 n3
          exact seg_again rfl (ih m' hm n' ys' s₀' s3 σ3 H3 Z' z' hn' w3 I3)
  exact go m0 n ys s₀ s σ H Z z hn w0 I
theorem gq_for (F : Fam Fm n₀ X) {tg iter : Expr} {body : List Stmt} {pos : Pos} {wi : TI} {gt : TG} {tb : TGn} (hp : ∀ Z, Fm Z → PassesOwn (model X.prog X.w) X.A X.env Z.xe) (hcm : X.calm = true) (hi : ∀ Z, Fm Z → PI Z tg iter wi) (hg : ∀ Z, Fm Z → PG Z tg gt) (hb : GQs Fm n₀ X Dl body tb)
    (hs : ∀ x, foldedSetIterable iter X.env x = pure x := by intro _; rfl) : GQ Fm n₀ X Dl (.For tg iter body [] pos) (tGFor wi gt tb) := by
  refine ⟨fun A ip R n ys s₀ c fs K J gd lv s σ H D Z hip z g hn k I ht => gseg_for hs ?_⟩
  obtain ⟨e1, e2, e3, e4, e5, e6, e7, e8, e9, e10⟩ := F.env z.fm
  have q := (hi Z z.fm).run (Dl.cp s₀ ++ ip) s σ H _ I ht
  rw [e1, e2, e3, e4] at q
  rw [g.over]
  refine wpAny_mono q (fun v s1 h1 => wpAny_mono h1 (fun itv s2 h2 p => ?_) fun x s' hx => k.exc n ys s₀ x s' Z z hx) fun x s' hx => k.exc n ys s₀ x s' Z z hx
  obtain ⟨it, fp, tn, Jt, H2, rfl, I2, T, st2, f2, W, ⟨m0, w0⟩, turn⟩ := h2
  rw [e3, e4, e9] at T
  have loop : ∀ (m n i : Nat) (ys : List V) (s₀ s : Shared) (σ : St) (H : Hp) (Z : Cx), Seat Fm n₀ Dl ys s₀ Z → n + ys.length = sizeLine → W i m ys σ H → tn i s.heap → (∀ b ∈ fp, FpOk Z (Dl.cp s₀ ++ ip) H b) → Inv Z (Dl.cp s₀ ++ ip) σ H s →
      Seg (model X.prog X.w) A R (X.Y3 n₀ Dl) n s₀ (.forLoop tg (.ref it) body [] X.env) ((model X.prog X.w).den (.forLoop tg (.ref it) body [] X.env)) (.ret (backK X.env K J gd lv) none (gd false) (lv []) c p [] :: fs) s := by
    intro m
    induction m using Nat.strongRecOn with
    | ind m ih =>
      intro n i ys s₀ s σ3 H3 Z z hn w3 st3 fr3 I3
      obtain ⟨e1, e2, e3, e4, e5, e6, e7, e8, e9, e10⟩ := F.env z.fm
      have gl := g.loop (k := backK X.env K J gd lv) (l := lv []) (kp := []) (p := p) (c' := .forLoop tg (.ref it) body [] X.env) rfl rfl
      have gb := g.loop (k := backK X.env K J gd lv) (l := lv []) (kp := []) (p := p) (c' := .block [] X.env) rfl rfl
      have ee : ∀ (n : Nat) (ys : List V) (s₀ : Shared) (x : Value) (s' : Shared) (Z : Cx), Seat Fm n₀ Dl ys s₀ Z → Z.xe x s' → Seg (model X.prog X.w) A R (X.Y3 n₀ Dl) n s₀ (.forLoop tg (.ref it) body [] X.env) (marked X.env x) (.ret (backK X.env K J gd lv) none (gd false) (lv []) c p [] :: fs) s' :=
        fun n ys s₀ x s' Z z hx => mark3 F z (hp Z z.fm) g k rfl rfl hx
      refine gseg_turn ?_
      rw [gl.over]
      have cz : Z.calm = true := e10.trans hcm
      rcases turn i m ys σ3 H3 w3 with ⟨stop, qn⟩ | ⟨go, N, hN, step⟩
      · have q := T.done Z e3 e4 e9 cz i (Dl.cp s₀ ++ ip) s σ3 H3 Z.xe I3 fr3 st3 stop
        rw [e2] at q
        refine wpAny_mono q (fun r s4 hr => ?_) fun x s' hx => ee n ys s₀ x s' Z z hx
        obtain ⟨rfl, I4⟩ := hr
        refine seg_again rfl ?_
        show Seg _ A R _ n s₀ _ (((execs [] X.env).onRaise (fun x => do noteFrame x X.env; theTreesLotGoes x)) >>= fun f => (.pure (.done f) : Sem PySem.Fin)) _ s4
        exact seg_leaf (.ok .next) (k.ok n ys s₀ s4 .next Z z hn ⟨σ3, H3, I4, qn⟩)
      · have q := T.item Z e3 e4 e9 cz i (Dl.cp s₀ ++ ip) s σ3 H3 Z.xe I3 fr3 st3 go
        rw [e2] at q
        refine wpAny_mono q (fun r s4 hr => ?_) fun x s' hx => ee n ys s₀ x s' Z z hx
        obtain ⟨u, rfl, h4⟩ := hr
        refine wpAny_mono h4 (fun _ s5 h5 => ?_) fun x s' hx => ee n ys s₀ x s' Z z hx
        obtain ⟨x, H5, I5, r5, y5, st5, fr5⟩ := h5
        have stat5 : ∀ b ∈ fp, FpOk Z (Dl.cp s₀ ++ ip) H5 b := fun b hb => ⟨fr5 b hb, (fr3 b hb).2⟩
        have I5' := I5.pinned stat5 (T.obj _ _ st5)
        have q6 := (hg Z z.fm).run _ s5 σ3 H5 x u _ I5' r5 (step x H5 y5)
        rw [e1, e2, e3, e4] at q6
        refine wpAny_mono q6 (fun _ s6 h6 => ?_) fun x s' hx => ee n ys s₀ x s' Z z hx
        obtain ⟨σ6, H6, I6, q6⟩ := h6
        have hip2 : ∀ p ∈ X.pn ++ (ip ++ pinsAt fp s5.heap), p.1 ∉ Dl.ad := fun p hp hb => by
          rcases List.mem_append.mp hp with hp | hp
          · exact hip p (List.mem_append_left _ hp) hb
          rcases List.mem_append.mp hp with hp | hp
          · exact hip p (List.mem_append_right _ hp) hb
          · obtain ⟨hf, _⟩ := of_pinsAt hp
            obtain ⟨o', e'⟩ := z.ad p.1 hb
            exact (fr3 p.1 hf).2.2.2.2.2 (p.1, o') (List.mem_append_right _ (List.mem_append_left _ (mem_pinsAt hb e'))) rfl
        refine hb.run A (ip ++ pinsAt fp s5.heap) R n ys s₀ _ _ _ _ id id s6 σ6 H6 { D with nx := N, ct := N, bk := D.nx } Z hip2 z gl hn ⟨fun n' ys' s₀' s7 f Z' z' hn' hs => ?_, fun n' ys' s₀' x s7 Z' z' hx => ee n' ys' s₀' x s7 Z' z' hx⟩ (by rw [← List.append_assoc]; exact I6) q6
        have q1 := F.same Z z.fm
        have q2 := F.same Z' z'.fm
        have back : ∀ {σ7 : St} {H7 : Hp}, Inv Z' (Dl.cp s₀' ++ (ip ++ pinsAt fp s5.heap)) σ7 H7 s7 → Inv Z' (Dl.cp s₀' ++ ip) σ7 H7 s7 ∧ tn (i + 1) s7.heap ∧ ∀ b ∈ fp, FpOk Z' (Dl.cp s₀' ++ ip) H7 b := fun {σ7 H7} h7 => by
          rw [← List.append_assoc] at h7
          have pin : ∀ b ∈ fp, ∀ o, s5.heap.get? b = some o → s7.heap.get? b = some o ∧ H7 b = none := fun b hb o e => by
            obtain ⟨r1, r2, _⟩ := h7.pin (b, o) (List.mem_append_right _ (List.mem_append_right _ (mem_pinsAt hb e)))
            exact ⟨r1, r2⟩
          refine ⟨h7.unpinned, T.keep _ _ _ st5 fun b hb o e => (pin b hb o e).1, fun b hb => ?_⟩
          obtain ⟨o, e, _⟩ := T.obj _ _ st5 b hb
          obtain ⟨_, t1, t2, t3, t4, t5⟩ := fr3 b hb
          refine ⟨(pin b hb o e).2, ?_, ?_, ?_, ?_, ?_⟩
          · rw [q2]; rw [q1] at t1; exact t1
          · show b ∉ frs Z'.outer
            rw [q2]; have t2' : b ∉ frs Z.outer := t2; rw [q1] at t2'; exact t2'
          · rw [q2]; rw [q1] at t3
            show b ∈ X.ex ∨ Z'.s_0.heap.objs.size ≤ b
            rw [z'.size, ← z.size]; exact t3
          · rw [q2]; rw [q1] at t4; exact t4
          · rw [q2]; rw [q1] at t5
            intro p hp
            rcases List.mem_append.mp hp with hp | hp
            · exact t5 p (List.mem_append_left _ hp)
            rcases List.mem_append.mp hp with hp | hp
            · obtain ⟨hb', _⟩ := of_pinsAt hp
              obtain ⟨o', e'⟩ := z.ad p.1 hb'
              exact t5 (p.1, o') (List.mem_append_right _ (List.mem_append_left _ (mem_pinsAt hb' e')))
            · exact t5 p (List.mem_append_right _ (List.mem_append_right _ hp))
        cases f with
        | next =>
          obtain ⟨σ7, H7, G7, n7⟩ := hs
          obtain ⟨m', hm, w7⟩ := hN ys' σ7 H7 n7
          obtain ⟨G8, st8, fr8⟩ := back G7
          exact seg_again rfl (ih m' hm n' (i + 1) ys' s₀' s7 σ7 H7 Z' z' hn' w7 st8 fr8 G8)
        | cont =>
          obtain ⟨σ7, H7, G7, n7⟩ := hs
          obtain ⟨m', hm, w7⟩ := hN ys' σ7 H7 n7
          obtain ⟨G8, st8, fr8⟩ := back G7
          exact seg_again rfl (ih m' hm n' (i + 1) ys' s₀' s7 σ7 H7 Z' z' hn' w7 st8 fr8 G8)
        | brk =>
          obtain ⟨σ7, H7, G7, n7⟩ := hs
          exact seg_leaf (.ok .next) (k.ok n' ys' s₀' s7 .next Z' z' hn' ⟨σ7, H7, (back G7).1, n7⟩)
        | ret v =>
          obtain ⟨x7, σ7, H7, G7, r7, n7⟩ := hs
          exact seg_leaf (.ok (.ret v)) (k.ok n' ys' s₀' s7 (.ret v) Z' z' hn' ⟨x7, σ7, H7, (back G7).1, r7, n7⟩)
  exact loop m0 n 0 ys s₀ s2 σ H2 Z z hn w0 st2 f2 I2
end
end L2

set_option Elab.async false
set_option linter.all false
set_option maxRecDepth 100000
set_option maxHeartbeats 4000000
/-! a generator def by its body -/
namespace L2
open PySem PySem.Spec PyProof.Rows GenW
/-- the promise: the arguments, the heap, the deal, what is wanted at the end of all that was handed out, the exception -/
abbrev SpG3 := List V → Hp → Deal → (List V → Hp → Prop) → XK → Prop
section
variable (P : Program) (w : World) (outer : List Env) (n₀ : Nat) (Dl : Deal)
def Er3 (E : XK) (a : Addr) (g : Nat) : Value → Shared → Prop := fun e s1 => ∃ ys HE sE, Dl.cs ys HE sE ∧ n₀ ≤ sE.heap.objs.size ∧ CX P w outer HE (headS sE n₀) E e s1 ∧ s1.heap.IsGen a g
def Fin3 (Q : List V → Hp → Prop) : Nat → Shared → Shared → Prop := fun n s₀ s1 => ∃ ys HE H', Dl.cs ys HE s₀ ∧ n₀ ≤ s₀.heap.objs.size ∧ s1.os = s₀.os ∧ AllBare s1.gens ∧ Un (frs outer) [] HE H' (headH s₀.heap n₀) s1.heap ∧ HOk P w H' s1.heap ∧ (∀ p ∈ Dl.cp s₀, s1.heap.get? p.1 = some p.2 ∧ H' p.1 = none) ∧ Q ys H'
abbrev End3 (Q : List V → Hp → Prop) (E : XK) (a : Addr) (g : Nat) : GenEnd := fun n s₀ r s1 => ((r = .ok (.ret .none) ∨ r = .ok .next) ∧ Fin3 P w outer n₀ Dl Q n s₀ s1) ∨ ∃ e, r = .error e ∧ Er3 P w outer n₀ Dl E a g e s1
end
/-- the deal, with the consumer's places -/
abbrev Deal.at (Dl : Deal) (ad : List Addr) : Deal := { Dl with ad := ad }
/-- what its call gives -/
def Made3 (P : Program) (w : World) (k : Nat) (base : Heap) (outer : List Env) (H : Hp) (s : Shared) (AD : Deal → (List V → Hp → Prop) → Prop) (E : XK) (u : Value) (s' : Shared) : Prop :=
  ∃ (a : Addr) (g : Nat) (c : Code) (go : Obj), u = .ref a ∧ s.heap.objs.size ≤ a ∧ a < s'.heap.objs.size ∧ s'.heap.get? a = some go ∧ (∀ h : Heap, h.get? a = some go → h.IsGen a g) ∧ s'.gens[g]? = some (.fresh c) ∧ s'.os = s.os ∧ AllBare s'.gens ∧ (∀ b o, s.heap.get? b = some o → s'.heap.get? b = some o) ∧
    ∀ (A : Around) (s2 : Shared) (Dl : Deal) (Q : List V → Hp → Prop), AD Dl Q → Room k A → A.frames = some outer → (∀ b o, s'.heap.get? b = some o → s2.heap.get? b = some o) → s2.os = s.os → AllBare s2.gens → (∀ b ∈ Dl.ad, s'.heap.objs.size ≤ b ∧ ∃ o, s2.heap.get? b = some o ∧ ∀ v, o.data ≠ .cell v) → Dl.cs [] H s2 →
      Seg (model P w) A (End3 P w outer s.heap.objs.size Dl Q E a g) (GY3 P w base outer [(a, go)] s.heap.objs.size Dl) sizeLine s2 c ((model P w).den c) [] s2
structure GFn3 (P : Program) (w : World) (K : PySem.W.Frag) (mg : Str → Option Value) (base : Heap) (k : Nat) (f : Addr) (fd : FuncData) (ps : List Str) (sp : SpG3) : Prop where
  len : ∀ vs H Dl Q E, sp vs H Dl Q E → vs.length = ps.length
  run : ∀ (A : Around) (outer : List Env) (s : Shared) (H : Hp) (args : Args) (us : List Value) (vs : List V) (AD : Deal → (List V → Hp → Prop) → Prop) (E : XK), (∃ Dl Q, AD Dl Q) → Room k A → Env0 P w K mg base A outer s H → BindsTo s fd args (ps.zip us) → Vals vs us → (∀ Dl Q, AD Dl Q → sp vs H Dl Q E) →
    codeAny (model P w) A (.call (.ref f) args) (fun r s' => match r with | .ok (.ret u) => Made3 P w k base outer H s AD E u s' | _ => False) s
section
variable {P : Program} {w : World} {K : PySem.W.Frag} {mg : Str → Option Value} {base : Heap}
/-- the family of a call: its frame stands at n₀ -/
def FmG (P : Program) (w : World) (K : PySem.W.Frag) (mg : Str → Option Value) (base : Heap) (N : List Str) (qual : Str) (scope : Scope) (f : Addr) (cd : Value) (A : Around) (outer : List Env) (E : XK) (pn : List (Addr × Obj)) (n₀ : Nat) (Z : Cx) : Prop :=
  ∃ s H, s.heap.objs.size = n₀ ∧ Z = gcxOf P w K mg base N qual scope f cd A outer s H E pn
theorem fam_g {N : List Str} {qual : Str} {scope : Scope} {f : Addr} {cd : Value} {A : Around} {outer : List Env} {E : XK} {pn : List (Addr × Obj)} {s : Shared} {H : Hp} (hb : base.objs.size ≤ s.heap.objs.size) :
    Fam (FmG P w K mg base N qual scope f cd A outer E pn s.heap.objs.size) s.heap.objs.size (gcxOf P w K mg base N qual scope f cd A outer s H E pn) := by
  refine ⟨fun Z ⟨s', H', hs, hZ⟩ => ?_, fun s' H' hs => ⟨_, ⟨s', H', hs, rfl⟩, rfl, rfl⟩, rfl, hb, fun Z ⟨s', H', hs, hZ⟩ x => (by rw [hZ]; rfl), rfl⟩
  subst hZ
  unfold gcxOf cxOf
  rw [hs]
/-- a member's room -/
theorem FmG.room {qual : Str} {scope : Scope} {f : Addr} {cd : Value} {A : Around} {s s' : Shared} {k : Nat} (hr : Room k (A.deeper (envOfC qual scope s.heap.objs.size f cd))) (hs : s'.heap.objs.size = s.heap.objs.size) :
    Room k (A.deeper (envOfC qual scope s'.heap.objs.size f cd)) := by rw [hs]; exact hr
theorem gfn3_of {k : Nat} {f : Addr} {name qual : Str} {params : Arguments} {body : List Stmt} {scope : Scope} {dV kV doc pm cdv ct oc : Value} {an od : Option Addr}
    {osl : Array (Option Value)} {N ps : List Str} {sp : SpG3} (lk : K.lookup f = some ⟨oc, od, .func (PySem.W.fnOf name qual params body scope dV kV doc pm an cdv ct), osl⟩) (hcd : PySem.W.codeIn K cdv qual = true) (S : GScope N ps scope)
    (len : ∀ vs H Dl Q E, sp vs H Dl Q E → vs.length = ps.length)
    (hbody : ∀ (A : Around) (outer : List Env) (s : Shared) (H : Hp) (vs : List V) (Dl : Deal) (Q : List V → Hp → Prop) (E : XK) (pn : List (Addr × Obj)), base.objs.size ≤ s.heap.objs.size → Room k (A.deeper (envOfC qual scope s.heap.objs.size f cdv)) → sp vs H Dl Q E →
      ∃ t, GQs (FmG P w K mg base N qual scope f cdv A outer E pn s.heap.objs.size) s.heap.objs.size (gcxOf P w K mg base N qual scope f cdv A outer s H E pn) Dl body t ∧ t { nx := fun ys _ H' => Q ys H', rt := fun ys v H' => v = .non ∧ Q ys H' } [] (start N vs) H) :
    GFn3 P w K mg base (k + 1) f (PySem.W.fnOf name qual params body scope dV kV doc pm an cdv ct) ps sp := by
  refine ⟨len, fun A outer s H args us vs AD E hAD hr e0 hb r hsp => ?_⟩
  obtain ⟨Dl0, Q0, hA0⟩ := hAD
  have hl := len _ _ _ _ _ (hsp Dl0 Q0 hA0)
  have kin : K.In s.heap := e0.mod.kin.keeps fun b o e => (e0.bs b o e).1
  have lim : s.heap.NoLimit := e0.mod.nolimit.keeps fun b o e => (e0.bs b o e).1
  have kinds : ∀ y ∈ ps.zip us, scope.names.lookup y.1 = some .local ∨ (scope.names.lookup y.1 = some .cell ∧ ((cellsFrom (s.heap.objs.size + 1) scope.names []).lookup y.1).isSome = true) := fun ⟨n, v⟩ hy =>
    (S.par n (List.of_mem_zip hy).1).imp id fun q => ⟨q, PySem.W.cellsFrom_some _ _ _ (.inl q)⟩
  refine codeAny_call_generator hr.depth (kin _ _ lk) rfl S.co S.gen rfl (PySem.W.codeRec_of kin hcd) (hb _ _ _ _ (wpAny_newFunctionEnv_cells S.kind kinds fun env he s1 x => ?_))
  subst he
  have lim1 : s1.heap.NoLimit := lim.keeps x.toInCall.keep
  refine ⟨lim1, ?_⟩
  obtain ⟨h1, tk, es1, hk1⟩ := x.done
  have os1 : s1.os = s.os := by rw [es1]
  have gen1 : s1.gens = s.gens := by rw [es1]
  have lt1 : s.heap.objs.size < s1.heap.objs.size := x.toInCall.ns.lt
  have kp1 : ∀ b o, s.heap.get? b = some o → s1.heap.get? b = some o := x.toInCall.keep
  have main : ∀ (go : Obj) (nm qn : Value) (tk2 : Nat), go.cls = .type "generator" → go.data = .fields #[.int s1.gens.size 0, nm, qn] → go.slots = #[] → (∀ h : Heap, (h.push go).get? h.objs.size = some go) →
      Made3 P w (k + 1) base outer H s AD E (.ref s1.heap.objs.size) { s1 with gens := s1.gens.push (.fresh (.func body (envOfC qual scope s.heap.objs.size f cdv))), toks := tk2, heap := s1.heap.push go } := by
    intro go nm qn tk2 hgc hgd hgs hgp
    have isg : ∀ h : Heap, h.get? s1.heap.objs.size = some go → h.IsGen s1.heap.objs.size s1.gens.size := fun h e => ⟨go, nm, qn, e, hgc, hgd, hgs⟩
    refine ⟨s1.heap.objs.size, s1.gens.size, _, go, rfl, Nat.le_of_lt lt1, ?_, hgp _, isg, Array.getElem?_push_size .., os1, ?_, fun b o e => Heap.get?_push_of_some _ (kp1 b o e), ?_⟩
    · show _ < (s1.heap.push _).objs.size
      rw [Heap.size_push]; exact Nat.lt_succ_self _
    · exact AllBare.push (by rw [gen1]; exact e0.bare) rfl
    intro Aw s2 Dl Q hA hrw hfr hk2 hos hba had hcs
    have kp2 : ∀ b o, s1.heap.get? b = some o → s2.heap.get? b = some o := fun b o e => hk2 b o (Heap.get?_push_of_some _ e)
    have kp3 : ∀ b o, s.heap.get? b = some o → s2.heap.get? b = some o := fun b o e => kp2 b o (kp1 b o e)
    have hea : s2.heap.get? s1.heap.objs.size = some go := hk2 s1.heap.objs.size go (hgp _)
    have sz2 : s.heap.objs.size ≤ s2.heap.objs.size := Nat.le_of_lt (Nat.lt_trans lt1 (Heap.lt_size hea))
    have e0w : Env0 P w K mg base Aw outer s H := ⟨hfr, e0.mod, e0.bs, e0.bsz, e0.funs, e0.frf, e0.hok, e0.bare⟩
    obtain ⟨t, ht, hq⟩ := hbody Aw outer s H vs Dl Q E [(s1.heap.objs.size, go)] e0.bsz (hrw.deeper _) (hsp Dl Q hA)
    have I1 : Inv (gcxOf P w K mg base N qual scope f cdv Aw outer s H E []) [] (start N vs) H s1 := inv_startG S hrw.hd e0w hl r x
    have I2 : Inv (gcxOf P w K mg base N qual scope f cdv Aw outer s H E []) [] (start N vs) H s2 := I1.call' (ch := []) (hos.trans os1.symm) (Un.kept kp2) (I1.hok.kept kp2) hba fun b z => nomatch z
    have hn1 : H s1.heap.objs.size = none := I1.hok.fresh (Nat.le_refl _)
    have hado : AdOk Dl.ad s.heap.objs.size outer H s2.heap := fun b hb => by
      obtain ⟨q1, q2⟩ := had b hb
      have q1 : (s1.heap.push go).objs.size ≤ b := q1
      rw [Heap.size_push] at q1
      have q3 : s1.heap.objs.size ≤ b := Nat.le_of_succ_le q1
      exact ⟨Nat.lt_of_lt_of_le lt1 q3, I1.hok.fresh q3, I1.nofs q3, q2⟩
    have I3 : Inv (gcxOf P w K mg base N qual scope f cdv Aw outer s H E [(s1.heap.objs.size, go)]) (pinsAt Dl.ad s2.heap ++ []) (start N vs) H s2 := Inv.pinnedG I2 fun p hp => by
      rcases List.mem_append.mp hp with hp | hp
      · rw [List.mem_singleton.mp hp]
        exact ⟨hea, hn1, Nat.ne_of_gt lt1, I1.nofs (Nat.le_refl _), fun v q => by rw [hgd] at q; cases q⟩
      · rw [List.append_nil] at hp
        obtain ⟨hb, e⟩ := of_pinsAt hp
        obtain ⟨w1, w2, w3, o, w4, w5⟩ := hado p.1 hb
        rw [e] at w4
        cases w4
        exact ⟨e, w2, Nat.ne_of_gt w1, w3, w5⟩
    have F := fam_g (P := P) (w := w) (K := K) (mg := mg) (N := N) (qual := qual) (scope := scope) (f := f) (cd := cdv) (A := Aw) (outer := outer) (E := E) (pn := [(s1.heap.objs.size, go)]) (s := s) (H := H) e0.bsz
    have wk : Wk P w base outer s.heap.objs.size Dl.ad H s2 := by
      refine ⟨hba, fun b o e => ⟨kp3 b o (e0.bs b o e).1, (e0.bs b o e).2⟩, Heap.FunFrames.of_keeps (fun b o e _ => ⟨o, kp3 b o e, rfl⟩) e0.funs, fun b hb => ?_, e0.hok.kept kp3, sz2, hado⟩
      obtain ⟨_, o, ho, _⟩ := e0.funs.mem hb
      exact ⟨Heap.lt_size ho, e0.frf b hb⟩
    obtain ⟨Z, f1, f2, f3, I4⟩ := reseat F (Z := gcxOf P w K mg base N qual scope f cdv Aw outer s H E [(s1.heap.objs.size, go)]) ⟨s, H, rfl, rfl⟩ rfl I3 wk fun b mb o e => ⟨e, by
      rcases mb with rfl | ⟨y, hy⟩ | ⟨p, hp, rfl⟩
      · exact I3.free
      · exact I3.freeC y b hy
      · exact (I3.pin p ((List.mem_append.mp hp).elim (List.mem_append_left _) fun h => (by cases h))).2.1⟩
    have zz : Seat (FmG P w K mg base N qual scope f cdv Aw outer E [(s1.heap.objs.size, go)] s.heap.objs.size) s.heap.objs.size Dl [] s2 Z := ⟨f1, f2, by rw [f3]; exact hcs, sz2, fun b hb => let ⟨_, _, _, o, e, _⟩ := hado b hb; ⟨o, e⟩⟩
    have fin : ∀ {n : Nat} {ys : List V} {s₀ s' : Shared} {σ' : St} {H' : Hp} {Z : Cx}, Seat (FmG P w K mg base N qual scope f cdv Aw outer E [(s1.heap.objs.size, go)] s.heap.objs.size) s.heap.objs.size Dl ys s₀ Z → Inv Z (Dl.cp s₀ ++ []) σ' H' s' → Q ys H' → Fin3 P w outer s.heap.objs.size Dl Q n s₀ s' := fun {n ys s₀ s' σ' H' Z} z I q => by
      obtain ⟨e1, e2, e3, e4, e5, e6, e7, e8, _⟩ := F.env z.fm
      have hb := I.base
      have hfs : Z.fs = frs outer := by show frs Z.outer = _; rw [e5]; rfl
      have hex : Z.ex = [] := by rw [e8]; rfl
      rw [hfs, hex, z.at0] at hb
      have hk := I.hok
      rw [e3, e4] at hk
      exact ⟨ys, Z.H_0, H', z.cs, z.sz, by rw [I.os, z.at0]; rfl, I.bare, hb, hk, fun p hp => let ⟨r1, r2, _⟩ := I.pin p (List.mem_append_right _ (List.mem_append_left _ hp)); ⟨r1, r2⟩, q⟩
    have hip0 : ∀ p ∈ [(s1.heap.objs.size, go)] ++ ([] : List (Addr × Obj)), p.1 ∉ Dl.ad := fun p hp hb => by
      rw [List.append_nil] at hp
      have q1 : (s1.heap.push go).objs.size ≤ p.1 := (had p.1 hb).1
      rw [Heap.size_push, List.mem_singleton.mp hp] at q1
      exact absurd q1 (Nat.not_succ_le_self _)
    refine seg_func ?_
    refine ht.run Aw [] _ sizeLine [] s2 _ [] _ _ id id s2 (start N vs) H _ Z hip0 zz ⟨over_func, rfl, rfl, rfl⟩ (Nat.add_zero _) ⟨fun n ys s₀ s' fl Z z hn hs => ?_, fun n ys s₀ e s' Z z hx => ?_⟩ I4 hq
    · cases fl with
      | next =>
        obtain ⟨σ', H', I, q⟩ := hs
        exact seg_end (.ok (.ret .none)) (.inl ⟨.inl rfl, fin z I q⟩)
      | brk => obtain ⟨_, _, _, q⟩ := hs; exact False.elim q
      | cont => obtain ⟨_, _, _, q⟩ := hs; exact False.elim q
      | ret u =>
        obtain ⟨v, σ', H', I, rv, rfl, q⟩ := hs
        obtain rfl : u = Value.none := rv
        exact seg_end (.ok (.ret .none)) (.inl ⟨.inl rfl, fin z I q⟩)
    · obtain ⟨s', H', hs', rfl⟩ := z.fm
      refine seg_wrap ?_
      rw [over_func]
      have hx' : wpAny (model P w) (Aw.deeper (envOfC qual scope s'.heap.objs.size f cdv)) (leaving (envOfC qual scope s'.heap.objs.size f cdv) e) (fun _ s'' => CX P w outer H' s' E e s'' ∧ ∀ p ∈ [(s1.heap.objs.size, go)], s''.heap.get? p.1 = some p.2) (fun _ _ => False) _ := hx
      rw [hs'] at hx'
      refine wpAny_mono hx' (fun _ s'' q => seg_end (.error e) (.inr ⟨e, rfl, ys, H', s₀, z.cs, z.sz, ?_, isg _ (q.2 _ (List.mem_singleton.mpr rfl))⟩)) fun _ s'' q => q.elim
      have ea : s' = headS s₀ s.heap.objs.size := z.at0
      rw [← ea]; exact q.1
  exact main _ _ _ _ rfl rfl rfl fun h => Heap.get?_push_size _ rfl
structure OwnG3 (P : Program) (w : World) (K : PySem.W.Frag) (mg : Str → Option Value) (base : Heap) (x : Str) (k : Nat) (ps : List Str) (sp : SpG3) : Prop where
  ex : ∃ (f : Addr) (fd : FuncData), GFn3 P w K mg base k f fd ps sp ∧ mg x = some (.ref f) ∧ PySem.W.keepIn K (.ref f) = true ∧ Binds K fd ps []
theorem DefAt.ownG3 {x : Str} {st : Stmt} {ps : List Str} {k : Nat} {sp : SpG3} (D : DefAt K mg x st ps) (h : ∀ f fd, Fun K x x st f fd → GFn3 P w K mg base k f fd ps sp) : OwnG3 P w K mg base x k ps sp := by
  obtain ⟨f, fd, F, hm, hb⟩ := D.ex
  exact ⟨f, fd, h f fd F, hm, F.kp, hb⟩
/-- .. by its text -/
theorem gfn3_fun {x qual : Str} {st : Stmt} {f : Addr} {fd : FuncData} {N ps : List Str} {k : Nat} {sp : SpG3} (F : Fun K x qual st f fd) (S : GScope N ps (defScope st)) (len : ∀ vs H Dl Q E, sp vs H Dl Q E → vs.length = ps.length)
    (hbody : ∀ (cdv : Value) (A : Around) (outer : List Env) (s : Shared) (H : Hp) (vs : List V) (Dl : Deal) (Q : List V → Hp → Prop) (E : XK) (pn : List (Addr × Obj)) (Fm : Cx → Prop) (X : Cx), Fm = FmG P w K mg base N qual (defScope st) f cdv A outer E pn s.heap.objs.size → X = gcxOf P w K mg base N qual (defScope st) f cdv A outer s H E pn →
      Fam Fm s.heap.objs.size X → Room k (A.deeper (envOfC qual (defScope st) s.heap.objs.size f cdv)) → sp vs H Dl Q E →
      ∃ t, GQs Fm s.heap.objs.size X Dl (defBody st) t ∧ t { nx := fun ys _ H' => Q ys H', rt := fun ys v H' => v = .non ∧ Q ys H' } [] (start N vs) H) : GFn3 P w K mg base (k + 1) f fd ps sp := by
  obtain ⟨oc, od, kV, doc, pm, an, cdv, ct, osl, rfl, lk, hcd⟩ := F.ex
  exact gfn3_of lk hcd S len fun A outer s H vs Dl Q E pn hb hr hsp => hbody cdv A outer s H vs Dl Q E pn _ _ rfl rfl (fam_g hb) hr hsp
end
end L2

set_option Elab.async false
set_option linter.all false
set_option maxRecDepth 100000
set_option maxHeartbeats 4000000
/-! the consumer: what it may do between the items -/
namespace L2
open PySem PySem.Spec PyProof.Rows GenW
/-- no generator is touched, what is untracked stays -/
structure Soft (X : Cx) (s : Shared) (H : Hp) (s' : Shared) (H' : Hp) : Prop where
  gens : s'.gens = s.gens
  size : s.heap.objs.size ≤ s'.heap.objs.size
  keep : ∀ b o, s.heap.get? b = some o → H b = none → b ∉ frs X.stack → s'.heap.get? b = some o ∧ H' b = none
theorem Soft.refl {X : Cx} {s : Shared} {H : Hp} : Soft X s H s H := ⟨rfl, Nat.le_refl _, fun b o e n _ => ⟨e, n⟩⟩
theorem Soft.trans {X : Cx} {s1 s2 s3 : Shared} {H1 H2 H3 : Hp} (a : Soft X s1 H1 s2 H2) (b : Soft X s2 H2 s3 H3) : Soft X s1 H1 s3 H3 :=
  ⟨b.gens.trans a.gens, Nat.le_trans a.size b.size, fun c o e n hc => let ⟨e2, n2⟩ := a.keep c o e n hc; b.keep c o e2 n2 hc⟩
/-- a target -/
structure PGq (X : Cx) (tg : Expr) (t : TG) : Prop where
  run : ∀ (pins : List (Addr × Obj)) (s : Shared) (σ : St) (H : Hp) (v : V) (u : Value) (Q : St → Hp → Prop), Inv X pins σ H s → RelV v u → t v σ H Q →
    wpAny (model X.prog X.w) X.A (assign tg X.env u) (fun _ s' => ∃ σ' H', Inv X pins σ' H' s' ∧ Soft X s H s' H' ∧ Q σ' H') X.xe s
/-- an expression -/
structure PEq (X : Cx) (e : Expr) (t : TE) : Prop where
  run : ∀ (pins : List (Addr × Obj)) (s : Shared) (σ : St) (H : Hp) (Q : VK), Inv X pins σ H s → t σ H Q → wpAny (model X.prog X.w) X.A (eval e X.env) (fun u s' => ∃ x H', Inv X pins σ H' s' ∧ Soft X s H s' H' ∧ RelV x u ∧ Q x H') X.xe s
/-- a body -/
structure PBq (X : Cx) (body : List Stmt) (t : TS) : Prop where
  run : ∀ (pins : List (Addr × Obj)) (s : Shared) (σ : St) (H : Hp) (D : Ends), Inv X pins σ H s → t D σ H → wpAny (model X.prog X.w) X.A (execs body X.env) (fun f s' => match f with
    | .next => ∃ σ' H', Inv X pins σ' H' s' ∧ Soft X s H s' H' ∧ D.nx σ' H'
    | .cont => ∃ σ' H', Inv X pins σ' H' s' ∧ Soft X s H s' H' ∧ D.ct σ' H'
    | .brk => ∃ σ' H', Inv X pins σ' H' s' ∧ D.bk σ' H'
    | .ret u => ∃ v σ' H', Inv X pins σ' H' s' ∧ RelV v u ∧ D.rt v H') X.xe s
section
variable {X : Cx} {pins : List (Addr × Obj)} {σ : St} {H : Hp} {s : Shared}
/-- a body that never comes to its end -/
theorem pbq_end {body : List Stmt} {t : TS} (h : PSs X body t) : PBq X body (fun D σ H => t { D with nx := fun _ _ => False, ct := fun _ _ => False } σ H) := by
  refine ⟨fun pins s σ H D I q => thn (h.run pins s σ H _ I q) fun f s' hs => ?_⟩
  cases f with
  | next => obtain ⟨_, _, _, z⟩ := hs; exact z.elim
  | cont => obtain ⟨_, _, _, z⟩ := hs; exact z.elim
  | brk => exact hs
  | ret u => exact hs
theorem peq_var {i : Nat} {x : Str} {pos : Pos} (hN : X.N[i]? = some x) (hv : X.env.scope.names.lookup x = some .local) (hd : (x == ("__debug__" : Str)) = false := by decide) : PEq X (.Name x pos) (tVar i) := by
  refine ⟨fun pins s σ H Q I ⟨v, e, h⟩ => ?_⟩
  obtain ⟨m, hn, hl⟩ := I.loc
  obtain ⟨u, r, l⟩ := hl i x v hN e (.inl hv)
  rcases l with ⟨hk, hm⟩ | ⟨hk, _⟩
  · exact wpAny_Name (wpAny_loadName_local I.ok.kind hk hn hm ⟨v, H, I, .refl, r, h⟩) hd
  · have hk' : X.env.scope.names.lookup x = some .cell ∨ X.env.scope.names.lookup x = some .free := hk
    rw [hv] at hk'
    rcases hk' with z | z <;> cases z
theorem pgq_name {i : Nat} {x : Str} {pos : Pos} (hs : X.stack = X.env :: X.outer) (hf : X.env.frame = some X.env.locals) (hN : X.N.Nodup) (hi : X.N[i]? = some x) (hv : X.env.scope.names.lookup x = some .local) : PGq X (.Name x pos) (gName i) := by
  refine ⟨fun pins s σ H v u Q I r h => wpAny_assign_Name ?_⟩
  obtain ⟨m, hn, hl⟩ := id I.loc
  have inF : X.env.locals ∈ frs X.stack := by rw [hs]; exact List.mem_filterMap.mpr ⟨_, List.mem_cons_self, hf⟩
  refine wpAny_storeName_local hv hn (fun h' hn' hb => ?_) (by rw [I.ok.kind]; rfl)
  have ne : ∀ b o, s.heap.get? b = some o → b ≠ X.env.locals → h'.get? b = some o := fun b o e z => (hb.2 b z).trans e
  have old : ∀ b o, X.s_0.heap.get? b = some o → b ≠ X.env.locals := fun b o e => Nat.ne_of_lt (Nat.lt_of_lt_of_le (Heap.lt_size e) I.ok.above)
  have hlen : i < σ.length := by rw [I.len]; exact (List.getElem?_eq_some_iff.mp hi).1
  refine ⟨_, H, ⟨I.ok, I.os, I.bare, ?_, ⟨_, hn', fun j y v' t1 t2 t3 => ?_⟩, fun y c e => ?_, I.free, I.freeC, fun p hp => ?_, ?_, by rw [List.length_set]; exact I.len⟩, ⟨rfl, Nat.le_of_eq hb.1.symm, fun b o e n hF => ⟨ne b o e fun z => hF (by rw [z]; exact inF), n⟩⟩, h⟩
  · refine ⟨fun b o e n a1 a2 => ne b o (I.base.keep b o e n a1 a2) (old b o e), fun b o e n a1 a2 => ?_, I.base.free, fun b o e a2 => ?_, I.base.tups, I.base.frzs, I.base.tbls⟩
    · obtain ⟨sl, q⟩ := I.base.slot b o e n a1 a2
      exact ⟨sl, ne b _ q (old b o e)⟩
    · obtain ⟨o', q⟩ := I.base.there b o e a2
      exact ⟨o', ne b _ q (old b o e)⟩
  · by_cases hj : j = i
    · subst hj
      rw [hi] at t1; cases t1
      rw [List.getElem?_set_self hlen] at t2
      cases t2
      exact ⟨u, r, .inl ⟨hv, if_pos rfl⟩⟩
    · rw [List.getElem?_set_ne (fun z => hj z.symm)] at t2
      obtain ⟨u', r', q⟩ := hl j y v' t1 t2 t3
      have hy : y ≠ x := fun z => hj (nodup_ix hN t1 (by rw [z]; exact hi))
      rcases q with ⟨k, e⟩ | ⟨k, c, e, o, ho, hd⟩
      · exact ⟨u', r', .inl ⟨k, (if_neg hy).trans e⟩⟩
      · exact ⟨u', r', .inr ⟨k, c, e, o, ne c o ho (I.cne y c e), hd⟩⟩
  · obtain ⟨w, o, ho, hd⟩ := I.cell y c e
    exact ⟨w, o, ne c o ho (I.cne y c e), hd⟩
  · obtain ⟨a1, a2, a3, a4, a5⟩ := I.pin p hp
    exact ⟨ne p.1 p.2 a1 a3, a2, a3, a4, a5⟩
  · intro b ob e
    refine (I.hok b ob e).stay (fun c w hc q => ne c w q fun z => ?_) (fun _ q => q) fun _ _ q => q
    subst z
    have hF := I.free
    rcases hc with hc | hc
    · rw [← hc, hF] at e; cases e
    · rw [hF] at hc; cases hc
/-- l.append(x) -/
def tAppq (i j : Nat) : TS := fun D σ H => ∃ l x xs, σ[i]? = some (some (.ref l)) ∧ σ[j]? = some (some x) ∧ H l = some (.lst xs) ∧ xs.length < sizeLine ∧ D.nx σ (upd H l (.lst (xs ++ [x])))
theorem pbq_app {i j : Nat} {l x : Str} {p1 p2 ap pos pos2 : Pos} (hi : X.N[i]? = some l) (hl : X.env.scope.names.lookup l = some .local) (hj : X.N[j]? = some x) (hx : X.env.scope.names.lookup x = some .local)
    (hbase : attributeBase (.Name l p1) "append" X.env (eval (.Name l p1) X.env) = eval (.Name l p1) X.env := by rfl)
    (hfew : ((backTo pos (starEach [.Name x p2] X.env)).all (fun x => !x.1) && (backToKw pos (keywordEach [] X.env)).all (fun x => x.1.isSome) && decide (([Expr.Name x p2] : List Expr).length + ([] : List Keyword).length + (if ([] : List Keyword).isEmpty then 0 else 1) < 30)) = true := by rfl)
    (hline : (ap.endLine == pos.line) = true := by rfl) (htr : backTo pos (starEach [.Name x p2] X.env) = [(false, eval (.Name x p2) X.env)] := by rfl)
    (hin : interactive X.env = false := by rfl) (hsw : swapsWith (.Call (.Attribute (.Name l p1) "append" ap) [.Name x p2] [] pos) none pos2.line X.env = pure false := by rfl)
    (hd : (l == ("__debug__" : Str)) = false := by decide) (hd2 : (x == ("__debug__" : Str)) = false := by decide) :
    PBq X [.Expr (.Call (.Attribute (.Name l p1) "append" ap) [.Name x p2] [] pos) pos2] (tAppq i j) := by
  refine ⟨fun pins s σ H D I ⟨a, y, xs, e1, e2, hH, hz, q⟩ => ?_⟩
  refine wpAny_execs_cons ?_
  refine wpAny_Expr ?_ hin hsw
  refine wpAny_Call_append hbase hfew hline htr (thn ((peq_var hi hl hd).run pins s σ H (fun v H' => v = .ref a ∧ H' = H) I ⟨_, e1, rfl, rfl⟩) fun u s1 ⟨x1, H1, I1, S1, r1, q1, q2⟩ => ?_)
  subst q1 q2
  cases r1
  obtain ⟨z, its, n, r, hl', e⟩ := I1.lstM hH
  refine ⟨a, its.toArray, rfl, ⟨_, n, e, rfl, rfl, rfl⟩, thn ((peq_var hj hx hd2).run pins s1 σ H1 (fun v H' => v = y ∧ H' = H1) I1 ⟨_, e2, rfl, rfl⟩) fun u2 s2 ⟨x2, H2, I2, S2, r2, q1, q2⟩ => ?_⟩
  subst q1 q2
  obtain ⟨z, its, n, r, hl', e⟩ := I2.lstM hH
  refine call_meets F.slot_list_append ⟨_, e, rfl⟩ F.entry_list_append (F.args_list_append_2 _ _) (PySem.list_append a its.toArray n u2 (by rw [List.size_toArray]; omega)) ⟨e, ?_⟩
  refine wpAny_execs_nil ⟨σ, _, I2.lset (its' := its ++ [u2]) hH e (by simp) (r.append (.cons r2 .nil)) (by rw [List.length_append, List.length_singleton]; omega), (S1.trans S2).trans ⟨rfl, Nat.le_of_eq (Heap.size_update _ _ _).symm, fun b o eb nb _ => ?_⟩, q⟩
  have hb : b ≠ a := fun z => by rw [z, hH] at nb; cases nb
  exact ⟨(Heap.get?_update_other _ _ (Ne.symm hb)).trans eb, by rw [upd_ne hb]; exact nb⟩
end
end L2

set_option Elab.async false
set_option linter.all false
set_option maxRecDepth 100000
set_option maxHeartbeats 4000000
/-! for x in f(..): over a generator def's call -/
namespace L2
open PySem PySem.Spec PyProof.Rows GenW
/-- what stands in the consumer's frame lies below n₀ -/
structure LowX (X : Cx) (pins : List (Addr × Obj)) (n₀ : Nat) : Prop where
  s0 : X.s_0.heap.objs.size ≤ n₀
  loc : X.env.locals < n₀
  cell : ∀ x c, X.env.cells.lookup x = some c → c < n₀
  pin : ∀ p ∈ X.pn ++ pins, p.1 < n₀
section
variable {X : Cx} {pins : List (Addr × Obj)} {σ : St} {H H1 : Hp} {s s1 : Shared} {n₀ : Nat}
theorem Inv.low (I : Inv X pins σ H s) : LowX X pins s.heap.objs.size :=
  ⟨I.sz, I.lt, fun x c e => let ⟨_, _, ho, _⟩ := I.cell x c e; Heap.lt_size ho, fun p hp => Heap.lt_size (I.pin p hp).1⟩
theorem Inv.gensTo (I : Inv X pins σ H s) {G : Array GenState} (h : AllBare G) : Inv X pins σ H { s with gens := G } :=
  I.call' (ch := []) rfl Un.refl I.hok h fun _ z => nomatch z
/-- the places from n₀ on -/
def upFrom (n₀ : Nat) (h : Heap) : List Addr := (List.range h.objs.size).filter fun b => decide (n₀ ≤ b)
theorem upFrom_not {h : Heap} {b : Addr} {o : Obj} (e : h.get? b = some o) (hb : b ∉ upFrom n₀ h) : b < n₀ := by
  refine Nat.lt_of_not_le fun z => hb (List.mem_filter.mpr ⟨List.mem_range.mpr (Heap.lt_size e), decide_eq_true z⟩)
theorem LowX.up (L : LowX X pins n₀) {h : Heap} : ∀ b ∈ upFrom n₀ h, (b ∈ X.ex ∨ X.s_0.heap.objs.size ≤ b) ∧ b ≠ X.env.locals ∧ (∀ x c, X.env.cells.lookup x = some c → c ≠ b) ∧ ∀ p ∈ X.pn ++ pins, p.1 ≠ b := fun b hb => by
  have hn : n₀ ≤ b := of_decide_eq_true (List.mem_filter.mp hb).2
  refine ⟨.inr (Nat.le_trans L.s0 hn), fun z => ?_, fun x c e z => ?_, fun p hp z => ?_⟩
  · rw [z] at hn; exact absurd (Nat.lt_of_lt_of_le L.loc hn) (Nat.lt_irrefl _)
  · rw [← z] at hn; exact absurd (Nat.lt_of_lt_of_le (L.cell x c e) hn) (Nat.lt_irrefl _)
  · rw [← z] at hn; exact absurd (Nat.lt_of_lt_of_le (L.pin p hp) hn) (Nat.lt_irrefl _)
/-- behind a stretch of the generator -/
theorem Inv.stretch (I : Inv X pins σ H s) (L : LowX X pins n₀) (u : Un (frs X.stack) [] H H1 (headH s.heap n₀) s1.heap) (hok : HOk X.prog X.w H1 s1.heap) (os : s1.os = s.os) (ag : AllBare s1.gens) : Inv X pins σ H1 s1 := by
  have hh : ∀ b o, s.heap.get? b = some o → b ∉ upFrom n₀ s.heap → (headH s.heap n₀).get? b = some o := fun b o e hb => (headH_get (upFrom_not e hb)).trans e
  exact I.call' (ch := upFrom n₀ s.heap) os ⟨fun b o e n hb hc => u.keep b o (hh b o e hc) n hb (fun z => nomatch z), fun b o e n hb hc => u.slot b o (hh b o e hc) n hb (fun z => nomatch z), fun b o e n hc => u.free b o (hh b o e hc) n (fun z => nomatch z),
    fun b o e hc => u.there b o (hh b o e hc) (fun z => nomatch z), u.tups, u.frzs, u.tbls⟩ hok ag L.up
/-- an exception that the generator let out -/
theorem XE.of_stretch {W : WX} {E : XK} (I : Inv X pins σ H s) (L : LowX X pins n₀) (hn : n₀ ≤ s.heap.objs.size) (hW : ∀ cls d H', E cls d H' → W cls d σ H') {u : Value} {G : Array GenState} (c : CX X.prog X.w X.stack H (headS s n₀) E u s1) (hG : AllBare G) : XE X W u { s1 with gens := G } := by
  obtain ⟨a, B, H', cls, d, rfl, fl, hok, ub, na, os, ag, hE⟩ := c
  obtain ⟨R, g1, g2⟩ := restrict s1.heap fun b => (B.get? b).isSome || decide (b ∈ frs X.stack)
  have st : B.StaysIn s1.heap := fl.1
  have gB : ∀ b o, B.get? b = some o → R.get? b = some o := fun b o e => (g1 b (by rw [e]; rfl)).trans (st b o e)
  have gF : ∀ b, b ∈ frs X.stack → R.get? b = s1.heap.get? b := fun b hb => g1 b (by simp [hb])
  have og : ∀ b o, R.get? b = some o → s1.heap.get? b = some o ∧ ((B.get? b).isSome = true ∨ b ∈ frs X.stack) := fun b o e => by
    cases q : ((B.get? b).isSome || decide (b ∈ frs X.stack)) with
    | false => rw [g2 b q] at e; cases e
    | true => exact ⟨by rw [← g1 b q]; exact e, by simpa [Bool.or_eq_true] using q⟩
  have hh : ∀ b o, s.heap.get? b = some o → b ∉ upFrom n₀ s.heap → (headS s n₀).heap.get? b = some o := fun b o e hb => (headH_get (upFrom_not e hb)).trans e
  refine ⟨a, B, { s with heap := R, gens := G, drawn := s1.drawn, toks := s1.toks }, pins, σ, H', cls, d, rfl, ?_, fun b o e hb => ?_, Heap.UpToSlots.of_keeps fun b o e => (og b o e).1, .inr (.inl fl), na, os, hG, hW _ _ _ hE⟩
  · refine I.call (ch := upFrom n₀ s.heap) ⟨fun b o e n hb hc => gB b o (ub.keep b o (hh b o e hc) n hb), fun b o e n hb hc => ?_, fun b o e n hc => ub.free b o (hh b o e hc) n, fun b o e hc => ?_, ub.tups, ub.frzs, ub.tbls⟩ (hok.kept gB) hG L.up
    · obtain ⟨sl, q⟩ := ub.slot b o (hh b o e hc) hb
      exact ⟨sl, by rw [gF b hb]; exact q⟩
    · by_cases hb : b ∈ frs X.stack
      · obtain ⟨sl, q⟩ := ub.slot b o (hh b o e hc) hb
        exact ⟨_, by rw [gF b hb]; exact q⟩
      · obtain ⟨o', q⟩ := ub.there b o (hh b o e hc) hb
        exact ⟨o', gB b o' q⟩
  · obtain ⟨e', h⟩ := og b o e
    rcases h with h | h
    · obtain ⟨o', q⟩ := Option.isSome_iff_exists.mp h
      rw [q]
      exact (st b o' q).symm.trans e'
    · exact absurd h hb
end
section
variable {X : Cx} {k : Nat} {f : Addr} {fd : FuncData} {ps : List Str} {sp : SpG3} {x : Str} {p pos pos2 : Pos} {e : Expr} {es : List Expr} {ta : TA} {tg : Expr} {gt : TG} {body : List Stmt} {tb : TS} {W : WX}
/-- Cσ: the consumer's slots, by what is out; kp: what a turn does to the heap. K: X.K, named -/
def tForG (K : PySem.W.Frag) (sp : SpG3) (ta : TA) (gt : TG) (tb : TS) (W : WX) : TS := fun D σ H => ta σ H fun vs H1 => ∃ (Cσ : List V → St → Prop) (kp : List V → V → Hp → Hp → Prop), Cσ [] σ ∧ ∀ cs,
  sp vs H1 ⟨cs, fun ys x H2 => ∀ σ', Cσ ys σ' → gt x σ' H2 fun σ2 H3 => tb { D with nx := fun σ3 H4 => Cσ (ys ++ [x]) σ3 ∧ kp ys x H2 H4, ct := fun σ3 H4 => Cσ (ys ++ [x]) σ3 ∧ kp ys x H2 H4, bk := D.nx } σ2 H3, kp, []⟩
    (fun ys H' => ∀ σ', Cσ ys σ' → D.nx σ' H') (fun cls d H' => PySem.W.subIn K cls (.type "StopIteration") = some false ∧ ∀ ys σ', Cσ ys σ' → W cls d σ' H')
theorem ps_forG {K : PySem.W.Frag} (hK : X.K = K) (O : OwnG3 X.prog X.w X.K X.mg X.base x k ps sp) (tk : Takes X W) (hp : PassesOwn (model X.prog X.w) X.A X.env X.xe) (room : Room (k + 1) X.A) (hcm : X.calm = true) (ha : PA X (e :: es) ta) (hg : PGq X tg gt) (hb : PBq X body tb) (hgl : Gl X x := by rfl)
    (hdb : (x == ("__debug__" : Str)) = false := by decide) (he : starEach (e :: es) X.env = (false, eval e X.env) :: starEach es X.env := by rfl) (hpl : (backTo pos2 (starEach es X.env)).any (·.1) = false := by rfl)
    (hs : ∀ y, foldedSetIterable (.Call (.Name x p) (e :: es) [] pos2) X.env y = pure y := by intro _; rfl) : PS X (.For tg (.Call (.Name x p) (e :: es) [] pos2) body [] pos) (tForG K sp ta gt tb W) := by
  subst hK
  obtain ⟨f, fd, G, hm, hk, hbd⟩ := O.ex
  refine ⟨fun pins s σ H D I h => ?_⟩
  refine wpAny_For (wpAny_Call_Name_kw (ld_glob I hgl hm (PySem.W.callWith_K (h₀ := X.base) I.ok.mod.kin hk (thn (ha.run pos2 pins s σ H _ I h) fun us s1 ⟨vs, H1, I1, r, Cσ, kp, c0, q⟩ => ⟨I1.kIn, ?_⟩) he hpl) hdb)) hs
  have q := q fun ys H' s' => ∃ σ', Inv X pins σ' H' s' ∧ Cσ ys σ'
  revert q
  generalize hDl : (⟨fun ys H' s' => ∃ σ', Inv X pins σ' H' s' ∧ Cσ ys σ', _, kp, []⟩ : Deal) = Dl
  intro q
  have hl2 : us.length = ps.length := by rw [← r.length]; exact G.len _ _ _ _ _ q
  have hbs := hbd s1 us I1.kIn (by rw [List.append_nil]; exact hl2)
  rw [List.append_nil] at hbs
  refine wpAny_call (codeAny_mono (G.run X.A X.stack s1 H1 ⟨us, []⟩ us vs (fun Dl' Q' => Dl' = Dl ∧ Q' = fun ys H' => ∀ σ', Cσ ys σ' → D.nx σ' H') _ ⟨_, _, rfl, rfl⟩ (room.mono (Nat.le_succ k)) I1.env0 hbs r (fun Dl' Q' z => by obtain ⟨rfl, rfl⟩ := z; exact q)) fun r s2 hq => ?_)
  cases r with
  | error _ => exact hq.elim
  | ok fl =>
  cases fl with
  | next => exact hq.elim
  | brk => exact hq.elim
  | cont => exact hq.elim
  | ret u =>
  obtain ⟨a, g, c, go, rfl, ha1, ha2, hgo, isg, hgs, hos, hba, hkp, wake⟩ := hq
  have I2 : Inv X pins σ H1 s2 := I1.call' (ch := []) hos (Un.kept hkp) (I1.hok.kept hkp) hba fun _ z => nomatch z
  refine wpAny_pyIter_gen (isg _ hgo) ?_
  have L : LowX X pins s1.heap.objs.size := I1.low
  have hfrF : ∀ b ∈ frs X.stack, b < s1.heap.objs.size := fun b hb => by
    obtain ⟨_, o, ho, _⟩ := I1.stack.mem hb
    exact Heap.lt_size ho
  have hgl2 : g < s2.gens.size := (Array.getElem?_eq_some_iff.mp hgs).1
  have mkWk : ∀ {pins' σ' H' s'}, Inv X pins' σ' H' s' → s1.heap.objs.size ≤ s'.heap.objs.size → Wk X.prog X.w X.base X.stack s1.heap.objs.size [] H' s' := fun I' hz =>
    ⟨I'.bare, I'.bs, I'.stack, fun b hb => ⟨hfrF b hb, I'.stkFree b hb⟩, I'.hok, hz, fun _ z => nomatch z⟩
  refine codeAny_forLoop_any (fun n s' => ∃ gs σ' H', s'.gens[g]? = some gs ∧ gs.Goes (model X.prog X.w) X.A.in1 (End3 X.prog X.w X.stack s1.heap.objs.size Dl (fun ys H' => ∀ σ', Cσ ys σ' → D.nx σ' H') (fun cls d H' => PySem.W.subIn X.K cls (.type "StopIteration") = some false ∧ ∀ ys σ', Cσ ys σ' → W cls d σ' H') a g)
    (GY3 X.prog X.w X.base X.stack [(a, go)] s1.heap.objs.size Dl) n (.send .none) (s'.setGen g .running) ∧ s'.heap.get? a = some go ∧ Inv X pins σ' H' s') ?_ sizeLine ⟨_, σ, H1, hgs, ⟨rfl, ?_⟩, hgo, I2⟩
  · rintro n s3 ⟨gs, σ3, H3, hgs3, hgoes, hgo3, I3⟩
    have hgl3 : g < s3.gens.size := (Array.getElem?_eq_some_iff.mp hgs3).1
    have hcd : ∃ nm qn, go.cls = .type "generator" ∧ go.data = .fields #[.int g 0, nm, qn] := by
      obtain ⟨o, nm, qn, ho, hc, hd, _⟩ := isg _ hgo
      rw [hgo] at ho; cases ho
      exact ⟨nm, qn, hc, hd⟩
    obtain ⟨nm, qn, hgc, hgd⟩ := hcd
    refine wpAny_passesOwn hp (wpAny_gsz (n := g + 1) hgl3 (next_genG (A := X.A) (I3.ok.hd hcm) I3.nolimit room.depth (isg _ hgo3) hgs3 hgoes (fun v s4 gs' hbare hv => ?_) (fun s4 hf h' hk' => ?_) fun er s4 her => ?_))
    · obtain ⟨ys, x1, HE, H4, mine, hn, rv, hcs, hz, un, os4, ag4, hok4, hpn, hz4, _, yd, hmine, _, wakes⟩ := hv
      intro hsz
      subst hDl
      obtain ⟨σE, IE, cE⟩ := hcs
      have hsz4 : g < s4.gens.size := by
        have z : (s4.setGen g gs').gens.size = s4.gens.size := setGen_size _ _ _
        have z2 : g + 1 ≤ (s4.setGen g gs').gens.size := hsz
        omega
      have I4 : Inv X pins σE H4 (s4.setGen g gs') := (IE.stretch L un hok4 os4 ag4).gensTo (allBare_setGen ag4 hbare)
      have hgo4 : s4.heap.get? a = some go := (hpn _ (List.mem_singleton.mpr rfl)).1
      refine go_of (s := s4.setGen g gs') hgo4 hgc hgd (by decide) ?_
      refine wpAny_passesOwn hp (thn (hg.run pins _ σE H4 x1 v _ I4 rv (yd σE cE)) fun _ s5 ⟨σ5, H5, I5, S5, q5⟩ => ?_)
      refine wpAny_passesOwn hp (thn (hb.run pins s5 σ5 H5 _ I5 q5) fun fl s6 q6 => ?_)
      have on : ∀ {σ6 : St} {H6 : Hp}, Inv X pins σ6 H6 s6 → Soft X s5 H5 s6 H6 → Cσ (ys ++ [x1]) σ6 ∧ kp ys x1 H4 H6 → ∃ m, m < n ∧ ∃ gs σ' H', s6.gens[g]? = some gs ∧ gs.Goes _ X.A.in1 _ _ m (.send .none) (s6.setGen g .running) ∧ s6.heap.get? a = some go ∧ Inv X pins σ' H' s6 := fun {σ6 H6} I6 S6 n6 => by
        have S := S5.trans S6
        have hgs6 : s6.gens[g]? = some gs' := by rw [S.gens]; exact setGen_at hsz4
        have I6r : Inv X pins σ6 H6 (s6.setGen g .running) := I6.gensTo (allBare_setGen I6.bare rfl)
        have wk := wakes H6 (s6.setGen g .running) (mkWk I6r (Nat.le_trans hz4 S.size)) ⟨σ6, I6r, n6.1⟩ (fun b mb o e => S.keep b o e (hmine b mb).1 (hmine b mb).2.1) n6.2
        have hna : H4 a = none := (hpn _ (List.mem_singleton.mpr rfl)).2
        cases n with
        | zero => exact False.elim wk
        | succ m => exact ⟨m, Nat.lt_succ_self m, gs', σ6, H6, hgs6, wk, (S.keep a go hgo4 hna (fun z => absurd (hfrF a z) (Nat.not_lt.mpr ha1))).1, I6⟩
      cases fl with
      | next => obtain ⟨σ6, H6, I6, S6, n6⟩ := q6; exact on I6 S6 n6
      | cont => obtain ⟨σ6, H6, I6, S6, n6⟩ := q6; exact on I6 S6 n6
      | brk => exact q6
      | ret v => exact q6
    · obtain ⟨ys, HE, H4, hcs, hz, os4, ag4, un, hok4, _, hQ⟩ := hf
      intro _
      subst hDl
      obtain ⟨σE, IE, cE⟩ := hcs
      have I4 : Inv X pins σE H4 (s4.setGen g .finished) := (IE.stretch L un hok4 os4 ag4).gensTo (allBare_setGen ag4 rfl)
      have I5 : Inv X pins σE H4 { s4.setGen g .finished with heap := h' } := I4.call' (ch := []) rfl (Un.kept hk') (I4.hok.kept hk') I4.bare fun _ z => nomatch z
      exact wpAny_passesOwn hp (wpAny_execs_nil ⟨σE, H4, I5, hQ σE cE⟩)
    · obtain ⟨ys, HE, sE, hcs, hz, cx, hge⟩ := her
      subst hDl
      obtain ⟨σE, IE, cE⟩ := hcs
      have ag4 : AllBare s4.gens := by obtain ⟨_, _, _, _, _, _, _, _, _, _, _, ag, _⟩ := cx; exact ag
      refine ⟨hge, notStop_of (E := fun cls d H' => PySem.W.subIn X.K cls (.type "StopIteration") = some false ∧ ∀ ys σ', Cσ ys σ' → W cls d σ' H') (fun _ _ _ z => z.1) (IE.ok.mod.kin.keeps fun b o eb => ?_) cx, fun _ => tk _ _ (XE.of_stretch IE L hz (fun _ _ _ z => z.2 ys σE cE) cx (allBare_setGen ag4 rfl))⟩
      obtain ⟨a', B, H', cls, d, z1, fl, z2, ub, _⟩ := cx
      have hb0 := IE.bs b o eb
      refine fl.1 b o (ub.keep b o ((headH_get ?_).trans hb0.1) hb0.2 fun hm => ?_)
      · exact Nat.lt_of_lt_of_le (Heap.lt_size (I1.ok.bs b o eb).1) L.s0
      · have := (IE.stack.mem hm).1
        rw [eb] at this; cases this
  · subst hDl
    exact wake X.A.in1 (s2.setGen g .running) _ _ ⟨rfl, rfl⟩ room.in1 I1.ok.frames (fun _ _ e => e) hos (allBare_setGen hba rfl) (fun _ z => nomatch z) ⟨σ, I2.gensTo (allBare_setGen hba rfl), c0⟩
end
end L2

set_option Elab.async false
set_option linter.all false
set_option maxRecDepth 100000
set_option maxHeartbeats 4000000
/-! enumerate(xs, start=k) over a list -/
namespace L2
open PySem PySem.Spec PyProof.Rows
section
variable {M : Model} {A : Around} {E : Value → Shared → Prop} {s : Shared} {env : Env}
theorem callWith_typeKw {pos : Pos} {T : String} {e : Expr} {rest : List Expr} {kws : List Keyword} {Q : Value → Shared → Prop}
    (h : wpAny M A (spliced (backTo pos (starEach (e :: rest) env))) (fun vs s1 => wpAny M A (evalAll ((backToKw pos (keywordEach kws env)).map (·.2))) (fun ks s2 => wpAny M A (call (.type T) vs (((backToKw pos (keywordEach kws env)).filterMap (·.1)).zip ks)) Q E s2) E s1) E s)
    (he : backTo pos (starEach (e :: rest) env) = (false, eval e env) :: backTo pos (starEach rest env)) (hpl : (backTo pos (starEach (e :: rest) env)).any (·.1) = false)
    (hall : (backToKw pos (keywordEach kws env)).all (·.1.isSome) = true) (hno : (backToKw pos (keywordEach kws env)).any (·.1.isNone) = false) :
    wpAny M A (callWith pos (.type T) [] (backTo pos (starEach (e :: rest) env)) (backToKw pos (keywordEach kws env))) Q E s := by
  have h2 : wpAny M A (evalArgs (.type T) true (backTo pos (starEach (e :: rest) env)) (backToKw pos (keywordEach kws env))) (fun a s1 => wpAny M A (call (.type T) ([] ++ a.pos) a.kw) Q E s1) E s := by
    rw [he] at h ⊢
    exact PyProof.Rows.evalArgs_kwB hall h
  unfold callWith
  refine wpAny_bind (wpAny_holding (wpAny_mono h2 (fun a s1 h1 => wpAny_bind (wpAny_standAt ?_)) fun _ _ x => x))
  simp only [hpl, hno, Bool.or_false]
  refine wpAny_bind (wpAny_pure ?_)
  exact wpAny_bind (wpAny_mono h1 (fun r s2 hr => wpAny_bind (wpAny_holding (wpAny_point (wpAny_pure hr)))) fun _ _ x => x)
end
/-- the list at a, each item in a new pair with its number from k on -/
def Itef (K : PySem.W.Frag) (a : Addr) (k : Int) : It :=
  ⟨fun i H => ∃ xs : List V, SqL K H a xs ∧ i < xs.length, fun i H v H' => ∃ T x, v = .ref T ∧ H T = none ∧ H' = upd H T (.tup [.int (k + (i : Nat)), x]) ∧ ∀ xs, SqL K H a xs → xs[i]? = some x, fun i H => ∃ xs : List V, SqL K H a xs ∧ xs.length = i⟩
theorem turn_enF {P : Program} {w : World} {K : PySem.W.Frag} {elts : List Expr} {kk : Nat} {tpos : Pos} (k : Int) (a e it : Addr) (hea : e ≠ a) (hia : a ≠ it) :
    Turn P w K (.Tuple elts kk tpos) (Itef K a k) [e, it] e (fun i h => (∃ old, IsEnum h e it (k + ((i : Nat) : Int)) old) ∧ h.IsListIter it a i ∧ e ≠ it) where
  mem := List.mem_cons_self
  obj := by
    intro i h ⟨⟨old, he⟩, ⟨o, ho, _, hd⟩, _⟩ b hb
    rcases List.mem_cons.mp hb with rfl | z
    · exact ⟨_, he, by intro v q; cases q⟩
    · cases List.mem_singleton.mp z
      exact ⟨o, ho, by intro v q; rw [hd] at q; cases q⟩
  keep := fun i h h' ⟨⟨old, he⟩, hi, hne⟩ st => ⟨⟨old, st e List.mem_cons_self _ he⟩, hi.at fun o q => st it (List.mem_cons_of_mem _ List.mem_cons_self) o q, hne⟩
  item := by
    intro X hP hw hK hc i pins s σ H E I hf ⟨⟨old, he⟩, hit, hne⟩ ⟨xs, hq, hx⟩
    subst hP hw hK
    obtain ⟨its, rv, p, hz⟩ := I.list hq
    have hl := rv.length
    have elt := Heap.lt_size he
    have ilt : it < s.heap.objs.size := let ⟨_, q, _⟩ := hit; Heap.lt_size q
    have D := Draws.list (prog := X.prog) (w := X.w) (A := X.A.in1) (I.ok.hd hc) it a hia its.toArray
    refine wpAny_pyNext_enum_itemC D he (i := i) ⟨hit, p.isList⟩ (by rw [List.size_toArray]; omega) hne (by simp [hne, hea]) fun u h' tk hP ho hst' hT hsz hk => ?_
    have hu : its[i]? = some u := by simpa using hP
    have hxx : xs[i]? = some xs[i] := List.getElem?_eq_getElem hx
    obtain ⟨u', hu', ru'⟩ := rv.get hxx
    obtain rfl : u' = u := Option.some.inj (hu'.symm.trans hu)
    refine ⟨_, rfl, wpAny_letOwnedTupleGo_enum (s := { s with heap := h', toks := tk + 1 }) ho fun h2 he2 sb => ?_⟩
    have hT2 := (sb.2 _ (Nat.ne_of_gt elt)).trans hT
    have I1 : Inv X pins σ (upd H s.heap.objs.size (.tup [.int (k + (i : Nat)), xs[i]])) { s with heap := h2, toks := tk + 1 } :=
      I.turnedNew (ch := [e, it]) (fun b ob hb q => (sb.2 b fun z => hb (by rw [z]; exact List.mem_cons_self)).trans (hk b ob (fun z => hb (by rw [z]; exact List.mem_cons_self)) (fun z => hb (by rw [z]; exact List.mem_cons_of_mem _ List.mem_cons_self)) q)) hf (Nat.le_refl _)
        ⟨by show 2 ≤ sizeLine; decide, [.int (k + (i : Nat)) tk, u'], .cons ⟨_, rfl⟩ (.cons ru' .nil), ⟨_, hT2, rfl, _, rfl⟩⟩
    refine ⟨.ref s.heap.objs.size, _, I1, rfl, ⟨_, xs[i], rfl, I.hok.fresh (Nat.le_refl _), rfl, fun ys hy => by rw [I.list_inj hy hq]; exact hxx⟩, ⟨⟨u', ?_⟩, hst'.1.at fun o q => (sb.2 it (Ne.symm hne)).trans q, hne⟩, fun b hb => ?_⟩
    · rw [show k + ((i + 1 : Nat) : Int) = k + (i : Int) + 1 by omega]; exact he2
    · have hb' : b < s.heap.objs.size := (List.mem_cons.mp hb).elim (fun z => z ▸ elt) fun z => List.mem_singleton.mp z ▸ ilt
      rw [upd_ne (Nat.ne_of_lt hb')]; exact (hf b hb).1
  done := by
    intro X hP hw hK hc i pins s σ H E I hf ⟨⟨old, he⟩, hit, hne⟩ ⟨xs, hq, hx⟩
    subst hP hw hK
    obtain ⟨its, rv, p, hz⟩ := I.list hq
    have hl := rv.length
    obtain ⟨f0, f1, f2, f3, f4, f5⟩ := hf it (List.mem_cons_of_mem _ List.mem_cons_self)
    have D := Draws.list (prog := X.prog) (w := X.w) (A := X.A.in1) (I.ok.hd hc) it a hia its.toArray
    have ei : i = its.toArray.size := by rw [List.size_toArray]; omega
    exact wpAny_pyNext_enum_endD D he (by rw [← ei]; exact ⟨hit, p.isList⟩) fun h' eb => ⟨rfl, I.turned (t' := s.toks) (fun b o hb q => eb b o hb q) f0 f1 f3 f4 f5⟩
  self := fun A i s Q E ⟨⟨_, he⟩, _⟩ h => wpAny_pyIter_enum he h
def iEnF (K : PySem.W.Frag) (k : Int) (ta : TA) : TI := fun σ H R => ta σ H fun vs H1 => ∃ a xs, vs = [.ref a] ∧ SqL K H1 a xs ∧ R (Itef K a k) H1
theorem pi_enF {X : Cx} {K : PySem.W.Frag} (hK : X.K = K) {e : Expr} {ta : TA} {p pos tpos p2 p3 : Pos} {elts : List Expr} {kk j : Nat} {k : Int} (h0 : -(2 ^ 63) ≤ k) (h1 : k < 2 ^ 63) (hg : Gl X "enumerate") (hm : X.mg "enumerate" = none) (ha : PA X [e] ta)
    (he : backTo pos (starEach [e] X.env) = (false, eval e X.env) :: backTo pos (starEach [] X.env) := by rfl) (hpl : (backTo pos (starEach [e] X.env)).any (·.1) = false := by rfl) (hall : (backToKw pos (keywordEach [⟨some "start", .Constant (.int k) j p2, p3⟩] X.env)).all (·.1.isSome) = true := by rfl)
    (hno : (backToKw pos (keywordEach [⟨some "start", .Constant (.int k) j p2, p3⟩] X.env)).any (·.1.isNone) = false := by rfl) (hks : (backToKw pos (keywordEach [⟨some "start", .Constant (.int k) j p2, p3⟩] X.env)).filterMap (·.1) = [Str.ofString "start"] := by rfl) :
    PI X (.Tuple elts kk tpos) (.Call (.Name "enumerate" p) [e] [⟨some "start", .Constant (.int k) j p2, p3⟩] pos) (iEnF K k ta) := by
  subst hK
  refine ⟨fun pins s σ H R I h => wpAny_Call_Name_kw (ld_blt I hg hm boot_enumerate (callWith_typeKw (thn (ha.run pos pins s σ H _ I h) fun us s1 ⟨vs, H1, I1, r1, a, xs, ex, hq, q⟩ => ?_) he hpl hall hno))⟩
  subst ex
  obtain rfl := Vals.ref1 r1
  refine PyProof.Rows.kws_cons (thn ((pe_int (X := X) (i := k) (j := j) (pos := p2)).run pins s1 σ H1 (fun v H' => v = .int k ∧ H' = H1) I1 ⟨rfl, rfl⟩) fun v s2 ⟨x, H2, I2, rv, e1, e2⟩ => PyProof.Rows.kws_nil ?_)
  subst e1 e2
  obtain ⟨t, rfl⟩ := rv
  obtain ⟨its, rvs, p', hz⟩ := I2.list hq
  have hlt : a < s2.heap.objs.size := let ⟨_, q, _⟩ := p'.isList; Heap.lt_size q
  rw [hks]
  refine enum_begins_start (begins_list a its.toArray) p'.isList h0 h1 fun h' he hit hsz hk => wpAny_pyIter_enum he ?_
  have I3 : Inv X pins σ H2 { s2 with heap := h' } := I2.kept (t' := s2.toks) hk
  have two : ∀ b, b ∈ [s2.heap.objs.size + 1, s2.heap.objs.size] → s2.heap.objs.size ≤ b := fun b hb => (List.mem_cons.mp hb).elim (fun z => by rw [z]; exact Nat.le_succ _) fun z => by rw [List.mem_singleton.mp z]; exact Nat.le_refl _
  exact ⟨s2.heap.objs.size + 1, [s2.heap.objs.size + 1, s2.heap.objs.size], _, _, H2, rfl, I3, turn_enF k a (s2.heap.objs.size + 1) s2.heap.objs.size (Nat.ne_of_gt (Nat.lt_succ_of_lt hlt)) (Nat.ne_of_lt hlt), ⟨⟨.none, by rw [show k + ((0 : Nat) : Int) = k by omega]; exact he⟩, ⟨_, hit, rfl, rfl⟩, Nat.succ_ne_self _⟩, fun b hb => I2.fpOk (two b hb) (I2.hok.fresh (two b hb)), q⟩
theorem walk_enF {K : PySem.W.Frag} {a : Addr} {k : Int} {xs : List V} : Walk (Itef K a k) xs.length (fun H => SqL K H a xs) (YPair (fun i => some (.int (k + (i : Nat)))) (fun i => xs[i]?)) := by
  refine ⟨fun i _ hi q => ⟨xs, q, hi⟩, fun _ q => ⟨xs, q, rfl⟩, fun i H v H' _ q ⟨T, x, e1, e2, e3, e4⟩ => ⟨T, .int (k + (i : Nat)), x, e1, e2, e3, rfl, e4 xs q⟩⟩
end L2

set_option Elab.async false
set_option linter.all false
set_option maxRecDepth 100000
set_option maxHeartbeats 4000000
/-! one reading for both kinds of promise: list(f(..)) wants a deal that keeps the heap as it is -/
namespace L2
open PySem PySem.Spec PyProof.Rows GenW
/-- a deal with a consumer that leaves the heap as it is -/
def Deal.Still (Dl : Deal) : Prop := ∀ ys x H, Dl.yd ys x H → Dl.kp ys x H H
section
variable {X : Cx} {Dl : Deal} {e : Expr} {yp pos : Pos} {te : TE}
theorem gs_yield3 (hD : Dl.Still) (he : PE X e te) (hco : X.env.scope.isCoroutine = false := by rfl) (hi : interactive X.env = false := by rfl) : GS X (.Expr (.Yield (some e) yp) pos) (tYield3 Dl te) := by
  have hw : PE X e (fun σ H Q => ∃ Q0, te σ H Q0 ∧ ∀ x H1, Q0 x H1 → Q x H1) := ⟨fun pins s σ H Q I ⟨Q0, h0, hq⟩ => thn (he.run pins s σ H Q0 I h0) fun u s' ⟨x, H', I', r, q⟩ => ⟨x, H', I', r, hq x H' q⟩⟩
  refine ⟨fun A S ip R n ys s₀ c fs K J gd lv s σ H D g hn k hI ht => (gs_yield hw hco hi).run A S ip R n ys s₀ c fs K J gd lv s σ H D g hn k hI ⟨ht.1, _, ht.2, fun x H1 q => q.2 H1 (hD ys x H1 q.1)⟩⟩
end
end L2

set_option Elab.async false
set_option linter.all false
set_option maxRecDepth 100000
set_option maxHeartbeats 4000000
/-! rules with K named, for what stands within a generator whose contexts change -/
namespace L2
open PySem PySem.Spec PyProof.Rows GenW
section
variable {X : Cx} {K : PySem.W.Frag} {o e : Expr} {es : List Expr} {to te : TE} {t : TA} {name : Str} {apos cpos pos p : Pos} {T id : String} {r : V → List V → Hp → VK → Prop}
theorem pe_bm0N (hK : X.K = K) (pa : PlainAttrs T) (slot : Slot T name id) (hty : typeOf (.builtin id) = pure (.type "method_descriptor")) (hm : MtR X id r) (ho : PE X o to) (hbase : attributeBase o name X.env (eval o X.env) = eval o X.env := by rfl)
    (hline : (apos.endLine == cpos.line) = true := by rfl) : PE X (.Call (.Attribute o name apos) [] [] cpos) (tBM0 K T r to) := by subst hK; exact pe_bm0 pa slot hty hm ho hbase hline
theorem pe_bmN (hK : X.K = K) (pa : PlainAttrs T) (slot : Slot T name id) (hty : typeOf (.builtin id) = pure (.type "method_descriptor")) (hm : MtR X id r) (ho : PE X o to) (ha : PA X (e :: es) t) (hbase : attributeBase o name X.env (eval o X.env) = eval o X.env := by rfl)
    (hfew : ((backTo cpos (starEach (e :: es) X.env)).all (fun x => !x.1) && (backToKw cpos (keywordEach [] X.env)).all (fun x => x.1.isSome) && decide ((e :: es).length + ([] : List Keyword).length + (if ([] : List Keyword).isEmpty then 0 else 1) < 30)) = true := by rfl)
    (hline : (apos.endLine == cpos.line) = true := by rfl) (hs : starEach (e :: es) X.env = (false, eval e X.env) :: starEach es X.env := by rfl) (hplain : (backTo cpos (starEach es X.env)).any (·.1) = false := by rfl) :
    PE X (.Call (.Attribute o name apos) (e :: es) [] cpos) (tBM K T r to t) := by subst hK; exact pe_bm pa slot hty hm ho ha hbase hfew hline hs hplain
theorem pg_tupN (hK : X.K = K) {es : List Expr} {k : Nat} {t : TGs} {n : Nat} (hc : X.calm = true) (h : PGs X es t) (hn : (assignEach es X.env).length = n := by rfl) (hst : (assignEach es X.env).findIdx? (·.1) = none := by rfl) :
    PG X (.Tuple es k pos) (gTup K n t) := by subst hK; exact pg_tup hc h hn hst
theorem pa_starN (hK : X.K = K) (he : PE X e te) (hr : PA X es t) (hs : starEach (.Starred e p :: es) X.env = (true, eval e X.env) :: starEach es X.env := by rfl) : PA X (.Starred e p :: es) (StX.tStar K te t) := by subst hK; exact StX.pa_star he hr hs
theorem pi_enSqN (hK : X.K = K) {ta : TA} {tpos : Pos} {elts : List Expr} {kk : Nat} (hg : Gl X "enumerate") (hm : X.mg "enumerate" = none) (ha : PA X [e] ta) (hs : starEach [e] X.env = [(false, eval e X.env)] := by rfl) :
    PI X (.Tuple elts kk tpos) (.Call (.Name "enumerate" p) [e] [] pos) (iEnSq K ta) := by subst hK; exact pi_enSq hg hm ha hs
end
end L2

set_option Elab.async false
set_option linter.all false
set_option maxRecDepth 100000
set_option maxHeartbeats 4000000
/-! a generator's for over anything that walks -/
namespace L2
open PySem PySem.Spec PyProof.Rows GenW
theorem gfor_it {J : It} {n : Nat} {G : Hp → Prop} {Y : Nat → Hp → V → Hp → Prop} (w : Walk J n G Y) {g : TG} {tb : TGn} {D : GEnds} {ys : List V} {σ : St} {H : Hp} (Pv : Nat → List V → St → Hp → Prop) (h0 : Pv 0 ys σ H) (hG : ∀ i ys σ H, i ≤ n → Pv i ys σ H → G H)
    (hs : ∀ i x ys σ H H', i < n → Pv i ys σ H → Y i H x H' → g x σ H' fun σ2 H2 => tb { D with nx := Pv (i + 1), ct := Pv (i + 1), bk := D.nx } ys σ2 H2) (hd : ∀ ys σ H, Pv n ys σ H → D.nx ys σ H) :
    ∃ W : Nat → Nat → List V → St → Hp → Prop, (∃ m, W 0 m ys σ H) ∧ ∀ i m ys σ H, W i m ys σ H →
      (J.stop i H ∧ D.nx ys σ H) ∨ (J.go i H ∧ ∃ N : List V → St → Hp → Prop, (∀ ys' σ' H', N ys' σ' H' → ∃ m', m' < m ∧ W (i + 1) m' ys' σ' H') ∧ ∀ x H', J.yld i H x H' → g x σ H' fun σ2 H2 => tb { D with nx := N, ct := N, bk := D.nx } ys σ2 H2) := by
  refine ⟨fun i m ys σ H => m = n - i ∧ i ≤ n ∧ Pv i ys σ H, ⟨n - 0, rfl, Nat.zero_le _, h0⟩, ?_⟩
  rintro i m ys σ H ⟨rfl, hi, pv⟩
  by_cases hlt : i < n
  · exact .inr ⟨w.goes i H hlt (hG i ys σ H hi pv), Pv (i + 1), fun ys' σ' H' q => ⟨n - (i + 1), by omega, rfl, hlt, q⟩, fun x H' hy => hs i x ys σ H H' hlt pv (w.yields i H x H' hlt (hG i ys σ H hi pv) hy)⟩
  · obtain rfl : i = n := by omega
    exact .inl ⟨w.stops H (hG i ys σ H hi pv), hd ys σ H pv⟩
end L2

set_option Elab.async false
set_option linter.all false
set_option maxRecDepth 100000
set_option maxHeartbeats 4000000
/-! [x for x in f(..)]: a comprehension over a generator def's call -/
namespace L2
open PySem PySem.Spec PyProof.Rows GenW
section
variable {P : Program} {w : World}
/-- a list of ours is tracked -/
theorem hok_track {H' : Hp} {h : Heap} {S : Addr} {its : List Value} {c : Nat} {out : List V} (hok : HOk P w H' h) (hn : H' S = none) (hlen : out.length ≤ sizeLine) (e : h.get? S = some { cls := .type "list", data := .seq its.toArray c }) (r : Vals out its) : HOk P w (upd H' S (.lst out)) h := fun b u q => by
  by_cases hb : b = S
  · subst hb
    rw [upd_same] at q
    cases q
    exact ⟨hlen, its, c, r, e⟩
  · rw [upd_ne hb] at q
    exact (hok b u q).stay (fun _ _ _ z => z) (fun d z => by rw [upd_ne (ne_of_none z hn)]; exact z) fun d xs z => by rw [upd_ne (ne_of_none z hn)]; exact z
end
section
variable {X : Cx} {pins : List (Addr × Obj)} {σ : St} {H : Hp} {s : Shared} {n₀ : Nat}
theorem LowX.apart (L : LowX X pins n₀) {b : Addr} (hn : n₀ ≤ b) : (b ∈ X.ex ∨ X.s_0.heap.objs.size ≤ b) ∧ b ≠ X.env.locals ∧ (∀ x c, X.env.cells.lookup x = some c → c ≠ b) ∧ ∀ p ∈ X.pn ++ pins, p.1 ≠ b := by
  refine ⟨.inr (Nat.le_trans L.s0 hn), fun z => ?_, fun x c e z => ?_, fun p hp z => ?_⟩
  · rw [z] at hn; exact absurd (Nat.lt_of_lt_of_le L.loc hn) (Nat.lt_irrefl _)
  · rw [← z] at hn; exact absurd (Nat.lt_of_lt_of_le (L.cell x c e) hn) (Nat.lt_irrefl _)
  · rw [← z] at hn; exact absurd (Nat.lt_of_lt_of_le (L.pin p hp) hn) (Nat.lt_irrefl _)
theorem Inv.track {S : Addr} {its : List Value} {c : Nat} {out : List V} (I : Inv X pins σ H s) (L : LowX X pins n₀) (hS : n₀ ≤ S) (hn : H S = none) (hlen : out.length ≤ sizeLine) (e : s.heap.get? S = some { cls := .type "list", data := .seq its.toArray c }) (r : Vals out its) : Inv X pins σ (upd H S (.lst out)) s := by
  refine I.call' (ch := [S]) rfl ⟨fun b o q _ _ _ => q, fun b o q _ _ _ => ⟨o.slots, q⟩, fun b o q z hc => ?_, fun b o q _ => ⟨o, q⟩, fun b xs q => ?_, fun b o u q => ?_, fun b ps q => ?_⟩ (hok_track I.hok hn hlen e r) I.bare fun b hb => ?_
  · rw [upd_ne fun y => hc (by rw [y]; exact List.mem_singleton.mpr rfl)]; exact z
  · rw [upd_ne (ne_of_none q hn)]; exact q
  · rw [upd_ne (ne_of_none q hn)]; exact q
  · exact ⟨#[], by rw [upd_ne (ne_of_none q hn), q]; simp⟩
  · rw [List.mem_singleton.mp hb]; exact L.apart hS
/-- only untracked places from n₀ on have changed -/
theorem Inv.far {s' : Shared} {ch : List Addr} (I : Inv X pins σ H s) (L : LowX X pins n₀) (os : s'.os = s.os) (hb : AllBare s'.gens) (hch : ∀ b ∈ ch, n₀ ≤ b ∧ H b = none) (k : ∀ b o, b ∉ ch → s.heap.get? b = some o → s'.heap.get? b = some o) : Inv X pins σ H s' := by
  refine I.call' (ch := ch) os ⟨fun b o q _ _ hc => k b o hc q, fun b o q _ _ hc => ⟨o.slots, k b o hc q⟩, fun b o q z hc => z, fun b o q hc => ⟨o, k b o hc q⟩, fun b xs q => q, fun b o u q => q, fun b ps q => ⟨#[], by rw [q]; simp⟩⟩ (fun b u q => ?_) hb fun b hb => L.apart (hch b hb).1
  refine (I.hok b u q).stay (fun c v hc z => k c v (fun y => ?_) z) (fun _ z => z) fun _ _ z => z
  have hz := (hch c y).2
  rcases hc with hc | hc
  · rw [hc, q] at hz; cases hz
  · rw [hz] at hc; cases hc
end
/-- the items stand in the new list, the heap is the generator's own -/
def tLcG (sp : SpG3) (ta : TA) : TE := fun σ H Q => ta σ H fun vs H1 => ∀ cs ad, sp vs H1 ⟨cs, fun _ _ _ => True, fun _ _ H2 H3 => H3 = H2, ad⟩ (fun ys H' => ∀ D, H1 D = none → H' D = none → Q (.ref D) (upd H' D (.lst ys))) (fun _ _ _ => False)
section
variable {X : Cx} {k : Nat} {ps : List Str} {sp : SpG3} {x y : Str} {p p1 p2 pos pos2 pos' : Pos} {e : Expr} {es : List Expr} {ta : TA} {scope : Scope} {use : Option (Value → Sem Unit)} {Qf : Value → Shared → Prop} {pins : List (Addr × Obj)} {s : Shared} {σ : St} {H : Hp} {Q : VK}
theorem lcG_core (hc : X.calm = true) (I : Inv X pins σ H s) (O : OwnG3 X.prog X.w X.K X.mg X.base x k ps sp) (room : Room (k + 1) X.A) (ha : PA X (e :: es) ta) (hkind : scope.kind = .function) (hfr : ∀ y ∈ scope.names, y.2 = .free → X.env.scope.names.lookup y.1 = some .cell ∨ X.env.scope.names.lookup y.1 = some .free)
    (hnm : ∀ x ∈ scope.names, x.2 = .local → scope.names.lookup x.1 = some .local) (hy : scope.names.lookup y = some .local) (hgl : Gl X x) (hdb : (x == ("__debug__" : Str)) = false) (hdy : (y == ("__debug__" : Str)) = false)
    (he : starEach (e :: es) X.env = (false, eval e X.env) :: starEach es X.env) (hpl : (backTo pos2 (starEach es X.env)).any (·.1) = false) (hs : ∀ z, foldedSetIterable (.Call (.Name x p) (e :: es) [] pos2) X.env z = pure z)
    (h : tLcG sp ta σ H Q)
    (hRR : ∀ D C s' m H', Inv X pins σ H' s' → Q (.ref D) H' → s'.heap.Ns C m → FpOk X pins H' C → compPost (model X.prog X.w) X.A X.xe use Qf (.ref D) C (.ok .next) s') :
    wpAny (model X.prog X.w) X.A (comprehension (.ListComp (.Name y p1) [⟨.Name y p2, .Call (.Name x p) (e :: es) [] pos2, [], 0⟩] scope pos) scope X.env pos' (newList []) false (eval (.Call (.Name x p) (e :: es) [] pos2) X.env) use) Qf X.xe s := by
  have hfree : ∀ y ∈ scope.names, y.2 = .free → ∃ c, X.env.cells.lookup y.1 = some c := fun y hy e => I.ok.has _ (hfr y hy e)
  obtain ⟨f, fd, G, hm, hk, hbd⟩ := O.ex
  refine wpAny_comprehension_free (use := use) rfl hs (closure_ok hfree) hkind hnm
    (wpAny_Call_Name_kw (ld_glob I hgl hm (PySem.W.callWith_K (h₀ := X.base) I.ok.mod.kin hk (thn (ha.run pos2 pins s σ H _ I h) fun us s1 ⟨vs, H1, I1, r, q⟩ => ⟨I1.kIn, ?_⟩) he hpl) hdb))
  have hl2 : us.length = ps.length := by rw [← r.length]; exact G.len _ _ _ _ _ (q (fun _ _ _ => True) [])
  have hbs := hbd s1 us I1.kIn (by rw [List.append_nil]; exact hl2)
  rw [List.append_nil] at hbs
  obtain ⟨QQ, hQQ⟩ : ∃ QQ : List V → Hp → Prop, QQ = fun (ys : List V) (H' : Hp) => ∀ D, H1 D = none → H' D = none → Q (.ref D) (upd H' D (.lst ys)) := ⟨_, rfl⟩
  have q2 : ∀ cs ad, sp vs H1 ⟨cs, fun _ _ _ => True, fun _ _ H2 H3 => H3 = H2, ad⟩ QQ (fun _ _ _ => False) := by rw [hQQ]; exact q
  refine wpAny_call (codeAny_mono (G.run X.A X.stack s1 H1 ⟨us, []⟩ us vs (fun Dl' Q' => ∃ cs ad, Dl' = ⟨cs, fun _ _ _ => True, fun _ _ H2 H3 => H3 = H2, ad⟩ ∧ Q' = QQ) (fun _ _ _ => False) ⟨_, _, fun _ _ _ => True, [], rfl, rfl⟩ (room.mono (Nat.le_succ k)) I1.env0 hbs r (fun Dl' Q' z => by obtain ⟨cs, ad, z1, z2⟩ := z; rw [z1, z2]; exact q2 cs ad)) fun r s2 hq => ?_)
  cases r with
  | error _ => exact hq.elim
  | ok fl =>
  cases fl with
  | next => exact hq.elim
  | brk => exact hq.elim
  | cont => exact hq.elim
  | ret u =>
  obtain ⟨a, g, c, go, rfl, ha1, ha2, hgo, isg, hgs, hos, hba, hkp, wake⟩ := hq
  have I2 : Inv X pins σ H1 s2 := I1.call' (ch := []) hos (Un.kept hkp) (I1.hok.kept hkp) hba fun _ z => nomatch z
  refine wpAny_pyIter_gen (isg _ hgo) ?_
  have L : LowX X pins s1.heap.objs.size := I1.low
  have hfrF : ∀ b ∈ frs X.stack, b < s1.heap.objs.size := fun b hb => by
    obtain ⟨_, o, ho, _⟩ := I1.stack.mem hb
    exact Heap.lt_size ho
  have hgl2 : g < s2.gens.size := (Array.getElem?_eq_some_iff.mp hgs).1
  refine wpAny_newObj_type (newEnv_comp ?_) (by show 0 ≤ sizeLine; decide)
  obtain ⟨D, hD⟩ : ∃ D, s2.heap.objs.size = D := ⟨_, rfl⟩
  obtain ⟨C, hC⟩ : ∃ C, s2.heap.objs.size + 1 = C := ⟨_, rfl⟩
  have hDC : D ≠ C := by rw [← hD, ← hC]; exact Nat.ne_of_lt (Nat.lt_succ_self _)
  have nDlt : s1.heap.objs.size < D := by rw [← hD]; exact Nat.lt_of_le_of_lt ha1 ha2
  have nD : s1.heap.objs.size ≤ D := Nat.le_of_lt nDlt
  have nClt : s1.heap.objs.size < C := by rw [← hC]; exact Nat.lt_succ_of_lt (Nat.lt_of_le_of_lt ha1 ha2)
  have nC : s1.heap.objs.size ≤ C := Nat.le_of_lt nClt
  have hCs : (s2.heap.push { cls := .type "list", data := .seq ([] : List Value).toArray }).objs.size = C := by rw [Heap.size_push]; exact hC
  generalize hce : compEnvC scope (cellsFrom ((s2.heap.push { cls := .type "list", data := .seq ([] : List Value).toArray }).objs.size + 1) scope.names (cloFrom X.env.cells scope.names [])) (s2.heap.push { cls := .type "list", data := .seq ([] : List Value).toArray }).objs.size X.env = ce
  rw [hCs] at hce
  have cL : ce.locals = C := by subst hce; rfl
  have cK : ce.scope.kind = .function := by subst hce; exact hkind
  have cY : ce.kindOf y = some .local := by subst hce; exact lookup_relabel_local hy
  have cP : (ce.scope.kind == .class || (ce.scope.kind == .module && ce.locals != ce.globals)) = false := by rw [cK]; rfl
  show codeAny (model X.prog X.w) X.A (.compStart (.ListComp (.Name y p1) [⟨.Name y p2, .Call (.Name x p) (e :: es) [] pos2, [], 0⟩] scope pos) 0 (.ref a) (.ref s2.heap.objs.size) (compEnvC scope (cellsFrom ((s2.heap.push { cls := .type "list", data := .seq ([] : List Value).toArray }).objs.size + 1) scope.names (cloFrom X.env.cells scope.names [])) (s2.heap.push { cls := .type "list", data := .seq ([] : List Value).toArray }).objs.size X.env))
    (compPost (model X.prog X.w) X.A X.xe use Qf (.ref s2.heap.objs.size) (s2.heap.push { cls := .type "list", data := .seq ([] : List Value).toArray }).objs.size) { s2 with heap := pushCells ((s2.heap.push { cls := .type "list", data := .seq ([] : List Value).toArray }).push { cls := .type "dict", data := .dict #[] }) scope.names }
  rw [hCs, hD, hce]
  have nsC4 : (pushCells ((s2.heap.push { cls := .type "list", data := .seq ([] : List Value).toArray }).push { cls := .type "dict", data := .dict #[] }) scope.names).Ns C fun _ => none := by
    rw [← hCs]
    exact Heap.Ns.keeps (Heap.Ns.new ..) fun b o e => pushCells_keeps _ _ _ _ e
  have lD4 : (pushCells ((s2.heap.push { cls := .type "list", data := .seq ([] : List Value).toArray }).push { cls := .type "dict", data := .dict #[] }) scope.names).get? D = some { cls := .type "list", data := .seq ([] : List Value).toArray 0 } := by
    refine pushCells_keeps _ _ _ _ (Heap.get?_push_of_some _ ?_)
    rw [← hD]
    exact Heap.get?_push_size _ rfl
  have kp4 : ∀ b o, s2.heap.get? b = some o → (pushCells ((s2.heap.push { cls := .type "list", data := .seq ([] : List Value).toArray }).push { cls := .type "dict", data := .dict #[] }) scope.names).get? b = some o := fun b o e => pushCells_keeps _ _ _ _ (Heap.get?_push_of_some _ (Heap.get?_push_of_some _ e))
  obtain ⟨s4, hs4⟩ : ∃ s4 : Shared, s4 = { s2 with heap := pushCells ((s2.heap.push { cls := .type "list", data := .seq ([] : List Value).toArray }).push { cls := .type "dict", data := .dict #[] }) scope.names } := ⟨_, rfl⟩
  rw [← hs4]
  have nsC : s4.heap.Ns C fun _ => none := by rw [hs4]; exact nsC4
  have lD : s4.heap.get? D = some { cls := .type "list", data := .seq ([] : List Value).toArray 0 } := by rw [hs4]; exact lD4
  have kp : ∀ b o, s2.heap.get? b = some o → s4.heap.get? b = some o := by rw [hs4]; exact kp4
  have os4 : s4.os = s2.os := by rw [hs4]
  have gn4 : s4.gens = s2.gens := by rw [hs4]
  clear hs4 kp4 lD4 nsC4
  have hba4 : AllBare s4.gens := by rw [gn4]; exact hba
  have I4 : Inv X pins σ H1 s4 := I2.call' (ch := []) os4 (Un.kept kp) (I2.hok.kept kp) hba4 fun _ z => nomatch z
  have hCD : ∀ {b : Addr}, b ∈ [C, D] → b = C ∨ b = D := fun hb => by simpa using hb
  -- the deal
  generalize hDl : (⟨fun ys HE sE => Inv X pins σ HE sE ∧ (∃ m, sE.heap.Ns C m) ∧ ∃ its n, sE.heap.get? D = some { cls := .type "list", data := .seq (its : List Value).toArray n } ∧ Vals ys its ∧ ys.length ≤ sizeLine, fun _ _ _ => True, fun _ _ H2 H3 => H3 = H2, [C, D]⟩ : Deal) = Dl
  have hA : ∃ cs ad, Dl = ⟨cs, fun _ _ _ => True, fun _ _ H2 H3 => H3 = H2, ad⟩ ∧ QQ = QQ := ⟨_, _, hDl.symm, rfl⟩
  have adAt : ∀ {HE : Hp} {sE : Shared} {m : Str → Option Value} {its : List Value} {n : Nat}, sE.heap.Ns C m → sE.heap.get? D = some { cls := .type "list", data := .seq its.toArray n } → ∀ b ∈ Dl.ad, ∃ o, sE.heap.get? b = some o ∧ ∀ v, o.data ≠ .cell v := fun {HE sE m its n} hn hl b hb => by
    subst hDl
    rcases hCD hb with rfl | rfl
    · obtain ⟨o, es', ep, ho, hd, _⟩ := hn
      exact ⟨o, ho, fun v z => by rw [hd] at z; cases z⟩
    · exact ⟨_, hl, fun v z => by cases z⟩
  have mkWk : ∀ {H' s' m its n}, Inv X pins σ H' s' → s1.heap.objs.size ≤ s'.heap.objs.size → H' C = none → H' D = none → s'.heap.Ns C m → s'.heap.get? D = some { cls := .type "list", data := .seq (its : List Value).toArray n } → Wk X.prog X.w X.base X.stack s1.heap.objs.size Dl.ad H' s' := fun {H' s' m its n} I' hz hc' hd' hn hl =>
    ⟨I'.bare, I'.bs, I'.stack, fun b hb => ⟨hfrF b hb, I'.stkFree b hb⟩, I'.hok, hz, fun b hb => by
      have q := adAt (HE := H') hn hl b hb
      subst hDl
      rcases hCD hb with rfl | rfl
      · exact ⟨nClt, hc', fun z => absurd (hfrF _ z) (Nat.not_lt.mpr nC), q⟩
      · exact ⟨nDlt, hd', fun z => absurd (hfrF _ z) (Nat.not_lt.mpr nD), q⟩⟩
  have go4 : s4.heap.get? a = some go := kp _ _ hgo
  have loop : codeAny (model X.prog X.w) X.A (.compLoop (.ListComp (.Name y p1) [⟨.Name y p2, .Call (.Name x p) (e :: es) [] pos2, [], 0⟩] scope pos) 0 (.ref a) (.ref D) ce) (compPost (model X.prog X.w) X.A X.xe use Qf (.ref D) C) s4 := by
    obtain ⟨Pd, hPd⟩ : ∃ Pd : Nat → Shared → Prop, Pd = fun n s' => ∃ gs H', s'.gens[g]? = some gs ∧ gs.Goes (model X.prog X.w) X.A.in1 (End3 X.prog X.w X.stack s1.heap.objs.size Dl QQ (fun _ _ _ => False) a g) (GY3 X.prog X.w X.base X.stack [(a, go)] s1.heap.objs.size Dl) n (.send .none) (s'.setGen g .running) ∧ s'.heap.get? a = some go ∧ Inv X pins σ H' s' := ⟨_, rfl⟩
    refine compLoop_any Pd ?_ sizeLine ?_
    · intro n s3 hh
      rw [hPd] at hh
      obtain ⟨gs, H3, hgs3, hgoes, hgo3, I3⟩ := hh
      have hgl3 : g < s3.gens.size := (Array.getElem?_eq_some_iff.mp hgs3).1
      have hcd : ∃ nm qn, go.cls = .type "generator" ∧ go.data = .fields #[.int g 0, nm, qn] := by
        obtain ⟨o, nm, qn, ho, hc, hd, _⟩ := isg _ hgo
        rw [hgo] at ho; cases ho
        exact ⟨nm, qn, hc, hd⟩
      obtain ⟨nm, qn, hgc, hgd⟩ := hcd
      refine wpAny_gsz (n := g + 1) hgl3 (next_genG (A := X.A) (I3.ok.hd hc) I3.nolimit room.depth (isg _ hgo3) hgs3 hgoes (fun v s5 gs' hbare hv => ?_) (fun s5 hf h' hk' => ?_) fun er s5 her => ?_)
      · obtain ⟨ys, x1, HE, H4, mine, hn, rv, hcs, hz, un, os5, ag5, hok5, hpn, hz5, hcp, yd, hmine, hmad, wakes⟩ := hv
        intro hsz
        have hcs2 : Inv X pins σ HE (s3.setGen g .running) ∧ (∃ m, (s3.setGen g .running).heap.Ns C m) ∧ ∃ its n, (s3.setGen g .running).heap.get? D = some { cls := .type "list", data := .seq (its : List Value).toArray n } ∧ Vals ys its ∧ ys.length ≤ sizeLine := by subst hDl; exact hcs
        obtain ⟨IE, ⟨m, hnC⟩, its, nn, hlD, hvs, hlen0⟩ := hcs2
        have hsz5 : g < s5.gens.size := by
          have z : (s5.setGen g gs').gens.size = s5.gens.size := setGen_size _ _ _
          have z2 : g + 1 ≤ (s5.setGen g gs').gens.size := hsz
          omega
        have pin : ∀ b ∈ [C, D], ∀ o, (s3.setGen g .running).heap.get? b = some o → s5.heap.get? b = some o ∧ H4 b = none := fun b hb o eo => hcp (b, o) (by subst hDl; exact mem_pinsAt hb eo)
        have hnC5 : s5.heap.Ns C m := hnC.at' fun o eo => (pin C List.mem_cons_self o eo).1
        obtain ⟨hlD5, nD4⟩ := pin D (List.mem_cons_of_mem _ List.mem_cons_self) _ hlD
        have nC4 : H4 C = none := by
          obtain ⟨o, _, _, ho, _⟩ := hnC
          exact (pin C List.mem_cons_self o ho).2
        have I5 : Inv X pins σ H4 (s5.setGen g gs') := (IE.stretch L un hok5 os5 ag5).gensTo (allBare_setGen ag5 hbare)
        have hgo5 : s5.heap.get? a = some go := (hpn _ (List.mem_singleton.mpr rfl)).1
        refine go_of (s := s5.setGen g gs') hgo5 hgc hgd (by decide) ?_
        refine wpAny_assign_Name (wpAny_storeName_local cY (m := m) (by rw [cL]; exact hnC5) (fun h6 hn6 hb6 => ?_) cP)
        rw [cL] at hn6 hb6
        refine wpAny_tests_nil ?_
        rw [if_pos rfl]
        refine wpAny_Name (wpAny_loadName_local cK cY (m := fun z => if z = y then some v else m z) (by rw [cL]; exact hn6) (if_pos rfl) ?_) hdy
        have hlD6 : h6.get? D = some { cls := .type "list", data := .seq its.toArray nn } := (hb6.2 D hDC).trans hlD5
        have hlen := hvs.length
        refine append_at hlD6 (fun h7 hb7 hl7 => ?_) (by rw [List.size_toArray]; omega)
        have keep : ∀ b o, b ∉ [C, D] → s5.heap.get? b = some o → h7.get? b = some o := fun b o hb eo => by
          simp only [List.mem_cons, List.not_mem_nil, or_false, not_or] at hb
          exact (hb7.2 b hb.2).trans ((hb6.2 b hb.1).trans eo)
        have I7 : Inv X pins σ H4 { s5.setGen g gs' with heap := h7, toks := s5.toks + 1 } := I5.far L rfl I5.bare (ch := [C, D]) (fun b hb => by rcases hCD hb with rfl | rfl; exact ⟨nC, nC4⟩; exact ⟨nD, nD4⟩) keep
        have haC : a ∉ [C, D] := fun hb => by
          rcases hCD hb with z | z
          · rw [z, ← hC] at ha2; exact absurd (Nat.lt_trans ha2 (Nat.lt_succ_self _)) (Nat.lt_irrefl _)
          · rw [z, ← hD] at ha2; exact absurd ha2 (Nat.lt_irrefl _)
        have hnC7 : h7.Ns C fun z => if z = y then some v else m z := hn6.sameBut hb7 (Ne.symm hDC)
        obtain ⟨s7, hs7⟩ : ∃ s7 : Shared, s7 = { s5.setGen g gs' with heap := h7, toks := s5.toks + 1 } := ⟨_, rfl⟩
        have hp7 : s7.heap = h7 := by rw [hs7]
        have gn7 : s7.gens = (s5.setGen g gs').gens := by rw [hs7]
        rw [← hs7] at I7
        have I7r : Inv X pins σ H4 (s7.setGen g .running) := I7.gensTo (allBare_setGen I7.bare rfl)
        have hgs7 : s7.gens[g]? = some gs' := by rw [gn7]; exact setGen_at hsz5
        have hn7 : (s7.setGen g .running).heap.Ns C fun z => if z = y then some v else m z := by show s7.heap.Ns C _; rw [hp7]; exact hnC7
        have hl7' : (s7.setGen g .running).heap.get? D = some { cls := .type "list", data := .seq (its ++ [v]).toArray (nn + 1) } := by
          show s7.heap.get? D = _
          rw [hp7, hl7]
          simp
        have hz7 : s1.heap.objs.size ≤ (s7.setGen g .running).heap.objs.size := Nat.le_trans nC (Nat.le_of_lt hn7.lt)
        have wk := wakes H4 (s7.setGen g .running) (mkWk I7r hz7 nC4 nD4 hn7 hl7') (by subst hDl; exact ⟨I7r, ⟨_, hn7⟩, _, _, hl7', hvs.append (.cons rv .nil), by rw [List.length_append, List.length_singleton]; omega⟩) (fun b mb o eb => ⟨(by show s7.heap.get? b = _; rw [hp7]; exact keep b o (fun z => hmad b mb (by subst hDl; exact z)) eb), (hmine b mb).1⟩) (by subst hDl; rfl)
        cases n with
        | zero => exact False.elim wk
        | succ q =>
          have fin : Pd q s7 := by
            rw [hPd]
            exact ⟨gs', H4, hgs7, wk, by rw [hp7]; exact keep a go haC hgo5, I7⟩
          rw [hs7] at fin
          exact ⟨q, Nat.lt_succ_self q, fin⟩
      · obtain ⟨ys, HE, H4, hcs, hz, os5, ag5, un, hok5, hcp, hQ⟩ := hf
        intro _
        have hcs2 : Inv X pins σ HE (s3.setGen g .running) ∧ (∃ m, (s3.setGen g .running).heap.Ns C m) ∧ ∃ its n, (s3.setGen g .running).heap.get? D = some { cls := .type "list", data := .seq (its : List Value).toArray n } ∧ Vals ys its ∧ ys.length ≤ sizeLine := by subst hDl; exact hcs
        obtain ⟨IE, ⟨m, hnC⟩, its, nn, hlD, hvs, hlen0⟩ := hcs2
        have pin : ∀ b ∈ [C, D], ∀ o, (s3.setGen g .running).heap.get? b = some o → s5.heap.get? b = some o ∧ H4 b = none := fun b hb o eo => hcp (b, o) (by subst hDl; exact mem_pinsAt hb eo)
        have hnC5 : s5.heap.Ns C m := hnC.at' fun o eo => (pin C List.mem_cons_self o eo).1
        obtain ⟨hlD5, nD4⟩ := pin D (List.mem_cons_of_mem _ List.mem_cons_self) _ hlD
        have nC4 : H4 C = none := by
          obtain ⟨o, _, _, ho, _⟩ := hnC
          exact (pin C List.mem_cons_self o ho).2
        have I5 : Inv X pins σ H4 (s5.setGen g .finished) := (IE.stretch L un hok5 os5 ag5).gensTo (allBare_setGen ag5 rfl)
        have I6 : Inv X pins σ H4 { s5.setGen g .finished with heap := h' } := I5.call' (ch := []) rfl (Un.kept hk') (I5.hok.kept hk') I5.bare fun _ z => nomatch z
        have I7 := I6.track L nD nD4 hlen0 (hk' _ _ hlD5) hvs
        refine hRR D C _ m _ I7 ?_ (hnC5.keeps hk') ?_
        · rw [hQQ] at hQ
          exact hQ D (I1.hok.fresh nD) nD4
        · obtain ⟨t1, t2, t3, t4⟩ := L.apart nC
          exact ⟨by rw [upd_ne (Ne.symm hDC)]; exact nC4, t2, fun z => I1.nofs nC z, t1, t3, t4⟩
      · obtain ⟨ys, HE, sE, hcs, hz, cx, hge⟩ := her
        obtain ⟨_, _, _, _, _, _, _, _, _, _, _, _, hE⟩ := cx
        exact hE.elim
    · rw [hPd]
      refine ⟨.fresh c, H1, by rw [gn4]; exact hgs, ⟨rfl, ?_⟩, go4, I4⟩
      refine wake X.A.in1 (s4.setGen g .running) Dl QQ hA room.in1 I1.ok.frames kp (os4.trans hos) (allBare_setGen hba4 rfl) (fun b hb => ?_) ?_
      · refine ⟨?_, adAt (HE := H1) (sE := s4.setGen g .running) nsC lD b hb⟩
        subst hDl
        rcases hCD hb with rfl | rfl
        · rw [← hC]; exact Nat.le_succ _
        · rw [← hD]; exact Nat.le_refl _
      · subst hDl
        exact ⟨I4.gensTo (allBare_setGen hba4 rfl), ⟨_, nsC⟩, [], 0, lD, .nil, Nat.zero_le _⟩
  exact codeAny_compStart_list loop (wpAny_pyIter_gen (isg _ go4) loop)
end
end L2

set_option Elab.async false
set_option linter.all false
set_option maxRecDepth 100000
set_option maxHeartbeats 4000000
namespace L2
open PySem PySem.Spec PyProof.Rows GenW
theorem pi_tupK {X : Cx} {K : PySem.W.Frag} (h : X.K = K) {tg l : Expr} {tl : TE} (hl : PE X l tl) : PI X tg l (iTup K tl) := by subst h; exact pi_tup hl
theorem cr_minDK {X : Cx} {K : PySem.W.Frag} (h : X.K = K) (hc : X.calm = true) (hu : X.A.units + 64 < cLine) : CallRK X (.builtin "min") [Str.ofString "default"] (rMxD K mnD) := by subst h; exact cr_minD hc hu
theorem cr_maxDK {X : Cx} {K : PySem.W.Frag} (h : X.K = K) (hc : X.calm = true) (hu : X.A.units + 64 < cLine) : CallRK X (.builtin "max") [Str.ofString "default"] (rMxD K mxD) := by subst h; exact cr_maxD hc hu
section
variable {X : Cx} {k : Nat} {ps : List Str} {sp : SpG3} {x y : Str} {p p1 p2 pos pos2 : Pos} {e : Expr} {es : List Expr} {ta : TA} {scope : Scope} {own : List (Str × Nat)}
/-- as a value -/
theorem pe_lcG (hc : X.calm = true) (O : OwnG3 X.prog X.w X.K X.mg X.base x k ps sp) (room : Room (k + 1) X.A) (ha : PA X (e :: es) ta) (ok : BlkOk X.N X.env.scope scope own) (hy : scope.names.lookup y = some .local) (hgl : Gl X x := by rfl) (hdb : (x == ("__debug__" : Str)) = false := by decide) (hdy : (y == ("__debug__" : Str)) = false := by decide)
    (he : starEach (e :: es) X.env = (false, eval e X.env) :: starEach es X.env := by rfl) (hpl : (backTo pos2 (starEach es X.env)).any (·.1) = false := by rfl) (hs : ∀ z, foldedSetIterable (.Call (.Name x p) (e :: es) [] pos2) X.env z = pure z := by intro _; rfl) :
    PE X (.ListComp (.Name y p1) [⟨.Name y p2, .Call (.Name x p) (e :: es) [] pos2, [], 0⟩] scope pos) (tLcG sp ta) := by
  refine ⟨fun pins s σ H Q I h => ?_⟩
  rw [eval_ListComp]
  refine lcG_core hc I O room ha ok.kind ok.free (fun y hy e => by rw [ok.uniq y hy, e]) hy hgl hdb hdy he hpl hs h fun D C s' m H' I' q hn f => ⟨m, hn, fun h'' sb => ?_⟩
  obtain ⟨f0, f1, f2, f3, f4, f5⟩ := f
  exact ⟨.ref D, H', I'.turned (t' := s'.toks) (fun b o hb e => (sb.2 b hb).trans e) f0 f1 f3 f4 f5, rfl, q⟩
/-- name = [..] on one line, the name a local -/
theorem ps_setLcG {i : Nat} {n : Str} {py spos : Pos} (hc : X.calm = true) (hN : X.N.Nodup) (hn : X.N[i]? = some n) (hnl : X.env.scope.names.lookup n = some .local) (hsw : swapsWith (.ListComp (.Name y p1) [⟨.Name y p2, .Call (.Name x p) (e :: es) [] pos2, [], 0⟩] scope pos) (some (.Name n py)) spos.line X.env = pure true)
    (O : OwnG3 X.prog X.w X.K X.mg X.base x k ps sp) (room : Room (k + 1) X.A) (ha : PA X (e :: es) ta) (ok : BlkOk X.N X.env.scope scope own) (hy : scope.names.lookup y = some .local) (hgl : Gl X x := by rfl) (hdb : (x == ("__debug__" : Str)) = false := by decide) (hdy : (y == ("__debug__" : Str)) = false := by decide)
    (he : starEach (e :: es) X.env = (false, eval e X.env) :: starEach es X.env := by rfl) (hpl : (backTo pos2 (starEach es X.env)).any (·.1) = false := by rfl) (hs : ∀ z, foldedSetIterable (.Call (.Name x p) (e :: es) [] pos2) X.env z = pure z := by intro _; rfl) :
    PS X (.Assign [.Name n py] (.ListComp (.Name y p1) [⟨.Name y p2, .Call (.Name x p) (e :: es) [] pos2, [], 0⟩] scope pos) spos) (tAsg (tLcG sp ta) (gName i)) := by
  refine ⟨fun pins s σ H D I h => ?_⟩
  rw [exec_Assign_Name_used _ _ _ _ hsw]
  refine wpAny_bind (wpAny_standAt (wpAny_bind ?_))
  show wpAny _ X.A (do let _ ← comprehension (.ListComp (.Name y p1) [⟨.Name y p2, .Call (.Name x p) (e :: es) [] pos2, [], 0⟩] scope pos) scope X.env (firstIterPos [⟨.Name y p2, .Call (.Name x p) (e :: es) [] pos2, [], 0⟩] pos) (newList []) false (eval (.Call (.Name x p) (e :: es) [] pos2) X.env) (some (assign (.Name n py) X.env))) _ _ s
  have h : tLcG sp ta σ H (fun x H1 => gName i x σ H1 D.nx) := h
  refine wpAny_bind (thn (lcG_core (Qf := fun _ s' => SP X pins D .next s') hc I O room ha ok.kind ok.free (fun y hy e => by rw [ok.uniq y hy, e]) hy hgl hdb hdy he hpl hs h fun L C s' m H' I' q hm f => ?_) fun _ s' hq => wpAny_pure (wpAny_pure hq))
  show wpAny _ _ (assign (.Name n py) X.env (.ref L)) _ _ _
  refine wpAny_assign_Name (store_ok2 (v := V.ref L) I' hN hn (.inl hnl) rfl (fun s2 I2 ⟨a, sb, ha⟩ => ?_) (.inr hnl))
  obtain ⟨f0, f1, f2, f3, f4, f5⟩ := f
  have haC : C ≠ a := by
    rcases ha with z | z
    · rw [z]; exact f1
    · exact fun e => f4 n a z e.symm
  refine ⟨m, hm.sameBut sb haC, fun h3 sb3 => ?_⟩
  exact ⟨_, H', I2.turned (t' := s2.toks) (fun b o hb e => (sb3.2 b hb).trans e) f0 f1 f3 f4 f5, q⟩
end
end L2

set_option Elab.async false
set_option maxRecDepth 100000
set_option maxHeartbeats 4000000
namespace K18
open PySem PySem.Spec PyProof.Rows L2
section
variable {P : Program} {w : World} {K : PySem.W.Frag} {mg : Str → Option Value} {base : Heap} {A : Ad}
def spOutc3 (K : PySem.W.Frag) (A : Ad) : SpG3 := fun vs H Dl Q _ => ∃ (p : Addr) (ds : List Wd) (z : Int), vs = [.ref p] ∧ (∀ ys x H, Dl.yd ys x H) ∧ (∀ ys x H H', Dl.kp ys x H H' → H' = H) ∧ RaceD K A H p ds z ∧ ds.length ≤ 4 ∧ Gds ds ∧ ∀ xs H', Ext H H' → Rel2 (PrAt H') xs (ocs (wnL ds z)) → Q xs H'
theorem ok_outc3 {f : Addr} {fd : FuncData} (F : Fun K "outcomes" "outcomes" s_outcomes f fd) (T : Txt K mg A) (O_Race_winners : OwnM P w K mg base CX0 A.Race "winners" 10 pm_Race_winners (spWins K A)) (O_Way_window : OwnM P w K mg base CX0 A.Way "window" 1 pm_Way_window (spWindow K A))
    (O_Race_last_win : OwnM P w K mg base (L2.CX P w) A.Race "last_win" 9 pm_Race_last_win (spLast K A)) : GFn3 P w K mg base 11 f fd pm_outcomes (spOutc3 K A) := by
  refine gfn3_fun F sc_outcomes (fun vs H Dl Q E h => ?_) (fun cdv A' outer sh H vs Dl Q E pn Fm X hFm hX FF hr h => ?_)
  · obtain ⟨_, _, _, rfl, _⟩ := h
    rfl
  · subst hFm hX
    obtain ⟨p, ds, z, rfl, hyd, hkp, hR, h4, hg, qQ⟩ := h
    refine ⟨_, gqs_cons (gq_ps FF (fun Z hZ => by (obtain ⟨s3, H3, hs3, rfl⟩ := hZ; replace hr := FmG.room hr hs3; exact ps_setLc (i := 1) (own := [("way", 5)]) (g := gName 5) (by rfl) sc_outcomes.nd rfl rfl (sw_true rfl rfl rfl (by decide +kernel)) (pi_tupK (K := K) rfl (pe_ownM0 O_Race_winners (pv 0) T.Race.cl (hr.mono (by decide)) pass0)) (blkOk_by (own := [("way", 5)]) (N := nm_outcomes) (sc := defScope s_outcomes) (by decide +kernel)) (fun _ _ _ _ _ => pg_name (i := 5) sc_outcomes.nd rfl (Or.inl rfl)) (fun s12 H12 C12 cl2 fp2 => pts_nil) (fun s12 H12 C12 cl2 fp2 => pe_tup (pa_cons (pv 5) (pa_cons (pe_ix (ix_tupK (K := K) rfl) (pe_ownM0 O_Way_window (pe_ix (ix_tupK (K := K) rfl) (pe_fldK (K := K) rfl (pv 0) rfl) (pv 5) (fun _ _ => rfl)) T.Way.cl (hr.mono (by decide)) pass0) (pe_int) (fun _ _ => rfl)) (pa_cons (pe_ownM (O_Race_last_win) (pv 0) T.Race.cl (hr.mono (by decide)) passL (pa_cons (pv 5) pa_nil)) pa_nil))))))) (gqs_cons (gq_ps FF (fun Z hZ => by (obtain ⟨s3, H3, hs3, rfl⟩ := hZ; replace hr := FmG.room hr hs3; exact ps_set (i := 2) sc_outcomes.nd rfl (Or.inl rfl) (pe_callBK (cr_minDK (K := K) rfl rfl hr.units) (by rfl) T.n_min (by decide +kernel) (pa_cons (pe_lc (own := [("win", 8)]) (g := gName 8) (by rfl) sc_outcomes.nd (pi_listK (K := K) rfl (pv 1)) (blkOk_by (own := [("win", 8)]) (N := nm_outcomes) (sc := defScope s_outcomes) (by decide +kernel)) (fun _ _ _ _ _ => pg_name (i := 8) sc_outcomes.nd rfl (Or.inl rfl)) (fun s12 H12 C12 cl2 fp2 => pts_nil) (fun s12 H12 C12 cl2 fp2 => pe_callTy call_int1 (by rfl) T.n_int (by decide +kernel) (pa_cons (pe_ix (ix_tupK (K := K) rfl) (pv 8) (pe_int) (fun _ _ => rfl)) pa_nil))) pa_nil) (pk_cons (pe_int) pk_nil))))) (gqs_cons (gq_ps FF (fun Z hZ => by (obtain ⟨s3, H3, hs3, rfl⟩ := hZ; replace hr := FmG.room hr hs3; exact ps_set (i := 3) sc_outcomes.nd rfl (Or.inl rfl) (pe_callBK (cr_maxDK (K := K) rfl rfl hr.units) (by rfl) T.n_max (by decide +kernel) (pa_cons (pe_lc (own := [("win", 8)]) (g := gName 8) (by rfl) sc_outcomes.nd (pi_listK (K := K) rfl (pv 1)) (blkOk_by (own := [("win", 8)]) (N := nm_outcomes) (sc := defScope s_outcomes) (by decide +kernel)) (fun _ _ _ _ _ => pg_name (i := 8) sc_outcomes.nd rfl (Or.inl rfl)) (fun s12 H12 C12 cl2 fp2 => pts_nil) (fun s12 H12 C12 cl2 fp2 => pe_callTy call_int1 (by rfl) T.n_int (by decide +kernel) (pa_cons (pe_ix (ix_tupK (K := K) rfl) (pv 8) (pe_int) (fun _ _ => rfl)) pa_nil))) pa_nil) (pk_cons (pe_un un_neg (pe_int)) pk_nil))))) (gqs_cons (gq_for FF (fun Z hZ => by (obtain ⟨s3, H3, hs3, rfl⟩ := hZ; have o := owns_gcx (P := P) (w := w) (K := K) (mg := mg) (base := base) (N := nm_outcomes) (qual := "outcomes") (scope := defScope s_outcomes) (f := f) (cd := cdv) (A := A') (outer := outer) (s := s3) (H := H3) (E := E) (pn := pn); have e3 : (gcxOf P w K mg base nm_outcomes "outcomes" (defScope s_outcomes) f cdv A' outer s3 H3 E pn).env = (gcxOf P w K mg base nm_outcomes "outcomes" (defScope s_outcomes) f cdv A' outer sh H E pn).env := (by (show envOfC _ _ _ _ _ = envOfC _ _ _ _ _; rw [hs3])); have a3 : (gcxOf P w K mg base nm_outcomes "outcomes" (defScope s_outcomes) f cdv A' outer s3 H3 E pn).A = (gcxOf P w K mg base nm_outcomes "outcomes" (defScope s_outcomes) f cdv A' outer sh H E pn).A := (by (show Around.deeper _ _ = Around.deeper _ _; rw [hs3])); rw [e3, a3] at o; exact o)) rfl (fun Z hZ => by (obtain ⟨s3, H3, hs3, rfl⟩ := hZ; replace hr := FmG.room hr hs3; exact pi_range2 rfl T.n_range (pa_cons (pv 2) (pa_cons (pe_op op_add (pv 3) (pe_int)) pa_nil)))) (fun Z hZ => by (obtain ⟨s3, H3, hs3, rfl⟩ := hZ; replace hr := FmG.room hr hs3; exact pg_name (i := 4) sc_outcomes.nd rfl (Or.inl rfl))) (gqs_cons (gq_for FF (fun Z hZ => by (obtain ⟨s3, H3, hs3, rfl⟩ := hZ; have o := owns_gcx (P := P) (w := w) (K := K) (mg := mg) (base := base) (N := nm_outcomes) (qual := "outcomes") (scope := defScope s_outcomes) (f := f) (cd := cdv) (A := A') (outer := outer) (s := s3) (H := H3) (E := E) (pn := pn); have e3 : (gcxOf P w K mg base nm_outcomes "outcomes" (defScope s_outcomes) f cdv A' outer s3 H3 E pn).env = (gcxOf P w K mg base nm_outcomes "outcomes" (defScope s_outcomes) f cdv A' outer sh H E pn).env := (by (show envOfC _ _ _ _ _ = envOfC _ _ _ _ _; rw [hs3])); have a3 : (gcxOf P w K mg base nm_outcomes "outcomes" (defScope s_outcomes) f cdv A' outer s3 H3 E pn).A = (gcxOf P w K mg base nm_outcomes "outcomes" (defScope s_outcomes) f cdv A' outer sh H E pn).A := (by (show Around.deeper _ _ = Around.deeper _ _; rw [hs3])); rw [e3, a3] at o; exact o)) rfl (fun Z hZ => by (obtain ⟨s3, H3, hs3, rfl⟩ := hZ; replace hr := FmG.room hr hs3; exact pi_listK (K := K) rfl (pv 1))) (fun Z hZ => by (obtain ⟨s3, H3, hs3, rfl⟩ := hZ; replace hr := FmG.room hr hs3; exact pg_tupN (K := K) (n := 3) rfl rfl (pgs_cons (pg_name (i := 5) sc_outcomes.nd rfl (Or.inl rfl)) (pgs_cons (pg_name (i := 6) sc_outcomes.nd rfl (Or.inl rfl)) (pgs_cons (pg_name (i := 7) sc_outcomes.nd rfl (Or.inl rfl)) (pgs_nil)))))) (gqs_cons (gq_if FF (fun Z hZ => by (obtain ⟨s3, H3, hs3, rfl⟩ := hZ; replace hr := FmG.room hr hs3; exact pt_chain op_le op_le (pv 6) (pv 4) (pv 7))) (gqs_cons (gq_yield FF (fun Z hZ => by (obtain ⟨s3, H3, hs3, rfl⟩ := hZ; replace hr := FmG.room hr hs3; exact pe_tup (pa_cons (pv 4) (pa_cons (pv 5) pa_nil))))) (gqs_nil)) (gqs_nil)) (gqs_nil))) (gqs_nil))) (gqs_nil)))), ?_⟩
    obtain ⟨dx, T1, ws, hp, hT, hws⟩ := id hR
    have hsm : ds.length ≤ 1000 := by omega
    refine ⟨_, rfl, p, dx, _, rfl, hp, rfl, p, ds, z, rfl, hR, hsm, hg, fun q H1 e1 hq => ⟨q, rfl, ⟨_, SqT.of hq⟩, fun D hD => ?_⟩⟩
    have hR1 := hR.ext e1
    have hp1 := e1 _ _ hp
    refine lc_it (walk_tup (xs := (wins ds z).map nI)) (fun i H' => Ext H1 H' ∧ ∃ acc, H' D = some (.lst acc) ∧ Rel2 (WnAt H') acc (((wins ds z).take i).map fun w => (w, opn ds w, ((moms ds z w).getLast?).getD 0))) ⟨Ext.upd hD, [], upd_same, trivial⟩ (fun i H' _ pv => SqT.of (pv.1 _ _ hq)) (fun i x H' H2 hi pv hy => ?_) (fun H' pv => ?_)
    · obtain ⟨e2, acc, hacc, hrel⟩ := pv
      obtain ⟨rfl, hx⟩ := hy
      rw [List.getElem?_map] at hx
      obtain ⟨j, hj, rfl⟩ := Option.map_eq_some_iff.mp hx
      obtain ⟨L, hL, hjn⟩ := mem_wins.mp (List.mem_of_getElem? hj)
      have hh := (can_iff.mp (last_can hL)).1
      obtain ⟨dx', T1', ws', q', dq, fs, dj, hp', hT', hx', hqi, hq', hl, hlk, a1, a2⟩ := way_at (hR1.ext e2) hjn
      refine ⟨rfl, _, rfl, _, rfl, p, A.Race, dx', _, _, rfl, hp', T.Race.cl, T.r_ways, rfl, _, rfl, T1', ws', (j : Int), .ref q', rfl, rfl, hT', atI_nat hx', q', dq, _, rfl, hqi, hlk, q', dj.1, dj.2.1, dj.2.2, [], rfl, hq', (fun hn => by rw [a1, hn] at hh; cases hh), fun n hn tw H3 e3 htw => ⟨tw, _, 0, .int (n + 2 * dj.2.1), rfl, rfl, SqT.of htw, rfl, ?_⟩⟩
      obtain ⟨o1, o2⟩ := a2 n hn
      rw [o1]
      have hR3 := (hR1.ext e2).ext e3
      refine ⟨_, rfl, p, dx', _, rfl, e3 _ _ hp', rfl, _, rfl, p, ds, z, _, .int (j : Int), rfl, hR3, hsm, hg, .int _, (fun h => by rw [bet_in hjn] at h; cases h), fun w' hw' _ H4 e4 => ?_⟩
      obtain rfl : j = w' := by injection hw' with hw'; omega
      rw [hL]
      refine ⟨by show 3 ≤ sizeLine; decide, fun t ht => ?_⟩
      have e5 := Ext.upd (o := .tup [nI j, .int (opn ds j), bV (some L)]) ht
      have e35 := (e3.trans e4).trans e5
      have ha5 := e35 _ _ hacc
      have kt := kt_set (ys := acc ++ [.ref t]) ha5
      refine ⟨acc, ha5, small_sz ?_, ext_mut (e2.trans e35) hD, acc ++ [.ref t], upd_same, ?_⟩
      · rw [hrel.len, List.length_map, List.length_take]
        have := wnL_len (ds := ds) (z := z)
        unfold wnL at this
        rw [List.length_map] at this
        omega
      · rw [take_snoc hj, List.map_append]
        refine Rel2.cat (hrel.to (WnAt.k ((Ext.kt e35).trans kt))) (Rel2.one ⟨t, rfl, kt _ _ ?_⟩)
        dsimp only
        rw [hL]
        exact upd_same
    · obtain ⟨e2, acc, hacc, hrel⟩ := pv
      rw [List.length_map, List.take_length] at hrel
      have hrel' : Rel2 (WnAt H') acc (wnL ds z) := hrel
      clear hrel
      have e02 := e1.trans e2
      have hlW := wnL_len (ds := ds) (z := z)
      have hal := hrel'.len
      obtain ⟨g1, g2, g3, g4⟩ := lohi (z := z) hg
      have hsmall : ∀ q ∈ wnL ds z, 0 ≤ q.2.1 ∧ q.2.1 ≤ 24 ∧ 0 ≤ q.2.2 ∧ q.2.2 ≤ 24 := fun q hq => wn_small hg hq
      unfold loW at g1 g2
      unfold hiW at g3 g4
      have fin1 : ∀ xs H', Ext H H' → Rel2 (PrAt H') xs (ocs (wnL ds z)) → Q xs H' := qQ
      unfold ocs loW hiW at fin1
      generalize wnL ds z = W at hrel' hlW hal g1 g2 g3 g4 hsmall fin1
      refine ⟨_, rfl, D, rfl, ⟨_, SqL.of hacc⟩, fun D2 hD2 => ?_⟩
      refine lc_list (xs := acc) (fun i H3 => Ext H' H3 ∧ H3 D2 = some (.lst ((((W.take i).map fun q => q.2.1)).map V.int))) ⟨Ext.upd hD2, upd_same⟩ (fun i H3 _ pv => SqL.of (pv.1 _ _ hacc)) (fun i x H3 hx pv => ?_) (fun H3 pv => ?_)
      · obtain ⟨e3, h2⟩ := pv
        obtain ⟨qn, hqn, t, rfl, ht⟩ := hrel'.get hx
        refine ⟨rfl, _, rfl, t, _, 1, .int qn.2.1, rfl, rfl, SqT.of (e3 _ _ ht), rfl, .inl ⟨_, rfl, _, h2, small_sz ?_, ext_mut e3 hD2, ?_⟩⟩
        · rw [List.length_map, List.length_map, List.length_take]
          omega
        · rw [upd_same, take_snoc hqn, List.map_append, List.map_append]
          rfl
      · obtain ⟨e3, h2⟩ := pv
        rw [hal, List.take_length] at h2
        refine ⟨D2, W.map (fun q => q.2.1), 0, rfl, rfl, SqL.of h2, ?_⟩
        refine ⟨_, rfl, D, rfl, ⟨_, SqL.of (e3 _ _ hacc)⟩, fun D3 hD3 => ?_⟩
        refine lc_list (xs := acc) (fun i H4 => Ext H3 H4 ∧ H4 D3 = some (.lst ((((W.take i).map fun q => q.2.2)).map V.int))) ⟨Ext.upd hD3, upd_same⟩ (fun i H4 _ pv => SqL.of (pv.1 _ _ (e3 _ _ hacc))) (fun i x H4 hx pv => ?_) (fun H4 pv => ?_)
        · obtain ⟨e4, h3⟩ := pv
          obtain ⟨qn, hqn, t, rfl, ht⟩ := hrel'.get hx
          refine ⟨rfl, _, rfl, t, _, 2, .int qn.2.2, rfl, rfl, SqT.of (e4 _ _ (e3 _ _ ht)), rfl, .inl ⟨_, rfl, _, h3, small_sz ?_, ext_mut e4 hD3, ?_⟩⟩
          · rw [List.length_map, List.length_map, List.length_take]
            omega
          · rw [upd_same, take_snoc hqn, List.map_append, List.map_append]
            rfl
        · obtain ⟨e4, h3⟩ := pv
          rw [hal, List.take_length] at h3
          refine ⟨1, rfl, D3, W.map (fun q => q.2.2), -1, rfl, rfl, SqL.of h3, ?_⟩
          generalize mnD 0 (W.map fun q => q.2.1) = lo at g1 g2 fin1 ⊢
          generalize mxD (-1) (W.map fun q => q.2.2) = hi at g3 g4 fin1 ⊢
          have e34 := e3.trans e4
          have hacc4 := e34 _ _ hacc
          have hrel4 := hrel'.to (WnAt.k (Ext.kt e34))
          refine ⟨_, rfl, _, rfl, _, _, rfl, rfl, lo, hi + 1, rfl, ⟨by omega, by omega, by omega, by omega⟩, ?_⟩
          refine gfor_range (fun i ys σ' H' => Ext H4 H' ∧ Rel2 (PrAt H') ys (ocN W lo i) ∧ ∃ o4 o5 o6 o7, σ' = [some (.ref p), some (.ref D), some (.int lo), some (.int hi), o4, o5, o6, o7, none]) ⟨Ext.rfl', trivial, _, _, _, _, rfl⟩ (fun i ys σ' H5 hi' pv => ?_) (fun ys σ' H5 pv => ?_)
          · obtain ⟨e5, hy5, o4, o5, o6, o7, rfl⟩ := pv
            refine ⟨_, rfl, D, rfl, ⟨_, SqL.of (e5 _ _ hacc4)⟩, ?_⟩
            refine gfor_list (xs := acc) (fun j ys σ' H' => Ext H5 H' ∧ Rel2 (PrAt H') ys (ocN W lo i ++ ((W.take j).filter (hit (lo + (i : Int)))).map fun q => (lo + (i : Int), q.1)) ∧ ∃ o5 o6 o7, σ' = [some (.ref p), some (.ref D), some (.int lo), some (.int hi), some (.int (lo + (i : Int))), o5, o6, o7, none]) ⟨Ext.rfl', by simpa using hy5, _, _, _, rfl⟩ (fun j ys σ' H' _ pv => SqL.of (pv.1 _ _ (e5 _ _ hacc4))) (fun j x ys σ' H6 hx pv => ?_) (fun ys σ' H6 pv => ?_)
            · obtain ⟨e6, hy6, o5, o6, o7, rfl⟩ := pv
              obtain ⟨qn, hqn, t, rfl, ht⟩ := hrel4.get hx
              have hyl : ys.length ≤ 1000 := by
                rw [hy6.len, List.length_append, List.length_map]
                have h1 := ocN_len W lo i
                have h2 := List.length_filter_le (hit (lo + (i : Int))) (W.take j)
                rw [List.length_take] at h2
                have h3 : i * W.length ≤ 26 * 4 := Nat.mul_le_mul (by omega) (by omega)
                omega
              refine ⟨t, _, rfl, SqT.of (e6 _ _ (e5 _ _ ht)), rfl, _, _, rfl, _, _, rfl, _, _, rfl, rfl, ?_⟩
              rw [take_snoc hqn, List.filter_append, List.map_append, ← List.append_assoc]
              have keep : hit (lo + (i : Int)) qn = false → ∃ o5 o6 o7, Ext H5 H6 ∧ Rel2 (PrAt H6) ys (ocN W lo i ++ ((W.take j).filter (hit (lo + (i : Int)))).map (fun q => (lo + (i : Int), q.1)) ++ ([qn].filter (hit (lo + (i : Int)))).map fun q => (lo + (i : Int), q.1)) ∧ [some (.ref p), some (.ref D), some (.int lo), some (.int hi), some (.int (lo + (i : Int))), some (nI qn.1), some (.int qn.2.1), some (.int qn.2.2), none] = [some (.ref p), some (.ref D), some (.int lo), some (.int hi), some (.int (lo + (i : Int))), o5, o6, o7, (none : Option V)] := fun h => by
                refine ⟨_, _, _, e6, ?_, rfl⟩
                rw [show [qn].filter (hit (lo + (i : Int))) = [] by simp [h], List.map_nil, List.append_nil]
                exact hy6
              refine ⟨_, rfl, _, rfl, _, _, rfl, rfl, _, rfl, ?_⟩
              cases h1 : decide (qn.2.1 ≤ lo + (i : Int)) with
              | false => exact iteF ⟨_, rfl, iteF (by obtain ⟨a5, a6, a7, x1, x2, x3⟩ := keep (by unfold hit; rw [h1]; rfl); exact ⟨x1, x2, a5, a6, a7, x3⟩)⟩
              | true =>
                refine iteT ⟨_, rfl, _, _, rfl, rfl, _, rfl, ?_⟩
                cases h2 : decide (lo + (i : Int) ≤ qn.2.2) with
                | false => exact iteF (by obtain ⟨a5, a6, a7, x1, x2, x3⟩ := keep (by unfold hit; rw [h1, h2]; rfl); exact ⟨x1, x2, a5, a6, a7, x3⟩)
                | true =>
                  refine iteT ⟨small_sz (by omega), _, rfl, _, rfl, by show 2 ≤ sizeLine; decide, fun t2 ht2 => ⟨hyd _ _ _, fun H8 hk8 => ?_⟩⟩
                  rw [hkp _ _ _ _ hk8]
                  have e7 := Ext.upd (o := .tup [.int (lo + (i : Int)), nI qn.1]) ht2
                  refine ⟨e6.trans e7, ?_, _, _, _, rfl⟩
                  rw [show [qn].filter (hit (lo + (i : Int))) = [qn] by simp [hit, h1, h2]]
                  exact Rel2.cat (hy6.to (PrAt.k (Ext.kt e7))) (Rel2.one ⟨t2, rfl, upd_same⟩)
            · obtain ⟨e6, hy6, o5, o6, o7, rfl⟩ := pv
              rw [hal, List.take_length, ← ocN_succ] at hy6
              exact ⟨e5.trans e6, hy6, _, _, _, _, rfl⟩
          · obtain ⟨e5, hy5, o4, o5, o6, o7, rfl⟩ := pv
            exact fin1 _ _ ((e02.trans e34).trans e5) hy5
end
end K18

set_option Elab.async false
set_option maxRecDepth 100000
set_option maxHeartbeats 4000000
namespace K18
open PySem PySem.Spec PyProof.Rows L2
abbrev Oc := Option (Nat × Int)
def endsL (os : List Oc) : List Int := os.filterMap (Option.map Prod.snd)
theorem endsL_len : ∀ {os : List Oc}, (endsL os).length ≤ os.length ∧ ((endsL os).length = os.length ↔ none ∉ os)
  | [] => ⟨Nat.le_refl _, by simp [endsL]⟩
  | none :: os => by
    obtain ⟨h1, _⟩ := endsL_len (os := os)
    have e : endsL (none :: os) = endsL os := rfl
    rw [e, List.length_cons]
    refine ⟨by omega, fun h => by omega, fun h => absurd List.mem_cons_self h⟩
  | some p :: os => by
    obtain ⟨h1, h2⟩ := endsL_len (os := os)
    have e : endsL (some p :: os) = p.2 :: endsL os := rfl
    rw [e, List.length_cons, List.length_cons]
    refine ⟨by omega, ?_⟩
    rw [Nat.succ_inj, h2]
    simp
theorem mem_endsL {os : List Oc} {t : Int} : t ∈ endsL os ↔ ∃ w, some (w, t) ∈ os := by
  unfold endsL
  rw [List.mem_filterMap]
  constructor
  · rintro ⟨o, h1, h2⟩
    cases o with
    | none => cases h2
    | some p =>
      obtain ⟨w, m⟩ := p
      cases h2
      exact ⟨w, h1⟩
  · rintro ⟨w, h⟩
    exact ⟨_, h, rfl⟩
theorem outs_len {ds : List Wd} {z : Int} (g : Gds ds) (h : ds.length ≤ 3) : (outs z ds).length ≤ 101 ^ 3 := by
  unfold outs lim
  rw [List.length_map]
  exact Nat.le_trans (List.length_filter_le _ _) (rns_big g h)
theorem latest_is {ds : List Wd} {z : Int} {E : List Int} {lt : Option Int} (hf : Fit ds) (z0 : 0 ≤ z) (hp : E.Perm (ends ds)) (hs : E.Pairwise (· ≤ ·)) (h1 : none ∈ outs z ds → lt = none) (h2 : none ∉ outs z ds → ∃ L, lt = some L ∧ (∃ w, some (w, L) ∈ outs z ds) ∧ ∀ w t, some (w, t) ∈ outs z ds → t ≤ L) : E[z.toNat]? = lt := by
  have hl : E.length = (plan ds).length := by
    rw [hp.length_eq]
    unfold ends
    rw [List.length_map]
  have hz : z = ((z.toNat : Nat) : Int) := (Int.toNat_of_nonneg z0).symm
  by_cases hn : none ∈ outs z ds
  · rw [h1 hn]
    have := none_outs.mp hn
    exact List.getElem?_eq_none (by omega)
  · have h3 : ¬ ((plan ds).length : Int) ≤ z := fun h => hn (none_outs.mpr h)
    obtain ⟨L, rfl, ⟨w, hw⟩, hm⟩ := h2 hn
    have hE : E[z.toNat]? = some E[z.toNat] := List.getElem?_eq_getElem (by omega)
    rw [hE]
    have a1 := latest_hi hp hs hE hz ((mem_outs hf).mp hw)
    obtain ⟨w', hw'⟩ := latest_lo hf hp hs hE hz
    have a2 := hm _ _ ((mem_outs hf).mpr hw')
    congr 1
    omega
theorem outs_ne {ds : List Wd} {z : Int} (hf : Fit ds) (z0 : 0 ≤ z) (hn : none ∉ outs z ds) : 0 < (endsL (outs z ds)).length := by
  have h3 : ¬ ((plan ds).length : Int) ≤ z := fun h => hn (none_outs.mpr h)
  obtain ⟨E, hp, hs⟩ : ∃ E : List Int, E.Perm (ends ds) ∧ E.Pairwise (· ≤ ·) := ⟨(ends ds).mergeSort (fun a b => decide (a ≤ b)), List.mergeSort_perm _ _, by
    refine (List.pairwise_mergeSort (le := fun a b => decide (a ≤ b)) (fun a b c h1 h2 => ?_) (fun a b => ?_) (ends ds)).imp fun h => of_decide_eq_true h
    · simp at h1 h2 ⊢
      omega
    · simp
      omega⟩
  have hl : E.length = (plan ds).length := by
    rw [hp.length_eq]
    unfold ends
    rw [List.length_map]
  have hE : E[z.toNat]? = some E[z.toNat] := List.getElem?_eq_getElem (by omega)
  obtain ⟨w', hw'⟩ := latest_lo hf hp hs hE (Int.toNat_of_nonneg z0).symm
  exact List.length_pos_of_mem (mem_endsL.mpr ⟨w', (mem_outs hf).mpr hw'⟩)
theorem has_of {ds : List Wd} {i : Nat} {d : Wd} (h : ds[i]? = some d) : has ds i = d.1.isSome := by
  unfold has
  rw [h]
theorem shp_refl {d : PyData} (h : SeqAt.shaped d = true) : PyData.eqv d d = true := by
  refine PySem.SeqAt.eqv_refl d ?_
  unfold SeqAt.shaped at h
  rw [Bool.and_eq_true] at h
  exact h.1
theorem lim_ne {z : Int} {ds : List Wd} (hf : Fit ds) (z0 : 0 ≤ z) : 1 ≤ (lim z ds).length := by
  have hm : (ds.map fun d => if d.1.isSome = true then (some (d.2.1, d.2.1) : En) else none) ∈ lim z ds := by
    refine mem_lim.mpr ?_
    have hent : ∀ (j : Nat) (d : Wd), ds[j]? = some d → ent (ds.map fun d => if d.1.isSome = true then (some (d.2.1, d.2.1) : En) else none) j = if d.1.isSome = true then some (d.2.1, d.2.1) else none := fun j d hd => by
      unfold ent
      rw [List.getElem?_map, hd]
      rfl
    have hq : qn ds (ds.map fun d => if d.1.isSome = true then (some (d.2.1, d.2.1) : En) else none) = 0 := by
      unfold qn
      rw [List.length_eq_zero_iff, List.filter_eq_nil_iff]
      intro j hj hs
      obtain ⟨d, hd⟩ : ∃ d, ds[j]? = some d := ⟨_, List.getElem?_eq_getElem (List.mem_range.mp hj)⟩
      unfold shut at hs
      rw [hent j d hd, has_of hd] at hs
      cases hb : d.1.isSome with
      | true => rw [hb] at hs; cases hs
      | false => rw [hb] at hs; cases hs
    refine ⟨⟨List.length_map _, fun j a b he => ?_⟩, by rw [hq]; exact z0⟩
    cases hd : ds[j]? with
    | none =>
      unfold ent at he
      rw [List.getElem?_map, hd] at he
      cases he
    | some d =>
      rw [hent j d hd] at he
      cases hb : d.1.isSome with
      | false => rw [hb] at he; cases he
      | true =>
        rw [hb] at he
        cases he
        have hh : has ds j = true := by rw [has_of hd]; exact hb
        have := hf j hh
        obtain ⟨a1, a2, a3, a4⟩ := at_d hd
        rw [a3, a4] at this
        rw [a3, a4]
        exact ⟨hh, Int.le_refl _, this, Int.le_refl _, this⟩
  exact List.length_pos_of_mem hm
theorem nodup_le {α : Type} [DecidableEq α] : ∀ {l m : List α}, l.Nodup → (∀ x ∈ l, x ∈ m) → l.length ≤ m.length
  | [], _, _, _ => Nat.zero_le _
  | x :: l, m, hn, hs => by
    rw [List.nodup_cons] at hn
    have hx := hs x List.mem_cons_self
    have ih := nodup_le (l := l) (m := m.erase x) hn.2 fun y hy => (List.mem_erase_of_ne fun e => hn.1 (by rw [← e]; exact hy)).mpr (hs y (List.mem_cons_of_mem _ hy))
    rw [List.length_erase_of_mem hx] at ih
    have := List.length_pos_of_mem hx
    rw [List.length_cons]
    omega
theorem wnL_up {ds : List Wd} {z : Int} : (wnL ds z).Pairwise fun a b => a.1 < b.1 := by
  unfold wnL wins
  rw [List.pairwise_map]
  exact (List.pairwise_lt_range.filter _).imp fun h => h
theorem came_ocs {ds : List Wd} {z : Int} (hf : Fit ds) : (∀ p, p ∈ ocs (wnL ds z) ↔ p ∈ cameL (outs z ds)) ∧ (ocs (wnL ds z)).length = (cameL (outs z ds)).length := by
  have h : ∀ p, p ∈ ocs (wnL ds z) ↔ p ∈ cameL (outs z ds) := fun p => by
    obtain ⟨t, w⟩ := p
    rw [can_ocs, mem_came, mem_outs hf]
  exact ⟨h, Nat.le_antisymm (nodup_le (ocs_lt wnL_up).2 fun x hx => (h x).mp hx) (nodup_le came_nodup fun x hx => (h x).mpr hx)⟩
def rvD : Option (Nat × Int) → List PyData
  | none => [.none, .none]
  | some (k, m) => [.int (k : Int), .int m]
def natsD (ns : List Nat) : List PyData := ns.map fun (n : Nat) => PyData.int (n : Int)
def outD (ds : List Wd) (es : List En) : PyData := .tuple (rvD (out ds es) ++ [.tuple (natsD (sentL ds es))])
theorem nats_lay : ∀ ns : List Nat, PyData.canLayAll0 (natsD ns) = true ∧ PyData.depthAll (natsD ns) = 0
  | [] => ⟨rfl, rfl⟩
  | n :: ns => by
    obtain ⟨h1, h2⟩ := nats_lay ns
    refine ⟨?_, ?_⟩
    · show (true && PyData.canLayAll0 (natsD ns)) = true
      rw [h1]
      rfl
    · show max 0 (PyData.depthAll (natsD ns)) = 0
      rw [h2]
      rfl
theorem out_shp (ds : List Wd) (es : List En) : SeqAt.shaped (outD ds es) = true := by
  obtain ⟨h1, h2⟩ := nats_lay (sentL ds es)
  unfold outD
  cases out ds es with
  | none =>
    show ((true && (true && (PyData.canLayAll0 (natsD (sentL ds es)) && true))) && decide (max 0 (max 0 (max (PyData.depthAll (natsD (sentL ds es)) + 1) 0)) + 1 ≤ 64)) = true
    rw [h1, h2]
    rfl
  | some km =>
    obtain ⟨k, m⟩ := km
    show ((true && (true && (PyData.canLayAll0 (natsD (sentL ds es)) && true))) && decide (max 0 (max 0 (max (PyData.depthAll (natsD (sentL ds es)) + 1) 0)) + 1 ≤ 64)) = true
    rw [h1, h2]
    rfl
theorem rV3 (o : Option (Nat × Int)) (u : Addr) : ∃ x y, rV o = [x, y] ∧ (rV o ++ [V.ref u])[0]? = some x ∧ (rV o ++ [V.ref u])[1]? = some y ∧ (rV o ++ [V.ref u])[2]? = some (.ref u) := by
  cases o with
  | none => exact ⟨_, _, rfl, rfl, rfl, rfl⟩
  | some p => exact ⟨_, _, rfl, rfl, rfl, rfl⟩
/-- the moments at which way w wins, in the order in which they came -/
def mW (L : List (Int × Nat)) (w : Nat) : List Int := (L.filter fun p => decide (p.2 = w)).map Prod.fst
theorem mem_mW {ds : List Wd} {z : Int} {w : Nat} {t : Int} (hf : Fit ds) : t ∈ mW (cameL (outs z ds)) w ↔ can ds z w t = true := by
  unfold mW
  rw [List.mem_map, ← mem_outs hf, ← mem_came]
  constructor
  · rintro ⟨⟨a, b⟩, h, rfl⟩
    obtain ⟨h1, h2⟩ := List.mem_filter.mp h
    obtain rfl : b = w := of_decide_eq_true h2
    exact h1
  · exact fun h => ⟨(t, w), List.mem_filter.mpr ⟨h, decide_eq_true rfl⟩, rfl⟩
theorem last_nil {ds : List Wd} {z : Int} {w : Nat} (hf : Fit ds) (h : mW (cameL (outs z ds)) w = []) : (moms ds z w).getLast? = none := by
  cases hz : (moms ds z w).getLast? with
  | none => rfl
  | some L =>
    have := (mem_mW hf).mpr (last_can hz)
    rw [h] at this
    cases this
theorem last_mx {ds : List Wd} {z : Int} {w : Nat} {m : Int} (hf : Fit ds) (h : m ∈ mW (cameL (outs z ds)) w) (hm : ∀ x ∈ mW (cameL (outs z ds)) w, x ≤ m) : (moms ds z w).getLast? = some m := by
  cases hz : (moms ds z w).getLast? with
  | none =>
    have := (moms_facts.2.2 m).mpr ((mem_mW hf).mp h)
    rw [List.getLast?_eq_none_iff.mp hz] at this
    cases this
  | some L =>
    have h1 := hm _ ((mem_mW hf).mpr (last_can hz))
    have h2 := last_max hz ((mem_mW hf).mp h)
    congr 1
    omega
theorem wins_mW {ds : List Wd} {z : Int} {w : Nat} (hf : Fit ds) (hw : w < ds.length) : w ∈ wins ds z ↔ mW (cameL (outs z ds)) w ≠ [] := by
  rw [mem_wins]
  constructor
  · rintro ⟨L, hL, _⟩ h
    rw [last_nil hf h] at hL
    cases hL
  · intro h
    obtain ⟨m, hm⟩ := List.exists_mem_of_ne_nil _ h
    cases hz : (moms ds z w).getLast? with
    | some L => exact ⟨L, rfl, hw⟩
    | none =>
      have := (moms_facts.2.2 m).mpr ((mem_mW hf).mp hm)
      rw [List.getLast?_eq_none_iff.mp hz] at this
      cases this
theorem mW_snoc {L : List (Int × Nat)} {p : Int × Nat} {w : Nat} : mW (L ++ [p]) w = mW L w ++ (if p.2 = w then [p.1] else []) := by
  unfold mW
  rw [List.filter_append, List.map_append]
  congr 1
  by_cases h : p.2 = w <;> simp [h]
theorem mW_len {L : List (Int × Nat)} {w : Nat} : (mW L w).length ≤ L.length := by
  unfold mW
  rw [List.length_map]
  exact List.length_filter_le _ _
theorem eqv_nil (l : List Int) : PyData.eqvAll ((l.map V.int).map pd) (([] : List V).map pd) = decide (l = []) := by
  cases l with
  | nil => rfl
  | cons x l =>
    rw [decide_eq_false (List.cons_ne_nil x l)]
    rfl
theorem fl_ints (l : List Int) : ∀ v ∈ l.map V.int, Fl v := fun v hv => by
  obtain ⟨j, _, rfl⟩ := List.mem_map.mp hv
  trivial
section
variable {P : Program} {w : World} {K : PySem.W.Frag} {mg : Str → Option Value} {base : Heap} {A : Ad}
theorem nats_dp {H : Hp} : ∀ ns : List Nat, DpAll K H (ns.map nI) (natsD ns)
  | [] => .nil
  | _ :: ns => .cons (.int _) (nats_dp ns)
theorem out_dp {H : Hp} {t u : Addr} {ds : List Wd} {es : List En} (h1 : H t = some (.tup (rV (out ds es) ++ [.ref u]))) (h2 : H u = some (.tup ((sentL ds es).map nI))) : Dp K H (.ref t) (outD ds es) := by
  refine .tup (SqT.of h1) ?_
  cases out ds es with
  | none => exact .cons .non (.cons .non (.cons (.tup (SqT.of h2) (nats_dp _)) .nil))
  | some km =>
    obtain ⟨k, m⟩ := km
    exact .cons (.int _) (.cons (.int _) (.cons (.tup (SqT.of h2) (nats_dp _)) .nil))
/-- an end, with the ways that were sent -/
def RowS (ds : List Wd) (H : Hp) (v : V) (es : List En) : Prop := ∃ t u, v = .ref t ∧ H t = some (.tup (rV (out ds es) ++ [.ref u])) ∧ H u = some (.tup ((sentL ds es).map nI))
theorem RowS.k {ds : List Wd} {H H' : Hp} (e : KT H H') (v : V) (es : List En) (h : RowS ds H v es) : RowS ds H' v es := by
  obtain ⟨t, u, r, h1, h2⟩ := h
  exact ⟨t, u, r, e _ _ h1, e _ _ h2⟩
theorem RowS.outs {ds : List Wd} {H : Hp} : ∀ {vs : List V} {rs : List (List En)}, Rel2 (RowS ds H) vs rs → Rel2 (RowAt H) vs (rs.map (out ds))
  | [], [], _ => trivial
  | [], _ :: _, h => nomatch h
  | _ :: _, [], h => nomatch h
  | _ :: _, _ :: _, ⟨⟨t, u, r, h1, _⟩, h2⟩ => ⟨⟨t, u, r, h1⟩, RowS.outs h2⟩
section
variable {b : Addr} {H H' : Hp}
theorem nls (hst : StB H b) {x : Addr} {o : HO} (h : H x = some o) (hn : ∀ xs, o ≠ .lst xs) : x ≠ b := by
  obtain ⟨x0, x1, x2, x3, h1⟩ := hst
  rintro rfl
  rw [h1] at h
  cases h
  exact hn _ rfl
theorem kt_b (hst : StB H b) (e : ExtB b H H') : KT H H' := fun t xs h => e _ _ (nls hst h (fun _ z => nomatch z)) h
theorem wl_b {D : Addr} {ds : List Wd} (hst : StB H b) (h : Wl H D ds) (nb : D ≠ b) (e : ExtB b H H') : Wl H' D ds := by
  obtain ⟨qs, h1, h2⟩ := h
  exact ⟨qs, e _ _ nb h1, h2.to fun v d ⟨t, a, c⟩ => ⟨t, a, kt_b hst e _ _ c⟩⟩
theorem sqT_b {a : Addr} {xs : List V} (hst : StB H b) (e : ExtB b H H') (h : SqT K H a xs) : SqT K H' a xs := by
  rcases h with (h | ⟨o, h⟩) | h
  · exact .inl (.inl (e _ _ (nls hst h (fun _ z => nomatch z)) h))
  · exact .inl (.inr ⟨o, e _ _ (nls hst h (fun _ z => nomatch z)) h⟩)
  · exact .inr h
theorem wd_b {p : Addr} {d : Wd} (hst : StB H b) (e : ExtB b H H') (h : WayD K A H p d) : WayD K A H' p d := by
  obtain ⟨dx, T, xs, h1, h2, h3⟩ := h
  cases h3
  exact ⟨dx, T, [], e _ _ (nls hst h1 (fun _ z => nomatch z)) h1, sqT_b hst e h2, .nil⟩
theorem ways_b {ws : List V} {ds : List Wd} (hst : StB H b) (e : ExtB b H H') (h : Ways K A H ws ds) : Ways K A H' ws ds := ⟨h.1, fun i x d h1 h2 => by
  obtain ⟨q, r, hw⟩ := h.2 i x d h1 h2
  exact ⟨q, r, wd_b hst e hw⟩⟩
theorem race_b {p : Addr} {ds : List Wd} {z : Int} (hst : StB H b) (e : ExtB b H H') (h : RaceD K A H p ds z) : RaceD K A H' p ds z := by
  obtain ⟨dx, T, ws, h1, h2, h3⟩ := h
  exact ⟨dx, T, ws, e _ _ (nls hst h1 (fun _ z => nomatch z)) h1, sqT_b hst e h2, ways_b hst e h3⟩
end
end
end K18

set_option Elab.async false
set_option maxRecDepth 100000
set_option maxHeartbeats 8000000
namespace K18
open PySem PySem.Spec PyProof.Rows L2
def spLaw (K : PySem.W.Frag) : Sp := fun vs H Q _ => ∃ (a : Addr) (ns : List Int), vs = [.ref a] ∧ SqL K H a (ns.map V.int) ∧ ns.length ≤ 63 ∧ ∀ H', Q (.bl true) H'
section
variable {P : Program} {w : World} {K : PySem.W.Frag} {mg : Str → Option Value} {base : Heap} {A : Ad}
theorem ok_law {f : Addr} {fd : FuncData} (F : Fun K "law" "law" s_law f fd) (T : Txt K mg A) (O__law_start : Own P w K mg base CX0 "_law_start" 1 pm__law_start (spStart K)) (O__law_draw : Own P w K mg base CX0 "_law_draw" 1 pm__law_draw (spDrawB K)) (O__law_ways : Own P w K mg base CX0 "_law_ways" 2 pm__law_ways (spWaysB K))
    (O_Way3 : OwnCD P w K mg base (L2.CX P w) "Way" A.Way 5 pm_Way_init (spWayInit K A) [.ref A.T0]) (O_Race : OwnC P w K mg base (L2.CX P w) "Race" A.Race 6 pm_Race_init (spRaceInit K A)) (O__law_all_runs : Own P w K mg base CX0 "_law_all_runs" 2 pm__law_all_runs spAll) (O_run_count : Own P w K mg base CX0 "run_count" 4 pm_run_count (spCount K A))
    (O__law_outcome : Own P w K mg base CX0 "_law_outcome" 1 pm__law_outcome spOut) (O_played : Own P w K mg base CX0 "played" 5 pm_played (spPlayed K A)) (O_outcomes : OwnG3 P w K mg base "outcomes" 11 pm_outcomes (spOutc3 K A)) (O_Race_last_win : OwnM P w K mg base (L2.CX P w) A.Race "last_win" 9 pm_Race_last_win (spLast K A))
    (O_Race_winners : OwnM P w K mg base CX0 A.Race "winners" 10 pm_Race_winners (spWins K A)) (O_Race_latest : OwnM P w K mg base CX0 A.Race "latest" 3 pm_Race_latest (spLatest K A)) (O_silent_after : Own P w K mg base (L2.CX P w) "silent_after" 10 pm_silent_after (spSilent K A))
    (O__law_silences : Own P w K mg base CX0 "_law_silences" 1 pm__law_silences spSils) : FnOk P w K mg base CX0 15 f fd pm_law (spLaw K) := by
  refine F.ok sc_law (fun vs H Q E h => ?_) (fun cdv A' outer sh H vs Q E hr h => ?_)
  · obtain ⟨_, _, rfl, _⟩ := h
    rfl
  · obtain ⟨a, ns, rfl, hS, hlen, k⟩ := h
    refine ⟨_, pss_cons (ps_set (i := 1) sc_law.nd rfl (Or.inl rfl) (pe_own O__law_start (hr.mono (by decide)) pass0 (pa_cons (pv 0) pa_nil)))
      (pss_cons (ps_set (i := 2) sc_law.nd rfl (Or.inr rfl) (pe_own O__law_ways (hr.mono (by decide)) pass0 (pa_cons (pv 0) (pa_cons (pv 1) pa_nil))))
      (pss_cons (ps_set (i := 3) sc_law.nd rfl (Or.inl rfl) (pe_own O__law_draw (hr.mono (by decide)) pass0 (pa_cons (pv 0) (pa_cons (pv 1) (pa_cons (pe_int) pa_nil)))))
      (pss_cons (ps_set (i := 4) sc_law.nd rfl (Or.inl rfl) (pe_new O_Race (hr.mono (by decide)) passL (pa_cons (pe_lc (own := [("_law_begin", 14), ("_law_low", 15), ("_law_high", 16)]) (g := gTup K 3 (gCons (gName 14) (gCons (gName 15) (gCons (gName 16) (gNil))))) (by rfl) sc_law.nd (pi_list (pv 2)) (blkOk_by (own := [("_law_begin", 14), ("_law_low", 15), ("_law_high", 16)]) (N := nm_law) (sc := defScope s_law) (by decide +kernel)) (fun _ _ _ _ _ => pg_tup rfl (pgs_cons (pg_name (i := 14) sc_law.nd rfl (Or.inl rfl)) (pgs_cons (pg_name (i := 15) sc_law.nd rfl (Or.inl rfl)) (pgs_cons (pg_name (i := 16) sc_law.nd rfl (Or.inl rfl)) (pgs_nil))))) (fun s1 H1 C1 cl fp => pts_nil) (fun s1 H1 C1 cl fp => pe_newD O_Way3 (hr.mono (by decide)) passL (pa_cons (pv 14) (pa_cons (pv 15) (pa_cons (pv 16) pa_nil))))) (pa_cons (pv 3) pa_nil))))
      (pss_cons (ps_set (i := 5) sc_law.nd rfl (Or.inl rfl) (pe_own O__law_all_runs (hr.mono (by decide)) pass0 (pa_cons (pv 2) (pa_cons (pv 3) pa_nil))))
      (pss_cons (ps_if (pt_cmpR op_ne (pe_own O_run_count (hr.mono (by decide)) pass0 (pa_cons (pv 4) pa_nil)) (pe_callB call_len_seq (by rfl) T.n_len (by decide +kernel) (pa_cons (pv 5) pa_nil)) (nomark _)) (pss_one (ps_ret (pe_bl))) (pss_nil))
      (pss_cons (ps_setLc (i := 6) (own := [("_law_row", 17)]) (g := gName 17) (by rfl) sc_law.nd rfl rfl (sw_true rfl rfl rfl (by decide +kernel)) (pi_list (pv 5)) (blkOk_by (own := [("_law_row", 17)]) (N := nm_law) (sc := defScope s_law) (by decide +kernel)) (fun _ _ _ _ _ => pg_name (i := 17) sc_law.nd rfl (Or.inl rfl)) (fun s1 H1 C1 cl fp => pts_nil) (fun s1 H1 C1 cl fp => pe_own O__law_outcome (hr.mono (by decide)) pass0 (pa_cons (pv 2) (pa_cons (pv 17) pa_nil))))
      (pss_cons (ps_for PassesOwn.never rfl (pi_range1 rfl T.n_range (pa_cons (pe_int) pa_nil)) (pg_name (i := 7) sc_law.nd rfl (Or.inl rfl)) (pss_cons (ps_set (i := 8) sc_law.nd rfl (Or.inl rfl) (pe_own O__law_draw (hr.mono (by decide)) pass0 (pa_cons (pv 0) (pa_cons (pv 1) (pa_cons (pe_callB call_len_seq (by rfl) T.n_len (by decide +kernel) (pa_cons (pv 5) pa_nil)) pa_nil)))))
      (pss_cons (ps_set (i := 9) sc_law.nd rfl (Or.inr rfl) (pe_own O_played (hr.mono (by decide)) pass0 (pa_cons (pv 4) (pa_cons (pe_ix ix_list (pv 5) (pv 8) (fun _ _ => rfl)) pa_nil))))
      (pss_one (ps_if (pt_cmpR (op_neD hr.units) (pe_tup (pa_cons (pe_fld (pv 9) rfl) (pa_cons (pe_fld (pv 9) rfl) (pa_cons (pe_fld (pv 9) rfl) pa_nil)))) (pe_ix ix_list (pv 6) (pv 8) (fun _ _ => rfl)) (nomark _)) (pss_one (ps_ret (pe_bl))) (pss_nil))))))
      (pss_cons (ps_set (i := 10) sc_law.nd rfl (Or.inr rfl) (pe_lst (pa_nil)))
      (pss_cons (ps_for PassesOwn.never rfl (pi_list (pv 6)) (pg_name (i := 11) sc_law.nd rfl (Or.inl rfl)) (pss_one (ps_if (PW.pt (pw_and (pt_cmpR op_notN (pe_ix ix_tup (pv 11) (pe_int) (fun _ _ => rfl)) (pe_non) (nomark _)) (pw_and1 (pt_cmpR (op_notInD hr.in1.units) (pe_tup (pa_cons (pe_ix ix_tup (pv 11) (pe_int) (fun _ _ => rfl)) (pa_cons (pe_ix ix_tup (pv 11) (pe_int) (fun _ _ => rfl)) pa_nil))) (pv 10) (by with_unfolding_all rfl))))) (pss_one (ps_expr (pe_bm PySem.F.plainAttrs_list PySem.F.slot_list_append PySem.F.type_list_append mt_append (pv 10) (pa_cons (pe_tup (pa_cons (pe_ix ix_tup (pv 11) (pe_int) (fun _ _ => rfl)) (pa_cons (pe_ix ix_tup (pv 11) (pe_int) (fun _ _ => rfl)) pa_nil))) pa_nil)))) (pss_nil))))
      (pss_cons (ps_set (i := 9) sc_law.nd rfl (Or.inr rfl) (pe_lcG (by rfl) O_outcomes (hr.mono (by decide)) (pa_cons (pv 4) pa_nil) (blkOk_by (own := [("_law_pair", 18)]) (N := nm_law) (sc := defScope s_law) (by decide +kernel)) (by decide +kernel)))
      (pss_cons (ps_if (PW.pt (pw_or (pt_cmpR op_ne (pe_callB call_len_seq (by rfl) T.n_len (by decide +kernel) (pa_cons (pv 9) pa_nil)) (pe_callB call_len_seq (by rfl) T.n_len (by decide +kernel) (pa_cons (pv 10) pa_nil)) (nomark _)) (pw_or1 (pt_not (pt_val (pe_callB (cr_all rfl) (by rfl) T.n_all (by decide +kernel) (pa_cons (pe_lc (own := [("_law_pair", 18)]) (g := gName 18) (by rfl) sc_law.nd (pi_list (pv 9)) (blkOk_by (own := [("_law_pair", 18)]) (N := nm_law) (sc := defScope s_law) (by decide +kernel)) (fun _ _ _ _ _ => pg_name (i := 18) sc_law.nd rfl (Or.inl rfl)) (fun s1 H1 C1 cl fp => pts_nil) (fun s1 H1 C1 cl fp => pe_cmpR (op_inDK (K := K) rfl hr.in1.units) (pv 18) (pv 10) (by with_unfolding_all rfl))) pa_nil))))))) (pss_one (ps_ret (pe_bl))) (pss_nil))
      (pss_cons (ps_if (pt_not (pt_val (pe_callB (cr_all rfl) (by rfl) T.n_all (by decide +kernel) (pa_cons (pe_lc (own := [("_law_k", 7)]) (g := gName 7) (by rfl) sc_law.nd (pi_range1 rfl T.n_range (pa_cons (pe_op op_sub (pe_callB call_len_seq (by rfl) T.n_len (by decide +kernel) (pa_cons (pv 9) pa_nil)) (pe_int)) pa_nil)) (blkOk_by (own := [("_law_k", 7)]) (N := nm_law) (sc := defScope s_law) (by decide +kernel)) (fun _ _ _ _ _ => pg_name (i := 7) sc_law.nd rfl (Or.inl rfl)) (fun s1 H1 C1 cl fp => pts_nil) (fun s1 H1 C1 cl fp => pe_cmpR (op_ltTK (K := K) rfl hr.units0) (pe_ix (ix_listK (K := K) rfl) (pv 9) (pv 7) (fun _ _ => rfl)) (pe_ix (ix_listK (K := K) rfl) (pv 9) (pe_op op_add (pv 7) (pe_int)) (fun _ _ => rfl)) (nomark _))) pa_nil)))) (pss_one (ps_ret (pe_bl))) (pss_nil))
      (pss_cons (ps_for PassesOwn.never rfl (pi_range1 rfl T.n_range (pa_cons (pe_callB call_len_seq (by rfl) T.n_len (by decide +kernel) (pa_cons (pv 2) pa_nil)) pa_nil)) (pg_name (i := 12) sc_law.nd rfl (Or.inr rfl)) (pss_cons (ps_setLc (i := 13) (own := [("_law_at", 8), ("_law_other", 19)]) (g := gTup K 2 (gCons (gName 8) (gCons (gName 19) (gNil)))) (by rfl) sc_law.nd rfl rfl (sw_true rfl rfl rfl (by decide +kernel)) (pi_list (pv 10)) (blkOk_by (own := [("_law_at", 8), ("_law_other", 19)]) (N := nm_law) (sc := defScope s_law) (by decide +kernel)) (fun _ _ _ _ _ => pg_tup rfl (pgs_cons (pg_name (i := 8) sc_law.nd rfl (Or.inl rfl)) (pgs_cons (pg_name (i := 19) sc_law.nd rfl (Or.inl rfl)) (pgs_nil)))) (fun s1 H1 C1 cl fp => pts_one (pt_cmpR op_eq (pv 19) (pv 12) (nomark _))) (fun s1 H1 C1 cl fp => pe_callTy call_int1 (by rfl) T.n_int (by decide +kernel) (pa_cons (pv 8) pa_nil)))
      (pss_cons (ps_if (pt_cmpR op_ne (pe_ownM O_Race_last_win (pv 4) T.Race.cl (hr.mono (by decide)) passL (pa_cons (pv 12) pa_nil)) (pe_ifExp (pt_cmpR (op_eqD hr.units) (pv 13) (pe_lst (pa_nil)) (nomark _)) (pe_non) (pe_callB (cr_max rfl) (by rfl) T.n_max (by decide +kernel) (pa_cons (pe_lc (own := [("_law_at", 8)]) (g := gName 8) (by rfl) sc_law.nd (pi_list (pv 13)) (blkOk_by (own := [("_law_at", 8)]) (N := nm_law) (sc := defScope s_law) (by decide +kernel)) (fun _ _ _ _ _ => pg_name (i := 8) sc_law.nd rfl (Or.inl rfl)) (fun s1 H1 C1 cl fp => pts_nil) (fun s1 H1 C1 cl fp => pe_callTy call_int1 (by rfl) T.n_int (by decide +kernel) (pa_cons (pv 8) pa_nil))) pa_nil))) (nomark _)) (pss_one (ps_ret (pe_bl))) (pss_nil))
      (pss_one (ps_if (pt_cmpR op_ne (pe_cmpR op_in_seq (pv 12) (pe_ownM0 O_Race_winners (pv 4) T.Race.cl (hr.mono (by decide)) pass0) (by with_unfolding_all rfl)) (pe_cmpR (op_neD hr.units) (pv 13) (pe_lst (pa_nil)) (nomark _)) (nomark _)) (pss_one (ps_ret (pe_bl))) (pss_nil))))))
      (pss_cons (ps_if (pt_val (pe_callB (cr_any rfl) (by rfl) T.n_any (by decide +kernel) (pa_cons (pe_lc (own := [("_law_end", 11)]) (g := gName 11) (by rfl) sc_law.nd (pi_list (pv 6)) (blkOk_by (own := [("_law_end", 11)]) (N := nm_law) (sc := defScope s_law) (by decide +kernel)) (fun _ _ _ _ _ => pg_name (i := 11) sc_law.nd rfl (Or.inl rfl)) (fun s1 H1 C1 cl fp => pts_nil) (fun s1 H1 C1 cl fp => pe_cmpR op_isN (pe_ix (ix_tupK (K := K) rfl) (pv 11) (pe_int) (fun _ _ => rfl)) (pe_non) (nomark _))) pa_nil))) (pss_one (ps_ret (pe_cmpR op_isN (pe_ownM0 O_Race_latest (pv 4) T.Race.cl (hr.mono (by decide)) pass0) (pe_non) (nomark _)))) (pss_nil))
      (pss_cons (ps_if (pt_cmpR (op_eqD hr.units) (pv 10) (pe_lst (pa_nil)) (nomark _)) (pss_one (ps_ret (pe_bl))) (pss_nil))
      (pss_cons (ps_asg (pe_ix ix_list (pv 10) (pe_own O__law_draw (hr.mono (by decide)) pass0 (pa_cons (pv 0) (pa_cons (pv 1) (pa_cons (pe_callB call_len_seq (by rfl) T.n_len (by decide +kernel) (pa_cons (pv 10) pa_nil)) pa_nil)))) (fun _ _ => rfl)) (pg_tup rfl (pgs_cons (pg_name (i := 8) sc_law.nd rfl (Or.inl rfl)) (pgs_cons (pg_name (i := 12) sc_law.nd rfl (Or.inr rfl)) (pgs_nil)))))
      (pss_cons (ps_if (pt_cmpR (op_neD hr.units) (pe_own O_silent_after (hr.mono (by decide)) passL (pa_cons (pv 4) (pa_cons (pv 12) (pa_cons (pv 8) pa_nil)))) (pe_own O__law_silences (hr.mono (by decide)) pass0 (pa_cons (pv 2) (pa_cons (pv 5) (pa_cons (pv 6) (pa_cons (pv 12) (pa_cons (pv 8) pa_nil)))))) (nomark _)) (pss_one (ps_ret (pe_bl))) (pss_nil))
      (pss_one (ps_ret (pe_cmpR op_eq (pe_ownM0 O_Race_latest (pv 4) T.Race.cl (hr.mono (by decide)) pass0) (pe_callB (cr_max rfl) (by rfl) T.n_max (by decide +kernel) (pa_cons (pe_lc (own := [("_law_at", 8), ("_law_way", 12)]) (g := gTup K 2 (gCons (gName 8) (gCons (gName 12) (gNil)))) (by rfl) sc_law.nd (pi_list (pv 10)) (blkOk_by (own := [("_law_at", 8), ("_law_way", 12)]) (N := nm_law) (sc := defScope s_law) (by decide +kernel)) (fun _ _ _ _ _ => pg_tup rfl (pgs_cons (pg_name (i := 8) sc_law.nd rfl (Or.inl rfl)) (pgs_cons (pg_name (i := 12) sc_law.nd rfl (Or.inl rfl)) (pgs_nil)))) (fun s1 H1 C1 cl fp => pts_nil) (fun s1 H1 C1 cl fp => pe_callTy call_int1 (by rfl) T.n_int (by decide +kernel) (pa_cons (pv 8) pa_nil))) pa_nil)) (nomark _))))))))))))))))))))), ?_⟩
    refine ⟨_, rfl, a, ns, rfl, hS, hlen, fun b H0 hb0 st0 e0 => ?_⟩
    have nab := sqL_new hS hb0
    have hS0 : SqL K H0 a (ns.map V.int) := hS.ext e0
    refine ⟨_, rfl, _, rfl, a, b, ns, rfl, hS0, nab, st0, fun D qs ds H1 hD0 hD1 nDb tu1 l1 l3 st1 x1 => ?_⟩
    have hS1 := sqL_b hS0 nab x1
    refine ⟨_, rfl, _, rfl, a, b, ns, 3, rfl, hS1, nab, st1, by decide, by decide, fun z0 H2 z00 z03 st2 x2 => ?_⟩
    have hS2 := sqL_b hS1 nab x2
    have hD2 := x2 D _ nDb hD1
    obtain ⟨z, rfl⟩ : ∃ z : Nat, z0 = (z : Int) := ⟨z0.toNat, by omega⟩
    have hz : z ≤ 3 := by omega
    have tu2 := tu1.to fun q d n h => x2 q _ n h
    obtain ⟨hW2, hg⟩ := wl_of hD2 tu2
    have hf := gds_fit hg
    refine ⟨_, rfl, D, rfl, ⟨_, SqL.of hD2⟩, fun M hM => ?_⟩
    refine lc_list (xs := qs) (fun i H' => Ext H2 H' ∧ ∃ ps, H' M = some (.lst ps) ∧ Ways K A H' ps (ds.take i)) ⟨Ext.upd hM, [], upd_same, ⟨rfl, fun i x d h => nomatch h⟩⟩ (fun i H' _ pv => SqL.of (pv.1 _ _ hD2)) (fun i x H' hi pv => ?_) (fun H3 pv => ?_)
    · obtain ⟨e3, ps, hps, hw⟩ := pv
      have hil : i < qs.length := (List.getElem?_eq_some_iff.mp hi).1
      obtain ⟨d, hd⟩ : ∃ d, ds[i]? = some d := ⟨_, List.getElem?_eq_getElem (by rw [← tu2.1]; exact hil)⟩
      obtain ⟨g, q, rfl, hq, _⟩ := tu2.2 i x d hi hd
      have hq1 := e3 _ _ hq
      refine ⟨q, _, rfl, SqT.of hq1, rfl, _, _, rfl, _, _, rfl, _, _, rfl, rfl, rfl, _, rfl, _, rfl, _, rfl, fun x0 dn hx0 hdx0 hne0 => mk_way0 T hx0 hdx0 hne0 (good_b g) ⟨g.2.1, g.2.2.1, Int.le_trans g.2.2.2 (by decide)⟩ fun H2 e2 hw2 => ⟨rfl, ps, e2 _ _ hps, ?_, ?_⟩⟩
      · have z := hw.1
        rw [List.length_take] at z
        exact Nat.lt_of_le_of_lt (show ps.length ≤ 1000 by omega) (by decide)
      · have hM2 := e2 _ _ hps
        have mt : ∀ y o, y ≠ M → H2 y = some o → upd H2 M (.lst (ps ++ [.ref x0])) y = some o := fun y o hy h => by
          rw [upd_ne hy]
          exact h
        refine ⟨ext_mut (e3.trans e2) hM, ps ++ [.ref x0], upd_same, ?_⟩
        rw [take_snoc hd]
        exact Ways.snoc (Ways.mut hM2 mt (hw.ext e2)) (wd_mut hM2 mt hw2)
    obtain ⟨e3, ps, hM3, hw3⟩ := pv
    rw [show qs.length = ds.length from tu2.1, List.take_length] at hw3
    refine ⟨_, rfl, fun p dx hp hdx hne => mk_race T hp hdx hne (.inl hM3) hw3 l1 (by omega) ⟨z00, by omega⟩ fun H4 e4 hR4 => ⟨rfl, ?_⟩⟩
    have hS4 := (hS2.ext e3).ext e4
    have st4 := (st2.ext e3).ext e4
    have hW4 := (hW2.ext e3).ext e4
    clear hS0 hS1 hS2 st0 st1 st2 x1 x2 tu1 tu2 hD0 hD1 hD2 hW2 e0 e3 e4 hM3 hw3 hM hp hdx hne
    have few : (lim (z : Int) ds).length ≤ 101 ^ 3 := Nat.le_trans (List.length_filter_le _ _) (rns_big hg l3)
    have hsm : ds.length ≤ 1000 := by omega
    refine ⟨_, rfl, _, rfl, D, ds, (z : Int), rfl, hW4, hg, l3, fun L ys H5 e5 hL0 hL ry => ?_⟩
    have nLb := st4.new hL0
    have hS5 := hS4.ext e5
    have st5 := st4.ext e5
    have hW5 := hW4.ext e5
    have hR5 := hR4.ext e5
    have lys := ry.len
    clear hS4 st4 hW4 hR4 e5 hL0
    refine ⟨_, rfl, p, ds, z, rfl, hR5, l3, hg, hz, fun H6 e6 => ⟨_, rfl, L, ys, rfl, .inl (SqL.of (e6 _ _ hL)), rfl, _, rfl, ?_⟩⟩
    rw [lys, dvi, decide_eq_true rfl]
    refine iteF ?_
    have hS6 := hS5.ext e6
    have st6 := st5.ext e6
    have hW6 := hW5.ext e6
    have hR6 := hR5.ext e6
    have hL6 := e6 _ _ hL
    have ry6 := ry.to (RnAt.k (Ext.kt e6))
    clear hS5 st5 hW5 hR5 hL ry e6
    refine ⟨_, rfl, L, rfl, ⟨_, SqL.of hL6⟩, fun C hC => ?_⟩
    refine lc_list (xs := ys) (fun m H' => Ext H6 H' ∧ ∃ acc, H' C = some (.lst acc) ∧ Rel2 (RowS ds H') acc ((lim (z : Int) ds).take m)) ⟨Ext.upd hC, [], upd_same, trivial⟩ (fun m H' _ pv => SqL.of (pv.1 _ _ hL6)) (fun m x H7 hx pv => ?_) (fun H7 pv => ?_)
    · obtain ⟨e7, acc, ha, ra⟩ := pv
      obtain ⟨es, hes, hrn⟩ := ry6.get hx
      refine ⟨rfl, _, rfl, _, rfl, D, ds, x, es, rfl, hW6.ext e7, RnAt.k (Ext.kt e7) _ _ hrn, (mem_lim.mp (List.mem_of_getElem? hes)).1, hg, l3, fun t u H8 e8 ht hu => ?_⟩
      have ha8 := e8 _ _ ha
      have kt := kt_set (ys := acc ++ [.ref t]) ha8
      refine ⟨acc, ha8, big_sz ?_, ext_mut (e7.trans e8) hC, acc ++ [.ref t], upd_same, ?_⟩
      · rw [ra.len, List.length_take]
        omega
      · rw [take_snoc hes]
        exact Rel2.cat (ra.to (RowS.k ((Ext.kt e8).trans kt))) (Rel2.one ⟨t, u, rfl, kt _ _ ht, kt _ _ hu⟩)
    obtain ⟨e7, os, hC7, ro⟩ := pv
    rw [lys, List.take_length] at ro
    have nCb := st6.new hC
    have hS7 := hS6.ext e7
    have st7 := st6.ext e7
    have hW7 := hW6.ext e7
    have hR7 := hR6.ext e7
    have hL7 := e7 _ _ hL6
    have ry7 := ry6.to (RnAt.k (Ext.kt e7))
    have los : os.length = (lim (z : Int) ds).length := ro.len
    clear hS6 st6 hW6 hR6 hL6 ry6 e7 hC
    -- six runs are played
    have hne := lim_ne hf (z := (z : Int)) (by omega)
    refine ⟨6, rfl, by decide, by decide, ?_⟩
    refine for_range (n := 6) (fun i σ' H' => StB H' b ∧ ExtB b H7 H' ∧ ∃ o7 o8 o9, σ' = [some (.ref a), some (.ref b), some (.ref D), some (.int (z : Int)), some (.ref p), some (.ref L), some (.ref C), o7, o8, o9, none, none, none, none, none, none, none, none, none, none]) ⟨st7, ExtB.rfl', _, _, _, rfl⟩ (fun i σ' H8 hi pv => ?_) (fun σ' H8 pv => ?_)
    · obtain ⟨st8, x8, o7, o8, o9, rfl⟩ := pv
      have hL8 := x8 L _ nLb hL7
      refine ⟨_, rfl, _, rfl, _, rfl, L, ys, rfl, .inl (SqL.of hL8), a, b, ns, (ys.length : Int), rfl, sqL_b hS7 nab x8, nab, st8, by omega, by omega, fun n H9 n0 n1 st9 x9 => ?_⟩
      obtain ⟨j, rfl⟩ : ∃ j : Nat, n = (j : Int) := ⟨n.toNat, by omega⟩
      have x79 := x8.trans x9
      obtain ⟨v, hv⟩ : ∃ v, ys[j]? = some v := ⟨_, List.getElem?_eq_getElem (by omega)⟩
      obtain ⟨es, hes, hrn⟩ := ry7.get hv
      obtain ⟨xo, hxo, to, uo, rfl, hto, huo⟩ := ro.got hes
      have hrn9 := RnAt.k (kt_b st7 x79) _ _ hrn
      obtain ⟨hrun, hq⟩ := mem_lim.mp (List.mem_of_getElem? hes)
      refine ⟨_, rfl, _, rfl, _, rfl, L, ys, (j : Int), v, rfl, rfl, SqL.of (x79 L _ nLb hL7), atI_nat hv, p, ds, (z : Int), v, es, rfl, race_b st7 x79 hR7, hsm, hrn9, hrun, hq, fun q H10 e10 hO => ?_⟩
      obtain ⟨dO, TO, xw, xm, hxy, hq10, hT10⟩ := hO
      refine ⟨_, rfl, q, A.Outcome, dO, _, _, rfl, hq10, T.Outcome.cl, T.o_winner, rfl, _, rfl, q, A.Outcome, dO, _, _, rfl, hq10, T.Outcome.cl, T.o_moment, rfl, _, rfl, q, A.Outcome, dO, _, _, rfl, hq10, T.Outcome.cl, T.o_sent, rfl, by show 3 ≤ sizeLine; decide, fun t ht => ?_⟩
      have e11 := Ext.upd (o := .tup [xw, xm, .ref TO]) ht
      have ht11 : upd H10 t (.tup [xw, xm, .ref TO]) t = some (.tup (rV (out ds es) ++ [.ref TO])) := by
        rw [upd_same, hxy]
        rfl
      have e911 := e10.trans e11
      have kt7 : KT H7 (upd H10 t (.tup [xw, xm, .ref TO])) := kt_b st7 (x79.trans (Ext.b e911))
      refine ⟨_, rfl, _, rfl, C, os, (j : Int), .ref to, rfl, rfl, SqL.of (e911 _ _ (x79 C _ nCb hC7)), atI_nat hxo, outD ds es, outD ds es, out_dp ht11 (e11 _ _ hT10), out_dp (kt7 _ _ hto) (kt7 _ _ huo), out_shp _ _, out_shp _ _, _, rfl, ?_⟩
      rw [shp_refl (out_shp ds es)]
      exact iteF ⟨st9.ext e911, x79.trans (Ext.b e911), _, _, _, rfl⟩
    obtain ⟨st8, x8, o7, o8, o9, rfl⟩ := pv
    have hS8 := sqL_b hS7 nab x8
    have hW8 := wl_b st7 hW7 nDb x8
    have hR8 := race_b st7 x8 hR7
    have hL8 := x8 L _ nLb hL7
    have hC8 := x8 C _ nCb hC7
    have ry8 := ry7.to (RnAt.k (kt_b st7 x8))
    have ro8 := ro.to (RowS.k (kt_b st7 x8))
    clear hS7 hW7 hR7 hL7 hC7 ry7 ro st7 x8
    -- what came
    refine ⟨by show 0 ≤ sizeLine; decide, fun B hB => ?_⟩
    have e0 := Ext.upd (o := .lst []) hB
    refine ⟨_, rfl, C, rfl, ⟨_, SqL.of (e0 _ _ hC8)⟩, ?_⟩
    refine for_list (xs := os) (fun i σ' H' => Ext H8 H' ∧ ∃ xs o11, σ' = [some (.ref a), some (.ref b), some (.ref D), some (.int (z : Int)), some (.ref p), some (.ref L), some (.ref C), o7, o8, o9, some (.ref B), o11, none, none, none, none, none, none, none, none] ∧ H' B = some (.lst xs) ∧ Rel2 (PrAt H') xs (cameL (((lim (z : Int) ds).take i).map (out ds)))) ⟨e0, [], _, rfl, upd_same, trivial⟩ (fun i σ' H' _ pv => SqL.of (pv.1 _ _ hC8)) (fun i x σ' H9 hx pv => ?_) (fun σ' H9 pv => ?_)
    · obtain ⟨e9, xs, o11, rfl, hB9, hxs⟩ := pv
      obtain ⟨es, hes, t, u, rfl, ht, hu⟩ := ro8.get hx
      replace ht := e9 _ _ ht
      rw [take_snoc hes, List.map_append, List.map_cons, List.map_nil, cameL_snoc]
      have hlen : xs.length ≤ 101 ^ 3 := by
        rw [hxs.len]
        have h1 := came_len (os := ((lim (z : Int) ds).take i).map (out ds)) (acc := [])
        rw [List.length_map, List.length_take, List.length_nil] at h1
        show ((((lim (z : Int) ds).take i).map (out ds)).foldl came1 []).length ≤ _
        omega
      cases ho : out ds es with
      | none =>
        rw [ho] at ht
        exact ⟨_, rfl, t, _, 0, .non, rfl, rfl, SqT.of ht, rfl, rfl, _, rfl, iteF (iteF ⟨e9, xs, _, rfl, hB9, hxs⟩)⟩
      | some km =>
        obtain ⟨k', m⟩ := km
        rw [ho] at ht
        refine ⟨_, rfl, t, _, 0, nI k', rfl, rfl, SqT.of ht, rfl, rfl, _, rfl, iteT ?_⟩
        refine ⟨_, rfl, t, _, 1, .int m, rfl, rfl, SqT.of ht, rfl, _, rfl, t, _, 0, nI k', rfl, rfl, SqT.of ht, rfl, by show 2 ≤ sizeLine; decide, fun pp hpp => ?_⟩
        have e3 := Ext.upd (o := .tup [.int m, nI k']) hpp
        have hxs3 := hxs.to (PrAt.k (Ext.kt e3))
        refine ⟨_, rfl, prD (m, k'), _, pr_dp ⟨pp, rfl, upd_same⟩, .lst (SqL.of (e3 _ _ hB9)) (prs_dp hxs3), pr_shp _, prs_shp _, _, rfl, ?_⟩
        rw [pr_any]
        unfold came1
        by_cases hin : (m, k') ∈ cameL (((lim (z : Int) ds).take i).map (out ds))
        · rw [decide_eq_true hin]
          dsimp only
          rw [if_pos hin]
          exact iteF ⟨e9.trans e3, xs, _, rfl, e3 _ _ hB9, hxs3⟩
        · rw [decide_eq_false hin]
          dsimp only
          rw [if_neg hin]
          have ht3 := e3 _ _ ht
          have hB3 := e3 _ _ hB9
          have e03 := e9.trans e3
          generalize upd H9 pp (.tup [.int m, nI k']) = H3 at hxs3 ht3 hB3 e03 ⊢
          refine iteT ⟨_, rfl, .inl ⟨rfl, _, SqL.of hB3⟩, _, rfl, t, _, 1, .int m, rfl, rfl, SqT.of ht3, rfl, _, rfl, t, _, 0, nI k', rfl, rfl, SqT.of ht3, rfl, by show 2 ≤ sizeLine; decide, fun p2 hp2 => ?_⟩
          have e4 := Ext.upd (o := .tup [.int m, nI k']) hp2
          have hB4 := e4 _ _ hB3
          have kt := kt_set (ys := xs ++ [.ref p2]) hB4
          refine ⟨B, xs, _, rfl, rfl, hB4, big_sz hlen, ext_mut (e03.trans e4) hB, xs ++ [.ref p2], _, rfl, upd_same, ?_⟩
          exact Rel2.cat (hxs3.to (PrAt.k ((Ext.kt e4).trans kt))) (Rel2.one ⟨p2, rfl, kt _ _ upd_same⟩)
    obtain ⟨e9, xc, o11, rfl, hB9, hxc⟩ := pv
    rw [los, List.take_length] at hxc
    have hxc9 : Rel2 (PrAt H9) xc (cameL (outs (z : Int) ds)) := hxc
    have nBb := st8.new hB
    have hS9 := hS8.ext e9
    have st9 := st8.ext e9
    have hW9 := hW8.ext e9
    have hR9 := hR8.ext e9
    have hL9 := e9 _ _ hL8
    have hC9 := e9 _ _ hC8
    have ry9 := ry8.to (RnAt.k (Ext.kt e9))
    have ro9 : Rel2 (RowAt H9) os (outs (z : Int) ds) := (RowS.outs ro8).to (RowAt.k (Ext.kt e9))
    clear hS8 st8 hW8 hR8 hL8 hC8 ry8 ro8 hxc e9 e0 hB
    -- the outcomes
    obtain ⟨hsame, hcount⟩ := came_ocs (z := (z : Int)) hf
    have hcl : (cameL (outs (z : Int) ds)).length ≤ 101 ^ 3 := by
      have h1 := came_len (os := outs (z : Int) ds) (acc := [])
      have h2 : (outs (z : Int) ds).length = (lim (z : Int) ds).length := List.length_map _
      rw [List.length_nil] at h1
      show ((outs (z : Int) ds).foldl came1 []).length ≤ _
      omega
    refine ⟨_, rfl, fun cs ad => ⟨p, ds, (z : Int), rfl, fun _ _ _ => trivial, fun _ _ _ _ h => h, hR9, by omega, hg, fun xo H10 e10 hxo G hG0 hG => ?_⟩⟩
    have e11 := e10.trans (Ext.upd (o := .lst xo) hG)
    have hG11 : upd H10 G (.lst xo) G = some (.lst xo) := upd_same
    have hxo11 := hxo.to (PrAt.k (Ext.kt (Ext.upd (o := .lst xo) hG)))
    have nGb := st9.new hG0
    have hS11 := hS9.ext e11
    have st11 := st9.ext e11
    have hW11 := hW9.ext e11
    have hR11 := hR9.ext e11
    have hL11 := e11 _ _ hL9
    have hC11 := e11 _ _ hC9
    have hB11 := e11 _ _ hB9
    have hxc11 := hxc9.to (PrAt.k (Ext.kt e11))
    have ry11 := ry9.to (RnAt.k (Ext.kt e11))
    have ro11 := ro9.to (RowAt.k (Ext.kt e11))
    clear hxo hxc9 hS9 st9 hW9 hR9 hL9 hC9 hB9 ry9 ro9 e11 e10 hG hG0
    generalize upd H10 G (.lst xo) = H11 at hG11 hxo11 hS11 st11 hW11 hR11 hL11 hC11 hB11 hxc11 ry11 ro11 ⊢
    have lxo : xo.length = xc.length := by rw [hxo11.len, hxc11.len, hcount]
    have lxc := hxc11.len
    refine ⟨_, rfl, G, xo, rfl, .inl (SqL.of hG11), _, rfl, B, xc, rfl, .inl (SqL.of hB11), rfl, _, rfl, ?_⟩
    rw [lxo, dvi, decide_eq_true rfl]
    refine iteF ⟨_, rfl, G, rfl, ⟨_, SqL.of hG11⟩, fun X hX => ?_⟩
    refine lc_list (xs := xo) (fun m H' => Ext H11 H' ∧ H' X = some (.lst ((List.replicate m true).map V.bl))) ⟨Ext.upd hX, upd_same⟩ (fun m H' _ pv => SqL.of (pv.1 _ _ hG11)) (fun m x H12 hx pv => ?_) (fun H12 pv => ?_)
    · obtain ⟨e12, hX12⟩ := pv
      obtain ⟨pr, hpr, hpx⟩ := hxo11.get hx
      have hml : m < xo.length := (List.getElem?_eq_some_iff.mp hx).1
      refine ⟨rfl, _, rfl, _, rfl, prD pr, _, pr_dp (PrAt.k (Ext.kt e12) _ _ hpx), .lst (SqL.of (e12 _ _ hB11)) (prs_dp (hxc11.to (PrAt.k (Ext.kt e12)))), pr_shp _, prs_shp _, _, hX12, big_sz ?_, ext_mut e12 hX, ?_⟩
      · rw [List.length_map, List.length_replicate]
        omega
      · rw [pr_any, decide_eq_true ((hsame pr).mp (List.mem_of_getElem? hpr)), upd_same, List.replicate_succ', List.map_append]
        rfl
    obtain ⟨e12, hX12⟩ := pv
    refine ⟨X, _, rfl, SqL.of hX12, _, rfl, ?_⟩
    rw [show (List.replicate xo.length true).all id = true from List.all_eq_true.mpr fun c hc => (List.eq_of_mem_replicate hc)]
    refine iteF ?_
    have hG12 := e12 _ _ hG11
    have hxo12 := hxo11.to (PrAt.k (Ext.kt e12))
    have hS12 := hS11.ext e12
    have st12 := st11.ext e12
    have hW12 := hW11.ext e12
    have hR12 := hR11.ext e12
    have hL12 := e12 _ _ hL11
    have hC12 := e12 _ _ hC11
    have hB12 := e12 _ _ hB11
    have hxc12 := hxc11.to (PrAt.k (Ext.kt e12))
    have ry12 := ry11.to (RnAt.k (Ext.kt e12))
    have ro12 := ro11.to (RowAt.k (Ext.kt e12))
    clear hG11 hxo11 hS11 st11 hW11 hR11 hL11 hC11 hB11 hxc11 ry11 ro11 e12 hX12 hX
    -- they rise
    have hpw := (ocs_lt (wnL_up (ds := ds) (z := (z : Int)))).1
    refine ⟨_, rfl, G, xo, rfl, .inl (SqL.of hG12), _, _, rfl, rfl, _, rfl, ?_⟩
    have lx3 : xo.length ≤ 1030301 := by
      have : (101 : Nat) ^ 3 = 1030301 := by decide
      omega
    refine ⟨by omega, by omega, fun X hX => ?_⟩
    refine lc_range (lo := 0) (n := ((xo.length : Int) - 1).toNat) (fun m H' => Ext H12 H' ∧ H' X = some (.lst ((List.replicate m true).map V.bl))) ⟨Ext.upd hX, upd_same⟩ (fun j H13 hj pv => ?_) (fun H13 pv => ?_)
    · obtain ⟨e13, hX13⟩ := pv
      have hj1 : j + 1 < xo.length := by omega
      have hlo := hxo12.len
      obtain ⟨pr, hp1⟩ : ∃ pr, (ocs (wnL ds (z : Int)))[j]? = some pr := ⟨_, List.getElem?_eq_getElem (by omega)⟩
      obtain ⟨qr, hq1⟩ : ∃ qr, (ocs (wnL ds (z : Int)))[j + 1]? = some qr := ⟨_, List.getElem?_eq_getElem (by omega)⟩
      obtain ⟨x, hx, tx, rfl, htx⟩ := hxo12.got hp1
      obtain ⟨y, hy, ty, rfl, hty⟩ := hxo12.got hq1
      have hlt : lt2 pr qr = true := by
        have h := List.pairwise_iff_getElem.mp hpw j (j + 1) (by omega) (by omega) (Nat.lt_succ_self j)
        rw [List.getElem?_eq_getElem (by omega)] at hp1 hq1
        cases hp1
        cases hq1
        exact h
      rw [Int.zero_add]
      refine ⟨rfl, _, rfl, _, rfl, G, xo, ((j : Nat) : Int), .ref tx, rfl, rfl, SqL.of (e13 _ _ hG12), atI_nat hx, _, rfl, _, rfl, _, _, rfl, rfl, G, xo, ((j + 1 : Nat) : Int), .ref ty, rfl, rfl, SqL.of (e13 _ _ hG12), atI_nat hy, ?_⟩
      refine ⟨tx, ty, [pr.1, (pr.2 : Int)], [qr.1, (qr.2 : Int)], rfl, rfl, SqT.of (e13 _ _ htx), SqT.of (e13 _ _ hty), _, hX13, big_sz ?_, ext_mut e13 hX, ?_⟩
      · rw [List.length_map, List.length_replicate]
        omega
      · rw [lex2, hlt, upd_same, List.replicate_succ', List.map_append]
        rfl
    obtain ⟨e13, hX13⟩ := pv
    refine ⟨X, _, rfl, SqL.of hX13, _, rfl, ?_⟩
    rw [show (List.replicate ((xo.length : Int) - 1).toNat true).all id = true from List.all_eq_true.mpr fun c hc => (List.eq_of_mem_replicate hc)]
    refine iteF ?_
    have hS13 := hS12.ext e13
    have st13 := st12.ext e13
    have hW13 := hW12.ext e13
    have hR13 := hR12.ext e13
    have hL13 := e13 _ _ hL12
    have hC13 := e13 _ _ hC12
    have hB13 := e13 _ _ hB12
    have hxc13 := hxc12.to (PrAt.k (Ext.kt e13))
    have ry13 := ry12.to (RnAt.k (Ext.kt e13))
    have ro13 := ro12.to (RowAt.k (Ext.kt e13))
    clear hG12 hxo12 hS12 st12 hW12 hR12 hL12 hC12 hB12 hxc12 ry12 ro12 e13 hX13 hX hpw lxo lx3
    -- each way
    obtain ⟨qs13, hD13, rq13⟩ := id hW13
    refine ⟨_, rfl, D, qs13, rfl, .inl (SqL.of hD13), _, rfl, by omega, by rw [rq13.len]; omega, ?_⟩
    rw [rq13.len]
    refine for_range (n := ds.length) (fun i σ' H' => Ext H13 H' ∧ ∃ o12 o13, σ' = [some (.ref a), some (.ref b), some (.ref D), some (.int (z : Int)), some (.ref p), some (.ref L), some (.ref C), o7, o8, some (.ref G), some (.ref B), o11, o12, o13, none, none, none, none, none, none]) ⟨Ext.rfl', _, _, rfl⟩ (fun i σ' H14 hi pv => ?_) (fun σ' H14 pv => ?_)
    · obtain ⟨e14, o12, o13, rfl⟩ := pv
      rw [Int.zero_add]
      have hxc14 := hxc13.to (PrAt.k (Ext.kt e14))
      have hB14 := e14 _ _ hB13
      refine ⟨_, rfl, B, rfl, ⟨_, SqL.of hB14⟩, fun M2 hM2 => ?_⟩
      refine lc_list (xs := xc) (fun m H' => Ext H14 H' ∧ H' M2 = some (.lst ((mW ((cameL (outs (z : Int) ds)).take m) i).map V.int))) ⟨Ext.upd hM2, upd_same⟩ (fun m H' _ pv => SqL.of (pv.1 _ _ hB14)) (fun m x H15 hx pv => ?_) (fun H15 pv => ?_)
      · obtain ⟨e15, hM15⟩ := pv
        obtain ⟨pr, hpr, tq, rfl, htq⟩ := hxc14.get hx
        rw [take_snoc hpr, mW_snoc]
        refine ⟨tq, _, rfl, SqT.of (e15 _ _ htq), rfl, _, _, rfl, _, _, rfl, rfl, rfl, _, rfl, _, rfl, rfl, _, rfl, ?_⟩
        by_cases hw : pr.2 = i
        · rw [if_pos hw, show decide (nI pr.2 = V.int (i : Int)) = true from decide_eq_true (by rw [hw]; rfl)]
          refine iteT ⟨_, rfl, .inl ⟨_, rfl, _, hM15, big_sz ?_, ext_mut e15 hM2, ?_⟩⟩
          · rw [List.length_map]
            have h1 := mW_len (L := (cameL (outs (z : Int) ds)).take m) (w := i)
            rw [List.length_take] at h1
            omega
          · rw [upd_same, List.map_append]
            rfl
        · rw [if_neg hw, show decide (nI pr.2 = V.int (i : Int)) = false from decide_eq_false fun h => hw (by injection h with h; omega), List.append_nil]
          exact iteF ⟨e15, hM15⟩
      obtain ⟨e15, hM15⟩ := pv
      rw [lxc, List.take_length] at hM15
      have hnil := last_nil (z := (z : Int)) (w := i) hf
      have hmx := fun m => last_mx (z := (z : Int)) (w := i) (m := m) hf
      have hwin := wins_mW (z := (z : Int)) hf hi
      have hml : (mW (cameL (outs (z : Int) ds)) i).length ≤ 101 ^ 3 := Nat.le_trans mW_len hcl
      generalize mW (cameL (outs (z : Int) ds)) i = mm at hM15 hnil hmx hwin hml
      have e1315 := e14.trans e15
      have hR15 := hR13.ext e1315
      obtain ⟨dx15, T15, ws15, hp15, _⟩ := id hR15
      refine ⟨_, rfl, p, dx15, _, rfl, hp15, rfl, _, rfl, p, ds, (z : Int), _, .int (i : Int), rfl, hR15, hsm, hg, .int _, (fun h => by rw [bet_in hi] at h; cases h), fun w' hw' _ H16 e16 => ?_⟩
      obtain rfl : i = w' := by injection hw' with hw'; omega
      refine ⟨_, rfl, by show 0 ≤ sizeLine; decide, fun N hN => ?_⟩
      have e17 := e16.trans (Ext.upd (o := .lst []) hN)
      have hM17 := e17 _ _ hM15
      have hN17 : upd H16 N (.lst []) N = some (.lst []) := upd_same
      generalize upd H16 N (.lst []) = H17 at e17 hM17 hN17 ⊢
      have e1317 := e1315.trans e17
      refine eqD_lst (SqL.of hM17) (SqL.of hN17) (fl_ints _) (fun v hv => nomatch hv) ⟨_, rfl, ?_⟩
      rw [eqv_nil]
      by_cases hmm : mm = []
      · rw [decide_eq_true hmm]
        refine iteT ?_
        rw [hnil hmm]
        refine ⟨bV_sc none none, _, rfl, iteNS rfl ?_⟩
        have e18 : Ext H17 H17 := Ext.rfl'
        have hM18 := e18 _ _ hM17
        have hR18 := hR13.ext (e1317.trans e18)
        have e1318 := e1317.trans e18
        obtain ⟨dx18, T18, ws18, hp18, _⟩ := id hR18
        refine ⟨_, rfl, _, rfl, p, dx18, _, rfl, hp18, rfl, p, ds, (z : Int), rfl, hR18, hsm, hg, fun q1 H19 e19 hq1 => ?_⟩
        refine ⟨q1, _, rfl, .inr (SqT.of hq1), rfl, flat_nI _, _, rfl, by show 0 ≤ sizeLine; decide, fun N2 hN2 => ?_⟩
        have e20 := Ext.upd (o := .lst []) hN2
        refine neD_lst (SqL.of (e20 _ _ (e19 _ _ hM18))) (SqL.of upd_same) (fl_ints _) (fun v hv => nomatch hv) ⟨rfl, _, rfl, ?_⟩
        rw [eqv_nil, show inV (V.int (i : Int)) ((wins ds (z : Int)).map nI) = decide (i ∈ wins ds (z : Int)) from inV_nI i _]
        refine iteNS ?_ ⟨(e1318.trans e19).trans e20, _, _, rfl⟩
        rw [decide_eq_true hmm, decide_eq_false (fun h => hwin.mp h hmm)]
        rfl
      · rw [decide_eq_false hmm]
        refine iteF ⟨_, rfl, M2, rfl, ⟨_, SqL.of hM17⟩, fun G2 hG2 => ?_⟩
        refine lc_list (xs := mm.map V.int) (fun j H2 => Ext H17 H2 ∧ H2 G2 = some (.lst ((mm.take j).map V.int))) ⟨Ext.upd hG2, upd_same⟩ (fun j H2 _ pv => SqL.of (pv.1 _ _ hM17)) (fun j x H2 hx pv => ?_) (fun H2 pv => ?_)
        · obtain ⟨e2, ha⟩ := pv
          rw [List.getElem?_map] at hx
          obtain ⟨y, hj, rfl⟩ := Option.map_eq_some_iff.mp hx
          refine ⟨rfl, _, rfl, .inl ⟨_, rfl, _, ha, big_sz ?_, ext_mut e2 hG2, ?_⟩⟩
          · rw [List.length_map, List.length_take]
            omega
          · rw [upd_same, take_snoc hj, List.map_append]
            rfl
        · obtain ⟨e2, ha⟩ := pv
          rw [List.length_map, List.take_length] at ha
          refine ⟨G2, _, rfl, SqL.of ha, List.length_pos_iff.mpr hmm, fun m hm hmax => ?_⟩
          rw [hmx m hm hmax]
          refine ⟨bV_sc (some m) (some m), _, rfl, iteNS rfl ?_⟩
          have e18 : Ext H17 H2 := e2
          have hM18 := e18 _ _ hM17
          have hR18 := hR13.ext (e1317.trans e18)
          have e1318 := e1317.trans e18
          obtain ⟨dx18, T18, ws18, hp18, _⟩ := id hR18
          refine ⟨_, rfl, _, rfl, p, dx18, _, rfl, hp18, rfl, p, ds, (z : Int), rfl, hR18, hsm, hg, fun q1 H19 e19 hq1 => ?_⟩
          refine ⟨q1, _, rfl, .inr (SqT.of hq1), rfl, flat_nI _, _, rfl, by show 0 ≤ sizeLine; decide, fun N2 hN2 => ?_⟩
          have e20 := Ext.upd (o := .lst []) hN2
          refine neD_lst (SqL.of (e20 _ _ (e19 _ _ hM18))) (SqL.of upd_same) (fl_ints _) (fun v hv => nomatch hv) ⟨rfl, _, rfl, ?_⟩
          rw [eqv_nil, show inV (V.int (i : Int)) ((wins ds (z : Int)).map nI) = decide (i ∈ wins ds (z : Int)) from inV_nI i _]
          refine iteNS ?_ ⟨(e1318.trans e19).trans e20, _, _, rfl⟩
          rw [decide_eq_false hmm, decide_eq_true (hwin.mpr hmm)]
          rfl
    obtain ⟨e14, o12, o13, rfl⟩ := pv
    have hS14 := hS13.ext e14
    have st14 := st13.ext e14
    have hW14 := hW13.ext e14
    have hR14 := hR13.ext e14
    have hL14 := e14 _ _ hL13
    have hC14 := e14 _ _ hC13
    have hB14 := e14 _ _ hB13
    have hxc14 := hxc13.to (PrAt.k (Ext.kt e14))
    have ry14 := ry13.to (RnAt.k (Ext.kt e14))
    have ro14 := ro13.to (RowAt.k (Ext.kt e14))
    clear hS13 st13 hW13 hR13 hL13 hC13 hB13 hxc13 ry13 ro13 e14 hD13 rq13
    have lou : (outs (z : Int) ds).length = os.length := ro14.len.symm
    have hbo := outs_len (z := (z : Int)) hg l3
    refine ⟨_, rfl, C, rfl, ⟨_, SqL.of hC14⟩, fun X hX => ?_⟩
    refine lc_list (xs := os) (fun m H' => Ext H14 H' ∧ H' X = some (.lst ((((outs (z : Int) ds).take m).map Option.isNone).map V.bl))) ⟨Ext.upd hX, upd_same⟩ (fun m H' _ pv => SqL.of (pv.1 _ _ hC14)) (fun m x H15 hx pv => ?_) (fun H15 pv => ?_)
    · obtain ⟨e15, hX15⟩ := pv
      obtain ⟨o, ho, t, u, rfl, ht⟩ := ro14.get hx
      have ht15 := SqT.of (K := K) (e15 _ _ ht)
      have hsz : ((((outs (z : Int) ds).take m).map Option.isNone).map V.bl).length < sizeLine := big_sz (by
        rw [List.length_map, List.length_map, List.length_take]
        omega)
      rw [take_snoc ho, List.map_append, List.map_append]
      cases o with
      | none => exact ⟨rfl, _, rfl, t, _, 0, .non, rfl, rfl, ht15, rfl, rfl, _, hX15, hsz, ext_mut e15 hX, by rw [upd_same]; rfl⟩
      | some km =>
        obtain ⟨k', m'⟩ := km
        exact ⟨rfl, _, rfl, t, _, 0, nI k', rfl, rfl, ht15, rfl, rfl, _, hX15, hsz, ext_mut e15 hX, by rw [upd_same]; rfl⟩
    obtain ⟨e15, hX15⟩ := pv
    rw [← lou, List.take_length] at hX15
    have hR15 := hR14.ext e15
    obtain ⟨dx15, T15, ws15, hp15, _⟩ := id hR15
    refine ⟨X, _, rfl, SqL.of hX15, _, rfl, ?_⟩
    have hany : (((outs (z : Int) ds).map Option.isNone).any id) = decide (none ∈ outs (z : Int) ds) := by
      rw [List.any_map, Bool.eq_iff_iff, List.any_eq_true, decide_eq_true_eq]
      constructor
      · rintro ⟨o, h1, h2⟩
        cases o with
        | none => exact h1
        | some x => cases h2
      · exact fun h => ⟨none, h, rfl⟩
    rw [hany]
    by_cases hn : none ∈ outs (z : Int) ds
    · rw [decide_eq_true hn]
      refine iteT ⟨_, rfl, p, dx15, _, rfl, hp15, rfl, p, ds, (z : Int), rfl, hR15, hsm, z00, fun E H16 hperm hsrt e16 => ?_⟩
      rw [latest_is hf z00 hperm hsrt (lt := none) (fun _ => rfl) (fun h => absurd hn h)]
      exact ⟨rfl, k _⟩
    rw [decide_eq_false hn]
    refine iteF ?_
    have hxc15 := hxc14.to (PrAt.k (Ext.kt e15))
    refine ⟨_, rfl, by show 0 ≤ sizeLine; decide, fun N hN => ?_⟩
    have e16 := Ext.upd (o := .lst []) hN
    have hN16 : upd H15 N (.lst []) N = some (.lst []) := upd_same
    refine ⟨.list ((cameL (outs (z : Int) ds)).map prD), .list [], .lst (SqL.of (e16 _ _ (e15 _ _ hB14))) (prs_dp (hxc15.to (PrAt.k (Ext.kt e16)))), .lst (SqL.of hN16) .nil, prs_shp _, prs_shp [], _, rfl, ?_⟩
    rw [prs_nil]
    by_cases hc0 : cameL (outs (z : Int) ds) = []
    · rw [decide_eq_true hc0]
      exact iteT (k _)
    rw [decide_eq_false hc0]
    refine iteF ?_
    have e1416 := e15.trans e16
    have hpos : 1 ≤ xc.length := by
      rw [lxc]
      exact List.length_pos_iff.mpr hc0
    refine ⟨_, rfl, _, rfl, _, rfl, _, rfl, B, xc, rfl, .inl (SqL.of (e1416 _ _ hB14)), a, b, ns, (xc.length : Int), rfl, hS14.ext e1416, nab, st14.ext e1416, by omega, by omega, fun n H17 n0 n1 st17 x17 => ?_⟩
    obtain ⟨j, rfl⟩ : ∃ j : Nat, n = (j : Int) := ⟨n.toNat, by omega⟩
    have x1417 := (Ext.b (b := b) e1416).trans x17
    obtain ⟨v, hv⟩ : ∃ v, xc[j]? = some v := ⟨_, List.getElem?_eq_getElem (by omega)⟩
    obtain ⟨⟨t, w⟩, hpr, tq, rfl, htq⟩ := hxc14.get hv
    have kt17 := kt_b st14 x1417
    have hB17 := x1417 B _ nBb hB14
    have hR17 := race_b st14 x1417 hR14
    have hW17 := wl_b st14 hW14 nDb x1417
    have hL17 := x1417 L _ nLb hL14
    have hC17 := x1417 C _ nCb hC14
    have hxc17 := hxc14.to (PrAt.k kt17)
    have ry17 := ry14.to (RnAt.k kt17)
    have ro17 := ro14.to (RowAt.k kt17)
    refine ⟨B, xc, (j : Int), .ref tq, rfl, rfl, SqL.of hB17, atI_nat hv, tq, _, rfl, SqT.of (kt17 _ _ htq), rfl, _, _, rfl, _, _, rfl, rfl, ?_⟩
    clear hS14 st14 hW14 hR14 hL14 hC14 hB14 hxc14 ry14 ro14 hxc15 hN16 e16 e1416 e15 hR15 hp15 hN hX hX15
    have hcan : can ds (z : Int) w t = true := (mem_outs hf).mp (mem_came.mp (List.mem_of_getElem? hpr))
    have hwl : w < ds.length := has_lt (can_iff.mp hcan).1
    refine ⟨_, rfl, _, rfl, _, rfl, p, ds, (z : Int), w, t, rfl, hR17, hsm, hwl, (fun h => by rw [hcan] at h; cases h), fun _ T1 a1 b1 H18 e18 hT1 ha1 hb1 => ?_⟩
    refine ⟨_, rfl, _, rfl, _, rfl, _, rfl, _, rfl, D, L, C, ds, (z : Int), ys, os, w, t, rfl, hW17.ext e18, hg, l3, e18 _ _ hL17, ry17.to (RnAt.k (Ext.kt e18)), e18 _ _ hC17, ro17.to (RowAt.k (Ext.kt e18)), hcan, fun T2 a2 b2 H19 e19 hT2 ha2 hb2 => ?_⟩
    refine ⟨_, _, pair_dp (e19 _ _ hT1) (e19 _ _ ha1) (e19 _ _ hb1), pair_dp hT2 ha2 hb2, pair_shp _ _, pair_shp _ _, _, rfl, ?_⟩
    rw [pair_eqv]
    refine iteF ?_
    have hR19 := (hR17.ext e18).ext e19
    obtain ⟨dx19, T19, ws19, hp19, _⟩ := id hR19
    refine ⟨_, rfl, p, dx19, _, rfl, hp19, rfl, p, ds, (z : Int), rfl, hR19, hsm, z00, fun E H20 hperm hsrt e20 => ?_⟩
    have e1720 := (e18.trans e19).trans e20
    have hB20 := e1720 _ _ hB17
    have hxc20 := hxc17.to (PrAt.k (Ext.kt e1720))
    refine ⟨_, rfl, B, rfl, ⟨_, SqL.of hB20⟩, fun X hX => ?_⟩
    refine lc_list (xs := xc) (fun m H' => Ext H20 H' ∧ H' X = some (.lst ((((cameL (outs (z : Int) ds)).take m).map Prod.fst).map V.int))) ⟨Ext.upd hX, upd_same⟩ (fun m H' _ pv => SqL.of (pv.1 _ _ hB20)) (fun m x H21 hx pv => ?_) (fun H21 pv => ?_)
    · obtain ⟨e21, hX21⟩ := pv
      obtain ⟨pr, hpr, tr, rfl, htr⟩ := hxc20.get hx
      refine ⟨tr, _, rfl, SqT.of (e21 _ _ htr), rfl, _, _, rfl, _, _, rfl, rfl, rfl, _, rfl, .inl ⟨_, rfl, _, hX21, big_sz ?_, ext_mut e21 hX, ?_⟩⟩
      · rw [List.length_map, List.length_map, List.length_take]
        omega
      · rw [upd_same, take_snoc hpr, List.map_append, List.map_append]
        rfl
    obtain ⟨e21, hX21⟩ := pv
    rw [lxc, List.take_length] at hX21
    refine ⟨X, _, rfl, SqL.of hX21, ?_, fun m hm hmax => ?_⟩
    · rw [List.length_map]
      exact List.length_pos_iff.mpr hc0
    · obtain ⟨⟨t', w'⟩, hmem, rfl⟩ := List.mem_map.mp hm
      rw [latest_is hf z00 hperm hsrt (lt := some t') (fun h => absurd h hn) (fun _ => ⟨t', rfl, ⟨w', mem_came.mp hmem⟩, fun w2 t2 h2 => hmax _ (List.mem_map.mpr ⟨(t2, w2), mem_came.mpr h2, rfl⟩)⟩)]
      refine ⟨bV_sc (some t') (some t'), ?_⟩
      rw [show decide (bV (some t') = V.int t') = true from decide_eq_true rfl]
      exact k _
end
end K18

set_option Elab.async false
set_option maxRecDepth 100000
set_option maxHeartbeats 4000000
namespace K65
open PySem PySem.Spec PyProof.Rows L2 K18
section
variable {P : Program} {w : World} {K : PySem.W.Frag} {mg : Str → Option Value} {base : Heap} {A : Ad}
theorem kit_ref {B C : Addr} {b : Bool} (i : PySem.W.isClsIn K C = true) (t : PySem.W.typeIn K (.ref C) = some (.type "type")) (s : PySem.W.subIn K (.ref B) (.ref C) = some b) (ss : PySem.W.subIn K (.ref B) (.ref B) = some true) : PySem.W.kitOne K (.ref B) (.ref C) = some b := by
  by_cases h : B = C
  · subst h
    rw [ss] at s
    cases s
    exact if_pos (beq_self_eq_true _)
  · have e : ((PySem.W.clsIn K C).isSome && PySem.W.typeIn K (.ref C) == some (.type "type")) = true := by
      have h1 : (PySem.W.clsIn K C).isSome = true := i
      rw [h1, t]
      rfl
    show (if (Value.ref B == Value.ref C) = true then some true else if ((PySem.W.clsIn K C).isSome && PySem.W.typeIn K (.ref C) == some (.type "type")) = true then PySem.W.subIn K (.ref B) (.ref C) else none) = some b
    rw [if_pos e]
    have hne : ¬ ((Value.ref B == Value.ref C) = true) := fun z => by
      have z' := eq_of_beq z
      injection z' with z'
      exact h z'
    rw [if_neg hne]
    exact s
theorem exm_ref {B C : Addr} {b : Bool} (x : PySem.W.subIn K (.ref C) (.type "BaseException") = some true) (i : PySem.W.isClsIn K C = true) (t : PySem.W.typeIn K (.ref C) = some (.type "type")) (s : PySem.W.subIn K (.ref B) (.ref C) = some b) : PySem.W.exmOne K (.ref B) (.ref C) = some b := by
  unfold PySem.W.exmOne PySem.W.kitCls
  have i' : (PySem.W.clsIn K C).isSome = true := i
  rw [x]
  dsimp only
  rw [i', t, s]
  rfl
theorem ve_one {W : Addr} : PySem.HandSPX.refsVE [.ref W, .type "ValueError", .type "Exception", .type "BaseException", .type "object"] = true := by
  show PySem.HandSPX.refsVE [.type "ValueError", .type "Exception", .type "BaseException", .type "object"] = true
  decide +kernel
theorem law_ok (T : Txt K mg A) (D_is_integer : DefAt K mg "is_integer" s_is_integer pm_is_integer) (D_is_between : DefAt K mg "is_between" s_is_between pm_is_between) (D_is_index : DefAt K mg "is_index" s_is_index pm_is_index) (D_is_list : DefAt K mg "is_list" s_is_list pm_is_list) (D_is_list_of : DefAt K mg "is_list_of" s_is_list_of pm_is_list_of) (D_is_tuple_of : DefAt K mg "is_tuple_of" s_is_tuple_of pm_is_tuple_of) (D_greater : DefAt K mg "greater" s_greater pm_greater) (D_is_begin : DefAt K mg "is_begin" s_is_begin pm_is_begin) (D_are_delays : DefAt K mg "are_delays" s_are_delays pm_are_delays) (D_is_box : DefAt K mg "is_box" s_is_box pm_is_box) (D_check_ways : DefAt K mg "check_ways" s_check_ways pm_check_ways) (D_check_silent : DefAt K mg "check_silent" s_check_silent pm_check_silent) (D_check_way : DefAt K mg "check_way" s_check_way pm_check_way) (D_fits : DefAt K mg "fits" s_fits pm_fits) (D_wrong_of : DefAt K mg "wrong_of" s_wrong_of pm_wrong_of) (D_outcome_of : DefAt K mg "outcome_of" s_outcome_of pm_outcome_of) (D_played : DefAt K mg "played" s_played pm_played) (D_outcomes : DefAt K mg "outcomes" s_outcomes pm_outcomes) (D_run_count : DefAt K mg "run_count" s_run_count pm_run_count) (D_check_win : DefAt K mg "check_win" s_check_win pm_check_win) (D_silent_after : DefAt K mg "silent_after" s_silent_after pm_silent_after) (D__law_start : DefAt K mg "_law_start" s__law_start pm__law_start) (D__law_draw : DefAt K mg "_law_draw" s__law_draw pm__law_draw) (D__law_ways : DefAt K mg "_law_ways" s__law_ways pm__law_ways) (D__law_all_runs : DefAt K mg "_law_all_runs" s__law_all_runs pm__law_all_runs) (D__law_quiet_ways : DefAt K mg "_law_quiet_ways" s__law_quiet_ways pm__law_quiet_ways) (D__law_outcome : DefAt K mg "_law_outcome" s__law_outcome pm__law_outcome) (D__law_silences : DefAt K mg "_law_silences" s__law_silences pm__law_silences)
    (M_Way_window : MethAt K A.Way "window" "Way.window" s_Way_window pm_Way_window) (M_Way_eq : MethAt K A.Way "__eq__" "Way.__eq__" s_Way_eq pm_Way_eq) (M_Race_init : MethAt K A.Race "__init__" "Race.__init__" s_Race_init pm_Race_init) (M_Race_planned : MethAt K A.Race "planned" "Race.planned" s_Race_planned pm_Race_planned) (M_Race_hurried : MethAt K A.Race "hurried" "Race.hurried" s_Race_hurried pm_Race_hurried) (M_Race_can_win : MethAt K A.Race "can_win" "Race.can_win" s_Race_can_win pm_Race_can_win) (M_Race_last_win : MethAt K A.Race "last_win" "Race.last_win" s_Race_last_win pm_Race_last_win) (M_Race_winners : MethAt K A.Race "winners" "Race.winners" s_Race_winners pm_Race_winners) (M_Race_latest : MethAt K A.Race "latest" "Race.latest" s_Race_latest pm_Race_latest) (M_Race_eq : MethAt K A.Race "__eq__" "Race.__eq__" s_Race_eq pm_Race_eq) (M_Outcome_init : MethAt K A.Outcome "__init__" "Outcome.__init__" s_Outcome_init pm_Outcome_init) (M_Outcome_eq : MethAt K A.Outcome "__eq__" "Outcome.__eq__" s_Outcome_eq pm_Outcome_eq) (m1_Race : PySem.W.makesIn K A.Race = true) (m2_Race : PySem.W.keepIn K (.ref A.Race) = true) (m1_Outcome : PySem.W.makesIn K A.Outcome = true) (m2_Outcome : PySem.W.keepIn K (.ref A.Outcome) = true)
    {fi : Addr} {fdi : FuncData} (FI : FunD K "__init__" "Way.__init__" (defArgs s_Way_init) (defBody s_Way_init) (defScope s_Way_init) [.ref A.T0] [] fi fdi) (MI : Mk K A.Way fi) (B4 : Binds K fdi pm_Way_init []) {d3 : List Value} (V3 : Vals [.ref A.T0] d3) (B3 : Binds K fdi pm_Way_init d3)
    {f : Addr} {fd : FuncData} (F : Fun K "law" "law" s_law f fd) : FnOk P w K mg base CX0 15 f fd pm_law (spLaw K) := by
  have X_BadPart : XCls P w K mg base "BadPart" "part" A.BadPart := T.BadPart.cls fun _ _ F => ok_xp F T
  have X_BadBox : XCls P w K mg base "BadBox" "index" A.BadBox := T.BadBox.cls fun _ _ F => ok_xb F T
  have X_NoWay : XCls P w K mg base "NoWay" "way" A.NoWay := T.NoWay.cls fun _ _ F => ok_xn F T
  have X_CannotWin : XCls P w K mg base "CannotWin" "way" A.CannotWin := T.CannotWin.cls fun _ _ F => ok_xc F T

  have O_is_integer : Own P w K mg base CX0 "is_integer" 1 pm_is_integer (spInteger K) := D_is_integer.own fun f fd F => ok_integer F T
  have O_is_between : Own P w K mg base CX0 "is_between" 2 pm_is_between (spBetween K) := D_is_between.own fun f fd F => ok_between F O_is_integer
  have O_is_list : Own P w K mg base CX0 "is_list" 1 pm_is_list (spIsList K) := D_is_list.own fun f fd F => ok_isList F T
  have O_is_list_of : Own P w K mg base CX0 "is_list_of" 2 pm_is_list_of (spListOf K) := D_is_list_of.own fun f fd F => ok_listOf F T O_is_list
  have O_is_tuple_of : Own P w K mg base CX0 "is_tuple_of" 1 pm_is_tuple_of (spTupleOf K) := D_is_tuple_of.own fun f fd F => ok_tupleOf F T
  have O_is_begin : Own P w K mg base CX0 "is_begin" 3 pm_is_begin (spBegin K) := D_is_begin.own fun f fd F => ok_begin F T O_is_between
  have O_are_delays : Own P w K mg base CX0 "are_delays" 3 pm_are_delays (spDelays K) := D_are_delays.own fun f fd F => ok_delays F T O_is_between
  have O_is_box : Own P w K mg base CX0 "is_box" 3 pm_is_box (spBoxOk K) := D_is_box.own fun f fd F => ok_box F T O_is_between O_is_tuple_of
  have GI_Way : FnOk P w K mg base (L2.CX P w) 5 fi fdi pm_Way_init (spWayInit K A) := ok_wayInit FI T O_is_begin O_are_delays O_is_list_of O_is_box X_BadPart X_BadBox
  have O_Way3 : OwnCD P w K mg base (L2.CX P w) "Way" A.Way 5 pm_Way_init (spWayInit K A) [.ref A.T0] := ⟨fi, fdi, d3, GI_Way, MI, T.Way.gC, B3, V3⟩
  have O_Way_window : OwnM P w K mg base CX0 A.Way "window" 1 pm_Way_window (spWindow K A) := M_Way_window.own fun f fd F => ok_window F T
  have O_Way_eq : OwnM P w K mg base CX0 A.Way "__eq__" 1 pm_Way_eq (spWayEq K A) := M_Way_eq.own fun f fd F => ok_wayEq F T
  have O_check_ways : Own P w K mg base (L2.CX P w) "check_ways" 4 pm_check_ways (spCheckWays K A) := D_check_ways.own fun f fd F => ok_checkWays F T O_is_list_of X_BadPart
  have O_check_silent : Own P w K mg base (L2.CX P w) "check_silent" 4 pm_check_silent (spCheckSilent K A) := D_check_silent.own fun f fd F => ok_checkSilent F T O_is_between X_BadPart
  have O_is_index : Own P w K mg base CX0 "is_index" 3 pm_is_index (spIndex K) := D_is_index.own fun f fd F => ok_index F O_is_between
  have O_Race : OwnC P w K mg base (L2.CX P w) "Race" A.Race 6 pm_Race_init (spRaceInit K A) := M_Race_init.cls (fun f fd F => ok_raceInit F T O_check_ways O_check_silent) m1_Race m2_Race T.Race.gC
  have O_Race_eq : OwnM P w K mg base CX0 A.Race "__eq__" 4 pm_Race_eq (spRaceEq K A) := M_Race_eq.own fun f fd F => ok_raceEq F T O_Way_eq
  have O__law_start : Own P w K mg base CX0 "_law_start" 1 pm__law_start (spStart K) := D__law_start.own fun f fd F => ok_start F T
  have O__law_draw : Own P w K mg base CX0 "_law_draw" 1 pm__law_draw (spDrawB K) := D__law_draw.own fun f fd F => ok_draw F T
  have O__law_ways : Own P w K mg base CX0 "_law_ways" 2 pm__law_ways (spWaysB K) := D__law_ways.own fun f fd F => ok_ways F T O__law_draw
  have O_Race_planned : OwnM P w K mg base CX0 A.Race "planned" 2 pm_Race_planned (spPlanned K A) := M_Race_planned.own fun f fd F => ok_planned F T
  have O_check_way : Own P w K mg base (L2.CX P w) "check_way" 5 pm_check_way (spChk K A) := D_check_way.own fun f fd F => ok_checkWay F T O_is_index X_NoWay
  have O_Race_hurried : OwnM P w K mg base (L2.CX P w) A.Race "hurried" 7 pm_Race_hurried (spHur K A) := M_Race_hurried.own fun f fd F => ok_hurried F T O_check_way O_Race_planned O_Way_window
  have O_Race_can_win : OwnM P w K mg base (L2.CX P w) A.Race "can_win" 8 pm_Race_can_win (spCan K A) := M_Race_can_win.own fun f fd F => ok_canWin F T O_check_way O_Race_hurried O_Way_window O_is_integer
  have O_Race_last_win : OwnM P w K mg base (L2.CX P w) A.Race "last_win" 9 pm_Race_last_win (spLast K A) := M_Race_last_win.own fun f fd F => ok_lastWin F T O_check_way O_Race_can_win O_Way_window
  have O_Race_winners : OwnM P w K mg base CX0 A.Race "winners" 10 pm_Race_winners (spWins K A) := M_Race_winners.own fun f fd F => ok_winners F T O_Race_last_win
  have O_Race_latest : OwnM P w K mg base CX0 A.Race "latest" 3 pm_Race_latest (spLatest K A) := M_Race_latest.own fun f fd F => ok_latest F T O_Race_planned O_Way_window
  have O__law_quiet_ways : Own P w K mg base CX0 "_law_quiet_ways" 1 pm__law_quiet_ways spQuiet := D__law_quiet_ways.own fun f fd F => ok_quiet F T
  have O__law_all_runs : Own P w K mg base CX0 "_law_all_runs" 2 pm__law_all_runs spAll := D__law_all_runs.own fun f fd F => ok_allRuns F T O__law_quiet_ways
  have O__law_outcome : Own P w K mg base CX0 "_law_outcome" 1 pm__law_outcome spOut := D__law_outcome.own fun f fd F => ok_outcome F T
  have O_Outcome : OwnC P w K mg base CX0 "Outcome" A.Outcome 1 pm_Outcome_init (spOInit A) := M_Outcome_init.cls (fun f fd F => ok_oInit F T) m1_Outcome m2_Outcome T.Outcome.gC
  have O_greater : Own P w K mg base CX0 "greater" 1 pm_greater spGreater := D_greater.own fun f fd F => ok_greater F T
  have O_fits : Own P w K mg base CX0 "fits" 3 pm_fits (spFits K A) := D_fits.own fun f fd F => ok_fits F T O_is_between O_is_tuple_of
  have O_wrong_of : Own P w K mg base CX0 "wrong_of" 4 pm_wrong_of (spWrong K A) := D_wrong_of.own fun f fd F => ok_wrong F T O_greater O_fits O_Race_planned
  have O_outcome_of : Own P w K mg base CX0 "outcome_of" 4 pm_outcome_of (spOutOf K A) := D_outcome_of.own fun f fd F => ok_outOf F T O_Race_planned O_Outcome
  have O_played : Own P w K mg base CX0 "played" 5 pm_played (spPlayed K A) := D_played.own fun f fd F => ok_played F T O_wrong_of O_outcome_of
  have O_run_count : Own P w K mg base CX0 "run_count" 4 pm_run_count (spCount K A) := D_run_count.own fun f fd F => ok_count F T O_Race_planned
  have O_check_win : Own P w K mg base (L2.CX P w) "check_win" 9 pm_check_win (spCheckWin K A) := D_check_win.own fun f fd F => ok_checkWin F T O_Race_can_win X_CannotWin
  have O_silent_after : Own P w K mg base (L2.CX P w) "silent_after" 10 pm_silent_after (spSilent K A) := D_silent_after.own fun f fd F => ok_silent F T O_check_win O_Race_hurried O_Race_planned
  have O_outcomesL : OwnG P w K mg base "outcomes" 11 pm_outcomes (spOutc K A) := D_outcomes.ownG fun f fd F => ok_outc F T O_Race_winners O_Way_window O_Race_last_win
  have O__law_silences : Own P w K mg base CX0 "_law_silences" 1 pm__law_silences spSils := D__law_silences.own fun f fd F => ok_sils F T
  have O_outcomes : OwnG3 P w K mg base "outcomes" 11 pm_outcomes (spOutc3 K A) := D_outcomes.ownG3 fun f fd F => ok_outc3 F T O_Race_winners O_Way_window O_Race_last_win
  exact ok_law F T O__law_start O__law_draw O__law_ways O_Way3 O_Race O__law_all_runs O_run_count O__law_outcome O_played O_outcomes O_Race_last_win O_Race_winners O_Race_latest O_silent_after O__law_silences
end
theorem all_mk {P : Program} {w : World} {K : PySem.W.Frag} {h : Heap} {mg : Str → Option Value} {fa  Td AT0 ABadPart ABadBox ANoWay ACannotWin AWholeError AWay ARace AOutcome f_is_integer f_is_between f_is_index f_is_list f_is_list_of f_is_tuple_of f_greater f_is_begin f_are_delays f_is_box f_check_ways f_check_silent f_check_way f_fits f_wrong_of f_outcome_of f_played f_outcomes f_run_count f_check_win f_silent_after f__law_start f__law_draw f__law_ways f__law_all_runs f__law_quiet_ways f__law_outcome f__law_silences f_law f_BadPart_init f_BadBox_init f_NoWay_init f_CannotWin_init f_Way_init f_Way_window f_Way_eq f_Race_init f_Race_planned f_Race_hurried f_Race_can_win f_Race_last_win f_Race_winners f_Race_latest f_Race_eq f_Outcome_init f_Outcome_eq : Addr} (X : K.In h) (G : h.Ns mainGlobals mg) (hfa : mg "law" = some (.ref fa))
    {od_is_integer an_is_integer od_is_between an_is_between od_is_index an_is_index od_is_list an_is_list od_is_list_of an_is_list_of od_is_tuple_of an_is_tuple_of od_greater an_greater od_is_begin an_is_begin od_are_delays an_are_delays od_is_box an_is_box od_check_ways an_check_ways od_check_silent an_check_silent od_check_way an_check_way od_fits an_fits od_wrong_of an_wrong_of od_outcome_of an_outcome_of od_played an_played od_outcomes an_outcomes od_run_count an_run_count od_check_win an_check_win od_silent_after an_silent_after od__law_start an__law_start od__law_draw an__law_draw od__law_ways an__law_ways od__law_all_runs an__law_all_runs od__law_quiet_ways an__law_quiet_ways od__law_outcome an__law_outcome od__law_silences an__law_silences od_law an_law od_BadPart_init an_BadPart_init od_BadBox_init an_BadBox_init od_NoWay_init an_NoWay_init od_CannotWin_init an_CannotWin_init od_Way_init an_Way_init od_Way_window an_Way_window od_Way_eq an_Way_eq od_Race_init an_Race_init od_Race_planned an_Race_planned od_Race_hurried an_Race_hurried od_Race_can_win an_Race_can_win od_Race_last_win an_Race_last_win od_Race_winners an_Race_winners od_Race_latest an_Race_latest od_Race_eq an_Race_eq od_Outcome_init an_Outcome_init od_Outcome_eq an_Outcome_eq ddt edt : Option Addr} {sl_is_integer sl_is_between sl_is_index sl_is_list sl_is_list_of sl_is_tuple_of sl_greater sl_is_begin sl_are_delays sl_is_box sl_check_ways sl_check_silent sl_check_way sl_fits sl_wrong_of sl_outcome_of sl_played sl_outcomes sl_run_count sl_check_win sl_silent_after sl__law_start sl__law_draw sl__law_ways sl__law_all_runs sl__law_quiet_ways sl__law_outcome sl__law_silences sl_law sl_BadPart_init sl_BadBox_init sl_NoWay_init sl_CannotWin_init sl_Way_init sl_Way_window sl_Way_eq sl_Race_init sl_Race_planned sl_Race_hurried sl_Race_can_win sl_Race_last_win sl_Race_winners sl_Race_latest sl_Race_eq sl_Outcome_init sl_Outcome_eq dsl esl : Array (Option Value)} {oc_is_integer kV_is_integer dc_is_integer pm_is_integer_ cd_is_integer ct_is_integer oc_is_between kV_is_between dc_is_between pm_is_between_ cd_is_between ct_is_between oc_is_index kV_is_index dc_is_index pm_is_index_ cd_is_index ct_is_index oc_is_list kV_is_list dc_is_list pm_is_list_ cd_is_list ct_is_list oc_is_list_of kV_is_list_of dc_is_list_of pm_is_list_of_ cd_is_list_of ct_is_list_of oc_is_tuple_of kV_is_tuple_of dc_is_tuple_of pm_is_tuple_of_ cd_is_tuple_of ct_is_tuple_of oc_greater kV_greater dc_greater pm_greater_ cd_greater ct_greater oc_is_begin kV_is_begin dc_is_begin pm_is_begin_ cd_is_begin ct_is_begin oc_are_delays kV_are_delays dc_are_delays pm_are_delays_ cd_are_delays ct_are_delays oc_is_box kV_is_box dc_is_box pm_is_box_ cd_is_box ct_is_box oc_check_ways kV_check_ways dc_check_ways pm_check_ways_ cd_check_ways ct_check_ways oc_check_silent kV_check_silent dc_check_silent pm_check_silent_ cd_check_silent ct_check_silent oc_check_way kV_check_way dc_check_way pm_check_way_ cd_check_way ct_check_way oc_fits kV_fits dc_fits pm_fits_ cd_fits ct_fits oc_wrong_of kV_wrong_of dc_wrong_of pm_wrong_of_ cd_wrong_of ct_wrong_of oc_outcome_of kV_outcome_of dc_outcome_of pm_outcome_of_ cd_outcome_of ct_outcome_of oc_played kV_played dc_played pm_played_ cd_played ct_played oc_outcomes kV_outcomes dc_outcomes pm_outcomes_ cd_outcomes ct_outcomes oc_run_count kV_run_count dc_run_count pm_run_count_ cd_run_count ct_run_count oc_check_win kV_check_win dc_check_win pm_check_win_ cd_check_win ct_check_win oc_silent_after kV_silent_after dc_silent_after pm_silent_after_ cd_silent_after ct_silent_after oc__law_start kV__law_start dc__law_start pm__law_start_ cd__law_start ct__law_start oc__law_draw kV__law_draw dc__law_draw pm__law_draw_ cd__law_draw ct__law_draw oc__law_ways kV__law_ways dc__law_ways pm__law_ways_ cd__law_ways ct__law_ways oc__law_all_runs kV__law_all_runs dc__law_all_runs pm__law_all_runs_ cd__law_all_runs ct__law_all_runs oc__law_quiet_ways kV__law_quiet_ways dc__law_quiet_ways pm__law_quiet_ways_ cd__law_quiet_ways ct__law_quiet_ways oc__law_outcome kV__law_outcome dc__law_outcome pm__law_outcome_ cd__law_outcome ct__law_outcome oc__law_silences kV__law_silences dc__law_silences pm__law_silences_ cd__law_silences ct__law_silences oc_law kV_law dc_law pm_law_ cd_law ct_law oc_BadPart_init kV_BadPart_init dc_BadPart_init pm_BadPart_init_ cd_BadPart_init ct_BadPart_init oc_BadBox_init kV_BadBox_init dc_BadBox_init pm_BadBox_init_ cd_BadBox_init ct_BadBox_init oc_NoWay_init kV_NoWay_init dc_NoWay_init pm_NoWay_init_ cd_NoWay_init ct_NoWay_init oc_CannotWin_init kV_CannotWin_init dc_CannotWin_init pm_CannotWin_init_ cd_CannotWin_init ct_CannotWin_init oc_Way_init kV_Way_init dc_Way_init pm_Way_init_ cd_Way_init ct_Way_init oc_Way_window kV_Way_window dc_Way_window pm_Way_window_ cd_Way_window ct_Way_window oc_Way_eq kV_Way_eq dc_Way_eq pm_Way_eq_ cd_Way_eq ct_Way_eq oc_Race_init kV_Race_init dc_Race_init pm_Race_init_ cd_Race_init ct_Race_init oc_Race_planned kV_Race_planned dc_Race_planned pm_Race_planned_ cd_Race_planned ct_Race_planned oc_Race_hurried kV_Race_hurried dc_Race_hurried pm_Race_hurried_ cd_Race_hurried ct_Race_hurried oc_Race_can_win kV_Race_can_win dc_Race_can_win pm_Race_can_win_ cd_Race_can_win ct_Race_can_win oc_Race_last_win kV_Race_last_win dc_Race_last_win pm_Race_last_win_ cd_Race_last_win ct_Race_last_win oc_Race_winners kV_Race_winners dc_Race_winners pm_Race_winners_ cd_Race_winners ct_Race_winners oc_Race_latest kV_Race_latest dc_Race_latest pm_Race_latest_ cd_Race_latest ct_Race_latest oc_Race_eq kV_Race_eq dc_Race_eq pm_Race_eq_ cd_Race_eq ct_Race_eq oc_Outcome_init kV_Outcome_init dc_Outcome_init pm_Outcome_init_ cd_Outcome_init ct_Outcome_init oc_Outcome_eq kV_Outcome_eq dc_Outcome_eq pm_Outcome_eq_ cd_Outcome_eq ct_Outcome_eq dcl : Value} {t_MOST_BEGIN t_MOST_DELAY t_MOST_BOXES t_MOST_KEEP t_MOST_WAYS t_MOST_SILENT : Tok} {dn en : Nat}
    {xBadPart_nm xBadPart_q : Str} {xBadPart_N : Addr} {xBadPart_bs : List Value} {xBadPart_sn : List Str} {xBadPart_sub : List Value} {xBadPart_ab : Bool} {xBadPart_col : Option Bool} {xBadPart_dd : Option Addr} {xBadPart_m0 xBadPart_m1 xBadPart_m2 xBadPart_m3 xBadPart_m5 : Option Value}
    {xBadBox_nm xBadBox_q : Str} {xBadBox_N : Addr} {xBadBox_bs : List Value} {xBadBox_sn : List Str} {xBadBox_sub : List Value} {xBadBox_ab : Bool} {xBadBox_col : Option Bool} {xBadBox_dd : Option Addr} {xBadBox_m0 xBadBox_m1 xBadBox_m2 xBadBox_m3 xBadBox_m5 : Option Value}
    {xNoWay_nm xNoWay_q : Str} {xNoWay_N : Addr} {xNoWay_bs : List Value} {xNoWay_sn : List Str} {xNoWay_sub : List Value} {xNoWay_ab : Bool} {xNoWay_col : Option Bool} {xNoWay_dd : Option Addr} {xNoWay_m0 xNoWay_m1 xNoWay_m2 xNoWay_m3 xNoWay_m5 : Option Value}
    {xCannotWin_nm xCannotWin_q : Str} {xCannotWin_N : Addr} {xCannotWin_bs : List Value} {xCannotWin_sn : List Str} {xCannotWin_sub : List Value} {xCannotWin_ab : Bool} {xCannotWin_col : Option Bool} {xCannotWin_dd : Option Addr} {xCannotWin_m0 xCannotWin_m1 xCannotWin_m2 xCannotWin_m3 xCannotWin_m5 : Option Value}
    (g_BadPart : PySem.W.nsIn K mainGlobals "BadPart" = some (some (.ref ABadPart)))
    (g_BadBox : PySem.W.nsIn K mainGlobals "BadBox" = some (some (.ref ABadBox)))
    (g_NoWay : PySem.W.nsIn K mainGlobals "NoWay" = some (some (.ref ANoWay)))
    (g_CannotWin : PySem.W.nsIn K mainGlobals "CannotWin" = some (some (.ref ACannotWin)))
    (g_WholeError : PySem.W.nsIn K mainGlobals "WholeError" = some (some (.ref AWholeError)))
    (g_Way : PySem.W.nsIn K mainGlobals "Way" = some (some (.ref AWay)))
    (g_Race : PySem.W.nsIn K mainGlobals "Race" = some (some (.ref ARace)))
    (g_Outcome : PySem.W.nsIn K mainGlobals "Outcome" = some (some (.ref AOutcome)))
    (a_is_integer : PySem.W.nsIn K mainGlobals "is_integer" = some (some (.ref f_is_integer)))
    (l_is_integer : K.lookup f_is_integer = some ⟨oc_is_integer, od_is_integer, .func (PySem.W.fnOf "is_integer" "is_integer" (defArgs s_is_integer) (defBody s_is_integer) (defScope s_is_integer) .none kV_is_integer dc_is_integer pm_is_integer_ an_is_integer cd_is_integer ct_is_integer), sl_is_integer⟩)
    (c_is_integer : PySem.W.codeIn K cd_is_integer "is_integer" = true)
    (k_is_integer : PySem.W.keepIn K (.ref f_is_integer) = true)
    (a_is_between : PySem.W.nsIn K mainGlobals "is_between" = some (some (.ref f_is_between)))
    (l_is_between : K.lookup f_is_between = some ⟨oc_is_between, od_is_between, .func (PySem.W.fnOf "is_between" "is_between" (defArgs s_is_between) (defBody s_is_between) (defScope s_is_between) .none kV_is_between dc_is_between pm_is_between_ an_is_between cd_is_between ct_is_between), sl_is_between⟩)
    (c_is_between : PySem.W.codeIn K cd_is_between "is_between" = true)
    (k_is_between : PySem.W.keepIn K (.ref f_is_between) = true)
    (a_is_index : PySem.W.nsIn K mainGlobals "is_index" = some (some (.ref f_is_index)))
    (l_is_index : K.lookup f_is_index = some ⟨oc_is_index, od_is_index, .func (PySem.W.fnOf "is_index" "is_index" (defArgs s_is_index) (defBody s_is_index) (defScope s_is_index) .none kV_is_index dc_is_index pm_is_index_ an_is_index cd_is_index ct_is_index), sl_is_index⟩)
    (c_is_index : PySem.W.codeIn K cd_is_index "is_index" = true)
    (k_is_index : PySem.W.keepIn K (.ref f_is_index) = true)
    (a_is_list : PySem.W.nsIn K mainGlobals "is_list" = some (some (.ref f_is_list)))
    (l_is_list : K.lookup f_is_list = some ⟨oc_is_list, od_is_list, .func (PySem.W.fnOf "is_list" "is_list" (defArgs s_is_list) (defBody s_is_list) (defScope s_is_list) .none kV_is_list dc_is_list pm_is_list_ an_is_list cd_is_list ct_is_list), sl_is_list⟩)
    (c_is_list : PySem.W.codeIn K cd_is_list "is_list" = true)
    (k_is_list : PySem.W.keepIn K (.ref f_is_list) = true)
    (a_is_list_of : PySem.W.nsIn K mainGlobals "is_list_of" = some (some (.ref f_is_list_of)))
    (l_is_list_of : K.lookup f_is_list_of = some ⟨oc_is_list_of, od_is_list_of, .func (PySem.W.fnOf "is_list_of" "is_list_of" (defArgs s_is_list_of) (defBody s_is_list_of) (defScope s_is_list_of) .none kV_is_list_of dc_is_list_of pm_is_list_of_ an_is_list_of cd_is_list_of ct_is_list_of), sl_is_list_of⟩)
    (c_is_list_of : PySem.W.codeIn K cd_is_list_of "is_list_of" = true)
    (k_is_list_of : PySem.W.keepIn K (.ref f_is_list_of) = true)
    (a_is_tuple_of : PySem.W.nsIn K mainGlobals "is_tuple_of" = some (some (.ref f_is_tuple_of)))
    (l_is_tuple_of : K.lookup f_is_tuple_of = some ⟨oc_is_tuple_of, od_is_tuple_of, .func (PySem.W.fnOf "is_tuple_of" "is_tuple_of" (defArgs s_is_tuple_of) (defBody s_is_tuple_of) (defScope s_is_tuple_of) .none kV_is_tuple_of dc_is_tuple_of pm_is_tuple_of_ an_is_tuple_of cd_is_tuple_of ct_is_tuple_of), sl_is_tuple_of⟩)
    (c_is_tuple_of : PySem.W.codeIn K cd_is_tuple_of "is_tuple_of" = true)
    (k_is_tuple_of : PySem.W.keepIn K (.ref f_is_tuple_of) = true)
    (a_greater : PySem.W.nsIn K mainGlobals "greater" = some (some (.ref f_greater)))
    (l_greater : K.lookup f_greater = some ⟨oc_greater, od_greater, .func (PySem.W.fnOf "greater" "greater" (defArgs s_greater) (defBody s_greater) (defScope s_greater) .none kV_greater dc_greater pm_greater_ an_greater cd_greater ct_greater), sl_greater⟩)
    (c_greater : PySem.W.codeIn K cd_greater "greater" = true)
    (k_greater : PySem.W.keepIn K (.ref f_greater) = true)
    (a_is_begin : PySem.W.nsIn K mainGlobals "is_begin" = some (some (.ref f_is_begin)))
    (l_is_begin : K.lookup f_is_begin = some ⟨oc_is_begin, od_is_begin, .func (PySem.W.fnOf "is_begin" "is_begin" (defArgs s_is_begin) (defBody s_is_begin) (defScope s_is_begin) .none kV_is_begin dc_is_begin pm_is_begin_ an_is_begin cd_is_begin ct_is_begin), sl_is_begin⟩)
    (c_is_begin : PySem.W.codeIn K cd_is_begin "is_begin" = true)
    (k_is_begin : PySem.W.keepIn K (.ref f_is_begin) = true)
    (a_are_delays : PySem.W.nsIn K mainGlobals "are_delays" = some (some (.ref f_are_delays)))
    (l_are_delays : K.lookup f_are_delays = some ⟨oc_are_delays, od_are_delays, .func (PySem.W.fnOf "are_delays" "are_delays" (defArgs s_are_delays) (defBody s_are_delays) (defScope s_are_delays) .none kV_are_delays dc_are_delays pm_are_delays_ an_are_delays cd_are_delays ct_are_delays), sl_are_delays⟩)
    (c_are_delays : PySem.W.codeIn K cd_are_delays "are_delays" = true)
    (k_are_delays : PySem.W.keepIn K (.ref f_are_delays) = true)
    (a_is_box : PySem.W.nsIn K mainGlobals "is_box" = some (some (.ref f_is_box)))
    (l_is_box : K.lookup f_is_box = some ⟨oc_is_box, od_is_box, .func (PySem.W.fnOf "is_box" "is_box" (defArgs s_is_box) (defBody s_is_box) (defScope s_is_box) .none kV_is_box dc_is_box pm_is_box_ an_is_box cd_is_box ct_is_box), sl_is_box⟩)
    (c_is_box : PySem.W.codeIn K cd_is_box "is_box" = true)
    (k_is_box : PySem.W.keepIn K (.ref f_is_box) = true)
    (a_check_ways : PySem.W.nsIn K mainGlobals "check_ways" = some (some (.ref f_check_ways)))
    (l_check_ways : K.lookup f_check_ways = some ⟨oc_check_ways, od_check_ways, .func (PySem.W.fnOf "check_ways" "check_ways" (defArgs s_check_ways) (defBody s_check_ways) (defScope s_check_ways) .none kV_check_ways dc_check_ways pm_check_ways_ an_check_ways cd_check_ways ct_check_ways), sl_check_ways⟩)
    (c_check_ways : PySem.W.codeIn K cd_check_ways "check_ways" = true)
    (k_check_ways : PySem.W.keepIn K (.ref f_check_ways) = true)
    (a_check_silent : PySem.W.nsIn K mainGlobals "check_silent" = some (some (.ref f_check_silent)))
    (l_check_silent : K.lookup f_check_silent = some ⟨oc_check_silent, od_check_silent, .func (PySem.W.fnOf "check_silent" "check_silent" (defArgs s_check_silent) (defBody s_check_silent) (defScope s_check_silent) .none kV_check_silent dc_check_silent pm_check_silent_ an_check_silent cd_check_silent ct_check_silent), sl_check_silent⟩)
    (c_check_silent : PySem.W.codeIn K cd_check_silent "check_silent" = true)
    (k_check_silent : PySem.W.keepIn K (.ref f_check_silent) = true)
    (a_check_way : PySem.W.nsIn K mainGlobals "check_way" = some (some (.ref f_check_way)))
    (l_check_way : K.lookup f_check_way = some ⟨oc_check_way, od_check_way, .func (PySem.W.fnOf "check_way" "check_way" (defArgs s_check_way) (defBody s_check_way) (defScope s_check_way) .none kV_check_way dc_check_way pm_check_way_ an_check_way cd_check_way ct_check_way), sl_check_way⟩)
    (c_check_way : PySem.W.codeIn K cd_check_way "check_way" = true)
    (k_check_way : PySem.W.keepIn K (.ref f_check_way) = true)
    (a_fits : PySem.W.nsIn K mainGlobals "fits" = some (some (.ref f_fits)))
    (l_fits : K.lookup f_fits = some ⟨oc_fits, od_fits, .func (PySem.W.fnOf "fits" "fits" (defArgs s_fits) (defBody s_fits) (defScope s_fits) .none kV_fits dc_fits pm_fits_ an_fits cd_fits ct_fits), sl_fits⟩)
    (c_fits : PySem.W.codeIn K cd_fits "fits" = true)
    (k_fits : PySem.W.keepIn K (.ref f_fits) = true)
    (a_wrong_of : PySem.W.nsIn K mainGlobals "wrong_of" = some (some (.ref f_wrong_of)))
    (l_wrong_of : K.lookup f_wrong_of = some ⟨oc_wrong_of, od_wrong_of, .func (PySem.W.fnOf "wrong_of" "wrong_of" (defArgs s_wrong_of) (defBody s_wrong_of) (defScope s_wrong_of) .none kV_wrong_of dc_wrong_of pm_wrong_of_ an_wrong_of cd_wrong_of ct_wrong_of), sl_wrong_of⟩)
    (c_wrong_of : PySem.W.codeIn K cd_wrong_of "wrong_of" = true)
    (k_wrong_of : PySem.W.keepIn K (.ref f_wrong_of) = true)
    (a_outcome_of : PySem.W.nsIn K mainGlobals "outcome_of" = some (some (.ref f_outcome_of)))
    (l_outcome_of : K.lookup f_outcome_of = some ⟨oc_outcome_of, od_outcome_of, .func (PySem.W.fnOf "outcome_of" "outcome_of" (defArgs s_outcome_of) (defBody s_outcome_of) (defScope s_outcome_of) .none kV_outcome_of dc_outcome_of pm_outcome_of_ an_outcome_of cd_outcome_of ct_outcome_of), sl_outcome_of⟩)
    (c_outcome_of : PySem.W.codeIn K cd_outcome_of "outcome_of" = true)
    (k_outcome_of : PySem.W.keepIn K (.ref f_outcome_of) = true)
    (a_played : PySem.W.nsIn K mainGlobals "played" = some (some (.ref f_played)))
    (l_played : K.lookup f_played = some ⟨oc_played, od_played, .func (PySem.W.fnOf "played" "played" (defArgs s_played) (defBody s_played) (defScope s_played) .none kV_played dc_played pm_played_ an_played cd_played ct_played), sl_played⟩)
    (c_played : PySem.W.codeIn K cd_played "played" = true)
    (k_played : PySem.W.keepIn K (.ref f_played) = true)
    (a_outcomes : PySem.W.nsIn K mainGlobals "outcomes" = some (some (.ref f_outcomes)))
    (l_outcomes : K.lookup f_outcomes = some ⟨oc_outcomes, od_outcomes, .func (PySem.W.fnOf "outcomes" "outcomes" (defArgs s_outcomes) (defBody s_outcomes) (defScope s_outcomes) .none kV_outcomes dc_outcomes pm_outcomes_ an_outcomes cd_outcomes ct_outcomes), sl_outcomes⟩)
    (c_outcomes : PySem.W.codeIn K cd_outcomes "outcomes" = true)
    (k_outcomes : PySem.W.keepIn K (.ref f_outcomes) = true)
    (a_run_count : PySem.W.nsIn K mainGlobals "run_count" = some (some (.ref f_run_count)))
    (l_run_count : K.lookup f_run_count = some ⟨oc_run_count, od_run_count, .func (PySem.W.fnOf "run_count" "run_count" (defArgs s_run_count) (defBody s_run_count) (defScope s_run_count) .none kV_run_count dc_run_count pm_run_count_ an_run_count cd_run_count ct_run_count), sl_run_count⟩)
    (c_run_count : PySem.W.codeIn K cd_run_count "run_count" = true)
    (k_run_count : PySem.W.keepIn K (.ref f_run_count) = true)
    (a_check_win : PySem.W.nsIn K mainGlobals "check_win" = some (some (.ref f_check_win)))
    (l_check_win : K.lookup f_check_win = some ⟨oc_check_win, od_check_win, .func (PySem.W.fnOf "check_win" "check_win" (defArgs s_check_win) (defBody s_check_win) (defScope s_check_win) .none kV_check_win dc_check_win pm_check_win_ an_check_win cd_check_win ct_check_win), sl_check_win⟩)
    (c_check_win : PySem.W.codeIn K cd_check_win "check_win" = true)
    (k_check_win : PySem.W.keepIn K (.ref f_check_win) = true)
    (a_silent_after : PySem.W.nsIn K mainGlobals "silent_after" = some (some (.ref f_silent_after)))
    (l_silent_after : K.lookup f_silent_after = some ⟨oc_silent_after, od_silent_after, .func (PySem.W.fnOf "silent_after" "silent_after" (defArgs s_silent_after) (defBody s_silent_after) (defScope s_silent_after) .none kV_silent_after dc_silent_after pm_silent_after_ an_silent_after cd_silent_after ct_silent_after), sl_silent_after⟩)
    (c_silent_after : PySem.W.codeIn K cd_silent_after "silent_after" = true)
    (k_silent_after : PySem.W.keepIn K (.ref f_silent_after) = true)
    (a__law_start : PySem.W.nsIn K mainGlobals "_law_start" = some (some (.ref f__law_start)))
    (l__law_start : K.lookup f__law_start = some ⟨oc__law_start, od__law_start, .func (PySem.W.fnOf "_law_start" "_law_start" (defArgs s__law_start) (defBody s__law_start) (defScope s__law_start) .none kV__law_start dc__law_start pm__law_start_ an__law_start cd__law_start ct__law_start), sl__law_start⟩)
    (c__law_start : PySem.W.codeIn K cd__law_start "_law_start" = true)
    (k__law_start : PySem.W.keepIn K (.ref f__law_start) = true)
    (a__law_draw : PySem.W.nsIn K mainGlobals "_law_draw" = some (some (.ref f__law_draw)))
    (l__law_draw : K.lookup f__law_draw = some ⟨oc__law_draw, od__law_draw, .func (PySem.W.fnOf "_law_draw" "_law_draw" (defArgs s__law_draw) (defBody s__law_draw) (defScope s__law_draw) .none kV__law_draw dc__law_draw pm__law_draw_ an__law_draw cd__law_draw ct__law_draw), sl__law_draw⟩)
    (c__law_draw : PySem.W.codeIn K cd__law_draw "_law_draw" = true)
    (k__law_draw : PySem.W.keepIn K (.ref f__law_draw) = true)
    (a__law_ways : PySem.W.nsIn K mainGlobals "_law_ways" = some (some (.ref f__law_ways)))
    (l__law_ways : K.lookup f__law_ways = some ⟨oc__law_ways, od__law_ways, .func (PySem.W.fnOf "_law_ways" "_law_ways" (defArgs s__law_ways) (defBody s__law_ways) (defScope s__law_ways) .none kV__law_ways dc__law_ways pm__law_ways_ an__law_ways cd__law_ways ct__law_ways), sl__law_ways⟩)
    (c__law_ways : PySem.W.codeIn K cd__law_ways "_law_ways" = true)
    (k__law_ways : PySem.W.keepIn K (.ref f__law_ways) = true)
    (a__law_all_runs : PySem.W.nsIn K mainGlobals "_law_all_runs" = some (some (.ref f__law_all_runs)))
    (l__law_all_runs : K.lookup f__law_all_runs = some ⟨oc__law_all_runs, od__law_all_runs, .func (PySem.W.fnOf "_law_all_runs" "_law_all_runs" (defArgs s__law_all_runs) (defBody s__law_all_runs) (defScope s__law_all_runs) .none kV__law_all_runs dc__law_all_runs pm__law_all_runs_ an__law_all_runs cd__law_all_runs ct__law_all_runs), sl__law_all_runs⟩)
    (c__law_all_runs : PySem.W.codeIn K cd__law_all_runs "_law_all_runs" = true)
    (k__law_all_runs : PySem.W.keepIn K (.ref f__law_all_runs) = true)
    (a__law_quiet_ways : PySem.W.nsIn K mainGlobals "_law_quiet_ways" = some (some (.ref f__law_quiet_ways)))
    (l__law_quiet_ways : K.lookup f__law_quiet_ways = some ⟨oc__law_quiet_ways, od__law_quiet_ways, .func (PySem.W.fnOf "_law_quiet_ways" "_law_quiet_ways" (defArgs s__law_quiet_ways) (defBody s__law_quiet_ways) (defScope s__law_quiet_ways) .none kV__law_quiet_ways dc__law_quiet_ways pm__law_quiet_ways_ an__law_quiet_ways cd__law_quiet_ways ct__law_quiet_ways), sl__law_quiet_ways⟩)
    (c__law_quiet_ways : PySem.W.codeIn K cd__law_quiet_ways "_law_quiet_ways" = true)
    (k__law_quiet_ways : PySem.W.keepIn K (.ref f__law_quiet_ways) = true)
    (a__law_outcome : PySem.W.nsIn K mainGlobals "_law_outcome" = some (some (.ref f__law_outcome)))
    (l__law_outcome : K.lookup f__law_outcome = some ⟨oc__law_outcome, od__law_outcome, .func (PySem.W.fnOf "_law_outcome" "_law_outcome" (defArgs s__law_outcome) (defBody s__law_outcome) (defScope s__law_outcome) .none kV__law_outcome dc__law_outcome pm__law_outcome_ an__law_outcome cd__law_outcome ct__law_outcome), sl__law_outcome⟩)
    (c__law_outcome : PySem.W.codeIn K cd__law_outcome "_law_outcome" = true)
    (k__law_outcome : PySem.W.keepIn K (.ref f__law_outcome) = true)
    (a__law_silences : PySem.W.nsIn K mainGlobals "_law_silences" = some (some (.ref f__law_silences)))
    (l__law_silences : K.lookup f__law_silences = some ⟨oc__law_silences, od__law_silences, .func (PySem.W.fnOf "_law_silences" "_law_silences" (defArgs s__law_silences) (defBody s__law_silences) (defScope s__law_silences) .none kV__law_silences dc__law_silences pm__law_silences_ an__law_silences cd__law_silences ct__law_silences), sl__law_silences⟩)
    (c__law_silences : PySem.W.codeIn K cd__law_silences "_law_silences" = true)
    (k__law_silences : PySem.W.keepIn K (.ref f__law_silences) = true)
    (a_law : PySem.W.nsIn K mainGlobals "law" = some (some (.ref f_law)))
    (l_law : K.lookup f_law = some ⟨oc_law, od_law, .func (PySem.W.fnOf "law" "law" (defArgs s_law) (defBody s_law) (defScope s_law) .none kV_law dc_law pm_law_ an_law cd_law ct_law), sl_law⟩)
    (c_law : PySem.W.codeIn K cd_law "law" = true)
    (k_law : PySem.W.keepIn K (.ref f_law) = true)
    (a_BadPart_init : PySem.W.findIn K (.ref ABadPart) "__init__" = some (some (.ref f_BadPart_init)))
    (i_BadPart_init : PySem.W.typeIn K (.ref f_BadPart_init) = some (.type "function"))
    (l_BadPart_init : K.lookup f_BadPart_init = some ⟨oc_BadPart_init, od_BadPart_init, .func (PySem.W.fnOf "__init__" "BadPart.__init__" (defArgs s_BadPart_init) (defBody s_BadPart_init) (defScope s_BadPart_init) .none kV_BadPart_init dc_BadPart_init pm_BadPart_init_ an_BadPart_init cd_BadPart_init ct_BadPart_init), sl_BadPart_init⟩)
    (c_BadPart_init : PySem.W.codeIn K cd_BadPart_init "BadPart.__init__" = true)
    (k_BadPart_init : PySem.W.keepIn K (.ref f_BadPart_init) = true)
    (a_BadBox_init : PySem.W.findIn K (.ref ABadBox) "__init__" = some (some (.ref f_BadBox_init)))
    (i_BadBox_init : PySem.W.typeIn K (.ref f_BadBox_init) = some (.type "function"))
    (l_BadBox_init : K.lookup f_BadBox_init = some ⟨oc_BadBox_init, od_BadBox_init, .func (PySem.W.fnOf "__init__" "BadBox.__init__" (defArgs s_BadBox_init) (defBody s_BadBox_init) (defScope s_BadBox_init) .none kV_BadBox_init dc_BadBox_init pm_BadBox_init_ an_BadBox_init cd_BadBox_init ct_BadBox_init), sl_BadBox_init⟩)
    (c_BadBox_init : PySem.W.codeIn K cd_BadBox_init "BadBox.__init__" = true)
    (k_BadBox_init : PySem.W.keepIn K (.ref f_BadBox_init) = true)
    (a_NoWay_init : PySem.W.findIn K (.ref ANoWay) "__init__" = some (some (.ref f_NoWay_init)))
    (i_NoWay_init : PySem.W.typeIn K (.ref f_NoWay_init) = some (.type "function"))
    (l_NoWay_init : K.lookup f_NoWay_init = some ⟨oc_NoWay_init, od_NoWay_init, .func (PySem.W.fnOf "__init__" "NoWay.__init__" (defArgs s_NoWay_init) (defBody s_NoWay_init) (defScope s_NoWay_init) .none kV_NoWay_init dc_NoWay_init pm_NoWay_init_ an_NoWay_init cd_NoWay_init ct_NoWay_init), sl_NoWay_init⟩)
    (c_NoWay_init : PySem.W.codeIn K cd_NoWay_init "NoWay.__init__" = true)
    (k_NoWay_init : PySem.W.keepIn K (.ref f_NoWay_init) = true)
    (a_CannotWin_init : PySem.W.findIn K (.ref ACannotWin) "__init__" = some (some (.ref f_CannotWin_init)))
    (i_CannotWin_init : PySem.W.typeIn K (.ref f_CannotWin_init) = some (.type "function"))
    (l_CannotWin_init : K.lookup f_CannotWin_init = some ⟨oc_CannotWin_init, od_CannotWin_init, .func (PySem.W.fnOf "__init__" "CannotWin.__init__" (defArgs s_CannotWin_init) (defBody s_CannotWin_init) (defScope s_CannotWin_init) .none kV_CannotWin_init dc_CannotWin_init pm_CannotWin_init_ an_CannotWin_init cd_CannotWin_init ct_CannotWin_init), sl_CannotWin_init⟩)
    (c_CannotWin_init : PySem.W.codeIn K cd_CannotWin_init "CannotWin.__init__" = true)
    (k_CannotWin_init : PySem.W.keepIn K (.ref f_CannotWin_init) = true)
    (a_Way_init : PySem.W.findIn K (.ref AWay) "__init__" = some (some (.ref f_Way_init)))
    (i_Way_init : PySem.W.isFn K (.ref f_Way_init) = true)
    (l_Way_init : K.lookup f_Way_init = some ⟨oc_Way_init, od_Way_init, .func (PySem.W.fnOf "__init__" "Way.__init__" (defArgs s_Way_init) (defBody s_Way_init) (defScope s_Way_init) (.ref Td) kV_Way_init dc_Way_init pm_Way_init_ an_Way_init cd_Way_init ct_Way_init), sl_Way_init⟩)
    (c_Way_init : PySem.W.codeIn K cd_Way_init "Way.__init__" = true)
    (k_Way_init : PySem.W.keepIn K (.ref f_Way_init) = true)
    (a_Way_window : PySem.W.findIn K (.ref AWay) "window" = some (some (.ref f_Way_window)))
    (i_Way_window : PySem.W.isFn K (.ref f_Way_window) = true)
    (l_Way_window : K.lookup f_Way_window = some ⟨oc_Way_window, od_Way_window, .func (PySem.W.fnOf "window" "Way.window" (defArgs s_Way_window) (defBody s_Way_window) (defScope s_Way_window) .none kV_Way_window dc_Way_window pm_Way_window_ an_Way_window cd_Way_window ct_Way_window), sl_Way_window⟩)
    (c_Way_window : PySem.W.codeIn K cd_Way_window "Way.window" = true)
    (k_Way_window : PySem.W.keepIn K (.ref f_Way_window) = true)
    (a_Way_eq : PySem.W.findIn K (.ref AWay) "__eq__" = some (some (.ref f_Way_eq)))
    (i_Way_eq : PySem.W.isFn K (.ref f_Way_eq) = true)
    (l_Way_eq : K.lookup f_Way_eq = some ⟨oc_Way_eq, od_Way_eq, .func (PySem.W.fnOf "__eq__" "Way.__eq__" (defArgs s_Way_eq) (defBody s_Way_eq) (defScope s_Way_eq) .none kV_Way_eq dc_Way_eq pm_Way_eq_ an_Way_eq cd_Way_eq ct_Way_eq), sl_Way_eq⟩)
    (c_Way_eq : PySem.W.codeIn K cd_Way_eq "Way.__eq__" = true)
    (k_Way_eq : PySem.W.keepIn K (.ref f_Way_eq) = true)
    (a_Race_init : PySem.W.findIn K (.ref ARace) "__init__" = some (some (.ref f_Race_init)))
    (i_Race_init : PySem.W.isFn K (.ref f_Race_init) = true)
    (l_Race_init : K.lookup f_Race_init = some ⟨oc_Race_init, od_Race_init, .func (PySem.W.fnOf "__init__" "Race.__init__" (defArgs s_Race_init) (defBody s_Race_init) (defScope s_Race_init) .none kV_Race_init dc_Race_init pm_Race_init_ an_Race_init cd_Race_init ct_Race_init), sl_Race_init⟩)
    (c_Race_init : PySem.W.codeIn K cd_Race_init "Race.__init__" = true)
    (k_Race_init : PySem.W.keepIn K (.ref f_Race_init) = true)
    (a_Race_planned : PySem.W.findIn K (.ref ARace) "planned" = some (some (.ref f_Race_planned)))
    (i_Race_planned : PySem.W.isFn K (.ref f_Race_planned) = true)
    (l_Race_planned : K.lookup f_Race_planned = some ⟨oc_Race_planned, od_Race_planned, .func (PySem.W.fnOf "planned" "Race.planned" (defArgs s_Race_planned) (defBody s_Race_planned) (defScope s_Race_planned) .none kV_Race_planned dc_Race_planned pm_Race_planned_ an_Race_planned cd_Race_planned ct_Race_planned), sl_Race_planned⟩)
    (c_Race_planned : PySem.W.codeIn K cd_Race_planned "Race.planned" = true)
    (k_Race_planned : PySem.W.keepIn K (.ref f_Race_planned) = true)
    (a_Race_hurried : PySem.W.findIn K (.ref ARace) "hurried" = some (some (.ref f_Race_hurried)))
    (i_Race_hurried : PySem.W.isFn K (.ref f_Race_hurried) = true)
    (l_Race_hurried : K.lookup f_Race_hurried = some ⟨oc_Race_hurried, od_Race_hurried, .func (PySem.W.fnOf "hurried" "Race.hurried" (defArgs s_Race_hurried) (defBody s_Race_hurried) (defScope s_Race_hurried) .none kV_Race_hurried dc_Race_hurried pm_Race_hurried_ an_Race_hurried cd_Race_hurried ct_Race_hurried), sl_Race_hurried⟩)
    (c_Race_hurried : PySem.W.codeIn K cd_Race_hurried "Race.hurried" = true)
    (k_Race_hurried : PySem.W.keepIn K (.ref f_Race_hurried) = true)
    (a_Race_can_win : PySem.W.findIn K (.ref ARace) "can_win" = some (some (.ref f_Race_can_win)))
    (i_Race_can_win : PySem.W.isFn K (.ref f_Race_can_win) = true)
    (l_Race_can_win : K.lookup f_Race_can_win = some ⟨oc_Race_can_win, od_Race_can_win, .func (PySem.W.fnOf "can_win" "Race.can_win" (defArgs s_Race_can_win) (defBody s_Race_can_win) (defScope s_Race_can_win) .none kV_Race_can_win dc_Race_can_win pm_Race_can_win_ an_Race_can_win cd_Race_can_win ct_Race_can_win), sl_Race_can_win⟩)
    (c_Race_can_win : PySem.W.codeIn K cd_Race_can_win "Race.can_win" = true)
    (k_Race_can_win : PySem.W.keepIn K (.ref f_Race_can_win) = true)
    (a_Race_last_win : PySem.W.findIn K (.ref ARace) "last_win" = some (some (.ref f_Race_last_win)))
    (i_Race_last_win : PySem.W.isFn K (.ref f_Race_last_win) = true)
    (l_Race_last_win : K.lookup f_Race_last_win = some ⟨oc_Race_last_win, od_Race_last_win, .func (PySem.W.fnOf "last_win" "Race.last_win" (defArgs s_Race_last_win) (defBody s_Race_last_win) (defScope s_Race_last_win) .none kV_Race_last_win dc_Race_last_win pm_Race_last_win_ an_Race_last_win cd_Race_last_win ct_Race_last_win), sl_Race_last_win⟩)
    (c_Race_last_win : PySem.W.codeIn K cd_Race_last_win "Race.last_win" = true)
    (k_Race_last_win : PySem.W.keepIn K (.ref f_Race_last_win) = true)
    (a_Race_winners : PySem.W.findIn K (.ref ARace) "winners" = some (some (.ref f_Race_winners)))
    (i_Race_winners : PySem.W.isFn K (.ref f_Race_winners) = true)
    (l_Race_winners : K.lookup f_Race_winners = some ⟨oc_Race_winners, od_Race_winners, .func (PySem.W.fnOf "winners" "Race.winners" (defArgs s_Race_winners) (defBody s_Race_winners) (defScope s_Race_winners) .none kV_Race_winners dc_Race_winners pm_Race_winners_ an_Race_winners cd_Race_winners ct_Race_winners), sl_Race_winners⟩)
    (c_Race_winners : PySem.W.codeIn K cd_Race_winners "Race.winners" = true)
    (k_Race_winners : PySem.W.keepIn K (.ref f_Race_winners) = true)
    (a_Race_latest : PySem.W.findIn K (.ref ARace) "latest" = some (some (.ref f_Race_latest)))
    (i_Race_latest : PySem.W.isFn K (.ref f_Race_latest) = true)
    (l_Race_latest : K.lookup f_Race_latest = some ⟨oc_Race_latest, od_Race_latest, .func (PySem.W.fnOf "latest" "Race.latest" (defArgs s_Race_latest) (defBody s_Race_latest) (defScope s_Race_latest) .none kV_Race_latest dc_Race_latest pm_Race_latest_ an_Race_latest cd_Race_latest ct_Race_latest), sl_Race_latest⟩)
    (c_Race_latest : PySem.W.codeIn K cd_Race_latest "Race.latest" = true)
    (k_Race_latest : PySem.W.keepIn K (.ref f_Race_latest) = true)
    (a_Race_eq : PySem.W.findIn K (.ref ARace) "__eq__" = some (some (.ref f_Race_eq)))
    (i_Race_eq : PySem.W.isFn K (.ref f_Race_eq) = true)
    (l_Race_eq : K.lookup f_Race_eq = some ⟨oc_Race_eq, od_Race_eq, .func (PySem.W.fnOf "__eq__" "Race.__eq__" (defArgs s_Race_eq) (defBody s_Race_eq) (defScope s_Race_eq) .none kV_Race_eq dc_Race_eq pm_Race_eq_ an_Race_eq cd_Race_eq ct_Race_eq), sl_Race_eq⟩)
    (c_Race_eq : PySem.W.codeIn K cd_Race_eq "Race.__eq__" = true)
    (k_Race_eq : PySem.W.keepIn K (.ref f_Race_eq) = true)
    (a_Outcome_init : PySem.W.findIn K (.ref AOutcome) "__init__" = some (some (.ref f_Outcome_init)))
    (i_Outcome_init : PySem.W.isFn K (.ref f_Outcome_init) = true)
    (l_Outcome_init : K.lookup f_Outcome_init = some ⟨oc_Outcome_init, od_Outcome_init, .func (PySem.W.fnOf "__init__" "Outcome.__init__" (defArgs s_Outcome_init) (defBody s_Outcome_init) (defScope s_Outcome_init) .none kV_Outcome_init dc_Outcome_init pm_Outcome_init_ an_Outcome_init cd_Outcome_init ct_Outcome_init), sl_Outcome_init⟩)
    (c_Outcome_init : PySem.W.codeIn K cd_Outcome_init "Outcome.__init__" = true)
    (k_Outcome_init : PySem.W.keepIn K (.ref f_Outcome_init) = true)
    (a_Outcome_eq : PySem.W.findIn K (.ref AOutcome) "__eq__" = some (some (.ref f_Outcome_eq)))
    (i_Outcome_eq : PySem.W.isFn K (.ref f_Outcome_eq) = true)
    (l_Outcome_eq : K.lookup f_Outcome_eq = some ⟨oc_Outcome_eq, od_Outcome_eq, .func (PySem.W.fnOf "__eq__" "Outcome.__eq__" (defArgs s_Outcome_eq) (defBody s_Outcome_eq) (defScope s_Outcome_eq) .none kV_Outcome_eq dc_Outcome_eq pm_Outcome_eq_ an_Outcome_eq cd_Outcome_eq ct_Outcome_eq), sl_Outcome_eq⟩)
    (c_Outcome_eq : PySem.W.codeIn K cd_Outcome_eq "Outcome.__eq__" = true)
    (k_Outcome_eq : PySem.W.keepIn K (.ref f_Outcome_eq) = true)
    (d_T : K.lookup Td = some ⟨dcl, ddt, .seq #[.ref AT0] dn, dsl⟩)
    (d_0 : K.lookup AT0 = some ⟨.type "tuple", edt, .seq #[] en, esl⟩)
    (n_isinstance : PySem.W.nsIn K mainGlobals "isinstance" = some none)
    (n_int : PySem.W.nsIn K mainGlobals "int" = some none)
    (n_bool : PySem.W.nsIn K mainGlobals "bool" = some none)
    (n_list : PySem.W.nsIn K mainGlobals "list" = some none)
    (n_tuple : PySem.W.nsIn K mainGlobals "tuple" = some none)
    (n_len : PySem.W.nsIn K mainGlobals "len" = some none)
    (n_range : PySem.W.nsIn K mainGlobals "range" = some none)
    (n_max : PySem.W.nsIn K mainGlobals "max" = some none)
    (n_min : PySem.W.nsIn K mainGlobals "min" = some none)
    (n_abs : PySem.W.nsIn K mainGlobals "abs" = some none)
    (n_sum : PySem.W.nsIn K mainGlobals "sum" = some none)
    (n_any : PySem.W.nsIn K mainGlobals "any" = some none)
    (n_zip : PySem.W.nsIn K mainGlobals "zip" = some none)
    (n_enumerate : PySem.W.nsIn K mainGlobals "enumerate" = some none)
    (n_all : PySem.W.nsIn K mainGlobals "all" = some none)
    (n_sorted : PySem.W.nsIn K mainGlobals "sorted" = some none)
    (v_MOST_BEGIN : PySem.W.nsIn K mainGlobals "MOST_BEGIN" = some (some (.int 1000 t_MOST_BEGIN)))
    (v_MOST_DELAY : PySem.W.nsIn K mainGlobals "MOST_DELAY" = some (some (.int 50 t_MOST_DELAY)))
    (v_MOST_BOXES : PySem.W.nsIn K mainGlobals "MOST_BOXES" = some (some (.int 3 t_MOST_BOXES)))
    (v_MOST_KEEP : PySem.W.nsIn K mainGlobals "MOST_KEEP" = some (some (.int 10000 t_MOST_KEEP)))
    (v_MOST_WAYS : PySem.W.nsIn K mainGlobals "MOST_WAYS" = some (some (.int 4 t_MOST_WAYS)))
    (v_MOST_SILENT : PySem.W.nsIn K mainGlobals "MOST_SILENT" = some (some (.int 3 t_MOST_SILENT)))
    (s_hn : PySem.W.specialIn K (.builtin "object.__class__") "__get__" = some (some (.builtin "getset_descriptor.__get__")))
    (s_tk : PySem.W.takesIn K (.builtin "object.__class__") = some true)
    (pg_Way : PySem.W.plainGet K AWay Str.empty = true)
    (hd_Way : PySem.W.hasDictIn K AWay = true)
    (po_Way : PySem.W.plainOver K AWay = true)
    (sa_Way : PySem.W.findIn K (.ref AWay) "__setattr__" = some (some (.builtin "object.__setattr__")))
    (ha_Way : PySem.W.findIn K (.ref AWay) "__class__" = some (some (.builtin "object.__class__")))
    (hm_Way : PySem.W.mroIn K AWay (.type "object") = some true)
    (ne_Way : PySem.W.findIn K (.ref AWay) "__ne__" = some (some (.builtin "object.__ne__")))
    (is_Way : PySem.W.isClsIn K AWay = true)
    (ty_Way : PySem.W.typeIn K (.ref AWay) = some (.type "type"))
    (tup_Way : PySem.W.subIn K (.ref AWay) (.type "tuple") = some false)
    (lst_Way : PySem.W.subIn K (.ref AWay) (.type "list") = some false)
    (int_Way : PySem.W.subIn K (.ref AWay) (.type "int") = some false)
    (str_Way : PySem.W.subIn K (.ref AWay) (.type "str") = some false)
    (mk_Way : PySem.W.makesIn K AWay = true)
    (kc_Way : PySem.W.keepIn K (.ref AWay) = true)
    (na_Way_begin : PySem.W.findIn K (.ref AWay) "begin" = some none)
    (na_Way_least : PySem.W.findIn K (.ref AWay) "least" = some none)
    (na_Way_most : PySem.W.findIn K (.ref AWay) "most" = some none)
    (na_Way_boxes : PySem.W.findIn K (.ref AWay) "boxes" = some none)
    (pg_Race : PySem.W.plainGet K ARace Str.empty = true)
    (hd_Race : PySem.W.hasDictIn K ARace = true)
    (po_Race : PySem.W.plainOver K ARace = true)
    (sa_Race : PySem.W.findIn K (.ref ARace) "__setattr__" = some (some (.builtin "object.__setattr__")))
    (ha_Race : PySem.W.findIn K (.ref ARace) "__class__" = some (some (.builtin "object.__class__")))
    (hm_Race : PySem.W.mroIn K ARace (.type "object") = some true)
    (ne_Race : PySem.W.findIn K (.ref ARace) "__ne__" = some (some (.builtin "object.__ne__")))
    (is_Race : PySem.W.isClsIn K ARace = true)
    (ty_Race : PySem.W.typeIn K (.ref ARace) = some (.type "type"))
    (tup_Race : PySem.W.subIn K (.ref ARace) (.type "tuple") = some false)
    (lst_Race : PySem.W.subIn K (.ref ARace) (.type "list") = some false)
    (int_Race : PySem.W.subIn K (.ref ARace) (.type "int") = some false)
    (str_Race : PySem.W.subIn K (.ref ARace) (.type "str") = some false)
    (mk_Race : PySem.W.makesIn K ARace = true)
    (kc_Race : PySem.W.keepIn K (.ref ARace) = true)
    (na_Race_ways : PySem.W.findIn K (.ref ARace) "ways" = some none)
    (na_Race_silent : PySem.W.findIn K (.ref ARace) "silent" = some none)
    (pg_Outcome : PySem.W.plainGet K AOutcome Str.empty = true)
    (hd_Outcome : PySem.W.hasDictIn K AOutcome = true)
    (po_Outcome : PySem.W.plainOver K AOutcome = true)
    (sa_Outcome : PySem.W.findIn K (.ref AOutcome) "__setattr__" = some (some (.builtin "object.__setattr__")))
    (ha_Outcome : PySem.W.findIn K (.ref AOutcome) "__class__" = some (some (.builtin "object.__class__")))
    (hm_Outcome : PySem.W.mroIn K AOutcome (.type "object") = some true)
    (ne_Outcome : PySem.W.findIn K (.ref AOutcome) "__ne__" = some (some (.builtin "object.__ne__")))
    (is_Outcome : PySem.W.isClsIn K AOutcome = true)
    (ty_Outcome : PySem.W.typeIn K (.ref AOutcome) = some (.type "type"))
    (tup_Outcome : PySem.W.subIn K (.ref AOutcome) (.type "tuple") = some false)
    (lst_Outcome : PySem.W.subIn K (.ref AOutcome) (.type "list") = some false)
    (int_Outcome : PySem.W.subIn K (.ref AOutcome) (.type "int") = some false)
    (str_Outcome : PySem.W.subIn K (.ref AOutcome) (.type "str") = some false)
    (mk_Outcome : PySem.W.makesIn K AOutcome = true)
    (kc_Outcome : PySem.W.keepIn K (.ref AOutcome) = true)
    (na_Outcome_winner : PySem.W.findIn K (.ref AOutcome) "winner" = some none)
    (na_Outcome_moment : PySem.W.findIn K (.ref AOutcome) "moment" = some none)
    (na_Outcome_sent : PySem.W.findIn K (.ref AOutcome) "sent" = some none)
    (xBadPart_L : K.lookup ABadPart = some (excClassObj xBadPart_nm xBadPart_q ABadPart xBadPart_N xBadPart_bs [.ref AWholeError, .type "ValueError", .type "Exception", .type "BaseException", .type "object"] true xBadPart_sn xBadPart_sub xBadPart_ab xBadPart_col xBadPart_dd xBadPart_m0 xBadPart_m1 xBadPart_m2 xBadPart_m3 xBadPart_m5 "ValueError.__new__"))
    (xBadPart_sa : PySem.W.findIn K (.ref ABadPart) "__setattr__" = some (some (.builtin "object.__setattr__")))
    (xBadPart_ex : PySem.W.subIn K (.ref ABadPart) (.type "BaseException") = some true)
    (xBadPart_ty : PySem.W.typeIn K (.ref ABadPart) = some (.type "type"))
    (xBadPart_kC : PySem.W.keepIn K (.ref ABadPart) = true)
    (xBadPart_noA : PySem.W.findIn K (.ref ABadPart) "part" = some none)
    (xBadPart_hg : PySem.W.findIn K (.ref ABadPart) "__getattribute__" = some (some (.builtin "BaseException.__getattribute__")))
    (xBadPart_hk : PySem.W.findIn K (.ref ABadPart) "__getattr__" = some none)
    (xBadPart_hd : PySem.W.hasDictIn K ABadPart = true)
    (xBadPart_ha : PySem.W.findIn K (.ref ABadPart) "__class__" = some (some (.builtin "object.__class__")))
    (xBadPart_hm : PySem.W.mroIn K ABadPart (.type "object") = some true)
    (xBadPart_is : PySem.W.isClsIn K ABadPart = true)
    (xBadPart_ss : PySem.W.subIn K (.ref ABadPart) (.ref ABadPart) = some true)
    (xBadPart_w : PySem.W.subIn K (.ref ABadPart) (.ref AWholeError) = some true)
    (xBadBox_L : K.lookup ABadBox = some (excClassObj xBadBox_nm xBadBox_q ABadBox xBadBox_N xBadBox_bs [.ref AWholeError, .type "ValueError", .type "Exception", .type "BaseException", .type "object"] true xBadBox_sn xBadBox_sub xBadBox_ab xBadBox_col xBadBox_dd xBadBox_m0 xBadBox_m1 xBadBox_m2 xBadBox_m3 xBadBox_m5 "ValueError.__new__"))
    (xBadBox_sa : PySem.W.findIn K (.ref ABadBox) "__setattr__" = some (some (.builtin "object.__setattr__")))
    (xBadBox_ex : PySem.W.subIn K (.ref ABadBox) (.type "BaseException") = some true)
    (xBadBox_ty : PySem.W.typeIn K (.ref ABadBox) = some (.type "type"))
    (xBadBox_kC : PySem.W.keepIn K (.ref ABadBox) = true)
    (xBadBox_noA : PySem.W.findIn K (.ref ABadBox) "index" = some none)
    (xBadBox_hg : PySem.W.findIn K (.ref ABadBox) "__getattribute__" = some (some (.builtin "BaseException.__getattribute__")))
    (xBadBox_hk : PySem.W.findIn K (.ref ABadBox) "__getattr__" = some none)
    (xBadBox_hd : PySem.W.hasDictIn K ABadBox = true)
    (xBadBox_ha : PySem.W.findIn K (.ref ABadBox) "__class__" = some (some (.builtin "object.__class__")))
    (xBadBox_hm : PySem.W.mroIn K ABadBox (.type "object") = some true)
    (xBadBox_is : PySem.W.isClsIn K ABadBox = true)
    (xBadBox_ss : PySem.W.subIn K (.ref ABadBox) (.ref ABadBox) = some true)
    (xBadBox_w : PySem.W.subIn K (.ref ABadBox) (.ref AWholeError) = some true)
    (xNoWay_L : K.lookup ANoWay = some (excClassObj xNoWay_nm xNoWay_q ANoWay xNoWay_N xNoWay_bs [.ref AWholeError, .type "ValueError", .type "Exception", .type "BaseException", .type "object"] true xNoWay_sn xNoWay_sub xNoWay_ab xNoWay_col xNoWay_dd xNoWay_m0 xNoWay_m1 xNoWay_m2 xNoWay_m3 xNoWay_m5 "ValueError.__new__"))
    (xNoWay_sa : PySem.W.findIn K (.ref ANoWay) "__setattr__" = some (some (.builtin "object.__setattr__")))
    (xNoWay_ex : PySem.W.subIn K (.ref ANoWay) (.type "BaseException") = some true)
    (xNoWay_ty : PySem.W.typeIn K (.ref ANoWay) = some (.type "type"))
    (xNoWay_kC : PySem.W.keepIn K (.ref ANoWay) = true)
    (xNoWay_noA : PySem.W.findIn K (.ref ANoWay) "way" = some none)
    (xNoWay_hg : PySem.W.findIn K (.ref ANoWay) "__getattribute__" = some (some (.builtin "BaseException.__getattribute__")))
    (xNoWay_hk : PySem.W.findIn K (.ref ANoWay) "__getattr__" = some none)
    (xNoWay_hd : PySem.W.hasDictIn K ANoWay = true)
    (xNoWay_ha : PySem.W.findIn K (.ref ANoWay) "__class__" = some (some (.builtin "object.__class__")))
    (xNoWay_hm : PySem.W.mroIn K ANoWay (.type "object") = some true)
    (xNoWay_is : PySem.W.isClsIn K ANoWay = true)
    (xNoWay_ss : PySem.W.subIn K (.ref ANoWay) (.ref ANoWay) = some true)
    (xNoWay_w : PySem.W.subIn K (.ref ANoWay) (.ref AWholeError) = some true)
    (xCannotWin_L : K.lookup ACannotWin = some (excClassObj xCannotWin_nm xCannotWin_q ACannotWin xCannotWin_N xCannotWin_bs [.ref AWholeError, .type "ValueError", .type "Exception", .type "BaseException", .type "object"] true xCannotWin_sn xCannotWin_sub xCannotWin_ab xCannotWin_col xCannotWin_dd xCannotWin_m0 xCannotWin_m1 xCannotWin_m2 xCannotWin_m3 xCannotWin_m5 "ValueError.__new__"))
    (xCannotWin_sa : PySem.W.findIn K (.ref ACannotWin) "__setattr__" = some (some (.builtin "object.__setattr__")))
    (xCannotWin_ex : PySem.W.subIn K (.ref ACannotWin) (.type "BaseException") = some true)
    (xCannotWin_ty : PySem.W.typeIn K (.ref ACannotWin) = some (.type "type"))
    (xCannotWin_kC : PySem.W.keepIn K (.ref ACannotWin) = true)
    (xCannotWin_noA : PySem.W.findIn K (.ref ACannotWin) "way" = some none)
    (xCannotWin_hg : PySem.W.findIn K (.ref ACannotWin) "__getattribute__" = some (some (.builtin "BaseException.__getattribute__")))
    (xCannotWin_hk : PySem.W.findIn K (.ref ACannotWin) "__getattr__" = some none)
    (xCannotWin_hd : PySem.W.hasDictIn K ACannotWin = true)
    (xCannotWin_ha : PySem.W.findIn K (.ref ACannotWin) "__class__" = some (some (.builtin "object.__class__")))
    (xCannotWin_hm : PySem.W.mroIn K ACannotWin (.type "object") = some true)
    (xCannotWin_is : PySem.W.isClsIn K ACannotWin = true)
    (xCannotWin_ss : PySem.W.subIn K (.ref ACannotWin) (.ref ACannotWin) = some true)
    (xCannotWin_w : PySem.W.subIn K (.ref ACannotWin) (.ref AWholeError) = some true)
    (xw_i : PySem.W.isClsIn K AWholeError = true)
    (xw_t : PySem.W.typeIn K (.ref AWholeError) = some (.type "type"))
    (xw_b : PySem.W.subIn K (.ref AWholeError) (.type "BaseException") = some true)
    : ∃ fd : FuncData, (∀ (s : Shared) (v : Value), BindsTo s fd ⟨[v], []⟩ [("_law_script", v)]) ∧ ∀ base : Heap, K.In base → base.Ns mainGlobals mg → FnOk P w K mg base CX0 15 fa fd ["_law_script"] (spLaw K) := by
  have e := hfa.symm.trans (PySem.W.mg_of X G a_law)
  cases e
  have F_is_integer := fun_mk (st := s_is_integer) l_is_integer c_is_integer k_is_integer
  have D_is_integer : DefAt K mg "is_integer" s_is_integer pm_is_integer := ⟨_, _, F_is_integer, PySem.W.mg_of X G a_is_integer, F_is_integer.binds (ps := pm_is_integer) fun _ _ _ _ _ _ us hl => match us, hl with | [_], _ => rfl⟩
  have F_is_between := fun_mk (st := s_is_between) l_is_between c_is_between k_is_between
  have D_is_between : DefAt K mg "is_between" s_is_between pm_is_between := ⟨_, _, F_is_between, PySem.W.mg_of X G a_is_between, F_is_between.binds (ps := pm_is_between) fun _ _ _ _ _ _ us hl => match us, hl with | [_, _, _], _ => rfl⟩
  have F_is_index := fun_mk (st := s_is_index) l_is_index c_is_index k_is_index
  have D_is_index : DefAt K mg "is_index" s_is_index pm_is_index := ⟨_, _, F_is_index, PySem.W.mg_of X G a_is_index, F_is_index.binds (ps := pm_is_index) fun _ _ _ _ _ _ us hl => match us, hl with | [_, _], _ => rfl⟩
  have F_is_list := fun_mk (st := s_is_list) l_is_list c_is_list k_is_list
  have D_is_list : DefAt K mg "is_list" s_is_list pm_is_list := ⟨_, _, F_is_list, PySem.W.mg_of X G a_is_list, F_is_list.binds (ps := pm_is_list) fun _ _ _ _ _ _ us hl => match us, hl with | [_], _ => rfl⟩
  have F_is_list_of := fun_mk (st := s_is_list_of) l_is_list_of c_is_list_of k_is_list_of
  have D_is_list_of : DefAt K mg "is_list_of" s_is_list_of pm_is_list_of := ⟨_, _, F_is_list_of, PySem.W.mg_of X G a_is_list_of, F_is_list_of.binds (ps := pm_is_list_of) fun _ _ _ _ _ _ us hl => match us, hl with | [_, _, _], _ => rfl⟩
  have F_is_tuple_of := fun_mk (st := s_is_tuple_of) l_is_tuple_of c_is_tuple_of k_is_tuple_of
  have D_is_tuple_of : DefAt K mg "is_tuple_of" s_is_tuple_of pm_is_tuple_of := ⟨_, _, F_is_tuple_of, PySem.W.mg_of X G a_is_tuple_of, F_is_tuple_of.binds (ps := pm_is_tuple_of) fun _ _ _ _ _ _ us hl => match us, hl with | [_, _], _ => rfl⟩
  have F_greater := fun_mk (st := s_greater) l_greater c_greater k_greater
  have D_greater : DefAt K mg "greater" s_greater pm_greater := ⟨_, _, F_greater, PySem.W.mg_of X G a_greater, F_greater.binds (ps := pm_greater) fun _ _ _ _ _ _ us hl => match us, hl with | [_, _], _ => rfl⟩
  have F_is_begin := fun_mk (st := s_is_begin) l_is_begin c_is_begin k_is_begin
  have D_is_begin : DefAt K mg "is_begin" s_is_begin pm_is_begin := ⟨_, _, F_is_begin, PySem.W.mg_of X G a_is_begin, F_is_begin.binds (ps := pm_is_begin) fun _ _ _ _ _ _ us hl => match us, hl with | [_], _ => rfl⟩
  have F_are_delays := fun_mk (st := s_are_delays) l_are_delays c_are_delays k_are_delays
  have D_are_delays : DefAt K mg "are_delays" s_are_delays pm_are_delays := ⟨_, _, F_are_delays, PySem.W.mg_of X G a_are_delays, F_are_delays.binds (ps := pm_are_delays) fun _ _ _ _ _ _ us hl => match us, hl with | [_, _], _ => rfl⟩
  have F_is_box := fun_mk (st := s_is_box) l_is_box c_is_box k_is_box
  have D_is_box : DefAt K mg "is_box" s_is_box pm_is_box := ⟨_, _, F_is_box, PySem.W.mg_of X G a_is_box, F_is_box.binds (ps := pm_is_box) fun _ _ _ _ _ _ us hl => match us, hl with | [_, _, _], _ => rfl⟩
  have F_check_ways := fun_mk (st := s_check_ways) l_check_ways c_check_ways k_check_ways
  have D_check_ways : DefAt K mg "check_ways" s_check_ways pm_check_ways := ⟨_, _, F_check_ways, PySem.W.mg_of X G a_check_ways, F_check_ways.binds (ps := pm_check_ways) fun _ _ _ _ _ _ us hl => match us, hl with | [_], _ => rfl⟩
  have F_check_silent := fun_mk (st := s_check_silent) l_check_silent c_check_silent k_check_silent
  have D_check_silent : DefAt K mg "check_silent" s_check_silent pm_check_silent := ⟨_, _, F_check_silent, PySem.W.mg_of X G a_check_silent, F_check_silent.binds (ps := pm_check_silent) fun _ _ _ _ _ _ us hl => match us, hl with | [_], _ => rfl⟩
  have F_check_way := fun_mk (st := s_check_way) l_check_way c_check_way k_check_way
  have D_check_way : DefAt K mg "check_way" s_check_way pm_check_way := ⟨_, _, F_check_way, PySem.W.mg_of X G a_check_way, F_check_way.binds (ps := pm_check_way) fun _ _ _ _ _ _ us hl => match us, hl with | [_, _], _ => rfl⟩
  have F_fits := fun_mk (st := s_fits) l_fits c_fits k_fits
  have D_fits : DefAt K mg "fits" s_fits pm_fits := ⟨_, _, F_fits, PySem.W.mg_of X G a_fits, F_fits.binds (ps := pm_fits) fun _ _ _ _ _ _ us hl => match us, hl with | [_, _], _ => rfl⟩
  have F_wrong_of := fun_mk (st := s_wrong_of) l_wrong_of c_wrong_of k_wrong_of
  have D_wrong_of : DefAt K mg "wrong_of" s_wrong_of pm_wrong_of := ⟨_, _, F_wrong_of, PySem.W.mg_of X G a_wrong_of, F_wrong_of.binds (ps := pm_wrong_of) fun _ _ _ _ _ _ us hl => match us, hl with | [_, _], _ => rfl⟩
  have F_outcome_of := fun_mk (st := s_outcome_of) l_outcome_of c_outcome_of k_outcome_of
  have D_outcome_of : DefAt K mg "outcome_of" s_outcome_of pm_outcome_of := ⟨_, _, F_outcome_of, PySem.W.mg_of X G a_outcome_of, F_outcome_of.binds (ps := pm_outcome_of) fun _ _ _ _ _ _ us hl => match us, hl with | [_, _], _ => rfl⟩
  have F_played := fun_mk (st := s_played) l_played c_played k_played
  have D_played : DefAt K mg "played" s_played pm_played := ⟨_, _, F_played, PySem.W.mg_of X G a_played, F_played.binds (ps := pm_played) fun _ _ _ _ _ _ us hl => match us, hl with | [_, _], _ => rfl⟩
  have F_outcomes := fun_mk (st := s_outcomes) l_outcomes c_outcomes k_outcomes
  have D_outcomes : DefAt K mg "outcomes" s_outcomes pm_outcomes := ⟨_, _, F_outcomes, PySem.W.mg_of X G a_outcomes, F_outcomes.binds (ps := pm_outcomes) fun _ _ _ _ _ _ us hl => match us, hl with | [_], _ => rfl⟩
  have F_run_count := fun_mk (st := s_run_count) l_run_count c_run_count k_run_count
  have D_run_count : DefAt K mg "run_count" s_run_count pm_run_count := ⟨_, _, F_run_count, PySem.W.mg_of X G a_run_count, F_run_count.binds (ps := pm_run_count) fun _ _ _ _ _ _ us hl => match us, hl with | [_], _ => rfl⟩
  have F_check_win := fun_mk (st := s_check_win) l_check_win c_check_win k_check_win
  have D_check_win : DefAt K mg "check_win" s_check_win pm_check_win := ⟨_, _, F_check_win, PySem.W.mg_of X G a_check_win, F_check_win.binds (ps := pm_check_win) fun _ _ _ _ _ _ us hl => match us, hl with | [_, _, _], _ => rfl⟩
  have F_silent_after := fun_mk (st := s_silent_after) l_silent_after c_silent_after k_silent_after
  have D_silent_after : DefAt K mg "silent_after" s_silent_after pm_silent_after := ⟨_, _, F_silent_after, PySem.W.mg_of X G a_silent_after, F_silent_after.binds (ps := pm_silent_after) fun _ _ _ _ _ _ us hl => match us, hl with | [_, _, _], _ => rfl⟩
  have F__law_start := fun_mk (st := s__law_start) l__law_start c__law_start k__law_start
  have D__law_start : DefAt K mg "_law_start" s__law_start pm__law_start := ⟨_, _, F__law_start, PySem.W.mg_of X G a__law_start, F__law_start.binds (ps := pm__law_start) fun _ _ _ _ _ _ us hl => match us, hl with | [_], _ => rfl⟩
  have F__law_draw := fun_mk (st := s__law_draw) l__law_draw c__law_draw k__law_draw
  have D__law_draw : DefAt K mg "_law_draw" s__law_draw pm__law_draw := ⟨_, _, F__law_draw, PySem.W.mg_of X G a__law_draw, F__law_draw.binds (ps := pm__law_draw) fun _ _ _ _ _ _ us hl => match us, hl with | [_, _, _], _ => rfl⟩
  have F__law_ways := fun_mk (st := s__law_ways) l__law_ways c__law_ways k__law_ways
  have D__law_ways : DefAt K mg "_law_ways" s__law_ways pm__law_ways := ⟨_, _, F__law_ways, PySem.W.mg_of X G a__law_ways, F__law_ways.binds (ps := pm__law_ways) fun _ _ _ _ _ _ us hl => match us, hl with | [_, _], _ => rfl⟩
  have F__law_all_runs := fun_mk (st := s__law_all_runs) l__law_all_runs c__law_all_runs k__law_all_runs
  have D__law_all_runs : DefAt K mg "_law_all_runs" s__law_all_runs pm__law_all_runs := ⟨_, _, F__law_all_runs, PySem.W.mg_of X G a__law_all_runs, F__law_all_runs.binds (ps := pm__law_all_runs) fun _ _ _ _ _ _ us hl => match us, hl with | [_, _], _ => rfl⟩
  have F__law_quiet_ways := fun_mk (st := s__law_quiet_ways) l__law_quiet_ways c__law_quiet_ways k__law_quiet_ways
  have D__law_quiet_ways : DefAt K mg "_law_quiet_ways" s__law_quiet_ways pm__law_quiet_ways := ⟨_, _, F__law_quiet_ways, PySem.W.mg_of X G a__law_quiet_ways, F__law_quiet_ways.binds (ps := pm__law_quiet_ways) fun _ _ _ _ _ _ us hl => match us, hl with | [_, _], _ => rfl⟩
  have F__law_outcome := fun_mk (st := s__law_outcome) l__law_outcome c__law_outcome k__law_outcome
  have D__law_outcome : DefAt K mg "_law_outcome" s__law_outcome pm__law_outcome := ⟨_, _, F__law_outcome, PySem.W.mg_of X G a__law_outcome, F__law_outcome.binds (ps := pm__law_outcome) fun _ _ _ _ _ _ us hl => match us, hl with | [_, _], _ => rfl⟩
  have F__law_silences := fun_mk (st := s__law_silences) l__law_silences c__law_silences k__law_silences
  have D__law_silences : DefAt K mg "_law_silences" s__law_silences pm__law_silences := ⟨_, _, F__law_silences, PySem.W.mg_of X G a__law_silences, F__law_silences.binds (ps := pm__law_silences) fun _ _ _ _ _ _ us hl => match us, hl with | [_, _, _, _, _], _ => rfl⟩
  have F_BadPart_init := fun_mk (st := s_BadPart_init) l_BadPart_init c_BadPart_init k_BadPart_init
  have F_BadBox_init := fun_mk (st := s_BadBox_init) l_BadBox_init c_BadBox_init k_BadBox_init
  have F_NoWay_init := fun_mk (st := s_NoWay_init) l_NoWay_init c_NoWay_init k_NoWay_init
  have F_CannotWin_init := fun_mk (st := s_CannotWin_init) l_CannotWin_init c_CannotWin_init k_CannotWin_init
  have FI : FunD K "__init__" "Way.__init__" (defArgs s_Way_init) (defBody s_Way_init) (defScope s_Way_init) [.ref AT0] [] f_Way_init _ := ⟨⟨_, _, _, _, _, _, _, _, _, _, rfl, l_Way_init, c_Way_init, .inr ⟨(fun z => nomatch z), Td, _, [.ref AT0], dn, rfl, d_T, rfl, .cons rfl .nil⟩, .inl rfl⟩, k_Way_init⟩
  obtain ⟨d4, v4, B4⟩ := FI.binds1 (ps := pm_Way_init) 5 1 (fun z => nomatch z) rfl (fun T kV doc pm an cdv ct us its hu hi => match us, hu, its, hi with | [_, _, _, _, _], _, [_], _ => ⟨_, rfl, rfl⟩)
  obtain ⟨d3, v3, B3⟩ := FI.binds1 (ps := pm_Way_init) 4 0 (fun z => nomatch z) rfl (fun T kV doc pm an cdv ct us its hu hi => match us, hu, its, hi with | [_, _, _, _], _, [_], _ => ⟨_, rfl, rfl⟩)
  cases v4
  have F_Way_window := fun_mk (st := s_Way_window) l_Way_window c_Way_window k_Way_window
  have M_Way_window : MethAt K AWay "window" "Way.window" s_Way_window pm_Way_window := ⟨_, _, F_Way_window, a_Way_window, i_Way_window, F_Way_window.binds (ps := pm_Way_window) fun _ _ _ _ _ _ us hl => match us, hl with | [_], _ => rfl⟩
  have F_Way_eq := fun_mk (st := s_Way_eq) l_Way_eq c_Way_eq k_Way_eq
  have M_Way_eq : MethAt K AWay "__eq__" "Way.__eq__" s_Way_eq pm_Way_eq := ⟨_, _, F_Way_eq, a_Way_eq, i_Way_eq, F_Way_eq.binds (ps := pm_Way_eq) fun _ _ _ _ _ _ us hl => match us, hl with | [_, _], _ => rfl⟩
  have F_Race_init := fun_mk (st := s_Race_init) l_Race_init c_Race_init k_Race_init
  have M_Race_init : MethAt K ARace "__init__" "Race.__init__" s_Race_init pm_Race_init := ⟨_, _, F_Race_init, a_Race_init, i_Race_init, F_Race_init.binds (ps := pm_Race_init) fun _ _ _ _ _ _ us hl => match us, hl with | [_, _, _], _ => rfl⟩
  have F_Race_planned := fun_mk (st := s_Race_planned) l_Race_planned c_Race_planned k_Race_planned
  have M_Race_planned : MethAt K ARace "planned" "Race.planned" s_Race_planned pm_Race_planned := ⟨_, _, F_Race_planned, a_Race_planned, i_Race_planned, F_Race_planned.binds (ps := pm_Race_planned) fun _ _ _ _ _ _ us hl => match us, hl with | [_], _ => rfl⟩
  have F_Race_hurried := fun_mk (st := s_Race_hurried) l_Race_hurried c_Race_hurried k_Race_hurried
  have M_Race_hurried : MethAt K ARace "hurried" "Race.hurried" s_Race_hurried pm_Race_hurried := ⟨_, _, F_Race_hurried, a_Race_hurried, i_Race_hurried, F_Race_hurried.binds (ps := pm_Race_hurried) fun _ _ _ _ _ _ us hl => match us, hl with | [_, _, _], _ => rfl⟩
  have F_Race_can_win := fun_mk (st := s_Race_can_win) l_Race_can_win c_Race_can_win k_Race_can_win
  have M_Race_can_win : MethAt K ARace "can_win" "Race.can_win" s_Race_can_win pm_Race_can_win := ⟨_, _, F_Race_can_win, a_Race_can_win, i_Race_can_win, F_Race_can_win.binds (ps := pm_Race_can_win) fun _ _ _ _ _ _ us hl => match us, hl with | [_, _, _], _ => rfl⟩
  have F_Race_last_win := fun_mk (st := s_Race_last_win) l_Race_last_win c_Race_last_win k_Race_last_win
  have M_Race_last_win : MethAt K ARace "last_win" "Race.last_win" s_Race_last_win pm_Race_last_win := ⟨_, _, F_Race_last_win, a_Race_last_win, i_Race_last_win, F_Race_last_win.binds (ps := pm_Race_last_win) fun _ _ _ _ _ _ us hl => match us, hl with | [_, _], _ => rfl⟩
  have F_Race_winners := fun_mk (st := s_Race_winners) l_Race_winners c_Race_winners k_Race_winners
  have M_Race_winners : MethAt K ARace "winners" "Race.winners" s_Race_winners pm_Race_winners := ⟨_, _, F_Race_winners, a_Race_winners, i_Race_winners, F_Race_winners.binds (ps := pm_Race_winners) fun _ _ _ _ _ _ us hl => match us, hl with | [_], _ => rfl⟩
  have F_Race_latest := fun_mk (st := s_Race_latest) l_Race_latest c_Race_latest k_Race_latest
  have M_Race_latest : MethAt K ARace "latest" "Race.latest" s_Race_latest pm_Race_latest := ⟨_, _, F_Race_latest, a_Race_latest, i_Race_latest, F_Race_latest.binds (ps := pm_Race_latest) fun _ _ _ _ _ _ us hl => match us, hl with | [_], _ => rfl⟩
  have F_Race_eq := fun_mk (st := s_Race_eq) l_Race_eq c_Race_eq k_Race_eq
  have M_Race_eq : MethAt K ARace "__eq__" "Race.__eq__" s_Race_eq pm_Race_eq := ⟨_, _, F_Race_eq, a_Race_eq, i_Race_eq, F_Race_eq.binds (ps := pm_Race_eq) fun _ _ _ _ _ _ us hl => match us, hl with | [_, _], _ => rfl⟩
  have F_Outcome_init := fun_mk (st := s_Outcome_init) l_Outcome_init c_Outcome_init k_Outcome_init
  have M_Outcome_init : MethAt K AOutcome "__init__" "Outcome.__init__" s_Outcome_init pm_Outcome_init := ⟨_, _, F_Outcome_init, a_Outcome_init, i_Outcome_init, F_Outcome_init.binds (ps := pm_Outcome_init) fun _ _ _ _ _ _ us hl => match us, hl with | [_, _, _, _], _ => rfl⟩
  have F_Outcome_eq := fun_mk (st := s_Outcome_eq) l_Outcome_eq c_Outcome_eq k_Outcome_eq
  have M_Outcome_eq : MethAt K AOutcome "__eq__" "Outcome.__eq__" s_Outcome_eq pm_Outcome_eq := ⟨_, _, F_Outcome_eq, a_Outcome_eq, i_Outcome_eq, F_Outcome_eq.binds (ps := pm_Outcome_eq) fun _ _ _ _ _ _ us hl => match us, hl with | [_, _], _ => rfl⟩
  have T : Txt K mg ⟨ABadPart, ABadBox, ANoWay, ACannotWin, AWholeError, AWay, ARace, AOutcome, AT0⟩ :=
    { n_isinstance := PySem.W.mg_none_of X G n_isinstance,
      n_int := PySem.W.mg_none_of X G n_int,
      n_bool := PySem.W.mg_none_of X G n_bool,
      n_list := PySem.W.mg_none_of X G n_list,
      n_tuple := PySem.W.mg_none_of X G n_tuple,
      n_len := PySem.W.mg_none_of X G n_len,
      n_range := PySem.W.mg_none_of X G n_range,
      n_max := PySem.W.mg_none_of X G n_max,
      n_min := PySem.W.mg_none_of X G n_min,
      n_abs := PySem.W.mg_none_of X G n_abs,
      n_sum := PySem.W.mg_none_of X G n_sum,
      n_any := PySem.W.mg_none_of X G n_any,
      n_zip := PySem.W.mg_none_of X G n_zip,
      n_enumerate := PySem.W.mg_none_of X G n_enumerate,
      n_all := PySem.W.mg_none_of X G n_all,
      n_sorted := PySem.W.mg_none_of X G n_sorted,
      g_MOST_BEGIN := ⟨_, PySem.W.mg_of X G v_MOST_BEGIN⟩,
      g_MOST_DELAY := ⟨_, PySem.W.mg_of X G v_MOST_DELAY⟩,
      g_MOST_BOXES := ⟨_, PySem.W.mg_of X G v_MOST_BOXES⟩,
      g_MOST_KEEP := ⟨_, PySem.W.mg_of X G v_MOST_KEEP⟩,
      g_MOST_WAYS := ⟨_, PySem.W.mg_of X G v_MOST_WAYS⟩,
      g_MOST_SILENT := ⟨_, PySem.W.mg_of X G v_MOST_SILENT⟩,
      Way := ⟨PySem.W.mg_of X G g_Way, ⟨pg_Way, hd_Way, po_Way, sa_Way⟩, ha_Way, s_hn, s_tk, hm_Way, ne_Way, is_Way, ty_Way, tup_Way, lst_Way, int_Way, str_Way⟩,
      w_begin := na_Way_begin,
      w_least := na_Way_least,
      w_most := na_Way_most,
      w_boxes := na_Way_boxes,
      Race := ⟨PySem.W.mg_of X G g_Race, ⟨pg_Race, hd_Race, po_Race, sa_Race⟩, ha_Race, s_hn, s_tk, hm_Race, ne_Race, is_Race, ty_Race, tup_Race, lst_Race, int_Race, str_Race⟩,
      r_ways := na_Race_ways,
      r_silent := na_Race_silent,
      Outcome := ⟨PySem.W.mg_of X G g_Outcome, ⟨pg_Outcome, hd_Outcome, po_Outcome, sa_Outcome⟩, ha_Outcome, s_hn, s_tk, hm_Outcome, ne_Outcome, is_Outcome, ty_Outcome, tup_Outcome, lst_Outcome, int_Outcome, str_Outcome⟩,
      o_winner := na_Outcome_winner,
      o_moment := na_Outcome_moment,
      o_sent := na_Outcome_sent,
      BadPart := ⟨⟨⟨_, _, _, _, _, _, _, _, _, _, _, _, _, _, _, xBadPart_L, ve_one⟩, xBadPart_sa, xBadPart_ex, xBadPart_ty, xBadPart_kC⟩, PySem.W.mg_of X G g_BadPart, xBadPart_noA, ⟨xBadPart_hg, xBadPart_hk, xBadPart_ex, xBadPart_hd, xBadPart_ha, s_hn, s_tk, xBadPart_hm⟩, _, a_BadPart_init, i_BadPart_init, _, F_BadPart_init, F_BadPart_init.binds (ps := ["self", "part"]) fun _ _ _ _ _ _ us hl => match us, hl with | [_, _], _ => rfl⟩,
      BadBox := ⟨⟨⟨_, _, _, _, _, _, _, _, _, _, _, _, _, _, _, xBadBox_L, ve_one⟩, xBadBox_sa, xBadBox_ex, xBadBox_ty, xBadBox_kC⟩, PySem.W.mg_of X G g_BadBox, xBadBox_noA, ⟨xBadBox_hg, xBadBox_hk, xBadBox_ex, xBadBox_hd, xBadBox_ha, s_hn, s_tk, xBadBox_hm⟩, _, a_BadBox_init, i_BadBox_init, _, F_BadBox_init, F_BadBox_init.binds (ps := ["self", "index"]) fun _ _ _ _ _ _ us hl => match us, hl with | [_, _], _ => rfl⟩,
      NoWay := ⟨⟨⟨_, _, _, _, _, _, _, _, _, _, _, _, _, _, _, xNoWay_L, ve_one⟩, xNoWay_sa, xNoWay_ex, xNoWay_ty, xNoWay_kC⟩, PySem.W.mg_of X G g_NoWay, xNoWay_noA, ⟨xNoWay_hg, xNoWay_hk, xNoWay_ex, xNoWay_hd, xNoWay_ha, s_hn, s_tk, xNoWay_hm⟩, _, a_NoWay_init, i_NoWay_init, _, F_NoWay_init, F_NoWay_init.binds (ps := ["self", "way"]) fun _ _ _ _ _ _ us hl => match us, hl with | [_, _], _ => rfl⟩,
      CannotWin := ⟨⟨⟨_, _, _, _, _, _, _, _, _, _, _, _, _, _, _, xCannotWin_L, ve_one⟩, xCannotWin_sa, xCannotWin_ex, xCannotWin_ty, xCannotWin_kC⟩, PySem.W.mg_of X G g_CannotWin, xCannotWin_noA, ⟨xCannotWin_hg, xCannotWin_hk, xCannotWin_ex, xCannotWin_hd, xCannotWin_ha, s_hn, s_tk, xCannotWin_hm⟩, _, a_CannotWin_init, i_CannotWin_init, _, F_CannotWin_init, F_CannotWin_init.binds (ps := ["self", "way"]) fun _ _ _ _ _ _ us hl => match us, hl with | [_, _], _ => rfl⟩,
      g_WholeError := PySem.W.mg_of X G g_WholeError,
      t0 := fun H => .inr ⟨_, #[], en, d_0, rfl, rfl, Nat.zero_le _, .nil⟩ }
  exact ⟨PySem.W.fnOf "law" "law" (defArgs s_law) (defBody s_law) (defScope s_law) .none kV_law dc_law pm_law_ an_law cd_law ct_law, fun s v => .of_eq rfl, fun base _ _ =>
    law_ok T D_is_integer D_is_between D_is_index D_is_list D_is_list_of D_is_tuple_of D_greater D_is_begin D_are_delays D_is_box D_check_ways D_check_silent D_check_way D_fits D_wrong_of D_outcome_of D_played D_outcomes D_run_count D_check_win D_silent_after D__law_start D__law_draw D__law_ways D__law_all_runs D__law_quiet_ways D__law_outcome D__law_silences M_Way_window M_Way_eq M_Race_init M_Race_planned M_Race_hurried M_Race_can_win M_Race_last_win M_Race_winners M_Race_latest M_Race_eq M_Outcome_init M_Outcome_eq mk_Race kc_Race mk_Outcome kc_Outcome FI ⟨mk_Way, a_Way_init, i_Way_init, kc_Way⟩ B4 v3 B3 (fun_mk (st := s_law) l_law c_law k_law)⟩
theorem walk {l : PySem.W.OpenLaw} {q : Program} {loose : List Str} {XP : (Str → Option Value) → Heap → Prop} {YP : World → Heap → Prop} {d : DefRec} {K : Params → PySem.W.Frag} (hn : l.most = some 63) (hdf : d.params.defaults = [])
    (hY : ∀ (w : World) (h : Heap), YP w h → (K w.params).In h)
    (F : ∀ (w : World) (mg : Str → Option Value) (fa : Addr) (h : Heap), (K w.params).In h → h.Ns mainGlobals mg → mg d.name = some (.ref fa) →
      ∃ fd : FuncData, (∀ (s : Shared) (u : Value), BindsTo s fd ⟨[u], []⟩ [("_law_script", u)]) ∧ ∀ base : Heap, (K w.params).In base → base.Ns mainGlobals mg → FnOk l.prog w (K w.params) mg base CX0 15 fa fd ["_law_script"] (spLaw (K w.params))) :
    PySem.W.WalkO q loose XP YP l.row.toRowW d [] (fun f vs => PySem.call f vs) :=
  L2.walk_of (n := 63) (k := 15) (x := "_law_script") (CX := fun _ => CX0) (sp := fun w => spLaw (K w.params)) hn (by decide) hdf ⟨rfl, by decide, by decide⟩ hY F (fun _ _ a ns hl _ hS => ⟨a, ns, rfl, hS, hl, fun _ => rfl⟩) fun _ _ _ _ _ z => z
end K65

open PySem PySem.W PyProof.Rows in
set_option maxRecDepth 100000 in
set_option maxHeartbeats 0 in
theorem PySem.Challenge.cw_wholeline_k65_whole_races_played_out_holds : PySem.Challenge.rw_wholeline_k65_whole_races_played_out.Holds := by
  w_on; o_law; k_head; (case hw => w_witness2)
  k_fill
  refine K65.walk (l := PySem.Challenge.rw_wholeline_k65_whole_races_played_out) rfl rfl (fun w h Y => PySem.W.kIn_of Y) ?F
  case F =>
    intro w mg fa h KX G hmg
    refine' K65.all_mk KX G hmg ?q_g_BadPart ?q_g_BadBox ?q_g_NoWay ?q_g_CannotWin ?q_g_WholeError ?q_g_Way ?q_g_Race ?q_g_Outcome ?q_a_is_integer ?q_l_is_integer ?q_c_is_integer ?q_k_is_integer ?q_a_is_between ?q_l_is_between ?q_c_is_between ?q_k_is_between ?q_a_is_index ?q_l_is_index ?q_c_is_index ?q_k_is_index ?q_a_is_list ?q_l_is_list ?q_c_is_list ?q_k_is_list ?q_a_is_list_of ?q_l_is_list_of ?q_c_is_list_of ?q_k_is_list_of ?q_a_is_tuple_of ?q_l_is_tuple_of ?q_c_is_tuple_of ?q_k_is_tuple_of ?q_a_greater ?q_l_greater ?q_c_greater ?q_k_greater ?q_a_is_begin ?q_l_is_begin ?q_c_is_begin ?q_k_is_begin ?q_a_are_delays ?q_l_are_delays ?q_c_are_delays ?q_k_are_delays ?q_a_is_box ?q_l_is_box ?q_c_is_box ?q_k_is_box ?q_a_check_ways ?q_l_check_ways ?q_c_check_ways ?q_k_check_ways ?q_a_check_silent ?q_l_check_silent ?q_c_check_silent ?q_k_check_silent ?q_a_check_way ?q_l_check_way ?q_c_check_way ?q_k_check_way ?q_a_fits ?q_l_fits ?q_c_fits ?q_k_fits ?q_a_wrong_of ?q_l_wrong_of ?q_c_wrong_of ?q_k_wrong_of ?q_a_outcome_of ?q_l_outcome_of ?q_c_outcome_of ?q_k_outcome_of ?q_a_played ?q_l_played ?q_c_played ?q_k_played ?q_a_outcomes ?q_l_outcomes ?q_c_outcomes ?q_k_outcomes ?q_a_run_count ?q_l_run_count ?q_c_run_count ?q_k_run_count ?q_a_check_win ?q_l_check_win ?q_c_check_win ?q_k_check_win ?q_a_silent_after ?q_l_silent_after ?q_c_silent_after ?q_k_silent_after ?q_a__law_start ?q_l__law_start ?q_c__law_start ?q_k__law_start ?q_a__law_draw ?q_l__law_draw ?q_c__law_draw ?q_k__law_draw ?q_a__law_ways ?q_l__law_ways ?q_c__law_ways ?q_k__law_ways ?q_a__law_all_runs ?q_l__law_all_runs ?q_c__law_all_runs ?q_k__law_all_runs ?q_a__law_quiet_ways ?q_l__law_quiet_ways ?q_c__law_quiet_ways ?q_k__law_quiet_ways ?q_a__law_outcome ?q_l__law_outcome ?q_c__law_outcome ?q_k__law_outcome ?q_a__law_silences ?q_l__law_silences ?q_c__law_silences ?q_k__law_silences ?q_a_law ?q_l_law ?q_c_law ?q_k_law ?q_a_BadPart_init ?q_i_BadPart_init ?q_l_BadPart_init ?q_c_BadPart_init ?q_k_BadPart_init ?q_a_BadBox_init ?q_i_BadBox_init ?q_l_BadBox_init ?q_c_BadBox_init ?q_k_BadBox_init ?q_a_NoWay_init ?q_i_NoWay_init ?q_l_NoWay_init ?q_c_NoWay_init ?q_k_NoWay_init ?q_a_CannotWin_init ?q_i_CannotWin_init ?q_l_CannotWin_init ?q_c_CannotWin_init ?q_k_CannotWin_init ?q_a_Way_init ?q_i_Way_init ?q_l_Way_init ?q_c_Way_init ?q_k_Way_init ?q_a_Way_window ?q_i_Way_window ?q_l_Way_window ?q_c_Way_window ?q_k_Way_window ?q_a_Way_eq ?q_i_Way_eq ?q_l_Way_eq ?q_c_Way_eq ?q_k_Way_eq ?q_a_Race_init ?q_i_Race_init ?q_l_Race_init ?q_c_Race_init ?q_k_Race_init ?q_a_Race_planned ?q_i_Race_planned ?q_l_Race_planned ?q_c_Race_planned ?q_k_Race_planned ?q_a_Race_hurried ?q_i_Race_hurried ?q_l_Race_hurried ?q_c_Race_hurried ?q_k_Race_hurried ?q_a_Race_can_win ?q_i_Race_can_win ?q_l_Race_can_win ?q_c_Race_can_win ?q_k_Race_can_win ?q_a_Race_last_win ?q_i_Race_last_win ?q_l_Race_last_win ?q_c_Race_last_win ?q_k_Race_last_win ?q_a_Race_winners ?q_i_Race_winners ?q_l_Race_winners ?q_c_Race_winners ?q_k_Race_winners ?q_a_Race_latest ?q_i_Race_latest ?q_l_Race_latest ?q_c_Race_latest ?q_k_Race_latest ?q_a_Race_eq ?q_i_Race_eq ?q_l_Race_eq ?q_c_Race_eq ?q_k_Race_eq ?q_a_Outcome_init ?q_i_Outcome_init ?q_l_Outcome_init ?q_c_Outcome_init ?q_k_Outcome_init ?q_a_Outcome_eq ?q_i_Outcome_eq ?q_l_Outcome_eq ?q_c_Outcome_eq ?q_k_Outcome_eq ?q_d_T ?q_d_0 ?q_n_isinstance ?q_n_int ?q_n_bool ?q_n_list ?q_n_tuple ?q_n_len ?q_n_range ?q_n_max ?q_n_min ?q_n_abs ?q_n_sum ?q_n_any ?q_n_zip ?q_n_enumerate ?q_n_all ?q_n_sorted ?q_v_MOST_BEGIN ?q_v_MOST_DELAY ?q_v_MOST_BOXES ?q_v_MOST_KEEP ?q_v_MOST_WAYS ?q_v_MOST_SILENT ?q_s_hn ?q_s_tk ?q_pg_Way ?q_hd_Way ?q_po_Way ?q_sa_Way ?q_ha_Way ?q_hm_Way ?q_ne_Way ?q_is_Way ?q_ty_Way ?q_tup_Way ?q_lst_Way ?q_int_Way ?q_str_Way ?q_mk_Way ?q_kc_Way ?q_na_Way_begin ?q_na_Way_least ?q_na_Way_most ?q_na_Way_boxes ?q_pg_Race ?q_hd_Race ?q_po_Race ?q_sa_Race ?q_ha_Race ?q_hm_Race ?q_ne_Race ?q_is_Race ?q_ty_Race ?q_tup_Race ?q_lst_Race ?q_int_Race ?q_str_Race ?q_mk_Race ?q_kc_Race ?q_na_Race_ways ?q_na_Race_silent ?q_pg_Outcome ?q_hd_Outcome ?q_po_Outcome ?q_sa_Outcome ?q_ha_Outcome ?q_hm_Outcome ?q_ne_Outcome ?q_is_Outcome ?q_ty_Outcome ?q_tup_Outcome ?q_lst_Outcome ?q_int_Outcome ?q_str_Outcome ?q_mk_Outcome ?q_kc_Outcome ?q_na_Outcome_winner ?q_na_Outcome_moment ?q_na_Outcome_sent ?q_xBadPart_L ?q_xBadPart_sa ?q_xBadPart_ex ?q_xBadPart_ty ?q_xBadPart_kC ?q_xBadPart_noA ?q_xBadPart_hg ?q_xBadPart_hk ?q_xBadPart_hd ?q_xBadPart_ha ?q_xBadPart_hm ?q_xBadPart_is ?q_xBadPart_ss ?q_xBadPart_w ?q_xBadBox_L ?q_xBadBox_sa ?q_xBadBox_ex ?q_xBadBox_ty ?q_xBadBox_kC ?q_xBadBox_noA ?q_xBadBox_hg ?q_xBadBox_hk ?q_xBadBox_hd ?q_xBadBox_ha ?q_xBadBox_hm ?q_xBadBox_is ?q_xBadBox_ss ?q_xBadBox_w ?q_xNoWay_L ?q_xNoWay_sa ?q_xNoWay_ex ?q_xNoWay_ty ?q_xNoWay_kC ?q_xNoWay_noA ?q_xNoWay_hg ?q_xNoWay_hk ?q_xNoWay_hd ?q_xNoWay_ha ?q_xNoWay_hm ?q_xNoWay_is ?q_xNoWay_ss ?q_xNoWay_w ?q_xCannotWin_L ?q_xCannotWin_sa ?q_xCannotWin_ex ?q_xCannotWin_ty ?q_xCannotWin_kC ?q_xCannotWin_noA ?q_xCannotWin_hg ?q_xCannotWin_hk ?q_xCannotWin_hd ?q_xCannotWin_ha ?q_xCannotWin_hm ?q_xCannotWin_is ?q_xCannotWin_ss ?q_xCannotWin_w ?q_xw_i ?q_xw_t ?q_xw_b
    (case q_g_BadPart => k_is)
    (case q_g_BadBox => k_is)
    (case q_g_NoWay => k_is)
    (case q_g_CannotWin => k_is)
    (case q_g_WholeError => k_is)
    (case q_g_Way => k_is)
    (case q_g_Race => k_is)
    (case q_g_Outcome => k_is)
    (case q_a_is_integer => k_is)
    (case q_l_is_integer => k_is)
    (case q_c_is_integer => k_is)
    (case q_k_is_integer => k_is)
    (case q_a_is_between => k_is)
    (case q_l_is_between => k_is)
    (case q_c_is_between => k_is)
    (case q_k_is_between => k_is)
    (case q_a_is_index => k_is)
    (case q_l_is_index => k_is)
    (case q_c_is_index => k_is)
    (case q_k_is_index => k_is)
    (case q_a_is_list => k_is)
    (case q_l_is_list => k_is)
    (case q_c_is_list => k_is)
    (case q_k_is_list => k_is)
    (case q_a_is_list_of => k_is)
    (case q_l_is_list_of => k_is)
    (case q_c_is_list_of => k_is)
    (case q_k_is_list_of => k_is)
    (case q_a_is_tuple_of => k_is)
    (case q_l_is_tuple_of => k_is)
    (case q_c_is_tuple_of => k_is)
    (case q_k_is_tuple_of => k_is)
    (case q_a_greater => k_is)
    (case q_l_greater => k_is)
    (case q_c_greater => k_is)
    (case q_k_greater => k_is)
    (case q_a_is_begin => k_is)
    (case q_l_is_begin => k_is)
    (case q_c_is_begin => k_is)
    (case q_k_is_begin => k_is)
    (case q_a_are_delays => k_is)
    (case q_l_are_delays => k_is)
    (case q_c_are_delays => k_is)
    (case q_k_are_delays => k_is)
    (case q_a_is_box => k_is)
    (case q_l_is_box => k_is)
    (case q_c_is_box => k_is)
    (case q_k_is_box => k_is)
    (case q_a_check_ways => k_is)
    (case q_l_check_ways => k_is)
    (case q_c_check_ways => k_is)
    (case q_k_check_ways => k_is)
    (case q_a_check_silent => k_is)
    (case q_l_check_silent => k_is)
    (case q_c_check_silent => k_is)
    (case q_k_check_silent => k_is)
    (case q_a_check_way => k_is)
    (case q_l_check_way => k_is)
    (case q_c_check_way => k_is)
    (case q_k_check_way => k_is)
    (case q_a_fits => k_is)
    (case q_l_fits => k_is)
    (case q_c_fits => k_is)
    (case q_k_fits => k_is)
    (case q_a_wrong_of => k_is)
    (case q_l_wrong_of => k_is)
    (case q_c_wrong_of => k_is)
    (case q_k_wrong_of => k_is)
    (case q_a_outcome_of => k_is)
    (case q_l_outcome_of => k_is)
    (case q_c_outcome_of => k_is)
    (case q_k_outcome_of => k_is)
    (case q_a_played => k_is)
    (case q_l_played => k_is)
    (case q_c_played => k_is)
    (case q_k_played => k_is)
    (case q_a_outcomes => k_is)
    (case q_l_outcomes => k_is)
    (case q_c_outcomes => k_is)
    (case q_k_outcomes => k_is)
    (case q_a_run_count => k_is)
    (case q_l_run_count => k_is)
    (case q_c_run_count => k_is)
    (case q_k_run_count => k_is)
    (case q_a_check_win => k_is)
    (case q_l_check_win => k_is)
    (case q_c_check_win => k_is)
    (case q_k_check_win => k_is)
    (case q_a_silent_after => k_is)
    (case q_l_silent_after => k_is)
    (case q_c_silent_after => k_is)
    (case q_k_silent_after => k_is)
    (case q_a__law_start => k_is)
    (case q_l__law_start => k_is)
    (case q_c__law_start => k_is)
    (case q_k__law_start => k_is)
    (case q_a__law_draw => k_is)
    (case q_l__law_draw => k_is)
    (case q_c__law_draw => k_is)
    (case q_k__law_draw => k_is)
    (case q_a__law_ways => k_is)
    (case q_l__law_ways => k_is)
    (case q_c__law_ways => k_is)
    (case q_k__law_ways => k_is)
    (case q_a__law_all_runs => k_is)
    (case q_l__law_all_runs => k_is)
    (case q_c__law_all_runs => k_is)
    (case q_k__law_all_runs => k_is)
    (case q_a__law_quiet_ways => k_is)
    (case q_l__law_quiet_ways => k_is)
    (case q_c__law_quiet_ways => k_is)
    (case q_k__law_quiet_ways => k_is)
    (case q_a__law_outcome => k_is)
    (case q_l__law_outcome => k_is)
    (case q_c__law_outcome => k_is)
    (case q_k__law_outcome => k_is)
    (case q_a__law_silences => k_is)
    (case q_l__law_silences => k_is)
    (case q_c__law_silences => k_is)
    (case q_k__law_silences => k_is)
    (case q_a_law => k_is)
    (case q_l_law => k_is)
    (case q_c_law => k_is)
    (case q_k_law => k_is)
    (case q_a_BadPart_init => k_is)
    (case q_i_BadPart_init => k_is)
    (case q_l_BadPart_init => k_is)
    (case q_c_BadPart_init => k_is)
    (case q_k_BadPart_init => k_is)
    (case q_a_BadBox_init => k_is)
    (case q_i_BadBox_init => k_is)
    (case q_l_BadBox_init => k_is)
    (case q_c_BadBox_init => k_is)
    (case q_k_BadBox_init => k_is)
    (case q_a_NoWay_init => k_is)
    (case q_i_NoWay_init => k_is)
    (case q_l_NoWay_init => k_is)
    (case q_c_NoWay_init => k_is)
    (case q_k_NoWay_init => k_is)
    (case q_a_CannotWin_init => k_is)
    (case q_i_CannotWin_init => k_is)
    (case q_l_CannotWin_init => k_is)
    (case q_c_CannotWin_init => k_is)
    (case q_k_CannotWin_init => k_is)
    (case q_a_Way_init => k_is)
    (case q_i_Way_init => k_is)
    (case q_l_Way_init => k_is)
    (case q_c_Way_init => k_is)
    (case q_k_Way_init => k_is)
    (case q_a_Way_window => k_is)
    (case q_i_Way_window => k_is)
    (case q_l_Way_window => k_is)
    (case q_c_Way_window => k_is)
    (case q_k_Way_window => k_is)
    (case q_a_Way_eq => k_is)
    (case q_i_Way_eq => k_is)
    (case q_l_Way_eq => k_is)
    (case q_c_Way_eq => k_is)
    (case q_k_Way_eq => k_is)
    (case q_a_Race_init => k_is)
    (case q_i_Race_init => k_is)
    (case q_l_Race_init => k_is)
    (case q_c_Race_init => k_is)
    (case q_k_Race_init => k_is)
    (case q_a_Race_planned => k_is)
    (case q_i_Race_planned => k_is)
    (case q_l_Race_planned => k_is)
    (case q_c_Race_planned => k_is)
    (case q_k_Race_planned => k_is)
    (case q_a_Race_hurried => k_is)
    (case q_i_Race_hurried => k_is)
    (case q_l_Race_hurried => k_is)
    (case q_c_Race_hurried => k_is)
    (case q_k_Race_hurried => k_is)
    (case q_a_Race_can_win => k_is)
    (case q_i_Race_can_win => k_is)
    (case q_l_Race_can_win => k_is)
    (case q_c_Race_can_win => k_is)
    (case q_k_Race_can_win => k_is)
    (case q_a_Race_last_win => k_is)
    (case q_i_Race_last_win => k_is)
    (case q_l_Race_last_win => k_is)
    (case q_c_Race_last_win => k_is)
    (case q_k_Race_last_win => k_is)
    (case q_a_Race_winners => k_is)
    (case q_i_Race_winners => k_is)
    (case q_l_Race_winners => k_is)
    (case q_c_Race_winners => k_is)
    (case q_k_Race_winners => k_is)
    (case q_a_Race_latest => k_is)
    (case q_i_Race_latest => k_is)
    (case q_l_Race_latest => k_is)
    (case q_c_Race_latest => k_is)
    (case q_k_Race_latest => k_is)
    (case q_a_Race_eq => k_is)
    (case q_i_Race_eq => k_is)
    (case q_l_Race_eq => k_is)
    (case q_c_Race_eq => k_is)
    (case q_k_Race_eq => k_is)
    (case q_a_Outcome_init => k_is)
    (case q_i_Outcome_init => k_is)
    (case q_l_Outcome_init => k_is)
    (case q_c_Outcome_init => k_is)
    (case q_k_Outcome_init => k_is)
    (case q_a_Outcome_eq => k_is)
    (case q_i_Outcome_eq => k_is)
    (case q_l_Outcome_eq => k_is)
    (case q_c_Outcome_eq => k_is)
    (case q_k_Outcome_eq => k_is)
    (case q_d_T => k_is)
    (case q_d_0 => k_is)
    (case q_n_isinstance => k_is)
    (case q_n_int => k_is)
    (case q_n_bool => k_is)
    (case q_n_list => k_is)
    (case q_n_tuple => k_is)
    (case q_n_len => k_is)
    (case q_n_range => k_is)
    (case q_n_max => k_is)
    (case q_n_min => k_is)
    (case q_n_abs => k_is)
    (case q_n_sum => k_is)
    (case q_n_any => k_is)
    (case q_n_zip => k_is)
    (case q_n_enumerate => k_is)
    (case q_n_all => k_is)
    (case q_n_sorted => k_is)
    (case q_v_MOST_BEGIN => k_is)
    (case q_v_MOST_DELAY => k_is)
    (case q_v_MOST_BOXES => k_is)
    (case q_v_MOST_KEEP => k_is)
    (case q_v_MOST_WAYS => k_is)
    (case q_v_MOST_SILENT => k_is)
    (case q_s_hn => k_is)
    (case q_s_tk => k_is)
    (case q_pg_Way => k_is)
    (case q_hd_Way => k_is)
    (case q_po_Way => k_is)
    (case q_sa_Way => k_is)
    (case q_ha_Way => k_is)
    (case q_hm_Way => k_is)
    (case q_ne_Way => k_is)
    (case q_is_Way => k_is)
    (case q_ty_Way => k_is)
    (case q_tup_Way => k_is)
    (case q_lst_Way => k_is)
    (case q_int_Way => k_is)
    (case q_str_Way => k_is)
    (case q_mk_Way => k_is)
    (case q_kc_Way => k_is)
    (case q_na_Way_begin => k_is)
    (case q_na_Way_least => k_is)
    (case q_na_Way_most => k_is)
    (case q_na_Way_boxes => k_is)
    (case q_pg_Race => k_is)
    (case q_hd_Race => k_is)
    (case q_po_Race => k_is)
    (case q_sa_Race => k_is)
    (case q_ha_Race => k_is)
    (case q_hm_Race => k_is)
    (case q_ne_Race => k_is)
    (case q_is_Race => k_is)
    (case q_ty_Race => k_is)
    (case q_tup_Race => k_is)
    (case q_lst_Race => k_is)
    (case q_int_Race => k_is)
    (case q_str_Race => k_is)
    (case q_mk_Race => k_is)
    (case q_kc_Race => k_is)
    (case q_na_Race_ways => k_is)
    (case q_na_Race_silent => k_is)
    (case q_pg_Outcome => k_is)
    (case q_hd_Outcome => k_is)
    (case q_po_Outcome => k_is)
    (case q_sa_Outcome => k_is)
    (case q_ha_Outcome => k_is)
    (case q_hm_Outcome => k_is)
    (case q_ne_Outcome => k_is)
    (case q_is_Outcome => k_is)
    (case q_ty_Outcome => k_is)
    (case q_tup_Outcome => k_is)
    (case q_lst_Outcome => k_is)
    (case q_int_Outcome => k_is)
    (case q_str_Outcome => k_is)
    (case q_mk_Outcome => k_is)
    (case q_kc_Outcome => k_is)
    (case q_na_Outcome_winner => k_is)
    (case q_na_Outcome_moment => k_is)
    (case q_na_Outcome_sent => k_is)
    (case q_xBadPart_L => k_is)
    (case q_xBadPart_sa => k_is)
    (case q_xBadPart_ex => k_is)
    (case q_xBadPart_ty => k_is)
    (case q_xBadPart_kC => k_is)
    (case q_xBadPart_noA => k_is)
    (case q_xBadPart_hg => k_is)
    (case q_xBadPart_hk => k_is)
    (case q_xBadPart_hd => k_is)
    (case q_xBadPart_ha => k_is)
    (case q_xBadPart_hm => k_is)
    (case q_xBadPart_is => k_is)
    (case q_xBadPart_ss => k_is)
    (case q_xBadPart_w => k_is)
    (case q_xBadBox_L => k_is)
    (case q_xBadBox_sa => k_is)
    (case q_xBadBox_ex => k_is)
    (case q_xBadBox_ty => k_is)
    (case q_xBadBox_kC => k_is)
    (case q_xBadBox_noA => k_is)
    (case q_xBadBox_hg => k_is)
    (case q_xBadBox_hk => k_is)
    (case q_xBadBox_hd => k_is)
    (case q_xBadBox_ha => k_is)
    (case q_xBadBox_hm => k_is)
    (case q_xBadBox_is => k_is)
    (case q_xBadBox_ss => k_is)
    (case q_xBadBox_w => k_is)
    (case q_xNoWay_L => k_is)
    (case q_xNoWay_sa => k_is)
    (case q_xNoWay_ex => k_is)
    (case q_xNoWay_ty => k_is)
    (case q_xNoWay_kC => k_is)
    (case q_xNoWay_noA => k_is)
    (case q_xNoWay_hg => k_is)
    (case q_xNoWay_hk => k_is)
    (case q_xNoWay_hd => k_is)
    (case q_xNoWay_ha => k_is)
    (case q_xNoWay_hm => k_is)
    (case q_xNoWay_is => k_is)
    (case q_xNoWay_ss => k_is)
    (case q_xNoWay_w => k_is)
    (case q_xCannotWin_L => k_is)
    (case q_xCannotWin_sa => k_is)
    (case q_xCannotWin_ex => k_is)
    (case q_xCannotWin_ty => k_is)
    (case q_xCannotWin_kC => k_is)
    (case q_xCannotWin_noA => k_is)
    (case q_xCannotWin_hg => k_is)
    (case q_xCannotWin_hk => k_is)
    (case q_xCannotWin_hd => k_is)
    (case q_xCannotWin_ha => k_is)
    (case q_xCannotWin_hm => k_is)
    (case q_xCannotWin_is => k_is)
    (case q_xCannotWin_ss => k_is)
    (case q_xCannotWin_w => k_is)
    (case q_xw_i => k_is)
    (case q_xw_t => k_is)
    (case q_xw_b => k_is)
