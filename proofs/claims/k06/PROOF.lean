import PyProof.Rows.All
import Wide.All
import OpenK.AllK
import Wide.FinOn
import KE.KExcIs
import HandS.ForExc
import HandS.ForMost
import HandS.ExcInit
import HandS.ExcIs
import HandS.ExcField
import HandS.IsInst
import HandS.Defaults
import HandS.HeadHook1
import HandS.HeadHook2
import KE.KStateDown
import HandS.Ends
import HandS.Head0
import HandS.Head1
import HandS.Head2
import HandS.HeadEnd
import HandS.Walk
import HandS.Deep
import HandS.Conv
import HandS.NoneIn
import HandS.DictComp
import HandS.TupAny
import HandS.Star
import HandS.Codes
import HandS.Flow
import PyProof.Draws
import KE.GoesMore
import KE.GoesEnum
import KE.GoesZip
import HandS.Zip
import HandS.HotCalls
import KE.DataFind
import HandS.Lambda
import HandS.Style
import PyProof.DictUpdate
import HandS.EndTab
import PySem.Challenge.RW_leastmarks_k06_matches_by_hand
set_option Elab.async false
set_option linter.all false
set_option maxRecDepth 100000
set_option maxHeartbeats 0
/-! Errors of one's own as values: made by a call, asked for their class and their fields. -/
namespace L2
open PySem PySem.Spec PyProof.Rows
section
variable {X : Cx} {CX : CXT} {k : Nat} {fI C : Addr} {fd : FuncData} {ps : List Str} {sp : Sp} {ds : List Value} {dvs : List V} {x : Str} {p pos : Pos} {e : Expr} {es : List Expr} {ta te : TE} {t : TA}
theorem run_oex {pins : List (Addr × Obj)} {σ : L2.St} {H1 : Hp} {s1 : Shared} {Q : VK} {us : List Value} {vs : List V} (T : OexC X.K C) (iC : PySem.W.findIn X.K (.ref C) "__init__" = some (some (.ref fI))) (tI : PySem.W.typeIn X.K (.ref fI) = some (.type "function"))
    (F1 : FnOk X.prog X.w X.K X.mg X.base CX k fI fd ps sp) (hr : Room (k + 1) X.A) (hb : Binds X.K fd ps ds) (hd : Vals dvs ds) (hx : Passes CX X (fun _ _ _ => False)) (I1 : Inv X pins σ H1 s1) (r1 : Vals vs us) (hz : vs.length ≤ 1000)
    (q1 : ∀ a, H1 a = none → sp (.ref a :: (vs ++ dvs)) (upd H1 a (exo a C none)) (fun v H2 => v = .non ∧ Q (.ref a) H2) (fun _ _ _ => False)) :
    wpAny (model X.prog X.w) X.A (call (.ref C) us) (EP X pins σ Q) X.xe s1 := by
  obtain ⟨nm, q, N, bs, bm, sn, sub, ab, col, dd, k0, k1, k2, k3, k5, hC, hbm⟩ := T.cls
  obtain ⟨hp, g, dr, tk, os⟩ := s1
  have hsz : hp.objs.size ≤ hp.objs.size + 1 := Nat.le_succ _
  have hn : H1 (hp.objs.size + 1) = none := I1.hok.fresh hsz
  have hq := q1 (hp.objs.size + 1) hn
  have kk : ∀ b o, hp.get? b = some o → ((hp.push (PySem.W.kdv_tup us)).push (PySem.HandSPX.excO C hp.objs.size)).get? b = some o := fun b o e => Heap.get?_push_of_some _ (Heap.get?_push_of_some _ e)
  have hget : ((hp.push (PySem.W.kdv_tup us)).push (PySem.HandSPX.excO C hp.objs.size)).get? (hp.objs.size + 1) = some (PySem.HandSPX.excO C hp.objs.size) := by heap_get
  have I2 : Inv X pins σ (upd H1 (hp.objs.size + 1) (exo (hp.objs.size + 1) C none)) ⟨(hp.push (PySem.W.kdv_tup us)).push (PySem.HandSPX.excO C hp.objs.size), g, dr, tk, os⟩ :=
    I1.laid (t' := tk) (a := hp.objs.size + 1) (o := exo (hp.objs.size + 1) C none) (h' := (hp.push (PySem.W.kdv_tup us)).push (PySem.HandSPX.excO C hp.objs.size)) kk hsz (exo_ok hget)
  have r2 : Vals (V.ref (hp.objs.size + 1) :: (vs ++ dvs)) (Value.ref (hp.objs.size + 1) :: (us ++ ds)) := .cons rfl (r1.append hd)
  have hl : (Value.ref (hp.objs.size + 1) :: us ++ ds).length = ps.length := by
    have e := r2.length
    rw [F1.len _ _ _ _ hq] at e
    exact e.symm
  have hus : us.length ≤ sizeLine := by
    rw [← Paired.length r1, sizeLine_eq]
    omega
  refine wpAny_call (PySem.HandSPX.call_own F.excBase_ValueError (fun Y => PySem.HandSPX.refsVE_contains Y bm hbm) (I1.kIn _ _ hC) (PySem.W.looks_findIn I1.kIn iC) (fun self => PySem.W.bind_fn I1.kIn self tI) hus
    (codeAny_mono (F1.run _ X.stack _ _ ⟨Value.ref (hp.objs.size + 1) :: us, []⟩ (Value.ref (hp.objs.size + 1) :: (us ++ ds)) _ _ (fun _ _ _ => False) (hr.make C us []) (I2.env0.make C us []) (hb _ (Value.ref (hp.objs.size + 1) :: us) I2.kIn hl) r2 hq) fun r s' hq' => ?_))
  cases r with
  | error er => exact hx pins σ _ _ er s' I2 hq'
  | ok fl =>
    cases fl with
    | ret u =>
      obtain ⟨v, H', I3, rv, ev, q3⟩ := I2.after hq'
      subst ev
      exact ⟨rv, ⟨V.ref (hp.objs.size + 1), H', I3, rfl, q3⟩⟩
    | next => exact False.elim hq'
    | brk => exact False.elim hq'
    | cont => exact False.elim hq'
/-- C(e, ..) as a value -/
def tMkV (C : Addr) (sp : Sp) (dvs : List V) (ta : TA) : TE := fun σ H Q => ta σ H fun vs H1 => vs.length ≤ 1000 ∧ ∀ a, H1 a = none → sp (.ref a :: (vs ++ dvs)) (upd H1 a (exo a C none)) (fun v H2 => v = .non ∧ Q (.ref a) H2) (fun _ _ _ => False)
theorem pe_oex (T : OexC X.K C) (iC : PySem.W.findIn X.K (.ref C) "__init__" = some (some (.ref fI))) (tI : PySem.W.typeIn X.K (.ref fI) = some (.type "function")) (F1 : FnOk X.prog X.w X.K X.mg X.base CX k fI fd ps sp) (hr : Room (k + 1) X.A) (hb : Binds X.K fd ps ds) (hd : Vals dvs ds)
    (hx : Passes CX X (fun _ _ _ => False)) (hg : Gl X x) (hm : X.mg x = some (.ref C)) (ha : PA X (e :: es) t)
    (hdb : (x == ("__debug__" : Str)) = false := by decide) (he : starEach (e :: es) X.env = (false, eval e X.env) :: starEach es X.env := by rfl) (hpl : (backTo pos (starEach es X.env)).any (·.1) = false := by rfl) :
    PE X (.Call (.Name x p) (e :: es) [] pos) (tMkV C sp dvs t) := by
  refine ⟨fun pins s σ H Q I h => ?_⟩
  refine wpAny_Call_Name_kw (ld_glob I hg hm ?_ hdb)
  exact PySem.W.callWith_K (h₀ := X.base) I.ok.mod.kin T.kC (thn (ha.run pos pins s σ H _ I h) fun us s1 ⟨vs, H1, I1, r1, hz, q1⟩ => ⟨I1.kIn, run_oex T iC tI F1 hr hb hd hx I1 r1 hz q1⟩) he hpl
theorem pe_oex0 (T : OexC X.K C) (iC : PySem.W.findIn X.K (.ref C) "__init__" = some (some (.ref fI))) (tI : PySem.W.typeIn X.K (.ref fI) = some (.type "function")) (F1 : FnOk X.prog X.w X.K X.mg X.base CX k fI fd ps sp) (hr : Room (k + 1) X.A) (hb : Binds X.K fd ps ds) (hd : Vals dvs ds)
    (hx : Passes CX X (fun _ _ _ => False)) (hg : Gl X x) (hm : X.mg x = some (.ref C)) (hdb : (x == ("__debug__" : Str)) = false := by decide) :
    PE X (.Call (.Name x p) [] [] pos) (tMkV C sp dvs tNil) := by
  refine ⟨fun pins s σ H Q I h => ?_⟩
  refine wpAny_Call_Name_kw (ld_glob I hg hm ?_ hdb)
  exact PySem.W.callWith_K0 I.kIn T.kC (run_oex (us := []) T iC tI F1 hr hb hd hx I .nil (Nat.zero_le _) h.2)
/-! ### asked -/
/-- the error at a is of the class at C; d: its dict -/
def ExAt (H : Hp) (a C : Addr) (d : Option (Addr × List (Str × V))) : Prop := H a = some (exo a C (d.map (·.1))) ∧ ∀ y, d = some y → H y.1 = some (exd y.1 y.2)
theorem inst_of {pins : List (Addr × Obj)} {σ : L2.St} {H : Hp} {s : Shared} {a C : Addr} {d : Option (Addr × List (Str × V))} (I : Inv X pins σ H s) (h : ExAt H a C d) :
    ∃ (ox : Obj) (od : Option Obj), PySem.W.InstAt s.heap a ox C od ∧ ∀ y, d = some y → ∃ (mA : Str → Option Value) (o : Obj), od = some o ∧ (∀ name, PySem.W.lookIn name o = some (mA name)) ∧ ∀ f, RelO (y.2.lookup f) (mA f) := by
  obtain ⟨t1, ho⟩ := exo_at I.hok h.1
  cases d with
  | none => exact ⟨_, none, ⟨ho, rfl, rfl, trivial⟩, fun y e => nomatch e⟩
  | some y =>
    obtain ⟨mA, hns, rel⟩ := exd_at I.hok (h.2 y rfl)
    obtain ⟨od, h1, h2⟩ := lookIn_ns hns
    exact ⟨_, some od, ⟨ho, rfl, rfl, h1⟩, fun z e => ⟨mA, od, rfl, h2, by cases e; exact rel⟩⟩
/-- isinstance(e, c) -/
def rIsX (K : PySem.W.Frag) : List V → Hp → VK → Prop := fun xs H Q => ∃ (a C : Addr) (d : Option (Addr × List (Str × V))) (c : V) (u : Value) (b : Bool), xs = [.ref a, c] ∧ ExAt H a C d ∧ ExcC K C ∧ ClsV c u ∧ PySem.W.kitOne K (.ref C) u = some b ∧ Q (.bl b) H
def rIsXT (K : PySem.W.Frag) : List V → Hp → VK → Prop := fun xs H Q => ∃ (a C tp : Addr) (d : Option (Addr × List (Str × V))) (cs : List V) (us : List Value) (b : Bool), xs = [.ref a, .ref tp] ∧ ExAt H a C d ∧ ExcC K C ∧ H tp = some (.tup cs) ∧ Paired ClsV cs us ∧ PySem.W.kitAny K (.ref C) us = some b ∧ Q (.bl b) H
theorem ExcC.kit {K : PySem.W.Frag} {D a : Addr} {ox : Obj} {od : Option Obj} (T : ExcC K D) : PySem.W.KitX K (.ref a) (.ref D) (fun h => PySem.W.InstAt h a ox D od) :=
  PySem.W.kitx_exc (by obtain ⟨cd, hc, _⟩ := PySem.W.any_some T.hd; rw [hc]; rfl) T.hg T.hk T.hs T.ha T.hn T.ht T.hm
theorem call_isX : CallR X (.builtin "isinstance") (rIsX X.K) := by
  intro pins s σ H xs us Q I r h
  obtain ⟨a, D, d, c, u, b, rfl, ha, T, k, e, q⟩ := h
  obtain ⟨u1, u2, rfl, ra, r2⟩ := vals2 r
  obtain rfl : u1 = Value.ref a := ra
  have e2 := k.eq r2
  subst e2
  obtain ⟨ox, od, J, _⟩ := inst_of I ha
  exact PySem.W.kia_one T.kit I.kIn J e (fun z => nomatch z) fun tk => ⟨.bl b, H, I.tok tk, rfl, q⟩
theorem call_isXT : CallR X (.builtin "isinstance") (rIsXT X.K) := by
  intro pins s σ H xs us Q I r h
  obtain ⟨a, D, tp, d, cs, ws, b, rfl, ha, T, hT, k, e, q⟩ := h
  obtain ⟨u1, u2, rfl, ra, r2⟩ := vals2 r
  obtain rfl : u1 = Value.ref a := ra
  cases (show u2 = Value.ref tp from r2)
  obtain ⟨ox, od, J, _⟩ := inst_of I ha
  obtain ⟨_, its, rv, o, h1, h2, n, h3⟩ := (show ObjOk X.prog X.w H s.heap tp (.tup cs) from I.hok tp _ hT)
  have e3 := ClsV.all k rv
  subst e3
  obtain ⟨oc, oddd, dt, sl⟩ := o
  simp only at h2 h3
  subst h2 h3
  exact PySem.W.kia_tup T.kit I.kIn J h1 e (fun z => nomatch z) fun tk => ⟨.bl b, H, I.tok tk, rfl, q⟩
/-- e.f -/
def tXfV (K : PySem.W.Frag) (f : Str) (te : TE) : TE := fun σ H Q => te σ H fun x H1 => ∃ (a C dx : Addr) (fs : List (Str × V)) (v : V), x = .ref a ∧ ExAt H1 a C (some (dx, fs)) ∧ XfC K C ∧ PySem.W.findIn K (.ref C) f = some none ∧ fs.lookup f = some v ∧ Q v H1
theorem pe_xfv {f : Str} (he : PE X e te) (hb : attributeBase e f X.env (eval e X.env) = eval e X.env := by rfl) : PE X (.Attribute e f pos) (tXfV X.K f te) := by
  refine ⟨fun pins s σ H Q I h => ?_⟩
  refine attr_of hb (thn (he.run pins s σ H _ I h) fun u s1 hh => ?_)
  obtain ⟨x, H1, I1, rx, a, D, dx, fs, v, ex, ha, T, hno, l, q⟩ := hh
  subst ex
  obtain rfl : u = Value.ref a := rx
  obtain ⟨ox, od, J, hd⟩ := inst_of I1 ha
  obtain ⟨mA, o, rfl, hl, hr⟩ := hd _ rfl
  obtain ⟨u, hu, ru⟩ := RelO.some_of (v := v) (o := mA f) (by rw [← l]; exact hr f)
  exact HandSPX.exc_get I1.kIn J T.ga T.gg T.exC (PySem.W.findObj_own T.hdC hno rfl (by rw [hl, hu])) (handed_of ru) ⟨v, H1, I1.tok _, ru, q⟩
end
end L2

/-! Facts of error classes by one look at the written part. -/
namespace L2
open PySem PySem.Spec PyProof.Rows
def oexB (K : PySem.W.Frag) (C : Addr) : Bool := (match K.lookup C with
  | some ⟨.type "type", _, .cls cd, sl⟩ => (match cd.mro, sl.toList with
    | .ref C' :: bm, [_, _, _, _, some (.builtin n), _] => C' == C && n == "ValueError.__new__" && cd.hasDict && !cd.hasDel && PySem.HandSPX.refsVE bm
    | _, _ => false)
  | _ => false)
theorem oexB_ok {K : PySem.W.Frag} {C : Addr} (q : oexB K C = true) : ∃ nm q N bs bm sn sub ab col dd k0 k1 k2 k3 k5, K.lookup C = some (excClassObj nm q C N bs bm true sn sub ab col dd k0 k1 k2 k3 k5 "ValueError.__new__") ∧ PySem.HandSPX.refsVE bm = true := by
  unfold oexB at q
  split at q
  · rename_i dd cd sl ho
    split at q
    · rename_i C' bm k0 k1 k2 k3 n k5 hm hs
      simp only [Bool.and_eq_true, beq_iff_eq, Bool.not_eq_true'] at q
      obtain ⟨⟨⟨⟨rfl, rfl⟩, hdct⟩, hdel⟩, ht⟩ := q
      obtain ⟨nm, bs, mro, ns, qn, hd, sn, sub, ab, col, del⟩ := cd
      dsimp only at hm hdel hdct
      subst hm hdel hdct
      have hsl : sl = #[k0, k1, k2, k3, some (.builtin "ValueError.__new__"), k5] := by
        obtain ⟨l⟩ := sl
        simp only at hs
        rw [hs]
      subst hsl
      exact ⟨nm, qn, ns, bs, bm, sn, sub, ab, col, dd, k0, k1, k2, k3, k5, ho, ht⟩
    · cases q
  · cases q
/-- all that is asked of a class of errors -/
structure ErrC (K : PySem.W.Frag) (C : Addr) : Prop where
  o : OexC K C
  e : ExcC K C
  x : XfC K C
def errB (K : PySem.W.Frag) (C : Addr) : Bool := oexB K C && decide (PySem.W.findIn K (.ref C) "__setattr__" = some (some (.builtin "object.__setattr__"))) && decide (PySem.W.subIn K (.ref C) (.type "BaseException") = some true) &&
  decide (PySem.W.typeIn K (.ref C) = some (.type "type")) && PySem.W.keepIn K (.ref C) && decide (PySem.W.findIn K (.ref C) "__getattribute__" = some (some (.builtin "BaseException.__getattribute__"))) && decide (PySem.W.findIn K (.ref C) "__getattr__" = some none) &&
  PySem.W.hasDictIn K C && decide (PySem.W.findIn K (.ref C) "__class__" = some (some (.builtin "object.__class__"))) && decide (PySem.W.specialIn K (.builtin "object.__class__") "__get__" = some (some (.builtin "getset_descriptor.__get__"))) &&
  decide (PySem.W.takesIn K (.builtin "object.__class__") = some true) && decide (PySem.W.mroIn K C (.type "object") = some true)
theorem errB_ok {K : PySem.W.Frag} {C : Addr} (h : errB K C = true) : ErrC K C := by
  unfold errB at h
  simp only [Bool.and_eq_true, decide_eq_true_eq] at h
  obtain ⟨⟨⟨⟨⟨⟨⟨⟨⟨⟨⟨h1, h2⟩, h3⟩, h4⟩, h5⟩, h6⟩, h7⟩, h8⟩, h9⟩, h10⟩, h11⟩, h12⟩ := h
  exact ⟨⟨oexB_ok h1, h2, h3, h4, h5⟩, ⟨h6, h7, h3, h8, h9, h10, h11, h12⟩, ⟨h6, h7, h3, h8⟩⟩
theorem Fun.ofD {K : PySem.W.Frag} {x q : Str} {st : Stmt} {f : Addr} {fd : FuncData} (F : FunD K x q (defArgs st) (defBody st) (defScope st) [] [] f fd) : Fun K x q st f fd := by
  obtain ⟨oc, od, dV, kV, doc, pm, an, cdv, ct, osl, rfl, lk, hcd, hD, hK⟩ := F.ex
  rcases hD with ⟨_, rfl⟩ | ⟨e, _⟩
  · exact ⟨⟨oc, od, kV, doc, pm, an, cdv, ct, osl, rfl, lk, hcd⟩, F.kp⟩
  · exact absurd rfl e
/-! ### the Hook, over any look of one's own -/
end L2
namespace He
open PySem PySem.Spec PyProof.Rows L2
def obsQ (ck : PySem.W.Frag → Bool) (fn : List DefD) (K : PySem.W.Frag) : AlD := (ck K && fn.all fun d => d.ok K, fn.map fun d => fnW K d.at_)
def SaysQ (ck : PySem.W.Frag → Bool) (fn : List DefD) (K : PySem.W.Frag) : Prop := obsQ ck fn K = valD fn
def obsQG (n : Nat) (ck : PySem.W.Frag → Bool) (fn : List DefD) (g : Addr → Option Obj) : AlD := obsQ ck fn (frG g (asD g n))
def hookQ (n : Nat) (ck : PySem.W.Frag → Bool) (fn : List DefD) : PySem.W.Hook where
  α := AlD
  obs := fun s => obsQG n ck fn s.heap.get?
  val := fun _ => valD fn
  says := fun _ h => ∃ K : PySem.W.Frag, K.In h ∧ SaysQ ck fn K
  of := fun _ _ e => ⟨_, frG_in, e⟩
  keeps := fun _ _ _ ⟨K, hK, c⟩ k => ⟨K, PySem.W.Frag.In.keeps hK k, c⟩
theorem obsQG_eq {n : Nat} {ck : PySem.W.Frag → Bool} {fn : List DefD} {g : Addr → Option Obj} {s : Shared} (h : ∀ a, g a = s.heap.get? a) : obsQG n ck fn g = (hookQ n ck fn).obs s := by
  have e : g = s.heap.get? := funext h
  rw [e] <;> rfl
section
variable {ck : PySem.W.Frag → Bool} {fn : List DefD} {K : PySem.W.Frag}
theorem SaysQ.look (c : SaysQ ck fn K) : ck K = true := (ba (show (ck K && fn.all fun d => d.ok K) = true from congrArg (fun z : AlD => z.1) c)).1
theorem SaysQ.def_ (c : SaysQ ck fn K) (i : Nat) {d : DefD} (h : fn[i]? = some d := by rfl) : ∃ fd, FunD K d.name d.qual d.params d.body d.scope (d.dvs K) (d.kws K) (fAd K d.at_) fd := by
  have c2 := (ba (show (ck K && fn.all fun d => d.ok K) = true from congrArg (fun z : AlD => z.1) c)).2
  have e : fn.map (fun d => fnW K d.at_) = fn.map DefD.val := congrArg (fun z : AlD => z.2) c
  have e2 : (fn.map fun d => fnW K d.at_)[i]? = (fn.map DefD.val)[i]? := by rw [e]
  rw [List.getElem?_map, List.getElem?_map, h] at e2
  exact DefD.funD (Option.some.inj e2) (List.all_eq_true.mp c2 d (List.mem_of_getElem? h))
end
end He

/-! A top that asks the world's habit (a text-keyed dict at module level does, once): the run is shown for either answer, and joined. -/
namespace L2
open PySem PySem.Spec PyProof.Rows
theorem asked (f : String → Bool) (x : String) : f = fun s => if s = x then f x else f s := funext fun s => by
  by_cases h : s = x
  · rw [if_pos h, h]
  · rw [if_neg h]
/-- the world w, but that at x it answers b, else f -/
def wAt (w : World) (f : String → Bool) (x : String) (b : Bool) : World := { w with params := { w.params with followText := fun s => if s = x then b else f s } }
theorem wAt_eq (w : World) (x : String) : w = wAt w w.params.followText x (w.params.followText x) :=
  congrArg (fun g => ({ w with params := { w.params with followText := g } } : World)) (asked w.params.followText x)
/-- a fact of every world, from the two answers -/
theorem world_at {F : World → Prop} (x : String) (h0 : ∀ w f, F (wAt w f x false)) (h1 : ∀ w f, F (wAt w f x true)) (w : World) : F w := by
  have e := wAt_eq w x
  generalize w.params.followText x = b at e
  rw [e]
  cases b
  · exact h0 w _
  · exact h1 w _
end L2

namespace Lm
open PySem PySem.Spec PyProof.Rows L2
def top (i : Nat) : Stmt := PySem.Challenge.pw_leastmarks_k06_matches_by_hand.main.body.getD i (.Pass ⟨0, 0, 0, 0⟩)
abbrev sIsRow : Stmt := top 19
abbrev sIsTuple : Stmt := top 20
abbrev sIsName : Stmt := top 21
abbrev sNamedRow : Stmt := top 22
abbrev sFnName : Stmt := top 23
abbrev sNested : Stmt := top 24
abbrev sRebuilt : Stmt := top 25
def letters : Str := "abcdefghijklmnopqrstuvwxyz"
def words : List Str := ["kind", "record", "choice", "module", "function", "let", "new", "move", "call", "ask", "drop", "if", "else", "match", "try", "loop", "break", "next", "return", "fail", "block", "item"]
abbrev sHeaded : Stmt := top 31
abbrev sNamesOf : Stmt := top 32
abbrev sPartsFit : Stmt := top 33
abbrev sOneOf : Stmt := top 34
abbrev sPartsSize : Stmt := top 35
abbrev sSortsOf : Stmt := top 36
abbrev sIsKind : Stmt := top 37
abbrev sIsChoice : Stmt := top 38
abbrev sCheckKinds : Stmt := top 30
abbrev sPlaceKind : Stmt := top 41
abbrev sFieldKind : Stmt := top 42
abbrev sOverlap : Stmt := top 43
abbrev sRowKinds : Stmt := top 44
end Lm
namespace L2
open PySem PySem.Spec PyProof.Rows L2
/-- the entries of a dict of texts to ints -/
def rowsOf : List DictEntry → Option (List (Int × Str × Int))
  | [] => some []
  | e :: r => match e, rowsOf r with
    | ⟨h, .str x _, .int n _⟩, some l => some ((h, x, n) :: l)
    | _, _ => none
def tabOf (K : PySem.W.Frag) (a : Addr) : Option (List (Int × Str × Int)) := match K.lookup a with
  | some ⟨.type "dict", none, .dict es _, ⟨[]⟩⟩ => rowsOf es.toList
  | _ => none
end L2
namespace Lm
open PySem PySem.Spec PyProof.Rows L2
abbrev sBodiesOf : Stmt := top 46
abbrev sIsStatement : Stmt := top 58
abbrev sStandsRight : Stmt := top 61
abbrev sAdded : Stmt := top 62
def sizesL : List (Str × Int) := [("let", 3), ("new", 2), ("move", 3), ("call", 4), ("ask", 4), ("drop", 2), ("match", 3), ("if", 3), ("block", 2), ("loop", 2), ("try", 3), ("break", 1), ("next", 1), ("return", 2), ("fail", 1)]
/-- the j-th statement of the i-th top's class -/
def mth (i j : Nat) : Stmt := match top i with
  | .ClassDef (body := b) .. => b.getD j (.Pass ⟨0, 0, 0, 0⟩)
  | _ => .Pass ⟨0, 0, 0, 0⟩
abbrev mIsNew : Stmt := mth 60 5
abbrev mTakes : Stmt := mth 60 9
abbrev mMoveFits : Stmt := mth 60 10
abbrev mArmNames : Stmt := mth 60 7
abbrev mNamesFit : Stmt := mth 60 6
abbrev mArmsFit : Stmt := mth 60 13
abbrev mAskFits : Stmt := mth 60 12
abbrev mCallFits : Stmt := mth 60 11
abbrev mPlacesFit : Stmt := mth 60 8
abbrev mScopeInit : Stmt := mth 59 0
abbrev mScopeInner : Stmt := mth 59 1
abbrev mReason : Stmt := mth 60 4
abbrev sDeclare : Stmt := top 49
abbrev sCheckProgram : Stmt := top 67
abbrev sCheckModules : Stmt := top 68
abbrev sIsModule : Stmt := top 69
abbrev sHeadFits : Stmt := top 70
abbrev sCheckMain : Stmt := top 71
abbrev mNpInit : Stmt := mth 2 0
abbrev npF : List Str := ["where", "at", "why"]
abbrev mFcInit : Stmt := mth 60 0
abbrev mCheckAll : Stmt := mth 60 1
abbrev mCheckBody : Stmt := mth 60 2
abbrev mCheckInside : Stmt := mth 60 3
abbrev sOwnBreak : Stmt := top 47
abbrev sEndsItself : Stmt := top 48
abbrev mPgInit : Stmt := mth 73 0
abbrev sCell : Stmt := top 75
abbrev sSrc : Stmt := top 76
abbrev sNext : Stmt := top 77
abbrev sOne : Stmt := top 78
abbrev sMix : Stmt := top 79
abbrev sAlone : Stmt := top 80
abbrev sSaid : Stmt := top 81
def aloNames : List Str := ["NoProgram", "NoText", "NoFunction", "NoPoint", "NoPlan", "HasFaults", "NoChoices", "NoStops", "NoLowered", "NoWrites", "NoSpare", "NoImage", "NoModule"]
abbrev sOfMain : Stmt := top 83
abbrev sRows : Stmt := top 84
abbrev sBodies : Stmt := top 85
abbrev sScene : Stmt := top 82
abbrev sLaw : Stmt := top 86
def dG (x : Str) (st : Stmt) : He.DefD := ⟨(x, none), x, x, defArgs st, defBody st, defScope st, [], []⟩
def dN (c m : Str) (st : Stmt) : He.DefD := ⟨(c, some m), m, c ++ "." ++ m, defArgs st, defBody st, defScope st, [], []⟩
def fnsP : List He.DefD := [dG "is_row" sIsRow,
  dG "is_tuple" sIsTuple,
  dG "is_name" sIsName,
  dG "is_named_row" sNamedRow,
  dG "is_function_name" sFnName,
  dG "nested" sNested,
  dG "is_headed" sHeaded,
  dG "names_of_sort" sNamesOf,
  dG "is_one_of" sOneOf,
  dG "parts_size" sPartsSize,
  dG "parts_fit" sPartsFit,
  dG "sorts_of" sSortsOf,
  dG "is_kind" sIsKind,
  dG "is_choice" sIsChoice,
  dG "check_kinds" sCheckKinds,
  dG "field_kind" sFieldKind,
  dG "place_kind" sPlaceKind,
  dG "overlap" sOverlap,
  dG "row_kinds" sRowKinds,
  dG "bodies_of" sBodiesOf,
  dG "has_own_break" sOwnBreak,
  dG "ends_itself" sEndsItself,
  dG "declare" sDeclare,
  dG "is_statement" sIsStatement,
  dG "stands_right" sStandsRight,
  dG "added" sAdded,
  dG "head_fits" sHeadFits,
  dG "is_module" sIsModule,
  dN "Scope" "__init__" mScopeInit,
  dN "Scope" "inner" mScopeInner,
  dN "FunctionCheck" "__init__" mFcInit,
  dN "FunctionCheck" "check_all" mCheckAll,
  dN "FunctionCheck" "check_body" mCheckBody,
  dN "FunctionCheck" "check_inside" mCheckInside,
  dN "FunctionCheck" "reason" mReason,
  dN "FunctionCheck" "is_new" mIsNew,
  dN "FunctionCheck" "names_fit" mNamesFit,
  dN "FunctionCheck" "arm_names_fit" mArmNames,
  dN "FunctionCheck" "places_fit" mPlacesFit,
  dN "FunctionCheck" "takes" mTakes,
  dN "FunctionCheck" "move_fits" mMoveFits,
  dN "FunctionCheck" "call_fits" mCallFits,
  dN "FunctionCheck" "ask_fits" mAskFits,
  dN "FunctionCheck" "arms_fit" mArmsFit,
  dN "Program" "__init__" mPgInit,
  dN "NoProgram" "__init__" mNpInit,
  dG "check_main" sCheckMain,
  dG "check_modules" sCheckModules,
  dG "check_program" sCheckProgram,
  dG "rebuilt" sRebuilt]
def fasP : List He.Fa := [.glo "is_row", .glo "is_tuple", .glo "is_name", .glo "is_named_row", .glo "is_function_name", .glo "nested", .glo "is_headed", .glo "names_of_sort", .glo "is_one_of", .glo "parts_size", .glo "parts_fit", .glo "sorts_of", .glo "is_kind", .glo "is_choice", .glo "check_kinds", .glo "field_kind", .glo "place_kind", .glo "overlap", .glo "row_kinds", .glo "bodies_of", .glo "has_own_break", .glo "ends_itself", .glo "declare", .glo "is_statement", .glo "stands_right", .glo "added", .glo "head_fits", .glo "is_module", .cls "Scope", .noat "Scope" "variables", .noat "Scope" "depth", .noat "Scope" "looped", .cls "FunctionCheck", .noat "FunctionCheck" "sorts", .noat "FunctionCheck" "heads", .noat "FunctionCheck" "where", .noat "FunctionCheck" "cases", .noat "FunctionCheck" "result", .noat "FunctionCheck" "declared", .noat "FunctionCheck" "passed", .cls "Program", .noat "Program" "kinds", .noat "Program" "modules", .noat "Program" "_sorts", .noat "Program" "_parts", .mkr "Scope", .mkr "FunctionCheck", .mkr "Program", .glo "Scope", .glo "FunctionCheck", .glo "Program", .meth "Scope" "inner", .meth "FunctionCheck" "is_new", .meth "FunctionCheck" "takes", .meth "FunctionCheck" "move_fits", .meth "FunctionCheck" "arm_names_fit", .meth "FunctionCheck" "names_fit", .meth "FunctionCheck" "arms_fit", .meth "FunctionCheck" "ask_fits", .meth "FunctionCheck" "call_fits", .meth "FunctionCheck" "places_fit", .meth "FunctionCheck" "reason", .glo "NoProgram", .meth "FunctionCheck" "check_body", .meth "FunctionCheck" "check_inside", .meth "FunctionCheck" "check_all", .glo "check_main", .glo "check_modules", .glo "check_program", .free "isinstance", .free "list", .free "tuple", .free "str", .free "len", .free "all", .free "any", .free "enumerate", .free "zip", .free "sum", .free "min", .free "dict", .free "int", .str "LETTERS" letters, .glo "WORDS", .int "LONGEST_NAME" 8, .int "MOST_KINDS" 8, .int "MOST_PARTS" 4, .int "MOST_LEAVES" 8, .int "MOST_MODULES" 6, .int "MOST_FUNCTIONS" 8, .int "MOST_PARAMETERS" 4, .int "MOST_STATEMENTS" 40, .int "MOST_BODIES" 6, .int "MOST_VARIABLES" 8, .int "MOST_ASKED" 4, .glo "SIZES", .glo "rebuilt"]
def ckP (K : PySem.W.Frag) : Bool := fasP.all (fun f => f.ok K) && (He.tupB K "WORDS" (words.map He.Dv.str) && (errB K (He.ga K "NoProgram") && (npF.all (fun f => He.eqO (PySem.W.findIn K (.ref (He.ga K "NoProgram")) f) (some none)) &&
  (He.eqO (PySem.W.findIn K (.ref (He.ga K "NoProgram")) "__init__") (some (some (.ref (He.ma K (He.ga K "NoProgram") "__init__")))) && decide (PySem.W.typeIn K (.ref (He.ma K (He.ga K "NoProgram") "__init__")) = some (.type "function"))))))
def fnsL : List He.DefD := [dG "_law_cell_at" sCell, dG "_law_source_of" sSrc, dG "_law_next" sNext, dG "_law_mixed" sMix, dG "_law_alone" sAlone, dG "_law_said" sSaid, dG "_law_scene" sScene, dG "_law_of_main" sOfMain, dG "_law_rows" sRows, dG "_law_bodies_right" sBodies, dG "law" sLaw]
def refA : Value → Addr
  | .ref c => c
  | _ => 0
def refB : Value → Bool
  | .ref _ => true
  | _ => false
/-- the code object of a def -/
def codeAd (K : PySem.W.Frag) (f : Addr) : Addr := match K.lookup f with
  | some ⟨_, _, .func fd, _⟩ => refA fd.code
  | _ => 0
def codeB (K : PySem.W.Frag) (f : Addr) : Bool := match K.lookup f with
  | some ⟨_, _, .func fd, _⟩ => refB fd.code
  | _ => false
/-- its table -/
def tabP (K : PySem.W.Frag) : Addr := match K.lookup (codeAd K (He.ga K "_law_of_main")) with
  | some ⟨_, _, .fields vs, _⟩ => (match (vs[11]? : Option Value) with
    | some (.ref p) => p
    | _ => 0)
  | _ => 0
def lawNames : List Str := ["_law_cell_at", "_law_source_of", "_law_next", "_law_mixed", "_law_alone", "_law_said", "_law_scene", "_law_of_main", "_law_rows", "_law_bodies_right", "law"]
def freeNames : List Str := ["isinstance", "list", "len", "int", "str", "tuple"]
def ckL (K : PySem.W.Frag) : Bool := lawNames.all (fun x => He.eqO (PySem.W.nsIn K mainGlobals x) (some (some (.ref (He.ga K x))))) && (freeNames.all (fun x => He.eqO (PySem.W.nsIn K mainGlobals x) (some none)) && (aloNames.all (fun x => He.eqO (PySem.W.nsIn K mainGlobals x) (some (some (.ref (He.ga K x)))) && decide (PySem.W.kitOne K (.ref (He.ga K "NoProgram")) (.ref (He.ga K x)) = some (decide (x = "NoProgram")))) &&
  ((["NoText", "NoFunction", "NoModule", "MarkError"] : List Str).all (fun x => He.eqO (PySem.W.nsIn K mainGlobals x) (some (some (.ref (He.ga K x))))) && (decide (PySem.W.exmOne K (.ref (He.ga K "NoProgram")) (.ref (He.ga K "NoProgram")) = some true) && (codeB K (He.ga K "_law_of_main") &&
  (PySem.W.codeHdIn K (codeAd K (He.ga K "_law_of_main")) (tabP K) && (K.lookup (tabP K)).isNone))))))
def sizesW (w : World) : List (Int × Str × Int) := sizesL.map fun p => (hashStr w p.1, p.1, p.2)
/-- the written part, without the table of code objects -/
def asL0 : List Addr := [3, 6, 4, 31, 51, 70, 89, 108, 120, 139, 158, 170, 189, 208, 227, 239, 258, 261, 268, 275, 280, 287, 294, 301, 308, 313, 320, 325, 330, 337, 342, 347, 354, 361, 366, 373, 380, 387, 392, 397, 402, 409, 416, 423, 428, 429, 436, 460, 566, 577]
def asL1 : List Addr := [582, 589, 596, 601, 606, 613, 656, 667, 674, 681, 688, 695, 702, 709, 716, 723, 728, 735, 742, 0, 30, 50, 69, 88, 107, 119, 138, 157, 169, 188, 207, 226, 238, 257, 267, 274, 279, 286, 293, 300, 307, 312, 319, 324, 329, 336, 341, 346, 353, 360]
def asL2 : List Addr := [365, 372, 379, 386, 391, 396, 401, 408, 415, 422, 427, 435, 459, 565, 576, 581, 588, 595, 600, 605, 612, 655, 666, 673, 680, 687, 694, 701, 708, 715, 722, 727, 734, 741, 28, 29, 32, 48, 49, 67, 68, 86, 87, 105, 106, 118, 136, 137, 155, 156]
def asL3 : List Addr := [168, 186, 187, 205, 206, 224, 225, 237, 255, 256, 262, 263, 264, 265, 266, 269, 270, 271, 272, 273, 276, 277, 278, 281, 282, 283, 284, 285, 288, 289, 290, 291, 292, 295, 296, 297, 298, 299, 302, 303, 304, 305, 306, 309, 310, 311, 314, 315, 316, 317]
def asL4 : List Addr := [318, 321, 322, 323, 326, 327, 328, 331, 332, 333, 334, 335, 338, 339, 340, 343, 344, 345, 348, 349, 350, 351, 352, 355, 356, 357, 358, 359, 362, 363, 364, 367, 368, 369, 370, 371, 374, 375, 376, 377, 378, 381, 382, 383, 384, 385, 388, 389, 390, 393]
def asL5 : List Addr := [394, 395, 398, 399, 400, 403, 404, 405, 406, 407, 410, 411, 412, 413, 414, 417, 418, 419, 420, 421, 424, 425, 426, 430, 431, 432, 433, 434, 450, 457, 458, 461, 462, 476, 483, 490, 497, 504, 511, 518, 525, 532, 539, 546, 551, 558, 563, 564, 567, 568]
def asL6 : List Addr := [571, 572, 573, 574, 575, 578, 579, 580, 583, 584, 585, 586, 587, 590, 591, 592, 593, 594, 597, 598, 599, 602, 603, 604, 607, 608, 609, 610, 611, 627, 634, 641, 648, 653, 654, 657, 658, 661, 662, 663, 664, 665, 668, 669, 670, 671, 672, 675, 676, 677]
def asL7 : List Addr := [678, 679, 682, 683, 684, 685, 686, 689, 690, 691, 692, 693, 696, 697, 698, 699, 700, 703, 704, 705, 706, 707, 710, 711, 712, 713, 714, 717, 719, 720, 721, 724, 725, 726, 729, 730, 731, 732, 733, 736, 737, 738, 739, 740, 27, 47, 66, 85, 104, 135]
def asL8 : List Addr := [154, 185, 204, 223, 254, 449, 456, 475, 482, 489, 496, 503, 510, 517, 524, 531, 538, 545, 550, 557, 562, 626, 633, 640, 647, 652, 22, 23, 24, 25, 26, 42, 43, 44, 45, 46, 61, 62, 63, 64, 65, 80, 81, 82, 83, 84, 99, 100, 101, 102]
def asL9 : List Addr := [103, 130, 131, 132, 133, 134, 149, 150, 151, 152, 153, 180, 181, 182, 183, 184, 199, 200, 201, 202, 203, 218, 219, 220, 221, 222, 249, 250, 251, 252, 253, 444, 445, 446, 447, 448, 451, 452, 453, 454, 455, 472, 473, 474, 477, 478, 479, 480, 481, 484]
def asL10 : List Addr := [485, 486, 487, 488, 491, 492, 493, 494, 495, 498, 499, 500, 501, 502, 505, 506, 507, 508, 509, 512, 513, 514, 515, 516, 519, 520, 521, 522, 523, 526, 527, 528, 529, 530, 533, 534, 535, 536, 537, 540, 541, 542, 543, 544, 547, 548, 549, 552, 553, 554]
def asL11 : List Addr := [555, 556, 559, 560, 561, 621, 622, 623, 624, 625, 628, 629, 630, 631, 632, 635, 636, 637, 638, 639, 642, 643, 644, 645, 646, 649, 650, 651]
def asL : List Addr := asL0 ++ (asL1 ++ (asL2 ++ (asL3 ++ (asL4 ++ (asL5 ++ (asL6 ++ (asL7 ++ (asL8 ++ (asL9 ++ (asL10 ++ (asL11)))))))))))
def kQ (g : Addr → Option Obj) : PySem.W.Frag := He.frG g asL
theorem lk_mem : ∀ {l : List (Addr × Obj)} {a : Addr} {o : Obj}, l.lookup a = some o → (a, o) ∈ l
  | [], _, _, e => by cases e
  | (b, u) :: r, a, o, e => by
    by_cases h : a = b
    · subst h
      simp [List.lookup] at e
      subst e
      exact List.mem_cons_self ..
    · have h2 : (a == b) = false := by simpa using h
      simp [List.lookup, h2] at e
      exact List.mem_cons_of_mem _ (lk_mem e)
theorem kQ_in {h : Heap} : (kQ h.get?).In h := He.frG_in
def emptyO : Option Obj → Bool
  | some ⟨.none, none, .fields ⟨[]⟩, ⟨[]⟩⟩ => true
  | _ => false
theorem emptyO_ok : ∀ {o : Option Obj}, emptyO o = true → o = some { cls := .none, data := .fields #[] } := by
  intro o h
  unfold emptyO at h
  split at h
  · rfl
  · cases h
def ckA (K : PySem.W.Frag) : Bool := ckP K && (ckL K && !(He.ga K "SIZES" == sysModules))
def fnsA : List He.DefD := fnsP ++ fnsL
def obs3 (g : Addr → Option Obj) : He.AlD × Option (List (Int × Str × Int)) × Bool := (He.obsQ ckA fnsA (kQ g), tabOf (kQ g) (He.ga (kQ g) "SIZES"), emptyO (g (tabP (kQ g))))
def SaysA (w : World) (h : Heap) : Prop := ∃ K : PySem.W.Frag, K.In h ∧ He.SaysQ ckA fnsA K ∧ tabOf K (He.ga K "SIZES") = some (sizesW w) ∧ h.get? (tabP K) = some { cls := .none, data := .fields #[] }
def hk : PySem.W.Hook where
  α := He.AlD × Option (List (Int × Str × Int)) × Bool
  obs := fun s => obs3 s.heap.get?
  val := fun w => (He.valD fnsA, some (sizesW w), true)
  says := SaysA
  of := fun w s e => ⟨kQ s.heap.get?, kQ_in, (Prod.mk.inj e).1, (Prod.mk.inj (Prod.mk.inj e).2).1, emptyO_ok (Prod.mk.inj (Prod.mk.inj e).2).2⟩
  keeps := fun _ _ _ ⟨K, hK, c1, c2, c3⟩ k => ⟨K, PySem.W.Frag.In.keeps hK k, c1, c2, k _ _ c3⟩
def ob (s : PySem.W.SharedT) : He.AlD × Option (List (Int × Str × Int)) × Bool := obs3 (HandSHeadRun.getT s)
theorem ob_eq (s : PySem.W.SharedT) : ob s = hk.obs s.abs := by
  have e : HandSHeadRun.getT s = s.abs.heap.get? := funext (HandSHeadRun.getT_eq s)
  show obs3 _ = obs3 _
  rw [e]
abbrev R : PySem.W.OpenRow := PySem.W.OpenLaw.row PySem.Challenge.rw_leastmarks_k06_matches_by_hand
def loose1 : List Str := ["__name__", "MarkError", "NoProgram", "NoText", "NoFunction", "NoPoint", "NoPlan", "HasFaults", "NoChoices", "NoStops", "NoLowered", "NoWrites", "NoSpare", "NoImage", "NoModule", "LETTERS", "WORDS", "LONGEST_NAME", "is_row", "is_tuple", "is_name", "is_named_row", "is_function_name", "nested", "rebuilt", "MOST_KINDS", "MOST_PARTS", "MOST_LEAVES", "check_kinds"]
def loose2 : List Str := ["is_headed", "names_of_sort", "parts_fit", "is_one_of", "parts_size", "sorts_of", "is_kind", "is_choice", "kind_leaves", "place_kind", "field_kind", "overlap", "row_kinds", "bodies_of", "has_own_break", "ends_itself", "declare", "declare_all", "declarations", "SIZES", "MOST_STATEMENTS", "MOST_BODIES", "MOST_VARIABLES", "MOST_ASKED", "is_statement", "Scope", "FunctionCheck", "stands_right"]
def loose3 : List Str := ["added", "MOST_MODULES", "MOST_FUNCTIONS", "MOST_PARAMETERS", "check_program", "check_modules", "is_module", "head_fits", "check_main", "Program", "_law_cell_at", "_law_source_of", "_law_next", "_law_one", "_law_mixed", "_law_alone", "_law_said", "_law_scene", "_law_of_main", "_law_rows", "_law_bodies_right"]
def loose : List Str := loose1 ++ (loose2 ++ loose3)
end Lm

namespace Lm
open PySem PySem.Spec PyProof.Rows L2
theorem run0 (w : World) (f : String → Bool) : HandSHeadRun.RunEq R (PySem.W.view R.prog [86]) hk ob 9000 loose (wAt w f "special-get-raises" false) := by
  intro os
  kernel_rfl
end Lm

namespace Lm
open PySem PySem.Spec PyProof.Rows L2
theorem run1 (w : World) (f : String → Bool) : HandSHeadRun.RunEq R (PySem.W.view R.prog [86]) hk ob 9000 loose (wAt w f "special-get-raises" true) := by
  intro os
  kernel_rfl
end Lm

/-! Data as a whole: what isinstance, a walk, a part of it say, whatever it is made of. -/
namespace L2
open PySem PySem.Spec PyProof.Rows
theorem same_upd {H : Hp} {p : Addr} {o : HO} (h : H p = none) : Same H (upd H p o) := fun b x e => by
  rw [upd_ne (ne_of_none e h)]
  exact e
section
variable {K : PySem.W.Frag} {H H' : Hp}
theorem sqt_same {a : Addr} {xs : List V} (e : Same H H') (h : SqT K H a xs) : SqT K H' a xs := by
  rcases h with (h | ⟨o, h⟩) | h
  · exact .inl (.inl (e _ _ h))
  · exact .inl (.inr ⟨o, e _ _ h⟩)
  · exact .inr h
/-! ### data: none, bools, ints, texts, lists, tuples of such, and dicts into which nobody looks -/
mutual
inductive Dx (K : PySem.W.Frag) (H : Hp) : V → PyData → Prop
  | non : Dx K H .non .none
  | bl (b : Bool) : Dx K H (.bl b) (.bool b)
  | int (i : Int) : Dx K H (.int i) (.int i)
  | str (x : Str) : Dx K H (.str x) (.str x)
  | lst {a : Addr} {xs : List V} {ds : List PyData} : H a = some (.lst xs) → DxAll K H xs ds → Dx K H (.ref a) (.list ds)
  | tup {a : Addr} {xs : List V} {ds : List PyData} : H a = some (.tup xs) → DxAll K H xs ds → Dx K H (.ref a) (.tuple ds)
  | dic {a : Addr} {kvs : List (Key × V)} : H a = some (.dK kvs) → Dx K H (.ref a) (.dict [])
inductive DxAll (K : PySem.W.Frag) (H : Hp) : List V → List PyData → Prop
  | nil : DxAll K H [] []
  | cons {v : V} {vs : List V} {d : PyData} {ds : List PyData} : Dx K H v d → DxAll K H vs ds → DxAll K H (v :: vs) (d :: ds)
end
mutual
theorem Dx.mono (e : Same H H') : ∀ {v : V} {d : PyData}, Dx K H v d → Dx K H' v d
  | _, _, .non => .non
  | _, _, .bl b => .bl b
  | _, _, .int i => .int i
  | _, _, .str x => .str x
  | _, _, .lst h a => .lst (e _ _ h) (DxAll.mono e a)
  | _, _, .tup h a => .tup (e _ _ h) (DxAll.mono e a)
  | _, _, .dic h => .dic (e _ _ h)
theorem DxAll.mono (e : Same H H') : ∀ {vs : List V} {ds : List PyData}, DxAll K H vs ds → DxAll K H' vs ds
  | _, _, .nil => .nil
  | _, _, .cons h a => .cons (Dx.mono e h) (DxAll.mono e a)
end
mutual
theorem Dx.dp : ∀ {v : V} {d : PyData}, Dx K H v d → d.canLay0 = true → Dp K H v d
  | _, _, .non, _ => .non
  | _, _, .bl b, _ => .bl b
  | _, _, .int i, _ => .int i
  | _, _, .str x, _ => .str x
  | _, _, .lst h a, c => .lst (.inl (.inl h)) (DxAll.dp a c)
  | _, _, .tup h a, c => .tup (.inl (.inl h)) (DxAll.dp a c)
theorem DxAll.dp : ∀ {vs : List V} {ds : List PyData}, DxAll K H vs ds → PyData.canLayAll0 ds = true → DpAll K H vs ds
  | _, _, .nil, _ => .nil
  | _, _, .cons (d := d) (ds := ds) h a, c => by
    have c' : (d.canLay0 && PyData.canLayAll0 ds) = true := c
    rw [Bool.and_eq_true] at c'
    exact .cons (Dx.dp h c'.1) (DxAll.dp a c'.2)
end
theorem DxAll.len : ∀ {vs : List V} {ds : List PyData}, DxAll K H vs ds → vs.length = ds.length
  | _, _, .nil => rfl
  | _, _, .cons _ a => by rw [List.length_cons, List.length_cons, DxAll.len a]
theorem DxAll.get : ∀ {vs : List V} {ds : List PyData} {i : Nat} {v : V}, DxAll K H vs ds → vs[i]? = some v → ∃ d, ds[i]? = some d ∧ Dx K H v d
  | _, _, i, v, .nil, e => by simp at e
  | _, _, 0, v, .cons h a, e => by simp at e; subst e; exact ⟨_, rfl, h⟩
  | _, _, i + 1, v, .cons h a, e => DxAll.get (i := i) a (by simpa using e)
theorem DxAll.at : ∀ {vs : List V} {ds : List PyData} {i : Nat} {d : PyData}, DxAll K H vs ds → ds[i]? = some d → ∃ v, vs[i]? = some v ∧ Dx K H v d
  | _, _, i, d, .nil, e => by simp at e
  | _, _, 0, d, .cons h a, e => by simp at e; subst e; exact ⟨_, rfl, h⟩
  | _, _, i + 1, d, .cons h a, e => DxAll.at (i := i) a (by simpa using e)
theorem DxAll.snoc : ∀ {vs : List V} {ds : List PyData} {v : V} {d : PyData}, DxAll K H vs ds → Dx K H v d → DxAll K H (vs ++ [v]) (ds ++ [d])
  | _, _, _, _, .nil, h => .cons h .nil
  | _, _, _, _, .cons h a, g => .cons h (DxAll.snoc a g)
/-! ### data of a bounded size -/
mutual
def fit : PyData → Bool
  | .str x => PyData.canLay0 (.str x) && decide (x.length ≤ 1000)
  | .list xs => decide (xs.length ≤ 1000) && fitAll xs
  | .tuple xs => decide (xs.length ≤ 1000) && fitAll xs
  | _ => true
def fitAll : List PyData → Bool
  | [] => true
  | x :: xs => fit x && fitAll xs
end
theorem fitAll_at : ∀ {ds : List PyData} {i : Nat} {d : PyData}, fitAll ds = true → ds[i]? = some d → fit d = true
  | [], i, d, _, e => by simp at e
  | x :: xs, 0, d, h, e => by
    have h' : (fit x && fitAll xs) = true := h
    rw [Bool.and_eq_true] at h'
    simp at e
    rw [← e]
    exact h'.1
  | x :: xs, i + 1, d, h, e => by
    have h' : (fit x && fitAll xs) = true := h
    rw [Bool.and_eq_true] at h'
    exact fitAll_at (i := i) h'.2 (by simpa using e)
def items : PyData → List PyData
  | .list xs => xs | .tuple xs => xs | _ => []
theorem fit_items {d : PyData} (h : fit d = true) : fitAll (items d) = true := by
  cases d with
  | list xs =>
    have h' : (decide (xs.length ≤ 1000) && fitAll xs) = true := h
    rw [Bool.and_eq_true] at h'
    exact h'.2
  | tuple xs =>
    have h' : (decide (xs.length ≤ 1000) && fitAll xs) = true := h
    rw [Bool.and_eq_true] at h'
    exact h'.2
  | _ => rfl
theorem fit_len {d : PyData} (h : fit d = true) : (items d).length ≤ 1000 := by
  cases d with
  | list xs =>
    have h' : (decide (xs.length ≤ 1000) && fitAll xs) = true := h
    rw [Bool.and_eq_true] at h'
    exact of_decide_eq_true h'.1
  | tuple xs =>
    have h' : (decide (xs.length ≤ 1000) && fitAll xs) = true := h
    rw [Bool.and_eq_true] at h'
    exact of_decide_eq_true h'.1
  | _ => exact Nat.zero_le _
theorem fit_str {x : Str} (h : fit (.str x) = true) : x.length ≤ sizeLine := by
  have h' : (PyData.canLay0 (.str x) && decide (x.length ≤ 1000)) = true := h
  rw [Bool.and_eq_true] at h'
  exact Nat.le_of_lt (small1000 (of_decide_eq_true h'.2))
/-! ### what a datum is -/
def tyD : PyData → String
  | .none => "NoneType" | .bool _ => "bool" | .int _ => "int" | .str _ => "str" | .list _ => "list" | .tuple _ => "tuple" | .dict _ => "dict"
theorem Dx.ty : ∀ {v : V} {d : PyData}, Dx K H v d → TyX K H v (.type (tyD d))
  | _, _, .non => .base .non
  | _, _, .bl b => .base (.bl b)
  | _, _, .int i => .base (.int i)
  | _, _, .str x => .base (.str x)
  | _, _, .lst h _ => .base (.lst h)
  | _, _, .tup h _ => .base (.tup h)
  | _, _, .dic h => .base (.dK h)
def isRow : PyData → Bool
  | .list _ => true | .tuple _ => true | _ => false
def isTup : PyData → Bool
  | .tuple _ => true | _ => false
def isStr : PyData → Bool
  | .str _ => true | _ => false
theorem kit_row : ∀ d : PyData, PySem.W.kitAny K (.type (tyD d)) [.type "list", .type "tuple"] = some (isRow d)
  | .none => kitAny_cons (b := false) (kit_ty (a := "NoneType") (b := "list") (by decide +kernel)) (fun _ => kitAny_cons (b := false) (kit_ty (a := "NoneType") (b := "tuple") (by decide +kernel)) (fun _ => kitAny_nil) (fun h => nomatch h)) (fun h => nomatch h)
  | .bool _ => kitAny_cons (b := false) (kit_ty (a := "bool") (b := "list") (by decide +kernel)) (fun _ => kitAny_cons (b := false) (kit_ty (a := "bool") (b := "tuple") (by decide +kernel)) (fun _ => kitAny_nil) (fun h => nomatch h)) (fun h => nomatch h)
  | .int _ => kitAny_cons (b := false) (kit_ty (a := "int") (b := "list") (by decide +kernel)) (fun _ => kitAny_cons (b := false) (kit_ty (a := "int") (b := "tuple") (by decide +kernel)) (fun _ => kitAny_nil) (fun h => nomatch h)) (fun h => nomatch h)
  | .str _ => kitAny_cons (b := false) (kit_ty (a := "str") (b := "list") (by decide +kernel)) (fun _ => kitAny_cons (b := false) (kit_ty (a := "str") (b := "tuple") (by decide +kernel)) (fun _ => kitAny_nil) (fun h => nomatch h)) (fun h => nomatch h)
  | .list _ => kitAny_cons (b := true) (kit_ty (a := "list") (b := "list") (by decide +kernel)) (fun h => nomatch h) (fun _ => rfl)
  | .tuple _ => kitAny_cons (b := false) (kit_ty (a := "tuple") (b := "list") (by decide +kernel)) (fun _ => kitAny_cons (b := true) (kit_ty (a := "tuple") (b := "tuple") (by decide +kernel)) (fun h => nomatch h) (fun _ => rfl)) (fun h => nomatch h)
  | .dict _ => kitAny_cons (b := false) (kit_ty (a := "dict") (b := "list") (by decide +kernel)) (fun _ => kitAny_cons (b := false) (kit_ty (a := "dict") (b := "tuple") (by decide +kernel)) (fun _ => kitAny_nil) (fun h => nomatch h)) (fun h => nomatch h)
theorem kit_tup : ∀ d : PyData, PySem.W.kitOne K (.type (tyD d)) (.type "tuple") = some (isTup d)
  | .none => kit_ty (a := "NoneType") (b := "tuple") (r := false) (by decide +kernel)
  | .bool _ => kit_ty (a := "bool") (b := "tuple") (r := false) (by decide +kernel)
  | .int _ => kit_ty (a := "int") (b := "tuple") (r := false) (by decide +kernel)
  | .str _ => kit_ty (a := "str") (b := "tuple") (r := false) (by decide +kernel)
  | .list _ => kit_ty (a := "list") (b := "tuple") (r := false) (by decide +kernel)
  | .tuple _ => kit_ty (a := "tuple") (b := "tuple") (r := true) (by decide +kernel)
  | .dict _ => kit_ty (a := "dict") (b := "tuple") (r := false) (by decide +kernel)
theorem kit_str : ∀ d : PyData, PySem.W.kitOne K (.type (tyD d)) (.type "str") = some (isStr d)
  | .none => kit_ty (a := "NoneType") (b := "str") (r := false) (by decide +kernel)
  | .bool _ => kit_ty (a := "bool") (b := "str") (r := false) (by decide +kernel)
  | .int _ => kit_ty (a := "int") (b := "str") (r := false) (by decide +kernel)
  | .str _ => kit_ty (a := "str") (b := "str") (r := true) (by decide +kernel)
  | .list _ => kit_ty (a := "list") (b := "str") (r := false) (by decide +kernel)
  | .tuple _ => kit_ty (a := "tuple") (b := "str") (r := false) (by decide +kernel)
  | .dict _ => kit_ty (a := "dict") (b := "str") (r := false) (by decide +kernel)
/-- a row stands as a list or as a tuple -/
theorem Dx.row {v : V} {d : PyData} (h : Dx K H v d) (r : isRow d = true) : ∃ a xs, v = .ref a ∧ (SqL K H a xs ∧ (∃ ds, d = .list ds) ∨ SqT K H a xs ∧ (∃ ds, d = .tuple ds)) ∧ DxAll K H xs (items d) := by
  cases h with
  | lst h a => exact ⟨_, _, rfl, .inl ⟨.inl (.inl h), _, rfl⟩, a⟩
  | tup h a => exact ⟨_, _, rfl, .inr ⟨.inl (.inl h), _, rfl⟩, a⟩
  | _ => cases r
theorem Dx.tupOf {v : V} {ds : List PyData} (h : Dx K H v (.tuple ds)) : ∃ a xs, v = .ref a ∧ SqT K H a xs ∧ DxAll K H xs ds := by
  cases h with
  | tup h a => exact ⟨_, _, rfl, .inl (.inl h), a⟩
theorem Dx.tupAt {v : V} {ds : List PyData} (h : Dx K H v (.tuple ds)) : ∃ a xs, v = .ref a ∧ H a = some (.tup xs) ∧ DxAll K H xs ds := by
  cases h with
  | tup h a => exact ⟨_, _, rfl, h, a⟩
theorem Dx.strOf {v : V} {x : Str} (h : Dx K H v (.str x)) : v = .str x := by cases h; rfl
end
theorem lk_cons {α : Type} (f g : Str) (y : α) (fs : List (Str × α)) : ((f, y) :: fs).lookup g = if g = f then some y else fs.lookup g := by
  by_cases h : g = f
  · subst h
    simp [List.lookup]
  · have e : (g == f) = false := by simpa using h
    rw [if_neg h]
    simp [List.lookup, e]
/-! ### rules joined -/
section
variable {X : Cx}
theorem pi_or {tg it : Expr} {w1 w2 : TI} (h1 : PI X tg it w1) (h2 : PI X tg it w2) : PI X tg it (fun σ H R => w1 σ H R ∨ w2 σ H R) :=
  ⟨fun pins s σ H R I h => h.elim (h1.run pins s σ H R I) (h2.run pins s σ H R I)⟩
theorem pe_or2 {e : Expr} {t1 t2 : TE} (h1 : PE X e t1) (h2 : PE X e t2) : PE X e (fun σ H Q => t1 σ H Q ∨ t2 σ H Q) :=
  ⟨fun pins s σ H Q I h => h.elim (h1.run pins s σ H Q I) (h2.run pins s σ H Q I)⟩
theorem pt_or2 {e : Expr} {t1 t2 : TT} (h1 : PT X e t1) (h2 : PT X e t2) : PT X e (fun σ H Q => t1 σ H Q ∨ t2 σ H Q) :=
  ⟨fun pins s σ H Q I h => h.elim (h1.run pins s σ H Q I) (h2.run pins s σ H Q I)⟩
/-- a row is walked -/
theorem pi_row {tg e : Expr} {t : TE} (h : PE X e t) : PI X tg e (fun σ H R => iList X.K t σ H R ∨ iTup X.K t σ H R) := pi_or (pi_list h) (pi_tup h)
theorem pe_ixt (K : PySem.W.Frag) (hK : X.K = K) {a b : Expr} {ta tb : TE} {pos : Pos} (ha : PE X a ta) (hb : PE X b tb) (hs : PlainIx b := by exact fun _ _ => rfl) : PE X (.Subscript a b pos) (tOp (rIxT K) ta tb) := by
  subst hK
  exact pe_ix ix_tup ha hb hs
theorem pg_tupk (K : PySem.W.Frag) (hK : X.K = K) {es : List Expr} {k n : Nat} {pos : Pos} {t : TGs} (hc : X.calm = true) (h : PGs X es t) (hn : (assignEach es X.env).length = n := by rfl) (hst : (assignEach es X.env).findIdx? (·.1) = none := by rfl) : PG X (.Tuple es k pos) (gTup K n t) := by
  subst hK
  exact pg_tup hc h hn hst
theorem tyes {σ : L2.St} {H : Hp} {A B : Hp → Prop} (h : A H) : tYes σ H (fun b H3 => if b = true then A H3 else B H3) := by
  show (if true = true then A H else B H)
  rw [if_pos rfl]
  exact h
theorem for_row {K : PySem.W.Frag} {H Hb : Hp} {σ : L2.St} {t : TE} {R : It → Hp → Prop} {a : Addr} {xs : List V} (e : SqL K Hb a xs ∨ SqT K Hb a xs) (sm : Same Hb H) (ht : ∀ k : VK, k (.ref a) H → t σ H k)
    (go : ∀ (J : It) (G : Hp → Prop), (∀ H', Same Hb H' → G H') → Walk J xs.length G (YAt xs) → R J H) : iList K t σ H R ∨ iTup K t σ H R := by
  rcases e with e | e
  · exact .inl (ht _ ⟨a, rfl, ⟨xs, sm.seq e⟩, go _ _ (fun H' s => s.seq e) walk_list⟩)
  · exact .inr (ht _ ⟨a, rfl, ⟨xs, sqt_same sm e⟩, go _ _ (fun H' s => sqt_same s e) walk_tup⟩)
end
end L2

namespace Lm
open PySem PySem.Spec PyProof.Rows L2
open C8 (fnScope_by pe_gc pss_cut tCut)
/-! ### the module's names -/
structure Bt (mg : Str → Option Value) : Prop where
  isi : mg "isinstance" = none
  lst : mg "list" = none
  tup : mg "tuple" = none
  str : mg "str" = none
  len : mg "len" = none
  all : mg "all" = none
  any : mg "any" = none
  enu : mg "enumerate" = none
  zip : mg "zip" = none
  sum : mg "sum" = none
  min : mg "min" = none
  dct : mg "dict" = none
  int : mg "int" = none
structure Cs (K : PySem.W.Frag) (mg : Str → Option Value) : Prop where
  letters : ∃ u, mg "LETTERS" = some u ∧ RelV (.str letters) u
  words : ∃ a, (∃ u, mg "WORDS" = some u ∧ RelV (.ref a) u) ∧ ∀ H, SqT K H a (words.map V.str)
  longest : ∃ u, mg "LONGEST_NAME" = some u ∧ RelV (.int 8) u
/-! ### mirrors -/
def isTupN (d : PyData) (n : Int) : Bool := isTup d && decide (((items d).length : Int) = n)
def isNameS (x : Str) : Bool := decide (1 ≤ x.length) && decide (x.length ≤ 8) && !words.contains x && x.cps.toList.all fun c => decide (c ∈ letters.cps.toList)
def isName : PyData → Bool
  | .str x => isNameS x
  | _ => false
section
variable {P : Program} {w : World} {K : PySem.W.Frag} {mg : Str → Option Value} {base : Heap}
/-! ### promises of a def that looks at data -/
def spB1 (K : PySem.W.Frag) (g : PyData → Bool) : Sp := fun vs H Q _ => ∃ v d, vs = [v] ∧ Dx K H v d ∧ fit d = true ∧ ∀ H', Same H H' → Q (.bl (g d)) H'
def spTupN (K : PySem.W.Frag) : Sp := fun vs H Q _ => ∃ v d n, vs = [v, .int n] ∧ Dx K H v d ∧ Q (.bl (isTupN d n)) H
theorem len1 {g : PyData → Bool} : ∀ vs H Q E, spB1 K g vs H Q E → vs.length = 1 := fun vs H Q E h => by
  obtain ⟨v, d, rfl, _⟩ := h
  rfl
/-- two types by their names, as a tuple of classes -/
theorem isi2 {X : Cx} (B : Bt X.mg) (g1 : Gl X "list") (g2 : Gl X "tuple") {a b t : Pos} {k : Nat} : PE X (.Tuple [.Name "list" a, .Name "tuple" b] k t) (tTup (tCons (tC (.ty "list")) (tCons (tC (.ty "tuple")) tNil))) :=
  pe_tup (pa_cons (pe_bltn (v := .ty "list") g1 B.lst boot_list rfl) (pa_cons (pe_bltn (v := .ty "tuple") g2 B.tup boot_tuple rfl) pa_nil))
theorem scIsRow : FnScope ["value"] ["value"] (defScope sIsRow) := fnScope_by (by decide +kernel)
theorem cIsRow {f : Addr} {fd : FuncData} (F : Fun K "is_row" "is_row" sIsRow f fd) (B : Bt mg) : FnOk P w K mg base CX0 1 f fd ["value"] (spB1 K isRow) := by
  refine F.ok scIsRow len1 (fun cdv A outer s H vs Q E hr h => ?_)
  obtain ⟨v, d, rfl, hd, hf, q⟩ := h
  refine ⟨_, pss_one (ps_ret (pe_callB call_isiT (by rfl) B.isi boot_isinstance (pa_cons (pv 0) (pa_cons (isi2 B (by rfl) (by rfl)) pa_nil)))), ?_⟩
  refine ⟨_, rfl, (by show 2 ≤ sizeLine; decide), fun p np => ?_⟩
  exact ⟨v, p, _, _, _, _, rfl, upd_same, .cons (.ty _) (.cons (.ty _) .nil), (Dx.mono (same_upd np) hd).ty, kit_row d, q _ (same_upd np)⟩
theorem scIsTuple : FnScope ["value", "size"] ["value", "size"] (defScope sIsTuple) := fnScope_by (by decide +kernel)
theorem cIsTuple {f : Addr} {fd : FuncData} (F : Fun K "is_tuple" "is_tuple" sIsTuple f fd) (B : Bt mg) : FnOk P w K mg base CX0 1 f fd ["value", "size"] (spTupN K) := by
  refine F.ok scIsTuple (fun vs H Q E h => ?_) (fun cdv A outer s H vs Q E hr h => ?_)
  · obtain ⟨v, d, n, rfl, _⟩ := h
    rfl
  obtain ⟨v, d, n, rfl, hd, q⟩ := h
  refine ⟨_, pss_one (ps_ret (pe_and (pe_callB call_isi (by rfl) B.isi boot_isinstance (pa_cons (pv 0) (pa_cons (pe_bltn (v := .ty "tuple") (by rfl) B.tup boot_tuple rfl) pa_nil)))
    (pe_one (pe_cmpR op_eq (pe_callB call_len_seq (by rfl) B.len boot_len (pa_cons (pv 0) pa_nil)) (pv 1) (nomark _))))), ?_⟩
  refine ⟨_, rfl, v, _, _, _, _, rfl, .ty _, hd.ty, kit_tup d, _, rfl, ?_⟩
  cases ht : isTup d with
  | false =>
    refine iteF ?_
    have e : isTupN d n = false := by unfold isTupN; rw [ht]; rfl
    rw [e] at q
    exact q
  | true =>
    refine iteT ?_
    cases d with
    | tuple ds =>
      obtain ⟨a, xs, rfl, hs, ha⟩ := hd.tupOf
      refine ⟨_, rfl, a, xs, rfl, .inr hs, _, rfl, rfl, ?_⟩
      have e : isTupN (.tuple ds) n = decide ((V.int (xs.length : Int)) = V.int n) := by
        unfold isTupN
        rw [ht, ha.len, Bool.true_and]
        exact decide_eq_decide.mpr ⟨fun h => congrArg V.int h, fun h => V.int.inj h⟩
      rw [e] at q
      exact q
    | _ => cases ht
theorem scIsName : FnScope ["value", "sign"] ["value"] (defScope sIsName) := fnScope_by (by decide +kernel)
theorem cIsName {f : Addr} {fd : FuncData} (F : Fun K "is_name" "is_name" sIsName f fd) (B : Bt mg) (C : Cs K mg) : FnOk P w K mg base CX0 1 f fd ["value"] (spB1 K isName) := by
  refine F.ok scIsName len1 (fun cdv A outer s H vs Q E hr h => ?_)
  obtain ⟨v, d, rfl, hd, hf, q⟩ := h
  obtain ⟨aW, gW, hW⟩ := C.words
  refine ⟨_, pss_cons (ps_if (PW.pt (pw_or (pt_not (pt_val (pe_callB call_isi (by rfl) B.isi boot_isinstance (pa_cons (pv 0) (pa_cons (pe_bltn (v := .ty "str") (by rfl) B.str boot_str rfl) pa_nil)))))
      (pw_or1 (pt_not (pt_chain op_le op_le pe_int (pe_callB call_len_str (by rfl) B.len boot_len (pa_cons (pv 0) pa_nil)) (pe_gc (by rfl) C.longest)))))) (pss_one (ps_ret pe_bl)) pss_nil)
    (pss_one (ps_ret (pe_and (pe_cmpR op_notIn_seq (pv 0) (pe_gc (by rfl) gW) (by rfl)) (pe_one (pe_callB (cr_all rfl) (by rfl) B.all boot_all (pa_cons
      (pe_lc (own := [("sign", 1)]) (g := gName 1) (tt := tYes) rfl scIsName.nd (pi_str (pv 0)) (blkOk_by (N := ["value", "sign"]) (sc := defScope sIsName) (by decide +kernel)) (fun _ _ _ _ _ => pg_name (i := 1) scIsName.nd rfl (Or.inl rfl)) (fun _ _ _ _ _ => pts_nil)
        (fun _ _ _ _ _ => pe_cmpR op_in_sign (pv 1) (pe_gc (by rfl) C.letters) (by rfl))) pa_nil)))))), ?_⟩
  refine ⟨_, rfl, v, _, _, _, _, rfl, .ty _, hd.ty, kit_str d, _, rfl, ?_⟩
  cases d with
  | str x =>
    obtain rfl := hd.strOf
    refine iteF ?_
    refine ⟨_, rfl, x, rfl, fit_str hf, _, _, rfl, rfl, _, rfl, ?_⟩
    have same_end : isNameS x = false → Q (.bl false) H := fun e => by
      have h := q H (Same.refl H)
      rw [show isName (.str x) = isNameS x from rfl, e] at h
      exact h
    by_cases h1 : 1 ≤ x.length
    · have c1 : decide ((1 : Int) ≤ (x.length : Int)) = true := decide_eq_true (by omega)
      rw [c1]
      refine iteT ⟨_, _, rfl, rfl, _, rfl, ?_⟩
      by_cases h2 : x.length ≤ 8
      · have c2 : decide ((x.length : Int) ≤ (8 : Int)) = true := decide_eq_true (by omega)
        rw [c2]
        refine iteF ?_
        refine ⟨_, rfl, aW, _, rfl, .inr (hW H), rfl, (by decide +kernel), _, rfl, ?_⟩
        have ew : inV (.str x) (words.map V.str) = words.contains x := by
          unfold inV
          rw [List.any_map]
          show words.any (fun y => y == x) = words.contains x
          rw [← List.any_beq']
        rw [if_pos rfl, ew]
        cases hw : words.contains x with
        | true =>
          refine iteF (same_end ?_)
          unfold isNameS
          rw [hw, Bool.not_true, Bool.and_false]
          rfl
        | false =>
          refine iteT ?_
          refine ⟨_, rfl, x, rfl, fun D nD => lc_it walk_str (fun i H1 => H1 D = some (.lst ((x.cps.toList.take i).map fun c => V.bl (decide (c ∈ letters.cps.toList)))) ∧ Same H H1) ⟨upd_same, same_upd nD⟩ (fun _ _ _ _ => trivial) ?_ ?_⟩
          · rintro i z H1 H2 hi ⟨e1, sm⟩ ⟨rfl, c, hc, rfl⟩
            have hc' : x.cps.toList[i]? = some c := by rw [Array.getElem?_toList]; exact hc
            have hl : i < x.cps.toList.length := (List.getElem?_eq_some_iff.mp hc').1
            have hx : x.cps.toList.length ≤ 8 := h2
            refine ⟨rfl, tyes ?_⟩
            refine ⟨_, rfl, c, letters, rfl, rfl, _, e1, small1000 (by rw [List.length_map, List.length_take]; omega), ?_, ?_⟩
            · rw [upd_same, List.take_add_one, hc', List.map_append]
              rfl
            · intro b o e
              have nb : b ≠ D := ne_of_none e nD
              rw [upd_ne nb]
              exact sm b o e
          · rintro H1 ⟨e1, sm⟩
            refine ⟨D, (x.cps.toList.map fun c => decide (c ∈ letters.cps.toList)), rfl, .inl (.inl ?_), ?_⟩
            · rw [e1, List.map_map]
              rw [show x.cps.size = x.cps.toList.length from (Array.length_toList).symm, List.take_length]
              rfl
            · have h := q H1 sm
              rw [show isName (.str x) = isNameS x from rfl] at h
              have e : isNameS x = (x.cps.toList.map fun c => decide (c ∈ letters.cps.toList)).all id := by
                unfold isNameS
                rw [hw, decide_eq_true h1, decide_eq_true h2, List.all_map]
                rfl
              rw [e] at h
              exact h
      · have c2 : decide ((x.length : Int) ≤ (8 : Int)) = false := decide_eq_false (by omega)
        rw [c2]
        refine iteT (same_end ?_)
        unfold isNameS
        rw [decide_eq_false h2, Bool.and_false]
        rfl
    · have c1 : decide ((1 : Int) ≤ (x.length : Int)) = false := decide_eq_false (by omega)
      rw [c1]
      refine iteF ⟨_, rfl, iteT (same_end ?_)⟩
      unfold isNameS
      rw [decide_eq_false h1]
      rfl
  | _ => exact iteT (iteT (q H (Same.refl H)))
end
end Lm

namespace Lm
open PySem PySem.Spec PyProof.Rows L2
open C8 (fnScope_by pe_gc pss_cut tCut)
/-! ### is_named_row -/
def namedGo (size : Int) : List PyData → List Str → Bool
  | [], _ => true
  | e :: r, ns => isTupN e size && (match items e with
    | .str x :: _ => isNameS x && (!ns.contains x && namedGo size r (ns ++ [x]))
    | _ => false)
def isNamedRow (d : PyData) (size least most : Int) : Bool := isRow d && (decide (least ≤ ((items d).length : Int)) && (decide (((items d).length : Int) ≤ most) && namedGo size (items d) []))
section
variable {P : Program} {w : World} {K : PySem.W.Frag} {mg : Str → Option Value} {base : Heap}
def spNamed (K : PySem.W.Frag) : Sp := fun vs H Q _ => ∃ (v : V) (d : PyData) (size least most : Int), vs = [v, .int size, .int least, .int most] ∧ Dx K H v d ∧ fit d = true ∧ 0 < size ∧ ∀ H', Same H H' → Q (.bl (isNamedRow d size least most)) H'
theorem scNamed : FnScope ["value", "size", "least", "most", "names", "element"] ["value", "size", "least", "most"] (defScope sNamedRow) := fnScope_by (by decide +kernel)
/-- a name is among texts -/
theorem in_strs (x : Str) (ns : List Str) : inV (.str x) (ns.map V.str) = ns.contains x := by
  unfold inV
  rw [List.any_map, ← List.any_beq']
  rfl
theorem flat_strs (ns : List Str) : (ns.map V.str).all flatV = true := by
  rw [List.all_map]
  exact List.all_eq_true.mpr fun _ _ => rfl
theorem items_fit {d : PyData} (h : fit d = true) : fitAll (items d) = true := fit_items h
theorem items_len {d : PyData} (h : fit d = true) : (items d).length ≤ 1000 := fit_len h
theorem tupN_items {d : PyData} {n : Int} (h : isTupN d n = true) : ∃ ds, d = .tuple ds ∧ (ds.length : Int) = n := by
  unfold isTupN at h
  rw [Bool.and_eq_true] at h
  cases d with
  | tuple ds => exact ⟨ds, rfl, of_decide_eq_true h.2⟩
  | _ => cases h.1
theorem cNamed {f f1 f2 f3 : Addr} {fd fd1 fd2 fd3 : FuncData} (F : Fun K "is_named_row" "is_named_row" sNamedRow f fd) (B : Bt mg) (C : Cs K mg)
    (F1 : Fun K "is_row" "is_row" sIsRow f1 fd1) (g1 : mg "is_row" = some (.ref f1)) (b1 : Binds K fd1 ["value"] []) (F2 : Fun K "is_tuple" "is_tuple" sIsTuple f2 fd2) (g2 : mg "is_tuple" = some (.ref f2)) (b2 : Binds K fd2 ["value", "size"] [])
    (F3 : Fun K "is_name" "is_name" sIsName f3 fd3) (g3 : mg "is_name" = some (.ref f3)) (b3 : Binds K fd3 ["value"] []) : FnOk P w K mg base CX0 2 f fd ["value", "size", "least", "most"] (spNamed K) := by
  have G1 : FnOk P w K mg base CX0 1 f1 fd1 ["value"] (spB1 K isRow) := cIsRow F1 B
  have G2 : FnOk P w K mg base CX0 1 f2 fd2 ["value", "size"] (spTupN K) := cIsTuple F2 B
  have G3 : FnOk P w K mg base CX0 1 f3 fd3 ["value"] (spB1 K isName) := cIsName F3 B C
  refine F.ok scNamed (fun vs H Q E h => ?_) (fun cdv A outer s H vs Q E hr h => ?_)
  · obtain ⟨v, d, a, b, c, rfl, _⟩ := h
    rfl
  obtain ⟨v, d, size, least, most, rfl, hd, hf, h0, q⟩ := h
  refine ⟨_, pss_cons (ps_if (PW.pt (pw_or (pt_not (pt_val (pe_call G1 hr rfl g1 F1.kp b1 .nil pass0 (pa_cons (pv 0) pa_nil)))) (pw_or1 (pt_not (pt_chain op_le op_le (pv 2) (pe_callB call_len_seq (by rfl) B.len boot_len (pa_cons (pv 0) pa_nil)) (pv 3)))))) (pss_one (ps_ret pe_bl)) pss_nil)
    (pss_cons (ps_set (i := 4) scNamed.nd rfl (.inl rfl) (pe_lst pa_nil))
    (pss_cons (ps_for PassesOwn.never rfl (pi_row (pv 0)) (pg_name (i := 5) scNamed.nd rfl (Or.inl rfl))
      (pss_cons (ps_if (PW.pt (pw_or (pt_not (pt_val (pe_call G2 hr rfl g2 F2.kp b2 .nil pass0 (pa_cons (pv 5) (pa_cons (pv 1) pa_nil))))) (pw_or (pt_not (pt_val (pe_call G3 hr rfl g3 F3.kp b3 .nil pass0 (pa_cons (pe_ix ix_tup (pv 5) pe_int (fun _ _ => rfl)) pa_nil))))
          (pw_or1 (pt_cmpR op_in_seq (pe_ix ix_tup (pv 5) pe_int (fun _ _ => rfl)) (pv 4) (by rfl)))))) (pss_one (ps_ret pe_bl)) pss_nil)
      (pss_one (ps_expr (pe_bm PySem.F.plainAttrs_list PySem.F.slot_list_append PySem.F.type_list_append mt_append (pv 4) (pa_cons (pe_ix ix_tup (pv 5) pe_int (fun _ _ => rfl)) pa_nil))))))
    (pss_one (ps_ret pe_bl)))), ?_⟩
  refine ⟨_, rfl, v, d, rfl, hd, hf, fun H1 s1 => ⟨_, rfl, ?_⟩⟩
  have bad : isNamedRow d size least most = false → ∀ H', Same H H' → Q (.bl false) H' := fun e H' s' => by
    have z := q H' s'
    rw [e] at z
    exact z
  cases hrow : isRow d with
  | false => exact iteT (iteT (bad (by unfold isNamedRow; rw [hrow]; rfl) H1 s1))
  | true =>
    refine iteF ?_
    obtain ⟨a, xs, rfl, hs, ha⟩ := (Dx.mono s1 hd).row hrow
    have hs' : SqL K H1 a xs ∨ SqT K H1 a xs := hs.imp (·.1) (·.1)
    have hl := ha.len
    have hl1 := items_len hf
    refine ⟨_, rfl, _, rfl, a, xs, rfl, hs', _, _, rfl, rfl, _, rfl, ?_⟩
    by_cases c1 : least ≤ (xs.length : Int)
    · rw [decide_eq_true c1]
      refine iteT ⟨_, rfl, _, _, rfl, rfl, _, rfl, ?_⟩
      by_cases c2 : (xs.length : Int) ≤ most
      · rw [decide_eq_true c2]
        refine iteF ⟨Nat.zero_le _, fun n nn => ?_⟩
        have s2 := same_upd (o := .lst []) nn
        have e0 : isNamedRow d size least most = namedGo size (items d) [] := by
          unfold isNamedRow
          rw [hrow, ← hl, decide_eq_true c1, decide_eq_true c2]
          rfl
        refine for_row (a := a) (xs := xs) hs' s2 (fun k hk => ⟨_, rfl, hk⟩) fun J G gs wk => for_it wk
          (fun i σ H' => ∃ (ns : List Str) (y : Option V), σ = [some (.ref a), some (.int size), some (.int least), some (.int most), some (.ref n), y] ∧ ns.length = i ∧ H' n = some (.lst (ns.map V.str)) ∧ Same H1 H' ∧ namedGo size (items d) [] = namedGo size ((items d).drop i) ns)
          ⟨[], none, rfl, rfl, upd_same, s2, rfl⟩ ?_ ?_ ?_
        · rintro i σ H' hi ⟨ns, y, rfl, h1, h2, h3, h4⟩
          exact gs _ h3
        · rintro i x σ H2 H3 hi ⟨ns, y, rfl, h1, h2, h3, h4⟩ ⟨rfl, hx⟩
          obtain ⟨e, he, hde⟩ := ha.get hx
          have hfe : fit e = true := fitAll_at (items_fit hf) he
          have hd3 : Dx K H3 x e := Dx.mono h3 hde
          have hdrop : (items d).drop i = e :: (items d).drop (i + 1) := List.drop_eq_getElem_cons (List.getElem?_eq_some_iff.mp he).1 |>.trans (by rw [(List.getElem?_eq_some_iff.mp he).2])
          rw [hdrop] at h4
          refine ⟨_, rfl, _, rfl, x, e, size, rfl, hd3, _, rfl, ?_⟩
          have no : namedGo size (e :: (items d).drop (i + 1)) ns = false → Q (.bl false) H3 := fun z => bad (by rw [e0, h4, z]) H3 (s1.trans h3)
          cases ht : isTupN e size with
          | false => exact iteT (iteT (no (by unfold namedGo; rw [ht]; rfl)))
          | true =>
            refine iteF ?_
            obtain ⟨es, rfl, hes⟩ := tupN_items ht
            obtain ⟨ae, ys, rfl, hse, hae⟩ := hd3.tupOf
            have hne : 0 < es.length := by omega
            obtain ⟨k0, r0, rfl⟩ : ∃ k0 r0, es = k0 :: r0 := by
              cases es with
              | nil => cases hne
              | cons k r => exact ⟨k, r, rfl⟩
            obtain ⟨v0, hv0, hdv⟩ := hae.at (i := 0) (d := k0) rfl
            have hfk : fit k0 = true := fitAll_at (i := 0) (items_fit hfe) rfl
            refine ⟨_, rfl, ae, ys, 0, v0, rfl, rfl, hse, atI_nat (j := 0) hv0, v0, k0, rfl, hdv, hfk, fun H4 s4 => ⟨_, rfl, ?_⟩⟩
            have s14 := s1.trans (h3.trans s4)
            have no4 : namedGo size (.tuple (k0 :: r0) :: (items d).drop (i + 1)) ns = false → Q (.bl false) H4 := fun z => bad (by rw [e0, h4, z]) H4 s14
            cases hn : isName k0 with
            | false =>
              refine iteT (iteT (no4 ?_))
              unfold namedGo
              rw [ht]
              cases k0 with
              | str x => show (true && (isNameS x && _)) = false; rw [show isNameS x = false from hn]; rfl
              | _ => rfl
            | true =>
              refine iteF ?_
              cases k0 with
              | str z =>
                obtain rfl := hdv.strOf
                have hn' : isNameS z = true := hn
                refine ⟨_, rfl, ae, ys, 0, .str z, rfl, rfl, sqt_same s4 hse, atI_nat (j := 0) hv0, _, rfl, n, ns.map V.str, rfl, .inl (.inl (.inl (s4 _ _ h2))), rfl, flat_strs ns, _, rfl, ?_⟩
                rw [in_strs]
                have e1 : namedGo size (.tuple (.str z :: r0) :: (items d).drop (i + 1)) ns = (!ns.contains z && namedGo size ((items d).drop (i + 1)) (ns ++ [z])) := by
                  rw [namedGo, ht]
                  show (true && (isNameS z && _)) = _
                  rw [hn']
                  rfl
                cases hc : ns.contains z with
                | true => exact iteT (no4 (by rw [e1, hc]; rfl))
                | false =>
                  refine iteF ?_
                  have hi1 : i < 1000 := by omega
                  refine ⟨_, rfl, .inl ⟨rfl, _, .inl (.inl (s4 _ _ h2))⟩, _, rfl, ae, ys, 0, .str z, rfl, rfl, sqt_same s4 hse, atI_nat (j := 0) hv0, n, _, _, rfl, rfl, s4 _ _ h2, small1000 (by rw [List.length_map]; omega), ns ++ [z], _, rfl, by rw [List.length_append, h1]; rfl, ?_, fun b o eb => ?_, ?_⟩
                  · rw [upd_same, List.map_append]
                    rfl
                  · rw [upd_ne (ne_of_none eb nn)]
                    exact s4 _ _ (h3 _ _ eb)
                  · rw [h4, e1, hc]
                    rfl
              | _ => cases hn
        · rintro σ H' ⟨ns, y, rfl, h1, h2, h3, h4⟩
          have z := q H' (s1.trans h3)
          rw [e0, h4, hl, List.drop_length] at z
          exact z
      · rw [decide_eq_false c2]
        refine iteT (bad ?_ H1 s1)
        unfold isNamedRow
        rw [← hl, decide_eq_false c2, Bool.false_and, Bool.and_false, Bool.and_false]
    · rw [decide_eq_false c1]
      refine iteF ⟨_, rfl, iteT (bad ?_ H1 s1)⟩
      unfold isNamedRow
      rw [← hl, decide_eq_false c1, Bool.false_and, Bool.and_false]
end
end Lm

namespace Lm
open PySem PySem.Spec PyProof.Rows L2
open C8 (fnScope_by pe_gc pss_cut tCut Cal pe_c)
def at0 (d : PyData) : PyData := (items d).getD 0 .none
def at1 (d : PyData) : PyData := (items d).getD 1 .none
def at2 (d : PyData) : PyData := (items d).getD 2 .none
def at3 (d : PyData) : PyData := (items d).getD 3 .none
def strOf : PyData → Str
  | .str x => x
  | _ => ""
theorem isStr_of {d : PyData} (h : isStr d = true) : d = .str (strOf d) := by
  cases d with
  | str x => rfl
  | _ => cases h
theorem isName_str {d : PyData} (h : isName d = true) : d = .str (strOf d) := by
  cases d with
  | str x => rfl
  | _ => cases h
/-! ### mirrors -/
def isHeaded (e : PyData) : Bool := isTupN e 3 && (isName (at0 e) && (isStr (at1 e) && (decide (strOf (at1 e) = "record") || decide (strOf (at1 e) = "choice"))))
section
variable {P : Program} {w : World} {K : PySem.W.Frag} {mg : Str → Option Value} {base : Heap}
theorem calOf {x : Str} {st : Stmt} {f : Addr} {fd : FuncData} {ps : List Str} {k : Nat} {sp : Sp} (F : Fun K x x st f fd) (g : mg x = some (.ref f)) (b : Binds K fd ps []) (ok : FnOk P w K mg base CX0 k f fd ps sp) : Cal P w K mg base k x sp [] := ⟨f, fd, ps, [], ok, g, F.kp, b, .nil⟩
/-- the j-th part of a tuple -/
theorem tup_at {H : Hp} {v : V} {ds : List PyData} (h : Dx K H v (.tuple ds)) (hf : fit (.tuple ds) = true) {j : Nat} (hj : j < ds.length) : ∃ a xs z, v = .ref a ∧ SqT K H a xs ∧ xs[j]? = some z ∧ Dx K H z (ds.getD j .none) ∧ fit (ds.getD j .none) = true := by
  obtain ⟨a, xs, rfl, hs, ha⟩ := h.tupOf
  obtain ⟨z, hz, hd⟩ := ha.at (List.getElem?_eq_getElem hj)
  have e : ds.getD j .none = ds[j] := by rw [List.getD_eq_getElem?_getD, List.getElem?_eq_getElem hj]; rfl
  rw [e]
  exact ⟨a, xs, z, rfl, hs, hz, hd, fitAll_at (fit_items hf) (List.getElem?_eq_getElem hj)⟩
theorem scHeaded : FnScope ["element"] ["element"] (defScope sHeaded) := fnScope_by (by decide +kernel)
theorem kHeaded {f : Addr} {fd : FuncData} (F : Fun K "is_headed" "is_headed" sHeaded f fd) (B : Bt mg) (c2 : Cal P w K mg base 1 "is_tuple" (spTupN K) []) (c3 : Cal P w K mg base 1 "is_name" (spB1 K isName) []) : FnOk P w K mg base CX0 2 f fd ["element"] (spB1 K isHeaded) := by
  refine F.ok scHeaded len1 (fun cdv A outer s H vs Q E hr h => ?_)
  obtain ⟨v, d, rfl, hd, hf, q⟩ := h
  refine ⟨_, pss_cons (ps_if (PW.pt (pw_or (pt_not (pt_val (pe_c c2 hr (by decide) (by rfl) (pa_cons (pv 0) (pa_cons pe_int pa_nil))))) (pw_or (pt_not (pt_val (pe_c c3 hr (by decide) (by rfl) (pa_cons (pe_ix ix_tup (pv 0) pe_int (fun _ _ => rfl)) pa_nil))))
      (pw_or1 (pt_not (pt_val (pe_callB call_isi (by rfl) B.isi boot_isinstance (pa_cons (pe_ix ix_tup (pv 0) pe_int (fun _ _ => rfl)) (pa_cons (pe_bltn (v := .ty "str") (by rfl) B.str boot_str rfl) pa_nil))))))))) (pss_one (ps_ret pe_bl)) pss_nil)
    (pss_one (ps_ret (pe_cmpR op_in_seq (pe_ix ix_tup (pv 0) pe_int (fun _ _ => rfl)) (pe_tup (pa_cons pe_str (pa_cons pe_str pa_nil))) (by rfl)))), ?_⟩
  refine ⟨_, rfl, v, d, 3, rfl, hd, _, rfl, ?_⟩
  have bad : isHeaded d = false → ∀ H', Same H H' → Q (.bl false) H' := fun e H' s' => by
    have z := q H' s'
    rw [e] at z
    exact z
  cases h1 : isTupN d 3 with
  | false => exact iteT (iteT (bad (by unfold isHeaded; rw [h1]; rfl) H (Same.refl H)))
  | true =>
    refine iteF ?_
    obtain ⟨ds, rfl, hl⟩ := tupN_items h1
    obtain ⟨a, xs, z0, rfl, hs, hz0, hd0, hf0⟩ := tup_at hd hf (j := 0) (by omega)
    refine ⟨_, rfl, a, xs, 0, z0, rfl, rfl, hs, atI_nat (j := 0) hz0, z0, _, rfl, hd0, hf0, fun H1 s1 => ⟨_, rfl, ?_⟩⟩
    have hd1 := Dx.mono s1 hd
    obtain ⟨a', xs', z1, e1, hs1, hz1, hd11, hf1⟩ := tup_at hd1 hf (j := 1) (by omega)
    cases e1
    cases h2 : isName (ds.getD 0 .none) with
    | false => exact iteT (iteT (bad (by unfold isHeaded; rw [h1]; show (true && (isName (ds.getD 0 .none) && _)) = false; rw [h2]; rfl) H1 s1))
    | true =>
      refine iteF ?_
      refine ⟨_, rfl, a, xs', 1, z1, rfl, rfl, hs1, atI_nat (j := 1) hz1, z1, _, _, _, _, rfl, .ty _, hd11.ty, kit_str _, _, rfl, ?_⟩
      cases h3 : isStr (ds.getD 1 .none) with
      | false => exact iteT (bad (by unfold isHeaded; rw [h1]; show (true && (isName (ds.getD 0 .none) && (isStr (ds.getD 1 .none) && _))) = false; rw [h2, h3]; rfl) H1 s1)
      | true =>
        refine iteF ?_
        have e2 := isStr_of h3
        rw [e2] at hd11
        obtain rfl := hd11.strOf
        refine ⟨_, rfl, a, xs', 1, _, rfl, rfl, hs1, atI_nat (j := 1) hz1, by show 2 ≤ sizeLine; decide, fun p np => ⟨p, (["record", "choice"] : List Str).map V.str, rfl, .inr (.inl (.inl upd_same)), rfl, rfl, ?_⟩⟩
        rw [in_strs]
        have e3 : isHeaded (.tuple ds) = (["record", "choice"] : List Str).contains (strOf (ds.getD 1 .none)) := by
          unfold isHeaded
          rw [h1]
          show (true && (isName (ds.getD 0 .none) && (isStr (ds.getD 1 .none) && _))) = _
          rw [h2, h3]
          show (decide (strOf (ds.getD 1 .none) = "record") || decide (strOf (ds.getD 1 .none) = "choice")) = _
          rw [List.contains_cons, List.contains_cons, List.contains_nil, Bool.or_false]
          rfl
        rw [← e3]
        exact q _ (s1.trans (same_upd np))
/-! ### is_one_of -/
def isOneOf (d : PyData) (ns : List Str) : Bool := isStr d && ns.contains (strOf d)
/-- a dict whose keys are these texts -/
def KeysAt (H : Hp) (a : Addr) (ns : List Str) : Prop := ∃ kvs : List (Key × V), H a = some (.dK kvs) ∧ ∀ x : Str, (valV kvs (Sum.inr x)).isSome = ns.contains x
def spOneOf (K : PySem.W.Frag) : Sp := fun vs H Q _ => ∃ (v : V) (d : PyData) (a : Addr) (ns : List Str), vs = [v, .ref a] ∧ Dx K H v d ∧ (H a = some (.lst (ns.map V.str)) ∨ KeysAt H a ns) ∧ Q (.bl (isOneOf d ns)) H
theorem scOneOf : FnScope ["value", "names"] ["value", "names"] (defScope sOneOf) := fnScope_by (by decide +kernel)
theorem kOneOf {f : Addr} {fd : FuncData} (F : Fun K "is_one_of" "is_one_of" sOneOf f fd) (B : Bt mg) : FnOk P w K mg base CX0 1 f fd ["value", "names"] (spOneOf K) := by
  refine F.ok scOneOf (fun vs H Q E h => ?_) (fun cdv A outer s H vs Q E hr h => ?_)
  · obtain ⟨v, d, a, ns, rfl, _⟩ := h
    rfl
  obtain ⟨v, d, a, ns, rfl, hd, ha, q⟩ := h
  have hu := hu_of hr
  refine ⟨_, pss_one (ps_ret (pe_and (pe_callB call_isi (by rfl) B.isi boot_isinstance (pa_cons (pv 0) (pa_cons (pe_bltn (v := .ty "str") (by rfl) B.str boot_str rfl) pa_nil)))
    (pe_one (pe_or2 (pe_cmpR op_in_seq (pv 0) (pv 1) (by rfl)) (pe_cmp (pc_din hu (pv 0) (pv 1)) (by rfl)))))), ?_⟩
  refine ⟨_, rfl, v, _, _, _, _, rfl, .ty _, hd.ty, kit_str d, _, rfl, ?_⟩
  cases h1 : isStr d with
  | false =>
    refine iteF ?_
    have e : isOneOf d ns = false := by unfold isOneOf; rw [h1]; rfl
    rw [e] at q
    exact q
  | true =>
    refine iteT ?_
    have e2 := isStr_of h1
    rw [e2] at hd
    obtain rfl := hd.strOf
    have e : isOneOf d ns = ns.contains (strOf d) := by unfold isOneOf; rw [h1]; rfl
    rw [e] at q
    rcases ha with ha | ⟨kvs, ha, hk⟩
    · refine .inl ⟨_, rfl, _, rfl, a, ns.map V.str, rfl, .inl (.inl (.inl ha)), rfl, flat_strs ns, ?_⟩
      rw [in_strs]
      exact q
    · refine .inr ⟨_, rfl, _, rfl, a, _, rfl, DGet.k (k := Sum.inr (strOf d)) ha, ?_⟩
      rw [hk]
      exact q
/-! ### names_of_sort -/
def namesOf (z : Str) (ds : List PyData) : List Str := (ds.filter fun e => isHeaded e && decide (strOf (at1 e) = z)).map fun e => strOf (at0 e)
def spNamesOf (K : PySem.W.Frag) : Sp := fun vs H Q _ => ∃ (v : V) (d : PyData) (z : Str), vs = [v, .str z] ∧ Dx K H v d ∧ fit d = true ∧ isRow d = true ∧ ∀ (H' : Hp) (p : Addr), Same H H' → H p = none → H' p = some (.lst ((namesOf z (items d)).map V.str)) → Q (.ref p) H'
abbrev nsNO : List Str := ["kinds", "sort", "element"]
theorem scNamesOf : FnScope nsNO ["kinds", "sort"] (defScope sNamesOf) := fnScope_by (by decide +kernel)
theorem headed_parts {e : PyData} (h : isHeaded e = true) : ∃ ds, e = .tuple ds ∧ ds.length = 3 ∧ isName (ds.getD 0 .none) = true ∧ isStr (ds.getD 1 .none) = true := by
  unfold isHeaded at h
  simp only [Bool.and_eq_true] at h
  obtain ⟨h1, h2, h3, _⟩ := h
  obtain ⟨ds, rfl, hl⟩ := tupN_items h1
  exact ⟨ds, rfl, by omega, h2, h3⟩
theorem kNamesOf {f : Addr} {fd : FuncData} (F : Fun K "names_of_sort" "names_of_sort" sNamesOf f fd) (c : Cal P w K mg base 2 "is_headed" (spB1 K isHeaded) []) : FnOk P w K mg base CX0 3 f fd ["kinds", "sort"] (spNamesOf K) := by
  refine F.ok scNamesOf (fun vs H Q E h => ?_) (fun cdv A outer s H vs Q E hr h => ?_)
  · obtain ⟨v, d, z, rfl, _⟩ := h
    rfl
  obtain ⟨v, d, z, rfl, hd, hf, hrow, q⟩ := h
  obtain ⟨a, xs, rfl, hs, ha⟩ := hd.row hrow
  have hs' : SqL K H a xs ∨ SqT K H a xs := hs.imp (·.1) (·.1)
  have hl := ha.len
  have hl1 := fit_len hf
  refine ⟨_, pss_one (ps_ret (pe_lc (own := [("element", 2)]) (g := gName 2) rfl scNamesOf.nd (pi_row (pv 0)) (blkOk_by (N := nsNO) (sc := defScope sNamesOf) (by decide +kernel)) (fun _ _ _ _ _ => pg_name (i := 2) scNamesOf.nd rfl (Or.inl rfl))
    (fun _ _ _ _ _ => pts_one (PW.pt (pw_and (pt_val (pe_c c hr (by decide) (by rfl) (pa_cons (pv 2) pa_nil))) (pw_and1 (pt_cmpR op_eq (pe_ixt K rfl (pv 2) pe_int) (pv 1) (nomark _)))))) (fun _ _ _ _ _ => pe_ixt K rfl (pv 2) pe_int))), ?_⟩
  refine for_row (a := a) (xs := xs) hs' (Same.refl H) (fun k hk => ⟨_, rfl, hk⟩) fun J G gs wk D nD => lc_it wk
    (fun i H' => H' D = some (.lst ((namesOf z ((items d).take i)).map V.str)) ∧ Same H H') ⟨upd_same, same_upd nD⟩ (fun i H' _ h => gs _ h.2) ?_ ?_
  · rintro i x H2 H3 hi ⟨h1, h2⟩ ⟨rfl, hx⟩
    obtain ⟨e, he, hde⟩ := ha.get hx
    have hfe : fit e = true := fitAll_at (fit_items hf) he
    have hd3 : Dx K H3 x e := Dx.mono h2 hde
    have etk : (items d).take (i + 1) = (items d).take i ++ [e] := by rw [List.take_add_one, he]; rfl
    have skip_ : (isHeaded e && decide (strOf (at1 e) = z)) = false → namesOf z ((items d).take (i + 1)) = namesOf z ((items d).take i) := fun hz => by
      unfold namesOf
      rw [etk, List.filter_append, List.filter_cons_of_neg (by rw [hz]; exact Bool.false_ne_true), List.filter_nil, List.append_nil]
    refine ⟨rfl, _, rfl, x, e, rfl, hd3, hfe, fun H4 s4 => ⟨_, rfl, ?_⟩⟩
    have k4 : H4 D = some (.lst ((namesOf z ((items d).take i)).map V.str)) := s4 _ _ h1
    cases hh : isHeaded e with
    | false =>
      refine iteF (iteF ⟨?_, h2.trans s4⟩)
      rw [skip_ (by rw [hh]; rfl)]
      exact k4
    | true =>
      refine iteT ?_
      obtain ⟨ds, rfl, h3, hn, hsn⟩ := headed_parts hh
      have hd4 := Dx.mono s4 hd3
      obtain ⟨ae, ys, z1, rfl, hse, hz1, hd11, _⟩ := tup_at hd4 hfe (j := 1) (by omega)
      rw [isStr_of hsn] at hd11
      obtain rfl := hd11.strOf
      refine ⟨_, rfl, ae, ys, 1, _, rfl, rfl, hse, atI_nat (j := 1) hz1, _, rfl, rfl, _, rfl, ?_⟩
      have ed : decide (V.str (strOf (ds.getD 1 .none)) = V.str z) = decide (strOf (at1 (.tuple ds)) = z) := decide_eq_decide.mpr ⟨fun h => V.str.inj h, fun h => congrArg V.str h⟩
      rw [ed]
      by_cases hz : strOf (at1 (.tuple ds)) = z
      · rw [decide_eq_true hz]
        refine iteT ?_
        obtain ⟨ae', ys', z0, e0, hse0, hz0, hd10, _⟩ := tup_at hd4 hfe (j := 0) (by omega)
        cases e0
        rw [isName_str hn] at hd10
        obtain rfl := hd10.strOf
        refine ⟨_, rfl, ae, ys', 0, _, rfl, rfl, hse0, atI_nat (j := 0) hz0, _, k4, small1000 ?_, ?_, fun b o eb => ?_⟩
        · rw [List.length_map]
          unfold namesOf
          rw [List.length_map]
          exact Nat.le_trans (List.length_filter_le _ _) (by rw [List.length_take]; omega)
        · rw [upd_same]
          refine congrArg (fun l => some (HO.lst l)) ?_
          have e1 : namesOf z ((items d).take (i + 1)) = namesOf z ((items d).take i) ++ [strOf (ds.getD 0 .none)] := by
            unfold namesOf
            rw [etk, List.filter_append, List.filter_cons_of_pos (by rw [hh, decide_eq_true hz]; rfl), List.filter_nil, List.map_append]
            rfl
          rw [e1, List.map_append]
          rfl
        · rw [upd_ne (ne_of_none eb nD)]
          exact s4 _ _ (h2 _ _ eb)
      · rw [decide_eq_false hz]
        refine iteF ⟨?_, h2.trans s4⟩
        rw [skip_ (by rw [hh, decide_eq_false hz]; rfl)]
        exact k4
  · rintro H' ⟨h1, h2⟩
    rw [hl, List.take_length] at h1
    exact q H' D h2 nD h1
end
end Lm

namespace Lm
open PySem PySem.Spec PyProof.Rows L2
open C8 (fnScope_by pe_gc pss_cut tCut Cal pe_c)
/-! ### sizes -/
def szV (sz : List (Str × Nat)) : List (Key × V) := sz.map fun p => (Sum.inr p.1, V.int p.2)
theorem szV_look (sz : List (Str × Nat)) (x : Str) : valV (szV sz) (Sum.inr x) = (sz.lookup x).map fun n => V.int n := by
  induction sz with
  | nil => rfl
  | cons p r ih =>
    obtain ⟨y, n⟩ := p
    rw [lk_cons]
    by_cases e : x = y
    · subst e
      rw [if_pos rfl]
      exact valV_pos rfl
    · rw [if_neg e, ← ih]
      exact valV_neg fun h => e (Sum.inr.inj h).symm
theorem lookup_keys {α : Type} (sz : List (Str × α)) (x : Str) : (sz.lookup x).isSome = (sz.map (·.1)).contains x := by
  induction sz with
  | nil => rfl
  | cons p r ih =>
    obtain ⟨y, n⟩ := p
    rw [lk_cons, List.map_cons, List.contains_cons]
    by_cases e : x = y
    · subst e
      rw [if_pos rfl, beq_self_eq_true]
      rfl
    · rw [if_neg e, ih, beq_eq_false_iff_ne.mpr e]
      rfl
theorem keys_sz {H : Hp} {a : Addr} {sz : List (Str × Nat)} (h : H a = some (.dK (szV sz))) : KeysAt H a (sz.map (·.1)) := ⟨_, h, fun x => by rw [szV_look, ← lookup_keys]; cases sz.lookup x <;> rfl⟩
/-- the sum of the sizes of these parts -/
def psum (sz : List (Str × Nat)) (ps : List PyData) : Nat := (ps.map fun p => (sz.lookup (strOf (at1 p))).getD 0).sum
section
variable {P : Program} {w : World} {K : PySem.W.Frag} {mg : Str → Option Value} {base : Heap}
abbrev nsPS : List Str := ["parts", "sizes", "_", "kind"]
theorem scPS : FnScope nsPS ["parts", "sizes"] (defScope sPartsSize) := fnScope_by (by decide +kernel)
/-- each part is a pair, its second one of the names -/
def pairs (ps : List PyData) : Prop := ∀ p ∈ ps, ∃ d0 d1, p = .tuple [d0, d1]
def spPS (K : PySem.W.Frag) : Sp := fun vs H Q _ => ∃ (v : V) (d : PyData) (a : Addr) (sz : List (Str × Nat)), vs = [v, .ref a] ∧ Dx K H v d ∧ fit d = true ∧ isRow d = true ∧ H a = some (.dK (szV sz)) ∧ pairs (items d) ∧ (∀ p ∈ items d, isOneOf (at1 p) (sz.map (·.1)) = true) ∧
  ∀ H', Same H H' → Q (.int (psum sz (items d))) H'
theorem pair_at {H : Hp} {v : V} {d0 d1 : PyData} (h : Dx K H v (.tuple [d0, d1])) : ∃ a v0 v1, v = .ref a ∧ H a = some (.tup [v0, v1]) ∧ Dx K H v0 d0 ∧ Dx K H v1 d1 := by
  obtain ⟨a, xs, rfl, hs, ha⟩ := h.tupAt
  match xs, ha with
  | [v0, v1], .cons h0 (.cons h1 .nil) => exact ⟨a, v0, v1, rfl, hs, h0, h1⟩
theorem kPS {f : Addr} {fd : FuncData} (F : Fun K "parts_size" "parts_size" sPartsSize f fd) (B : Bt mg) : FnOk P w K mg base CX0 1 f fd ["parts", "sizes"] (spPS K) := by
  refine F.ok scPS (fun vs H Q E h => ?_) (fun cdv A outer s H vs Q E hr h => ?_)
  · obtain ⟨v, d, a, sz, rfl, _⟩ := h
    rfl
  obtain ⟨v, d, a, sz, rfl, hd, hf, hrow, hz, hp, ho, q⟩ := h
  obtain ⟨ar, xs, rfl, hs, ha⟩ := hd.row hrow
  have hs' : SqL K H ar xs ∨ SqT K H ar xs := hs.imp (·.1) (·.1)
  have hl := ha.len
  have hl1 := fit_len hf
  have hu := hu_of hr
  refine ⟨_, pss_one (ps_ret (pe_callB (cr_sum rfl) (by rfl) B.sum boot_sum (pa_cons (pe_lc (own := [("_", 2), ("kind", 3)]) (tt := tYes) rfl scPS.nd (pi_row (pv 0)) (blkOk_by (N := nsPS) (sc := defScope sPartsSize) (by decide +kernel))
    (fun _ _ _ _ _ => pg_tupk K rfl (n := 2) rfl (pgs_cons (pg_name (i := 2) scPS.nd rfl (Or.inl rfl)) (pgs_cons (pg_name (i := 3) scPS.nd rfl (Or.inl rfl)) pgs_nil))) (fun _ _ _ _ _ => pts_nil) (fun _ _ _ _ _ => pe_dget hu (pv 1) (pv 3) (fun _ _ => rfl))) pa_nil))), ?_⟩
  refine for_row (a := ar) (xs := xs) hs' (Same.refl H) (fun k hk => ⟨_, rfl, hk⟩) fun J G gs wk D nD => lc_it wk
    (fun i H' => H' D = some (.lst ((((items d).take i).map fun p => (((sz.lookup (strOf (at1 p))).getD 0 : Nat) : Int)).map V.int)) ∧ Same H H') ⟨upd_same, same_upd nD⟩ (fun i H' _ h => gs _ h.2) ?_ ?_
  · rintro i x H2 H3 hi ⟨h1, h2⟩ ⟨rfl, hx⟩
    obtain ⟨e, he, hde⟩ := ha.get hx
    have hm : e ∈ items d := List.mem_of_getElem? he
    obtain ⟨d0, d1, rfl⟩ := hp e hm
    have h1o := ho _ hm
    obtain ⟨ap, v0, v1, rfl, hap, _, hd1⟩ := pair_at (Dx.mono h2 hde)
    have h1o' : (isStr d1 && (sz.map (·.1)).contains (strOf d1)) = true := h1o
    rw [Bool.and_eq_true] at h1o'
    rw [isStr_of h1o'.1] at hd1
    obtain rfl := hd1.strOf
    have hk : ∃ n, sz.lookup (strOf d1) = some n := Option.isSome_iff_exists.mp (by rw [lookup_keys]; exact h1o'.2)
    obtain ⟨n, hn⟩ := hk
    refine ⟨ap, _, rfl, .inl (.inl hap), rfl, _, _, rfl, _, _, rfl, rfl, rfl, tyes ?_⟩
    refine ⟨_, rfl, _, rfl, a, V.int n, rfl, ?_, _, h1, small1000 (by rw [List.length_map, List.length_map, List.length_take]; omega), ?_, fun b o eb => ?_⟩
    · have z := DGet.k (k := Sum.inr (strOf d1)) (h2 _ _ hz)
      rw [szV_look, hn] at z
      exact z
    · rw [upd_same, List.take_add_one, he, List.map_append, List.map_append]
      refine congrArg (fun l => some (HO.lst (_ ++ [V.int l]))) ?_
      show (n : Int) = (((sz.lookup (strOf d1)).getD 0 : Nat) : Int)
      rw [hn]
      rfl
    · rw [upd_ne (ne_of_none eb nD)]
      exact h2 b o eb
  · rintro H' ⟨h1, h2⟩
    rw [hl, List.take_length] at h1
    refine ⟨D, _, rfl, .inl (.inl h1), ?_⟩
    have e : ((items d).map fun p => (((sz.lookup (strOf (at1 p))).getD 0 : Nat) : Int)).sum = ((psum sz (items d) : Nat) : Int) := by
      unfold psum
      induction items d with
      | nil => rfl
      | cons p r ih => rw [List.map_cons, List.sum_cons, List.map_cons, List.sum_cons, ih, Int.natCast_add]
    rw [e]
    exact q H' h2
end
end Lm

namespace Lm
open PySem PySem.Spec PyProof.Rows L2
open C8 (fnScope_by pe_gc pss_cut tCut Cal pe_c)

/-- a comprehension over a row that makes of each element one plain value -/
theorem lc_row {K : PySem.W.Frag} {J : It} {n : Nat} {G : Hp → Prop} {xs : List V} (wk : Walk J n G (YAt xs)) {H : Hp} {σ : L2.St} {te : TE} {g : TG} {vs : List Nat} {Qd : Hp → Prop} {ds : List PyData} {D : Addr} (gs : ∀ H', Same H H' → G H') (nD : H D = none) (f : PyData → V) (ha : DxAll K H xs ds) (hn : n = xs.length) (hz : ds.length ≤ 1000)
    (step : ∀ (i : Nat) (x : V) (e : PyData) (H3 : Hp) (Z : VK) (Zf : Hp → Prop), ds[i]? = some e → Dx K H3 x e → Same H H3 → (∀ H4, Same H3 H4 → Z (f e) H4) → g x (wipe σ vs) H3 fun σ2 H2 => wipe σ2 vs = wipe σ vs ∧ tYes σ2 H2 fun b H4 => if b = true then te σ2 H4 Z else Zf H4)
    (fin : ∀ (H' : Hp), Same H H' → H' D = some (.lst (ds.map f)) → Qd H') :
    ∃ W : Nat → Nat → Hp → Prop, (∃ m, W 0 m (upd H D (.lst []))) ∧ ∀ i m H, W i m H →
      (J.stop i H ∧ Qd H) ∨ (J.go i H ∧ ∃ Nx : Hp → Prop, (∀ H', Nx H' → ∃ m', m' < m ∧ W (i + 1) m' H') ∧ ∀ x H', J.yld i H x H' → g x (wipe σ vs) H' fun σ2 H2 => wipe σ2 vs = wipe σ vs ∧ tYes σ2 H2 fun b H3 =>
        if b = true then te σ2 H3 fun y H4 => ∃ acc, H4 D = some (.lst acc) ∧ acc.length < sizeLine ∧ Nx (upd H4 D (.lst (acc ++ [y]))) else Nx H3) := by
  subst hn
  have hl := ha.len
  refine lc_it wk (fun i H' => H' D = some (.lst ((ds.take i).map f)) ∧ Same H H') ⟨upd_same, same_upd nD⟩ (fun i H' _ h => gs _ h.2) ?_ ?_
  · rintro i x H2 H3 hi ⟨h1, h2⟩ ⟨rfl, hx⟩
    obtain ⟨e, he, hde⟩ := ha.get hx
    refine step i x e H3 _ _ he (Dx.mono h2 hde) h2 fun H4 s4 => ⟨_, s4 _ _ h1, small1000 (by rw [List.length_map, List.length_take]; omega), ?_, fun b o eb => ?_⟩
    · rw [upd_same, List.take_add_one, he, List.map_append]
      rfl
    · rw [upd_ne (ne_of_none eb nD)]
      exact s4 _ _ (h2 _ _ eb)
  · rintro H' ⟨h1, h2⟩
    rw [hl, List.take_length] at h1
    exact fin H' h2 h1
/-! ### parts_fit -/
def isNoneD : PyData → Bool
  | .none => true
  | _ => false
theorem dx_isNone {K : PySem.W.Frag} {H : Hp} {v : V} {d : PyData} (h : Dx K H v d) : decide (v = V.non) = isNoneD d := by cases h <;> rfl
def anyOk (any : List Str) (p : PyData) : Bool := isNoneD (at1 p) || isOneOf (at1 p) any
def partsFit (e : PyData) (sz : List (Str × Nat)) (any : List Str) : Bool := isNamedRow (at2 e) 2 1 4 && (if strOf (at1 e) = "choice" then (items (at2 e)).all (anyOk any) else
  (items (at2 e)).all (fun p => isOneOf (at1 p) (sz.map (·.1))) && decide (psum sz (items (at2 e)) ≤ 8))
structure Ks (mg : Str → Option Value) : Prop where
  kinds : ∃ u, mg "MOST_KINDS" = some u ∧ RelV (.int 8) u
  parts : ∃ u, mg "MOST_PARTS" = some u ∧ RelV (.int 4) u
  leaves : ∃ u, mg "MOST_LEAVES" = some u ∧ RelV (.int 8) u
theorem namedGo_tup : ∀ {size : Int} {ds : List PyData} {ns : List Str}, namedGo size ds ns = true → ∀ p ∈ ds, isTupN p size = true ∧ isName (at0 p) = true
  | _, [], _, _, p, hp => by cases hp
  | size, e :: r, ns, h, p, hp => by
    unfold namedGo at h
    rw [Bool.and_eq_true] at h
    obtain ⟨h1, h2⟩ := h
    split at h2
    · rename_i x r' hi
      rw [Bool.and_eq_true, Bool.and_eq_true] at h2
      rcases List.mem_cons.mp hp with rfl | hp
      · refine ⟨h1, ?_⟩
        unfold at0
        rw [hi]
        exact h2.1
      · exact namedGo_tup h2.2.2 p hp
    · cases h2
theorem named_row {d : PyData} {size a b : Int} (h : isNamedRow d size a b = true) : isRow d = true ∧ (∀ p ∈ items d, isTupN p size = true ∧ isName (at0 p) = true) ∧ a ≤ ((items d).length : Int) ∧ ((items d).length : Int) ≤ b := by
  unfold isNamedRow at h
  simp only [Bool.and_eq_true, decide_eq_true_eq] at h
  exact ⟨h.1, namedGo_tup h.2.2.2, h.2.1, h.2.2.1⟩
theorem pair_of {p : PyData} (h : isTupN p 2 = true) : ∃ d0 d1, p = .tuple [d0, d1] := by
  obtain ⟨ds, rfl, hl⟩ := tupN_items h
  match ds, hl with
  | [a, b], _ => exact ⟨a, b, rfl⟩
  | [], h => cases h
  | [_], h => cases h
  | _ :: _ :: _ :: _, h => simp only [List.length_cons] at h; omega
theorem named_pairs {d : PyData} {a b : Int} (h : isNamedRow d 2 a b = true) : pairs (items d) := fun p hp => pair_of ((named_row h).2.1 p hp).1
theorem trip_of {e : PyData} (h : isHeaded e = true) : ∃ x z d, e = .tuple [.str x, .str z, d] ∧ isNameS x = true ∧ (z = "record" ∨ z = "choice") := by
  unfold isHeaded at h
  simp only [Bool.and_eq_true, Bool.or_eq_true, decide_eq_true_eq] at h
  obtain ⟨h1, h2, h3, h4⟩ := h
  obtain ⟨ds, rfl, hl⟩ := tupN_items h1
  match ds, hl with
  | [a, b, c], _ =>
    have h2' : isName a = true := h2
    have h3' : isStr b = true := h3
    have ea := isName_str h2'
    have eb := isStr_of h3'
    refine ⟨strOf a, strOf b, c, by rw [← ea, ← eb], ?_, h4⟩
    rw [ea] at h2'
    exact h2'
  | [], h => cases h
  | [_], h => cases h
  | [_, _], h => cases h
  | _ :: _ :: _ :: _ :: _, h => simp only [List.length_cons] at h; omega
section
variable {P : Program} {w : World} {K : PySem.W.Frag} {mg : Str → Option Value} {base : Heap}
theorem trip_at {H : Hp} {v : V} {d0 d1 d2 : PyData} (h : Dx K H v (.tuple [d0, d1, d2])) : ∃ a v0 v1 v2, v = .ref a ∧ H a = some (.tup [v0, v1, v2]) ∧ Dx K H v0 d0 ∧ Dx K H v1 d1 ∧ Dx K H v2 d2 := by
  obtain ⟨a, xs, rfl, hs, ha⟩ := h.tupAt
  match xs, ha with
  | [v0, v1, v2], .cons h0 (.cons h1 (.cons h2 .nil)) => exact ⟨a, v0, v1, v2, rfl, hs, h0, h1, h2⟩
abbrev nsPF : List Str := ["element", "sizes", "anywhere", "_", "sort", "parts", "kind"]
def spPF (K : PySem.W.Frag) : Sp := fun vs H Q _ => ∃ (v : V) (d : PyData) (a b : Addr) (sz : List (Str × Nat)) (any : List Str), vs = [v, .ref a, .ref b] ∧ Dx K H v d ∧ fit d = true ∧ isHeaded d = true ∧ H a = some (.dK (szV sz)) ∧ H b = some (.lst (any.map V.str)) ∧
  ∀ H', Same H H' → Q (.bl (partsFit d sz any)) H'
theorem scPF : FnScope nsPF ["element", "sizes", "anywhere"] (defScope sPartsFit) := fnScope_by (by decide +kernel)
theorem all_take {α : Type} (f : α → Bool) (xs : List α) {i : Nat} {e : α} (h : xs[i]? = some e) : (xs.take (i + 1)).map f = (xs.take i).map f ++ [f e] := by
  rw [List.take_add_one, h, List.map_append]
  rfl
theorem kPF {f : Addr} {fd : FuncData} (F : Fun K "parts_fit" "parts_fit" sPartsFit f fd) (B : Bt mg) (C : Ks mg) (c1 : Cal P w K mg base 2 "is_named_row" (spNamed K) []) (c2 : Cal P w K mg base 1 "is_one_of" (spOneOf K) []) (c3 : Cal P w K mg base 1 "parts_size" (spPS K) []) :
    FnOk P w K mg base CX0 3 f fd ["element", "sizes", "anywhere"] (spPF K) := by
  refine F.ok scPF (fun vs H Q E h => ?_) (fun cdv A outer s H vs Q E hr h => ?_)
  · obtain ⟨v, d, a, b, sz, any, rfl, _⟩ := h
    rfl
  obtain ⟨v, d, a, b, sz, any, rfl, hd, hf, hh, ha, hb, q⟩ := h
  refine ⟨_, pss_cons (ps_asg (pv 0) (pg_tupk K rfl (n := 3) rfl (pgs_cons (pg_name (i := 3) scPF.nd rfl (Or.inl rfl)) (pgs_cons (pg_name (i := 4) scPF.nd rfl (Or.inl rfl)) (pgs_cons (pg_name (i := 5) scPF.nd rfl (Or.inl rfl)) pgs_nil)))))
    (pss_cons (ps_if (pt_not (pt_val (pe_c c1 hr (by decide) (by rfl) (pa_cons (pv 5) (pa_cons pe_int (pa_cons pe_int (pa_cons (pe_gc (by rfl) C.parts) pa_nil))))))) (pss_one (ps_ret pe_bl)) pss_nil)
    (pss_cons (ps_if (pt_cmpR op_eq (pv 4) pe_str (nomark _)) (pss_one (ps_ret (pe_callB (cr_all rfl) (by rfl) B.all boot_all (pa_cons
        (pe_lc (own := [("_", 3), ("kind", 6)]) (tt := tYes) rfl scPF.nd (pi_row (pv 5)) (blkOk_by (N := nsPF) (sc := defScope sPartsFit) (by decide +kernel)) (fun _ _ _ _ _ => pg_tupk K rfl (n := 2) rfl (pgs_cons (pg_name (i := 3) scPF.nd rfl (Or.inl rfl)) (pgs_cons (pg_name (i := 6) scPF.nd rfl (Or.inl rfl)) pgs_nil)))
          (fun _ _ _ _ _ => pts_nil) (fun _ _ _ _ _ => pe_or (pe_cmpR op_isN (pv 6) pe_non (by rfl)) (pe_one (pe_c c2 hr (by decide) (by rfl) (pa_cons (pv 6) (pa_cons (pv 2) pa_nil)))))) pa_nil)))) pss_nil)
    (pss_one (ps_ret (pe_and (pe_callB (cr_all rfl) (by rfl) B.all boot_all (pa_cons
        (pe_lc (own := [("_", 3), ("kind", 6)]) (tt := tYes) rfl scPF.nd (pi_row (pv 5)) (blkOk_by (N := nsPF) (sc := defScope sPartsFit) (by decide +kernel)) (fun _ _ _ _ _ => pg_tupk K rfl (n := 2) rfl (pgs_cons (pg_name (i := 3) scPF.nd rfl (Or.inl rfl)) (pgs_cons (pg_name (i := 6) scPF.nd rfl (Or.inl rfl)) pgs_nil)))
          (fun _ _ _ _ _ => pts_nil) (fun _ _ _ _ _ => pe_c c2 hr (by decide) (by rfl) (pa_cons (pv 6) (pa_cons (pv 1) pa_nil)))) pa_nil))
      (pe_one (pe_cmpR op_le (pe_c c3 hr (by decide) (by rfl) (pa_cons (pv 5) (pa_cons (pv 1) pa_nil))) (pe_gc (by rfl) C.leaves) (by rfl)))))))), ?_⟩
  obtain ⟨x, z, pd, rfl, hx, hz⟩ := trip_of hh
  obtain ⟨ad, v0, v1, v2, rfl, had, hd0, hd1, hd2⟩ := trip_at hd
  obtain rfl := hd0.strOf
  obtain rfl := hd1.strOf
  have hfp : fit pd = true := fitAll_at (i := 2) (fit_items hf) rfl
  have bad : partsFit (.tuple [.str x, .str z, pd]) sz any = false → ∀ H', Same H H' → Q (.bl false) H' := fun e H' s' => by
    have z := q H' s'
    rw [e] at z
    exact z
  have e0 : partsFit (.tuple [.str x, .str z, pd]) sz any = (isNamedRow pd 2 1 4 && (if z = "choice" then (items pd).all (anyOk any) else (items pd).all (fun p => isOneOf (at1 p) (sz.map (·.1))) && decide (psum sz (items pd) ≤ 8))) := rfl
  refine ⟨_, rfl, ad, _, rfl, .inl (.inl had), rfl, _, _, rfl, _, _, rfl, _, _, rfl, rfl, ?_⟩
  refine ⟨_, rfl, v2, pd, 2, 1, 4, rfl, hd2, hfp, by decide, fun H1 s1 => ⟨_, rfl, ?_⟩⟩
  cases h1 : isNamedRow pd 2 1 4 with
  | false => exact iteT (bad (by rw [e0, h1]; rfl) H1 s1)
  | true =>
    refine iteF ?_
    obtain ⟨hrow, hps, _, hlen⟩ := named_row h1
    have hpr := named_pairs h1
    have hl1 := fit_len hfp
    have hd2' := Dx.mono s1 hd2
    obtain ⟨ar, xs, rfl, hs, hxs⟩ := hd2'.row hrow
    have hs' : SqL K H1 ar xs ∨ SqT K H1 ar xs := hs.imp (·.1) (·.1)
    refine ⟨_, rfl, rfl, _, rfl, ?_⟩
    by_cases hc : z = "choice"
    · rw [decide_eq_true (congrArg V.str hc)]
      refine iteT ?_
      refine for_row (a := ar) (xs := xs) hs' (Same.refl H1) (fun k hk => ⟨_, rfl, hk⟩) fun J G gs wk D nD => lc_row wk gs nD (fun p => .bl (anyOk any p)) hxs rfl hl1 (fun i x e H3 Z Zf he hx s3 hZ => ?_) fun H' s' hD => ?_
      · obtain ⟨d0, d1, rfl⟩ := hpr e (List.mem_of_getElem? he)
        obtain ⟨ap, w0, w1, rfl, hap, _, hw1⟩ := pair_at hx
        refine ⟨ap, _, rfl, .inl (.inl hap), rfl, _, _, rfl, _, _, rfl, rfl, rfl, tyes ?_⟩
        refine ⟨_, rfl, rfl, _, rfl, ?_⟩
        rw [dx_isNone hw1]
        have ek : anyOk any (.tuple [d0, d1]) = (isNoneD d1 || isOneOf d1 any) := rfl
        cases hn : isNoneD d1 with
        | true =>
          refine iteT ?_
          have zz := hZ H3 (Same.refl H3)
          rw [ek, hn] at zz
          exact zz
        | false =>
          refine iteF ?_
          refine ⟨_, rfl, _, rfl, w1, d1, b, any, rfl, hw1, .inl (s3 _ _ (s1 _ _ hb)), ?_⟩
          have zz := hZ H3 (Same.refl H3)
          rw [ek, hn] at zz
          exact zz
      · refine ⟨D, (items pd).map (anyOk any), rfl, .inl (.inl ?_), ?_⟩
        · rw [hD, List.map_map]
          rfl
        · have zz := q H' (s1.trans s')
          rw [e0, h1, if_pos hc] at zz
          rw [List.all_map]
          exact zz
    · rw [decide_eq_false (fun h => hc (V.str.inj h))]
      refine iteF ?_
      have e1 : partsFit (.tuple [.str x, .str z, pd]) sz any = ((items pd).all (fun p => isOneOf (at1 p) (sz.map (·.1))) && decide (psum sz (items pd) ≤ 8)) := by rw [e0, h1, if_neg hc]; rfl
      have ha1 := s1 _ _ ha
      refine for_row (a := ar) (xs := xs) hs' (Same.refl H1) (fun k hk => ⟨_, rfl, hk⟩) fun J G gs wk D nD => lc_row wk gs nD (fun p => .bl (isOneOf (at1 p) (sz.map (·.1)))) hxs rfl hl1 (fun i x e H3 Z Zf he hx s3 hZ => ?_) fun H' s' hD => ?_
      · obtain ⟨d0, d1, rfl⟩ := hpr e (List.mem_of_getElem? he)
        obtain ⟨ap, w0, w1, rfl, hap, _, hw1⟩ := pair_at hx
        refine ⟨ap, _, rfl, .inl (.inl hap), rfl, _, _, rfl, _, _, rfl, rfl, rfl, tyes ?_⟩
        exact ⟨_, rfl, _, rfl, w1, d1, a, _, rfl, hw1, .inr (keys_sz (s3 _ _ ha1)), hZ H3 (Same.refl H3)⟩
      · refine ⟨D, (items pd).map (fun p => isOneOf (at1 p) (sz.map (·.1))), rfl, .inl (.inl ?_), ?_⟩
        · rw [hD, List.map_map]
          rfl
        · rw [List.all_map]
          refine ⟨_, rfl, ?_⟩
          cases hk : (items pd).all (id ∘ fun p => isOneOf (at1 p) (sz.map (·.1))) with
          | false =>
            have hk' : (items pd).all (fun p => isOneOf (at1 p) (sz.map (·.1))) = false := hk
            exact iteF (bad (by rw [e1, hk']; rfl) H' (s1.trans s'))
          | true =>
            have hk' : (items pd).all (fun p => isOneOf (at1 p) (sz.map (·.1))) = true := hk
            refine iteT ?_
            refine ⟨_, rfl, _, rfl, .ref ar, pd, a, sz, rfl, Dx.mono s' hd2', hfp, hrow, s' _ _ ha1, hpr, List.all_eq_true.mp hk', fun H5 s5 => ⟨_, _, rfl, rfl, ?_⟩⟩
            have zz := q H5 (s1.trans (s'.trans s5))
            rw [e1, hk'] at zz
            have ed : decide (((psum sz (items pd) : Nat) : Int) ≤ 8) = decide (psum sz (items pd) ≤ 8) := decide_eq_decide.mpr (by omega)
            show Q (.bl (decide (((psum sz (items pd) : Nat) : Int) ≤ 8))) H5
            rw [ed]
            exact zz
end
end Lm

namespace Lm
open PySem PySem.Spec PyProof.Rows L2
open C8 (fnScope_by pe_gc pss_cut tCut Cal pe_c)
/-! ### sorts: a dict from names to pairs of a sort and parts -/
abbrev Srt := List (Str × Str × PyData)
def SrtRow (K : PySem.W.Frag) (H : Hp) (kv : Key × V) (s : Str × Str × PyData) : Prop := kv.1 = Sum.inr s.1 ∧ ∃ t vp, kv.2 = V.ref t ∧ H t = some (.tup [V.str s.2.1, vp]) ∧ Dx K H vp s.2.2
def SrtAt (K : PySem.W.Frag) (H : Hp) (a : Addr) (srt : Srt) : Prop := ∃ kvs, H a = some (.dK kvs) ∧ Paired (SrtRow K H) kvs srt
theorem paired_imp {α β : Type} {F G : α → β → Prop} (h : ∀ a b, F a b → G a b) : ∀ {xs : List α} {ys : List β}, Paired F xs ys → Paired G xs ys
  | _, _, .nil => .nil
  | _, _, .cons a t => .cons (h _ _ a) (paired_imp h t)
section
variable {P : Program} {w : World} {K : PySem.W.Frag} {mg : Str → Option Value} {base : Heap}
theorem SrtRow.mono {H H' : Hp} (e : Same H H') {kv : Key × V} {s : Str × Str × PyData} (h : SrtRow K H kv s) : SrtRow K H' kv s := by
  obtain ⟨h1, t, vp, h2, h3, h4⟩ := h
  exact ⟨h1, t, vp, h2, e _ _ h3, Dx.mono e h4⟩
theorem SrtAt.mono {H H' : Hp} (e : Same H H') {a : Addr} {srt : Srt} (h : SrtAt K H a srt) : SrtAt K H' a srt := by
  obtain ⟨kvs, h1, h2⟩ := h
  exact ⟨kvs, e _ _ h1, paired_imp (fun _ _ z => z.mono e) h2⟩
theorem srt_look {H : Hp} {x : Str} : ∀ {kvs : List (Key × V)} {srt : Srt}, Paired (SrtRow K H) kvs srt →
    (srt.lookup x = none ∧ valV kvs (Sum.inr x) = none) ∨ ∃ z d t vp, srt.lookup x = some (z, d) ∧ valV kvs (Sum.inr x) = some (V.ref t) ∧ H t = some (.tup [V.str z, vp]) ∧ Dx K H vp d
  | _, _, .nil => .inl ⟨rfl, rfl⟩
  | _, _, .cons (a := kv) (b := s) h r => by
    obtain ⟨h1, t, vp, h2, h3, h4⟩ := h
    obtain ⟨y, z, d⟩ := s
    rw [lk_cons]
    by_cases e : x = y
    · subst e
      rw [if_pos rfl]
      refine .inr ⟨z, d, t, vp, rfl, ?_, h3, h4⟩
      rw [valV_pos h1, h2]
    · rw [if_neg e]
      have h1' : kv.1 = Sum.inr y := h1
      rw [valV_neg (fun q => e (Sum.inr.inj (h1'.symm.trans q)).symm)]
      exact srt_look r
theorem srt_in {H : Hp} {a : Addr} {srt : Srt} (h : SrtAt K H a srt) (x : Str) : ∃ o, DGet H a (.str x) o ∧ o.isSome = (srt.lookup x).isSome := by
  obtain ⟨kvs, h1, h2⟩ := h
  refine ⟨_, DGet.k (k := Sum.inr x) h1, ?_⟩
  rcases srt_look (x := x) h2 with ⟨e1, e2⟩ | ⟨z, d, t, vp, e1, e2, _⟩ <;> rw [e1, e2] <;> rfl
theorem srt_get {H : Hp} {a : Addr} {srt : Srt} (h : SrtAt K H a srt) {x z : Str} {d : PyData} (e : srt.lookup x = some (z, d)) : ∃ t vp, DGet H a (.str x) (some (.ref t)) ∧ H t = some (.tup [V.str z, vp]) ∧ Dx K H vp d := by
  obtain ⟨kvs, h1, h2⟩ := h
  rcases srt_look (x := x) h2 with ⟨e1, _⟩ | ⟨z', d', t, vp, e1, e2, e3, e4⟩
  · rw [e1] at e
    cases e
  · rw [e1] at e
    cases e
    refine ⟨t, vp, ?_, e3, e4⟩
    rw [← e2]
    exact DGet.k (k := Sum.inr x) h1
/-! ### is_kind -/
def isKindD (srt : Srt) (d : PyData) : Bool := isStr d && (decide (strOf d = "item") || (srt.lookup (strOf d)).isSome)
def spSK (K : PySem.W.Frag) (g : Srt → PyData → Bool) (pre : PyData → Prop) : Sp := fun vs H Q _ => ∃ (a : Addr) (v : V) (d : PyData) (srt : Srt), vs = [.ref a, v] ∧ SrtAt K H a srt ∧ Dx K H v d ∧ pre d ∧ Q (.bl (g srt d)) H
theorem scIsKind : FnScope ["sorts", "value"] ["sorts", "value"] (defScope sIsKind) := fnScope_by (by decide +kernel)
theorem spSK_len {g : Srt → PyData → Bool} {pre : PyData → Prop} {a b : Str} : ∀ vs H Q E, spSK K g pre vs H Q E → vs.length = [a, b].length := fun vs H Q E h => by
  obtain ⟨_, _, _, _, rfl, _⟩ := h
  rfl
theorem kIsKind {f : Addr} {fd : FuncData} (F : Fun K "is_kind" "is_kind" sIsKind f fd) (B : Bt mg) : FnOk P w K mg base CX0 1 f fd ["sorts", "value"] (spSK K isKindD fun _ => True) := by
  refine F.ok scIsKind spSK_len (fun cdv A outer s H vs Q E hr h => ?_)
  obtain ⟨a, v, d, srt, rfl, ha, hd, _, q⟩ := h
  have hu := hu_of hr
  refine ⟨_, pss_one (ps_ret (pe_and (pe_callB call_isi (by rfl) B.isi boot_isinstance (pa_cons (pv 1) (pa_cons (pe_bltn (v := .ty "str") (by rfl) B.str boot_str rfl) pa_nil)))
    (pe_one (pe_or (pe_cmpR op_eq (pv 1) pe_str (by rfl)) (pe_one (pe_cmp (pc_din hu (pv 1) (pv 0)) (by rfl))))))), ?_⟩
  refine ⟨_, rfl, v, _, _, _, _, rfl, .ty _, hd.ty, kit_str d, _, rfl, ?_⟩
  cases h1 : isStr d with
  | false =>
    refine iteF ?_
    have e : isKindD srt d = false := by unfold isKindD; rw [h1]; rfl
    rw [e] at q
    exact q
  | true =>
    refine iteT ?_
    have e2 := isStr_of h1
    rw [e2] at hd
    obtain rfl := hd.strOf
    have e : isKindD srt d = (decide (strOf d = "item") || (srt.lookup (strOf d)).isSome) := by unfold isKindD; rw [h1]; rfl
    rw [e] at q
    refine ⟨_, rfl, rfl, _, rfl, ?_⟩
    have ed : decide (V.str (strOf d) = V.str "item") = decide (strOf d = "item") := decide_eq_decide.mpr ⟨fun h => V.str.inj h, fun h => congrArg V.str h⟩
    rw [ed]
    cases hi : decide (strOf d = "item") with
    | true =>
      refine iteT ?_
      rw [hi] at q
      exact q
    | false =>
      refine iteF ?_
      rw [hi, Bool.false_or] at q
      obtain ⟨o, g, eo⟩ := srt_in ha (strOf d)
      refine ⟨_, rfl, _, rfl, a, o, rfl, g, ?_⟩
      rw [eo]
      exact q
/-! ### is_choice -/
def isChoiceD (srt : Srt) (d : PyData) : Bool := isStr d && (match srt.lookup (strOf d) with | some (z, _) => decide (z = "choice") | none => false)
/-- a kind, or None -/
def noneStr (d : PyData) : Prop := d = .none ∨ isStr d = true
theorem scIsChoice : FnScope ["sorts", "kind"] ["sorts", "kind"] (defScope sIsChoice) := fnScope_by (by decide +kernel)
theorem kIsChoice {f : Addr} {fd : FuncData} (F : Fun K "is_choice" "is_choice" sIsChoice f fd) (B : Bt mg) : FnOk P w K mg base CX0 1 f fd ["sorts", "kind"] (spSK K isChoiceD noneStr) := by
  refine F.ok scIsChoice spSK_len (fun cdv A outer s H vs Q E hr h => ?_)
  obtain ⟨a, v, d, srt, rfl, ha, hd, hp, q⟩ := h
  have hu := hu_of hr
  refine ⟨_, pss_one (ps_ret (pe_and (pe_cmp (pc_dinN hu (pv 1) (pv 0)) (by rfl)) (pe_one (pe_cmpR op_eq (pe_ix ix_tup (pe_dget hu (pv 0) (pv 1) (fun _ _ => rfl)) pe_int (fun _ _ => rfl)) pe_str (by rfl))))), ?_⟩
  rcases hp with rfl | h1
  · cases hd
    obtain ⟨kvs, h1, h2⟩ := ha
    exact ⟨_, rfl, _, rfl, .inr ⟨a, kvs, rfl, rfl, .inl h1, _, rfl, iteF q⟩⟩
  · have e2 := isStr_of h1
    rw [e2] at hd
    obtain rfl := hd.strOf
    have e : isChoiceD srt d = (match srt.lookup (strOf d) with | some (z, _) => decide (z = "choice") | none => false) := by unfold isChoiceD; rw [h1]; rfl
    rw [e] at q
    obtain ⟨o, g, eo⟩ := srt_in ha (strOf d)
    refine ⟨_, rfl, _, rfl, .inl ⟨a, o, rfl, g, _, rfl, ?_⟩⟩
    rw [eo]
    cases hl : srt.lookup (strOf d) with
    | none =>
      rw [hl] at q
      exact iteF q
    | some zd =>
      obtain ⟨z, dd⟩ := zd
      rw [hl] at q
      refine iteT ?_
      obtain ⟨t, vp, g2, ht, _⟩ := srt_get ha hl
      refine ⟨_, rfl, _, rfl, a, _, rfl, g2, t, _, 0, _, rfl, rfl, .inl (.inl ht), atI_nat (j := 0) rfl, rfl, ?_⟩
      have ed : decide (V.str z = V.str "choice") = decide (z = "choice") := decide_eq_decide.mpr ⟨fun h => V.str.inj h, fun h => congrArg V.str h⟩
      show Q (.bl (decide (V.str z = V.str "choice"))) H
      rw [ed]
      exact q
end
end Lm

namespace Lm
open PySem PySem.Spec PyProof.Rows L2
open C8 (fnScope_by pe_gc pss_cut tCut Cal pe_c)
/-- a dict comprehension over a walk -/
theorem dc_it {J : It} {n : Nat} {G : Hp → Prop} {Y : Nat → Hp → V → Hp → Prop} (wk : Walk J n G Y) {g : TG} {tt : TT} {tk tv : TE} {vs : List Nat} {σ : L2.St} {HA : Hp} {D : Addr} {Qd : Hp → Prop} (R : Nat → Hp → Prop) (start : R 0 (upd HA D (.dK [])))
    (stay : ∀ j h, j ≤ n → R j h → G h)
    (one : ∀ j x h h', j < n → R j h → Y j h x h' → g x (wipe σ vs) h' fun τ h2 => wipe τ vs = wipe σ vs ∧ tt τ h2 fun b h3 => if b = true then tk τ h3 fun y h4 => tv τ h4 fun z h5 => ∃ kvs k, y = kV k ∧ h5 D = some (.dK kvs) ∧ kvs.length < sizeLine ∧ R (j + 1) (upd h5 D (.dK (putK kvs k z))) else R (j + 1) h3)
    (done : ∀ h, R n h → Qd h) :
    ∃ W : Nat → Nat → Hp → Prop, (∃ m, W 0 m (upd HA D (.dK []))) ∧ ∀ i m H, W i m H → (J.stop i H ∧ Qd H) ∨ (J.go i H ∧ ∃ Nx : Hp → Prop, (∀ H', Nx H' → ∃ m', m' < m ∧ W (i + 1) m' H') ∧
      ∀ x H', J.yld i H x H' → g x (wipe σ vs) H' fun σ2 H2 => wipe σ2 vs = wipe σ vs ∧ tt σ2 H2 fun b H3 => if b = true then tk σ2 H3 fun y H4 => tv σ2 H4 fun z H5 => ∃ kvs k, y = kV k ∧ H5 D = some (.dK kvs) ∧ kvs.length < sizeLine ∧ Nx (upd H5 D (.dK (putK kvs k z))) else Nx H3) := by
  refine ⟨fun i m h => i + m = n ∧ R i h, ⟨n, Nat.zero_add n, start⟩, ?_⟩
  rintro i m h ⟨e, r⟩
  have gg := stay i h (by omega) r
  cases m with
  | zero =>
    obtain rfl : i = n := e
    exact .inl ⟨wk.stops h gg, done h r⟩
  | succ m =>
    have il : i < n := by omega
    exact .inr ⟨wk.goes i h il gg, R (i + 1), fun h' r' => ⟨m, Nat.lt_succ_self m, by omega, r'⟩, fun x h' y => one i x h h' il r (wk.yields i h x h' il gg y)⟩

section
variable {X : Cx}
abbrev AtBlk (X : Cx) (sc : Scope) (F : Cx → Prop) : Prop := ∀ (s : Shared) (H : Hp) (C : Addr) (cl : List (Str × Addr)) (fp : List Addr), F (X.blk s H sc (compEnvC sc cl C X.env) fp)
/-- name = {k: v for ..} on one line, the name a local -/
theorem ps_setDc {i : Nat} {x : Str} {px pc ps : Pos} {ek ev tg it : Expr} {cs : List Expr} {sc : Scope} {own : List (Str × Nat)} {wi : TI} {g : TG} {tt : TT} {tk tv : TE}
    (sw : swapsWith (.DictComp ek ev [⟨tg, it, cs, 0⟩] sc pc) (some (.Name x px)) ps.line X.env = pure true) (calm : X.calm = true) (nd : X.N.Nodup) (xi : X.N[i]? = some x) (xl : X.env.scope.names.lookup x = some .local) (wk : PI X tg it wi) (ok : BlkOk X.N X.env.scope sc own)
    (hg : AtBlk X sc fun Y => PG Y tg g) (ht : AtBlk X sc fun Y => PTs Y cs tt) (hk : AtBlk X sc fun Y => PE Y ek tk) (hv : AtBlk X sc fun Y => PE Y ev tv) (hs : ∀ z, foldedSetIterable it X.env z = pure z := by intro _; rfl) :
    PS X (.Assign [.Name x px] (.DictComp ek ev [⟨tg, it, cs, 0⟩] sc pc) ps) (tAsg (tDc wi g tt tk tv (own.map (·.2))) (gName i)) := by
  refine ⟨fun pins s σ H D inv red => ?_⟩
  have red' : tDc wi g tt tk tv (own.map (·.2)) σ H (fun y H1 => gName i y σ H1 D.nx) := red
  rw [exec_Assign_Name_used _ _ _ _ sw]
  refine wpAny_bind (wpAny_standAt (wpAny_bind ?_))
  show wpAny _ X.A (do
    let _ ← comprehension (.DictComp ek ev [⟨tg, it, cs, 0⟩] sc pc) sc X.env (firstIterPos [⟨tg, it, cs, 0⟩] pc) newDict false (eval it X.env) (some (assign (.Name x px) X.env))) _ _ s
  refine wpAny_bind (thn (dc_core (Qf := fun _ z => SP X pins D .next z) calm nd inv wk ok hg ht hk hv hs red' fun L C s2 m H2 inv2 q ns fp => ?_) fun _ z hz => wpAny_pure (wpAny_pure hz))
  show wpAny _ _ (assign (.Name x px) X.env (.ref L)) _ _ _
  refine wpAny_assign_Name (store_ok2 (v := V.ref L) inv2 nd xi (.inl xl) rfl (fun s3 inv3 ⟨a, sb, ha⟩ => ?_) (.inr xl))
  obtain ⟨f0, f1, f2, f3, f4, f5⟩ := fp
  have ca : C ≠ a := ha.elim (fun z => by rw [z]; exact f1) fun z e => f4 x a z e.symm
  exact ⟨m, ns.sameBut sb ca, fun h4 sb4 => ⟨_, H2, inv3.turned (t' := s3.toks) (fun b o hb e => (sb4.2 b hb).trans e) f0 f1 f3 f4 f5, q⟩⟩
theorem sw_dict {ek ev : Expr} {gs : List Comprehension} {sc : Scope} {pc px : Pos} {x : Str} {l : Nat} {env : Env} (fk : env.scope.kind = .function) (xl : env.scope.names.lookup x = some .local) (el : (px.line == pc.line) = true)
    (no : (sc.names.any fun (n, k) => n == x && (k == .local || k == .cell)) = false) : swapsWith (.DictComp ek ev gs sc pc) (some (.Name x px)) l env = pure true := by
  have e1 : env.kindOf x = some .local := xl
  have e2 : env.blockKind = .function := by
    show Env.blockKind env = _
    unfold Env.blockKind
    rw [fk]
    rfl
  unfold swapsWith
  simp only [e2, e1, no, Expr.pos, el]
  rfl
end
theorem putK_new {kvs : List (Key × V)} {k : Key} {v : V} (h : valV kvs k = none) : putK kvs k v = kvs ++ [(k, v)] := by
  unfold putK
  have e : (kvs.any fun kv => decide (kv.1 = k)) = false := by
    rw [List.any_eq_false]
    intro kv hk hh
    unfold valV at h
    rw [Option.map_eq_none_iff, List.find?_eq_none] at h
    exact h kv hk hh
  rw [e]
  rfl
def srtOf (ds : List PyData) : Srt := ds.map fun e => (strOf (at0 e), strOf (at1 e), at2 e)
/-- kinds as they are checked -/
def kindRow (e : PyData) : Prop := ∃ x z p, e = .tuple [.str x, .str z, p]
section
variable {P : Program} {w : World} {K : PySem.W.Frag} {mg : Str → Option Value} {base : Heap}
theorem paired_snoc {α β : Type} {F : α → β → Prop} {a : α} {b : β} {xs : List α} {ys : List β} (h : Paired F xs ys) (g : F a b) : Paired F (xs ++ [a]) (ys ++ [b]) := Paired.snoc h g
theorem paired_len {α β : Type} {F : α → β → Prop} : ∀ {xs : List α} {ys : List β}, Paired F xs ys → xs.length = ys.length
  | _, _, .nil => rfl
  | _, _, .cons _ t => by rw [List.length_cons, List.length_cons, paired_len t]
/-- as SrtRow, the data told of an earlier heap -/
def SrtRow2 (K : PySem.W.Frag) (Hb H : Hp) (kv : Key × V) (s : Str × Str × PyData) : Prop := kv.1 = Sum.inr s.1 ∧ ∃ t vp, kv.2 = V.ref t ∧ H t = some (.tup [V.str s.2.1, vp]) ∧ Dx K Hb vp s.2.2
theorem SrtRow2.up {Hb H : Hp} (e : Same Hb H) {kv : Key × V} {s : Str × Str × PyData} (h : SrtRow2 K Hb H kv s) : SrtRow K H kv s := by
  obtain ⟨h1, t, vp, h2, h3, h4⟩ := h
  exact ⟨h1, t, vp, h2, h3, Dx.mono e h4⟩
abbrev nsSO : List Str := ["kinds", "name", "sort", "parts"]
theorem scSO : FnScope nsSO ["kinds"] (defScope sSortsOf) := fnScope_by (by decide +kernel)
def spSO (K : PySem.W.Frag) : Sp := fun vs H Q _ => ∃ (v : V) (d : PyData), vs = [v] ∧ Dx K H v d ∧ fit d = true ∧ isRow d = true ∧ (∀ e ∈ items d, kindRow e) ∧ ((items d).map fun e => strOf (at0 e)).Nodup ∧
  ∀ (H' : Hp) (p : Addr), Same H H' → H p = none → SrtAt K H' p (srtOf (items d)) → Q (.ref p) H'
theorem srt_absent : ∀ {ds : List PyData} {x : Str}, x ∉ ds.map (fun e => strOf (at0 e)) → (srtOf ds).lookup x = none
  | [], _, _ => rfl
  | e :: r, x, h => by
    show List.lookup x ((strOf (at0 e), strOf (at1 e), at2 e) :: srtOf r) = none
    rw [lk_cons, if_neg (fun q => h (by rw [q]; exact List.mem_cons_self ..))]
    exact srt_absent fun q => h (List.mem_cons_of_mem _ q)
theorem nodup_take {α : Type} {xs : List α} {i : Nat} {x : α} (h : xs.Nodup) (e : xs[i]? = some x) : x ∉ xs.take i := by
  intro hm
  obtain ⟨j, hj, hx⟩ := List.getElem_of_mem hm
  rw [List.length_take] at hj
  rw [List.getElem_take] at hx
  have e1 : xs[j]? = some x := by rw [← hx]; exact List.getElem?_eq_getElem (by omega)
  have := (List.getElem?_inj (by omega : j < xs.length) h).mp (e1.trans e.symm)
  omega
theorem kSO {f : Addr} {fd : FuncData} (F : Fun K "sorts_of" "sorts_of" sSortsOf f fd) : FnOk P w K mg base CX0 1 f fd ["kinds"] (spSO K) := by
  refine F.ok scSO (fun vs H Q E h => ?_) (fun cdv A outer s H vs Q E hr h => ?_)
  · obtain ⟨v, d, rfl, _⟩ := h
    rfl
  obtain ⟨v, d, rfl, hd, hf, hrow, hk, hn, q⟩ := h
  obtain ⟨a, xs, rfl, hs, ha⟩ := hd.row hrow
  have hs' : SqL K H a xs ∨ SqT K H a xs := hs.imp (·.1) (·.1)
  have hl := ha.len
  have hl1 := fit_len hf
  refine ⟨_, pss_one (ps_ret (pe_dc (own := [("name", 1), ("sort", 2), ("parts", 3)]) (tt := tYes) rfl scSO.nd (pi_row (pv 0)) (blkOk_by (N := nsSO) (sc := defScope sSortsOf) (by decide +kernel))
    (fun _ _ _ _ _ => pg_tupk K rfl (n := 3) rfl (pgs_cons (pg_name (i := 1) scSO.nd rfl (Or.inl rfl)) (pgs_cons (pg_name (i := 2) scSO.nd rfl (Or.inl rfl)) (pgs_cons (pg_name (i := 3) scSO.nd rfl (Or.inl rfl)) pgs_nil)))) (fun _ _ _ _ _ => pts_nil)
    (fun _ _ _ _ _ => pv 1) (fun _ _ _ _ _ => pe_tup (pa_cons (pv 2) (pa_cons (pv 3) pa_nil))))), ?_⟩
  refine for_row (a := a) (xs := xs) hs' (Same.refl H) (fun k hk => ⟨_, rfl, hk⟩) fun J G gs wk D nD => dc_it wk
    (fun i H' => (∃ kvs, H' D = some (.dK kvs) ∧ Paired (SrtRow2 K H H') kvs (srtOf ((items d).take i))) ∧ Same H H') ⟨⟨[], upd_same, .nil⟩, same_upd nD⟩ (fun i H' _ h => gs _ h.2) ?_ ?_
  · rintro i x H2 H3 hi ⟨⟨kvs, h1, h3⟩, h2⟩ ⟨rfl, hx⟩
    obtain ⟨e, he, hde⟩ := ha.get hx
    obtain ⟨y, z, p, rfl⟩ := hk e (List.mem_of_getElem? he)
    obtain ⟨ae, v0, v1, v2, rfl, hae0, hd0, hd1, hb2⟩ := trip_at hde
    have hae := h2 _ _ hae0
    obtain rfl := hd0.strOf
    obtain rfl := hd1.strOf
    have hy : y ∉ ((items d).take i).map fun e => strOf (at0 e) := by
      have h := nodup_take hn (i := i) (x := y) (by rw [List.getElem?_map, he]; rfl)
      rw [← List.map_take] at h
      exact h
    have hv : valV kvs (Sum.inr y) = none := by
      rcases srt_look (x := y) (paired_imp (fun _ _ z => z.up h2) h3) with ⟨_, e2⟩ | ⟨z', d', t, vp, e1, _⟩
      · exact e2
      · rw [srt_absent hy] at e1
        cases e1
    refine ⟨ae, _, rfl, .inl (.inl hae), rfl, _, _, rfl, _, _, rfl, _, _, rfl, rfl, rfl, tyes ?_⟩
    refine ⟨_, rfl, _, rfl, _, rfl, by show 2 ≤ sizeLine; decide, fun T nT => ?_⟩
    have nTD : T ≠ D := fun q => by rw [q, h1] at nT; cases nT
    have s1 := same_upd (o := .tup [V.str z, v2]) nT
    refine ⟨kvs, Sum.inr y, rfl, s1 _ _ h1, small1000 (by rw [paired_len h3]; unfold srtOf; rw [List.length_map, List.length_take]; omega), ⟨_, upd_same, ?_⟩, fun b o eb => ?_⟩
    · rw [putK_new hv]
      have et : srtOf ((items d).take (i + 1)) = srtOf ((items d).take i) ++ [(y, z, p)] := by
        unfold srtOf
        rw [List.take_add_one, he, List.map_append]
        rfl
      rw [et]
      have keep : ∀ b o, H3 b = some o → b ≠ D → upd (upd H3 T (.tup [V.str z, v2])) D (.dK (kvs ++ [(Sum.inr y, V.ref T)])) b = some o := fun b o eb nb => by
        rw [upd_ne nb]
        exact s1 _ _ eb
      refine paired_snoc (paired_imp (fun kv s h => ?_) h3) ⟨rfl, T, v2, rfl, by rw [upd_ne nTD]; exact upd_same, ?_⟩
      · obtain ⟨g1, t, vp, g2, g3, g4⟩ := h
        exact ⟨g1, t, vp, g2, keep _ _ g3 (fun q => by rw [q, h1] at g3; cases g3), g4⟩
      · exact hb2
    · rw [upd_ne (ne_of_none eb nD)]
      exact s1 _ _ (h2 _ _ eb)
  · rintro H' ⟨⟨kvs, h1, h3⟩, h2⟩
    rw [hl, List.take_length] at h3
    exact q H' D h2 nD ⟨kvs, h1, paired_imp (fun _ _ z => z.up h2) h3⟩
end
end Lm

namespace Lm
open PySem PySem.Spec PyProof.Rows L2
open C8 (fnScope_by pe_gc pss_cut tCut Cal pe_c)
/-- a size is noted -/
def szPut (sz : List (Str × Nat)) (x : Str) (n : Nat) : List (Str × Nat) := if (sz.any fun p => decide (p.1 = x)) = true then sz.map (fun p => if p.1 = x then (p.1, n) else p) else sz ++ [(x, n)]
theorem putK_sz (sz : List (Str × Nat)) (x : Str) (n : Nat) : putK (szV sz) (Sum.inr x) (V.int n) = szV (szPut sz x n) := by
  unfold putK szPut
  have e : ((szV sz).any fun kv => decide (kv.1 = Sum.inr x)) = sz.any fun p => decide (p.1 = x) := by
    unfold szV
    rw [List.any_map]
    refine congrArg (fun f => sz.any f) (funext fun p => ?_)
    exact decide_eq_decide.mpr ⟨fun h => Sum.inr.inj h, fun h => congrArg Sum.inr h⟩
  rw [e]
  cases sz.any fun p => decide (p.1 = x) with
  | false =>
    rw [if_neg Bool.false_ne_true, if_neg Bool.false_ne_true]
    unfold szV
    rw [List.map_append]
    rfl
  | true =>
    rw [if_pos rfl, if_pos rfl]
    unfold szV
    rw [List.map_map, List.map_map]
    refine List.map_congr_left fun p _ => ?_
    show (if (Sum.inr p.1 : Key) = Sum.inr x then ((Sum.inr p.1 : Key), V.int n) else (Sum.inr p.1, V.int p.2)) = _
    by_cases h : p.1 = x
    · rw [if_pos (congrArg Sum.inr h)]
      show _ = ((Sum.inr (if p.1 = x then (p.1, n) else p).1 : Key), V.int ((if p.1 = x then (p.1, n) else p).2 : Nat))
      rw [if_pos h]
    · rw [if_neg (fun q => h (Sum.inr.inj q))]
      show _ = ((Sum.inr (if p.1 = x then (p.1, n) else p).1 : Key), V.int ((if p.1 = x then (p.1, n) else p).2 : Nat))
      rw [if_neg h]
theorem szPut_len (sz : List (Str × Nat)) (x : Str) (n : Nat) : (szPut sz x n).length ≤ sz.length + 1 := by
  unfold szPut
  split
  · rw [List.length_map]; omega
  · rw [List.length_append]; exact Nat.le_refl _
def ones (xs : List Str) : List (Str × Nat) := xs.foldl (fun s x => szPut s x 1) []
theorem ones_snoc (xs : List Str) (x : Str) : ones (xs ++ [x]) = szPut (ones xs) x 1 := by
  unfold ones
  rw [List.foldl_append]
  rfl
theorem ones_go : ∀ (xs : List Str) (s : List (Str × Nat)), (xs.foldl (fun s x => szPut s x 1) s).length ≤ s.length + xs.length
  | [], s => Nat.le_refl _
  | x :: r, s => by
    have h1 := ones_go r (szPut s x 1)
    have h2 := szPut_len s x 1
    rw [List.foldl_cons, List.length_cons]
    omega
theorem ones_len (xs : List Str) : (ones xs).length ≤ xs.length := by
  have h := ones_go xs []
  rw [List.length_nil, Nat.zero_add] at h
  exact h
def kindsGo (any : List Str) : List (Str × Nat) → List Str → List PyData → Bool
  | _, _, [] => true
  | sz, ns, e :: r => isHeaded e && (!ns.contains (strOf (at0 e)) && (partsFit e sz any && kindsGo any (if strOf (at1 e) = "record" then szPut sz (strOf (at0 e)) (psum sz (items (at2 e))) else sz) (ns ++ [strOf (at0 e)]) r))
def anyOf (ds : List PyData) : List Str := "item" :: (namesOf "choice" ds ++ namesOf "record" ds)
def kindsOk (d : PyData) : Bool := isRow d && (decide ((items d).length ≤ 8) && kindsGo (anyOf (items d)) (ones ("item" :: namesOf "choice" (items d))) [] (items d))
theorem namesOf_len (z : Str) (ds : List PyData) : (namesOf z ds).length ≤ ds.length := by
  unfold namesOf
  rw [List.length_map]
  exact List.length_filter_le ..
section
variable {P : Program} {w : World} {K : PySem.W.Frag} {mg : Str → Option Value} {base : Heap}
abbrev nsCK : List Str := ["kinds", "choices", "anywhere", "sizes", "names", "at", "element", "name"]
theorem scCK : FnScope nsCK ["kinds"] (defScope sCheckKinds) := fnScope_by (by decide +kernel)
def spCK (K : PySem.W.Frag) : Sp := fun vs H Q _ => ∃ (v : V) (d : PyData), vs = [v] ∧ Dx K H v d ∧ fit d = true ∧ (∃ ds, d = .list ds) ∧ kindsOk d = true ∧ ∀ H', Same H H' → Q .non H'
theorem kCK {f : Addr} {fd : FuncData} (F : Fun K "check_kinds" "check_kinds" sCheckKinds f fd) (B : Bt mg) (C : Ks mg) (c1 : Cal P w K mg base 1 "is_row" (spB1 K isRow) []) (c2 : Cal P w K mg base 3 "names_of_sort" (spNamesOf K) []) (c3 : Cal P w K mg base 2 "is_headed" (spB1 K isHeaded) []) (c4 : Cal P w K mg base 3 "parts_fit" (spPF K) [])
    (c5 : Cal P w K mg base 1 "parts_size" (spPS K) []) : FnOk P w K mg base CX0 4 f fd ["kinds"] (spCK K) := by
  refine F.ok scCK (fun vs H Q E h => ?_) (fun cdv A outer s H vs Q E hr h => ?_)
  · obtain ⟨v, d, rfl, _⟩ := h
    rfl
  obtain ⟨v, d, rfl, hd, hf, ⟨ds, rfl⟩, hok, q⟩ := h
  have hu := hu_of hr
  refine ⟨_, pss_cons (ps_if (PW.pt (pw_or (pt_not (pt_val (pe_c c1 hr (by decide) (by rfl) (pa_cons (pv 0) pa_nil)))) (pw_or1 (pt_cmpR op_gt (pe_callB call_len_seq (by rfl) B.len boot_len (pa_cons (pv 0) pa_nil)) (pe_gc (by rfl) C.kinds) (by rfl))))) (pss_one ps_never) pss_nil)
    (pss_cons (ps_set (i := 1) scCK.nd rfl (.inl rfl) (pe_c c2 hr (by decide) (by rfl) (pa_cons (pv 0) (pa_cons pe_str pa_nil))))
    (pss_cons (ps_set (i := 2) scCK.nd rfl (.inl rfl) (pe_lst (pa_cons pe_str (StX.pa_star (pv 1) (StX.pa_star (pe_c c2 hr (by decide) (by rfl) (pa_cons (pv 0) (pa_cons pe_str pa_nil))) pa_nil)))))
    (pss_cons (ps_setDc (i := 3) (own := [("name", 7)]) (tt := tYes) (sw_dict rfl (by rfl) (by rfl) (by rfl)) rfl scCK.nd rfl (by rfl) (pi_list (pe_lst (pa_cons pe_str (StX.pa_star (pv 1) pa_nil)))) (blkOk_by (N := nsCK) (sc := defScope sCheckKinds) (by decide +kernel)) (fun _ _ _ _ _ => pg_name (i := 7) scCK.nd rfl (Or.inl rfl)) (fun _ _ _ _ _ => pts_nil)
        (fun _ _ _ _ _ => pv 7) (fun _ _ _ _ _ => pe_int))
    (pss_cons (ps_set (i := 4) scCK.nd rfl (.inl rfl) (pe_lst pa_nil))
    (pss_one (ps_for PassesOwn.never rfl (pi_enum (by rfl) B.enu (pa_cons (pv 0) pa_nil)) (pg_tupk K rfl (n := 2) rfl (pgs_cons (pg_name (i := 5) scCK.nd rfl (Or.inl rfl)) (pgs_cons (pg_name (i := 6) scCK.nd rfl (Or.inl rfl)) pgs_nil)))
      (pss_cons (ps_if (PW.pt (pw_or (pt_not (pt_val (pe_c c3 hr (by decide) (by rfl) (pa_cons (pv 6) pa_nil)))) (pw_or (pt_cmpR op_in_seq (pe_ix ix_tup (pv 6) pe_int (fun _ _ => rfl)) (pv 4) (by rfl)) (pw_or1 (pt_not (pt_val (pe_c c4 hr (by decide) (by rfl) (pa_cons (pv 6) (pa_cons (pv 3) (pa_cons (pv 2) pa_nil)))))))))) (pss_one ps_never) pss_nil)
      (pss_cons (ps_expr (pe_bm PySem.F.plainAttrs_list PySem.F.slot_list_append PySem.F.type_list_append mt_append (pv 4) (pa_cons (pe_ix ix_tup (pv 6) pe_int (fun _ _ => rfl)) pa_nil)))
      (pss_one (ps_if (pt_cmpR op_eq (pe_ix ix_tup (pv 6) pe_int (fun _ _ => rfl)) pe_str (nomark _)) (pss_one (ps_dput hu (pv 3) (pe_ix ix_tup (pv 6) pe_int (fun _ _ => rfl)) (pe_c c5 hr (by decide) (by rfl) (pa_cons (pe_ix ix_tup (pv 6) pe_int (fun _ _ => rfl)) (pa_cons (pv 3) pa_nil))) (by rfl))) pss_nil)))))))))), ?_⟩
  have hok' : (decide ((items (.list ds)).length ≤ 8) && kindsGo (anyOf ds) (ones ("item" :: namesOf "choice" ds)) [] ds) = true := hok
  rw [Bool.and_eq_true, decide_eq_true_eq] at hok'
  obtain ⟨hlen, hgo⟩ := hok'
  have hlen : ds.length ≤ 8 := hlen
  obtain ⟨a, xs, rfl, hs, ha⟩ := hd.row rfl
  have ha : DxAll K H xs ds := ha
  have hl := ha.len
  have hsl : SqL K H a xs := by
    cases hd with
    | lst h _ =>
      rcases hs with ⟨h, _⟩ | ⟨_, ds', e⟩
      · exact h
      · cases e
  have n1 := namesOf_len "choice" ds
  have n2 := namesOf_len "record" ds
  refine ⟨_, rfl, .ref a, .list ds, rfl, hd, hf, fun H1 s1 => ⟨_, rfl, iteF ?_⟩⟩
  refine ⟨_, rfl, a, xs, rfl, .inl (s1.seq hsl), _, _, rfl, rfl, _, rfl, ?_⟩
  have c1' : decide ((xs.length : Int) > 8) = false := decide_eq_false (by omega)
  show (if decide ((xs.length : Int) > 8) = true then _ else _)
  rw [c1']
  refine iteF ?_
  refine ⟨_, rfl, .ref a, .list ds, "choice", rfl, Dx.mono s1 hd, hf, rfl, fun H2 p2 s2 n2' h2 => ?_⟩
  have h2' : H2 p2 = some (.lst ((namesOf "choice" ds).map V.str)) := h2
  refine ⟨_, rfl, p2, _, rfl, .inr (.inl (.inl h2')), ?_⟩
  refine ⟨_, rfl, .ref a, .list ds, "record", rfl, Dx.mono (s1.trans s2) hd, hf, rfl, fun H3 p3 s3 n3 h3 => ?_⟩
  have h3' : H3 p3 = some (.lst ((namesOf "record" ds).map V.str)) := h3
  refine ⟨p3, _, rfl, .inr (.inl (.inl h3')), ?_⟩
  refine ⟨Nat.le_of_lt (small1000 (by simp only [List.length_cons, List.length_append, List.length_map, List.length_nil]; omega)), fun p4 n4 => ?_⟩
  have e4 : V.str "item" :: ((namesOf "choice" ds).map V.str ++ ((namesOf "record" ds).map V.str ++ [])) = (anyOf ds).map V.str := by
    unfold anyOf
    rw [List.append_nil, List.map_cons, List.map_append]
  have s4 := same_upd (o := .lst (V.str "item" :: ((namesOf "choice" ds).map V.str ++ ((namesOf "record" ds).map V.str ++ [])))) n4
  have h4 : (upd H3 p4 (.lst (V.str "item" :: ((namesOf "choice" ds).map V.str ++ ((namesOf "record" ds).map V.str ++ []))))) p4 = some (.lst ((anyOf ds).map V.str)) := by rw [e4]; exact upd_same
  have e5 : V.str "item" :: ((namesOf "choice" ds).map V.str ++ []) = (("item" :: namesOf "choice" ds : List Str)).map V.str := by rw [List.append_nil, List.map_cons]
  refine ⟨_, rfl, p2, _, rfl, .inr (.inl (.inl (s4 _ _ (s3 _ _ h2')))), ?_⟩
  refine ⟨Nat.le_of_lt (small1000 (by simp only [List.length_cons, List.length_append, List.length_map, List.length_nil]; omega)), fun p5 n5 => ⟨p5, rfl, ⟨_, .inl (.inl upd_same)⟩, fun D nD => ?_⟩⟩
  have s5 := same_upd (o := .lst (V.str "item" :: ((namesOf "choice" ds).map V.str ++ []))) n5
  have s05 := (s1.trans s2).trans (s3.trans (s4.trans s5))
  have h45 := s5 _ _ h4
  have h55 : (upd _ p5 (.lst (V.str "item" :: ((namesOf "choice" ds).map V.str ++ [])))) p5 = some (.lst (V.str "item" :: ((namesOf "choice" ds).map V.str ++ []))) := upd_same (H := upd H3 p4 (.lst (V.str "item" :: ((namesOf "choice" ds).map V.str ++ ((namesOf "record" ds).map V.str ++ [])))))
  generalize hH5 : upd (upd H3 p4 (.lst (V.str "item" :: ((namesOf "choice" ds).map V.str ++ ((namesOf "record" ds).map V.str ++ []))))) p5 (.lst (V.str "item" :: ((namesOf "choice" ds).map V.str ++ []))) = H5 at *
  generalize hys : ("item" :: namesOf "choice" ds : List Str) = ys at *
  have hyl : ys.length ≤ 9 := by rw [← hys, List.length_cons]; omega
  have hlx : (V.str "item" :: ((namesOf "choice" ds).map V.str ++ [])).length = ys.length := by rw [e5, List.length_map]
  refine dc_it (walk_list (K := K) (a := p5) (xs := V.str "item" :: ((namesOf "choice" ds).map V.str ++ []))) (fun i H' => H' D = some (.dK (szV (ones (ys.take i)))) ∧ Same H5 H') ⟨upd_same, same_upd nD⟩ (fun i H' _ h => .inl (.inl (h.2 _ _ h55))) ?_ ?_
  · rintro i x H6 H7 hi ⟨g1, g2⟩ ⟨rfl, hx⟩
    rw [e5, List.getElem?_map] at hx
    obtain ⟨y, hy, rfl⟩ := Option.map_eq_some_iff.mp hx
    refine ⟨rfl, tyes ⟨_, rfl, _, Sum.inr y, rfl, g1, small1000 ?_, ?_, fun b o eb => ?_⟩⟩
    · unfold szV
      rw [List.length_map]
      have := ones_len (ys.take i)
      rw [List.length_take] at this
      omega
    · rw [upd_same]
      have et : ys.take (i + 1) = ys.take i ++ [y] := by rw [List.take_add_one, hy]; rfl
      have e1 := putK_sz (ones (ys.take i)) y 1
      rw [et, ones_snoc, ← e1]
      rfl
    · rw [upd_ne (ne_of_none eb nD)]
      exact g2 b o eb
  rintro H6 ⟨g1, g2⟩
  rw [hlx, List.take_length] at g1
  refine ⟨Nat.zero_le _, fun p6 n6 => ?_⟩
  have s6 := same_upd (o := .lst []) n6
  have s56 := g2.trans s6
  have sAll := s05.trans s56
  refine ⟨_, rfl, a, xs, rfl, sAll.seq hsl, ?_⟩
  refine for_it (walk_enum (K := K) (a := a) (xs := xs))
    (fun i σ H' => ∃ (sz : List (Str × Nat)) (ns : List Str) (y5 y6 : Option V), σ = [some (.ref a), some (.ref p2), some (.ref p4), some (.ref D), some (.ref p6), y5, y6, none] ∧ ns.length = i ∧ sz.length ≤ 9 + i ∧ H' D = some (.dK (szV sz)) ∧ H' p6 = some (.lst (ns.map V.str)) ∧ Same H5 H' ∧ kindsGo (anyOf ds) sz ns (ds.drop i) = true)
    ⟨ones ys, [], none, none, rfl, rfl, Nat.le_trans (ones_len ys) (by omega), s6 _ _ g1, upd_same, s56, hgo⟩ ?_ ?_ ?_
  · rintro i σ H' hi ⟨sz, ns, y5, y6, rfl, k1, k2, k3, k4, k5, k6⟩
    exact (s05.trans k5).seq hsl
  · rintro i x σ H7 H8 hi ⟨sz, ns, y5, y6, rfl, k1, k2, k3, k4, k5, k6⟩ ⟨T, ti, te, rfl, nT, rfl, ht, hx⟩
    cases ht
    have sT := same_upd (o := .tup [V.int (i : Nat), te]) nT
    obtain ⟨e, he, hde⟩ := ha.get hx
    have hfe : fit e = true := fitAll_at (fit_items hf) he
    have s8 := s05.trans (k5.trans sT)
    have hd8 := Dx.mono s8 hde
    have hdrop : ds.drop i = e :: ds.drop (i + 1) := List.drop_eq_getElem_cons (List.getElem?_eq_some_iff.mp he).1 |>.trans (by rw [(List.getElem?_eq_some_iff.mp he).2])
    rw [hdrop] at k6
    unfold kindsGo at k6
    simp only [Bool.and_eq_true, Bool.not_eq_true'] at k6
    obtain ⟨q1, q2, q3, q4⟩ := k6
    obtain ⟨nx, z, pd, rfl, hnx, hz⟩ := trip_of q1
    have q2 : ns.contains nx = false := q2
    refine ⟨T, _, rfl, .inl (.inl upd_same), rfl, _, _, rfl, _, _, rfl, rfl, ?_⟩
    refine ⟨_, rfl, te, _, rfl, hd8, hfe, fun H9 s9 => ⟨_, rfl, ?_⟩⟩
    rw [q1]
    refine iteF ?_
    obtain ⟨ae, v0, v1, v2, rfl, hae, hd0, hd1, hd2⟩ := trip_at (Dx.mono s9 hd8)
    obtain rfl := hd0.strOf
    obtain rfl := hd1.strOf
    have k4' := s9 _ _ (sT _ _ k4)
    have k3' := s9 _ _ (sT _ _ k3)
    have k5' := (k5.trans sT).trans s9
    refine ⟨_, rfl, ae, _, 0, _, rfl, rfl, .inl (.inl hae), atI_nat (j := 0) rfl, _, rfl, p6, ns.map V.str, rfl, .inl (.inl (.inl k4')), rfl, flat_strs ns, _, rfl, ?_⟩
    rw [in_strs, q2]
    refine iteF ?_
    refine ⟨_, rfl, _, rfl, _, rfl, .ref ae, _, D, p4, sz, anyOf ds, rfl, Dx.mono s9 hd8, hfe, q1, k3', k5' _ _ h45, fun HA sA => ⟨_, rfl, ?_⟩⟩
    rw [q3]
    refine iteF ?_
    have hae2 := sA _ _ hae
    have k42 := sA _ _ k4'
    have k32 := sA _ _ k3'
    have hi8 : i < 8 := by omega
    refine ⟨_, rfl, .inl ⟨rfl, _, .inl (.inl k42)⟩, _, rfl, ae, _, 0, _, rfl, rfl, .inl (.inl hae2), atI_nat (j := 0) rfl, p6, _, _, rfl, rfl, k42, small1000 (by rw [List.length_map]; omega), ?_⟩
    have nD6 : D ≠ p6 := fun w => by rw [w, k42] at k32; cases k32
    have nae : ae ≠ p6 := fun w => by rw [w, k42] at hae2; cases hae2
    have naD : ae ≠ D := fun w => by rw [w, k32] at hae2; cases hae2
    have p6n : H5 p6 = none := by
      cases hp : H5 p6 with
      | none => rfl
      | some o => rw [g2 _ _ hp] at n6; cases n6
    have s7 : Same H5 (upd HA p6 (.lst (ns.map V.str ++ [V.str nx]))) := fun b o eb => by
      rw [upd_ne (ne_of_none eb p6n)]
      exact sA _ _ (k5' _ _ eb)
    have e6 : (ns ++ [nx]).map V.str = ns.map V.str ++ [V.str nx] := by rw [List.map_append]; rfl
    refine ⟨_, rfl, ae, _, 1, _, rfl, rfl, .inl (.inl (by rw [upd_ne nae]; exact hae2)), atI_nat (j := 1) rfl, rfl, _, rfl, ?_⟩
    by_cases hz2 : z = "record"
    · rw [decide_eq_true (congrArg V.str hz2)]
      refine iteT ?_
      have q3' : (isNamedRow pd 2 1 4 && (if z = "choice" then (items pd).all (anyOk (anyOf ds)) else (items pd).all (fun p => isOneOf (at1 p) (sz.map (·.1))) && decide (psum sz (items pd) ≤ 8))) = true := q3
      rw [if_neg (by rw [hz2]; decide), Bool.and_eq_true, Bool.and_eq_true] at q3'
      obtain ⟨r1, r2, _⟩ := q3'
      have hfp : fit pd = true := fitAll_at (i := 2) (fit_items hfe) rfl
      have hd2b : Dx K (upd HA p6 (.lst (ns.map V.str ++ [V.str nx]))) v2 pd := by
        obtain ⟨ae', w0, w1, w2, ee, hae', _, _, hw2⟩ := trip_at hde
        cases ee
        have hh := s9 _ _ (sT _ _ (k5 _ _ (s05 _ _ hae')))
        rw [hae] at hh
        cases hh
        exact Dx.mono (s05.trans s7) hw2
      have h32 : (upd HA p6 (.lst (ns.map V.str ++ [V.str nx]))) D = some (.dK (szV sz)) := by rw [upd_ne nD6]; exact k32
      have h2e : (upd HA p6 (.lst (ns.map V.str ++ [V.str nx]))) ae = some (.tup [V.str nx, V.str z, v2]) := by rw [upd_ne nae]; exact hae2
      refine ⟨_, rfl, ae, _, 2, _, rfl, rfl, .inl (.inl h2e), atI_nat (j := 2) rfl, _, rfl, v2, pd, D, sz, rfl, hd2b, hfp, (named_row r1).1, h32, named_pairs r1, List.all_eq_true.mp r2, fun HB sB => ?_⟩
      have hB := sB _ _ h32
      refine ⟨_, rfl, _, rfl, ae, _, 0, _, rfl, rfl, .inl (.inl (sB _ _ h2e)), atI_nat (j := 0) rfl, D, _, rfl, DPut.k (k := Sum.inr nx) hB (small1000 (by unfold szV; rw [List.length_map]; omega)), ?_⟩
      have pz := putK_sz sz nx (psum sz (items pd))
      have D5 : H5 D = none := nD
      refine ⟨szPut sz nx (psum sz (items pd)), ns ++ [nx], _, _, rfl, by rw [List.length_append, k1]; rfl, ?_, by rw [upd_same, ← pz], ?_, fun b o eb => ?_, ?_⟩
      · have := szPut_len sz nx (psum sz (items pd))
        omega
      · rw [upd_ne (fun w => nD6 w.symm), e6]
        exact sB _ _ upd_same
      · rw [upd_ne (ne_of_none eb D5)]
        exact sB _ _ (s7 _ _ eb)
      · have q4' : kindsGo (anyOf ds) (if z = "record" then szPut sz nx (psum sz (items pd)) else sz) (ns ++ [nx]) (ds.drop (i + 1)) = true := q4
        rw [if_pos hz2] at q4'
        exact q4'
    · rw [decide_eq_false (fun w => hz2 (V.str.inj w))]
      refine iteF ⟨sz, ns ++ [nx], _, _, rfl, by rw [List.length_append, k1]; rfl, by omega, by rw [upd_ne nD6]; exact k32, by rw [upd_same, e6], s7, ?_⟩
      have q4' : kindsGo (anyOf ds) (if z = "record" then szPut sz nx (psum sz (items pd)) else sz) (ns ++ [nx]) (ds.drop (i + 1)) = true := q4
      rw [if_neg hz2] at q4'
      exact q4'
  · rintro σ H' ⟨sz, ns, y5, y6, rfl, k1, k2, k3, k4, k5, k6⟩
    exact q H' (s05.trans k5)
end
end Lm

namespace Lm
open PySem PySem.Spec PyProof.Rows L2
open C8 (fnScope_by pe_gc pss_cut tCut Cal pe_c)
/-! ### mirrors -/
def partOf (y : Str) : List PyData → Option Str
  | [] => none
  | e :: r => if strOf (at0 e) = y then some (strOf (at1 e)) else partOf y r
def fieldKind (srt : Srt) (k : Option Str) (f : PyData) : Option Str :=
  match k with
  | none => none
  | some k => match srt.lookup k with
    | none => none
    | some (z, p) => if z = "choice" then none else if isStr f = true then partOf (strOf f) (items p) else none
def okV : Option Str → V
  | none => .non
  | some k => .str k
abbrev Vars := List (Str × Str)
def vsV (vs : Vars) : List (Key × V) := vs.map fun p => (Sum.inr p.1, V.str p.2)
def VarAt (H : Hp) (a : Addr) (vs : Vars) : Prop := H a = some (.dK (vsV vs))
theorem vs_look (vs : Vars) (x : Str) : (valV (vsV vs) (Sum.inr x)).getD .non = okV (vs.lookup x) := by
  induction vs with
  | nil => rfl
  | cons p r ih =>
    obtain ⟨y, k⟩ := p
    rw [lk_cons]
    by_cases e : x = y
    · subst e
      rw [if_pos rfl]
      have h : valV ((Sum.inr x, V.str k) :: vsV r) (Sum.inr x) = some (V.str k) := valV_pos rfl
      show (valV ((Sum.inr x, V.str k) :: vsV r) (Sum.inr x)).getD .non = _
      rw [h]
      rfl
    · rw [if_neg e, ← ih]
      have h : valV ((Sum.inr y, V.str k) :: vsV r) (Sum.inr x) = valV (vsV r) (Sum.inr x) := valV_neg fun h => e (Sum.inr.inj h).symm
      show (valV ((Sum.inr y, V.str k) :: vsV r) (Sum.inr x)).getD .non = _
      rw [h]
def placeKind (srt : Srt) (vars : Vars) : PyData → Option Str
  | .tuple (.str x :: fs) => fs.foldl (fieldKind srt) (vars.lookup x)
  | _ => none
/-- the parts of each kind are pairs of a name and a kind; a record has no None among them -/
def SrtOk (srt : Srt) : Prop := ∀ s ∈ srt, isRow s.2.2 = true ∧ fit s.2.2 = true ∧ ∀ e ∈ items s.2.2, ∃ n d, e = .tuple [.str n, d] ∧ noneStr d ∧ (s.2.1 ≠ "choice" → isStr d = true)
theorem lookup_mem {α : Type} : ∀ {xs : List (Str × α)} {x : Str} {y : α}, xs.lookup x = some y → (x, y) ∈ xs
  | [], _, _, h => by cases h
  | (a, b) :: r, x, y, h => by
    rw [lk_cons] at h
    by_cases e : x = a
    · rw [if_pos e] at h
      cases h
      rw [e]
      exact List.mem_cons_self ..
    · rw [if_neg e] at h
      exact List.mem_cons_of_mem _ (lookup_mem h)
section
variable {P : Program} {w : World} {K : PySem.W.Frag} {mg : Str → Option Value} {base : Heap}
abbrev nsFK : List Str := ["sorts", "kind", "field", "name", "part"]
theorem scFK : FnScope nsFK ["sorts", "kind", "field"] (defScope sFieldKind) := fnScope_by (by decide +kernel)
def spFK (K : PySem.W.Frag) : Sp := fun vs H Q _ => ∃ (a : Addr) (k : Option Str) (f : V) (d : PyData) (srt : Srt), vs = [.ref a, okV k, f] ∧ SrtAt K H a srt ∧ SrtOk srt ∧ Dx K H f d ∧ Q (okV (fieldKind srt k d)) H
theorem kFK {f : Addr} {fd : FuncData} (F : Fun K "field_kind" "field_kind" sFieldKind f fd) (B : Bt mg) (c : Cal P w K mg base 1 "is_choice" (spSK K isChoiceD noneStr) []) : FnOk P w K mg base CX0 2 f fd ["sorts", "kind", "field"] (spFK K) := by
  refine F.ok scFK (fun vs H Q E h => ?_) (fun cdv A outer s H vs Q E hr h => ?_)
  · obtain ⟨a, k, f, d, srt, rfl, _⟩ := h
    rfl
  obtain ⟨a, k, f, d, srt, rfl, ha, hok, hd, q⟩ := h
  have hu := hu_of hr
  refine ⟨_, pss_cons (ps_if (PW.pt (pw_or (pt_cmp (pc_dnotinN hu (pv 1) (pv 0)) (by rfl)) (pw_or (pt_val (pe_c c hr (by decide) (by rfl) (pa_cons (pv 0) (pa_cons (pv 1) pa_nil)))) (pw_or1 (pt_not (pt_val (pe_callB call_isi (by rfl) B.isi boot_isinstance (pa_cons (pv 2) (pa_cons (pe_bltn (v := .ty "str") (by rfl) B.str boot_str rfl) pa_nil))))))))) (pss_one (ps_ret pe_non)) pss_nil)
    (pss_cons (ps_for PassesOwn.never rfl (pi_row (pe_ix ix_tup (pe_dget hu (pv 0) (pv 1) (fun _ _ => rfl)) pe_int (fun _ _ => rfl))) (pg_tupk K rfl (n := 2) rfl (pgs_cons (pg_name (i := 3) scFK.nd rfl (Or.inl rfl)) (pgs_cons (pg_name (i := 4) scFK.nd rfl (Or.inl rfl)) pgs_nil)))
      (pss_one (ps_if (pt_cmpR op_eq (pv 3) (pv 2) (nomark _)) (pss_one (ps_ret (pv 4))) pss_nil)))
    (pss_one (ps_ret pe_non))), ?_⟩
  cases k with
  | none =>
    obtain ⟨kvs, h1, h2⟩ := ha
    exact ⟨_, rfl, _, rfl, .inr ⟨a, kvs, rfl, rfl, .inl h1, _, rfl, iteT q⟩⟩
  | some k =>
    obtain ⟨o, g, eo⟩ := srt_in ha k
    refine ⟨_, rfl, _, rfl, .inl ⟨a, o, rfl, g, _, rfl, ?_⟩⟩
    rw [eo]
    cases hl : srt.lookup k with
    | none =>
      have e : fieldKind srt (some k) d = none := by unfold fieldKind; simp only [hl]
      rw [e] at q
      exact iteT q
    | some zp =>
      obtain ⟨z, p⟩ := zp
      have e : fieldKind srt (some k) d = if z = "choice" then none else if isStr d = true then partOf (strOf d) (items p) else none := by unfold fieldKind; simp only [hl]
      rw [e] at q
      refine iteF ⟨_, rfl, _, rfl, a, _, .str k, srt, rfl, ha, .str k, .inr rfl, _, rfl, ?_⟩
      have ec : isChoiceD srt (.str k) = decide (z = "choice") := by
        unfold isChoiceD
        show (true && match srt.lookup k with | some (z, _) => decide (z = "choice") | none => false) = _
        rw [hl]
        rfl
      rw [ec]
      by_cases hz : z = "choice"
      · rw [decide_eq_true hz]
        rw [if_pos hz] at q
        exact iteT (iteT q)
      · rw [decide_eq_false hz]
        rw [if_neg hz] at q
        refine iteF ⟨_, rfl, f, _, _, _, _, rfl, .ty _, hd.ty, kit_str d, _, rfl, ?_⟩
        cases hs : isStr d with
        | false =>
          rw [hs, if_neg Bool.false_ne_true] at q
          exact iteT q
        | true =>
          rw [hs, if_pos rfl] at q
          refine iteF ?_
          have e2 := isStr_of hs
          rw [e2] at hd
          obtain rfl := hd.strOf
          obtain ⟨hrow, hfp, hpp⟩ := hok _ (lookup_mem hl)
          have hrow : isRow p = true := hrow
          have hfp : fit p = true := hfp
          obtain ⟨t, vp, g2, ht, hvp⟩ := srt_get ha hl
          obtain ⟨ar, xs, rfl, hsr, hax⟩ := hvp.row hrow
          have hs' : SqL K H ar xs ∨ SqT K H ar xs := hsr.imp (·.1) (·.1)
          have hlx := hax.len
          refine for_row (a := ar) (xs := xs) hs' (Same.refl H) (fun kk hk => ⟨_, rfl, _, rfl, a, _, rfl, g2, t, _, 1, _, rfl, rfl, .inl (.inl ht), atI_nat (j := 1) rfl, hk⟩) fun J G gs wk => for_it wk
            (fun i σ H' => ∃ y3 y4, σ = [some (.ref a), some (.str k), some (.str (strOf d)), y3, y4] ∧ H' = H ∧ partOf (strOf d) (items p) = partOf (strOf d) ((items p).drop i)) ⟨none, none, rfl, rfl, rfl⟩ ?_ ?_ ?_
          · rintro i σ H' hi ⟨y3, y4, rfl, rfl, _⟩
            exact gs _ (Same.refl _)
          · rintro i x σ H2 H3 hi ⟨y3, y4, rfl, rfl, h4⟩ ⟨rfl, hx⟩
            obtain ⟨e', he, hde⟩ := hax.get hx
            obtain ⟨n, d1, rfl, hn1, hn2⟩ := hpp e' (List.mem_of_getElem? he)
            have hs1 : isStr d1 = true := hn2 hz
            obtain ⟨ap, v0, v1, rfl, hap, hv0, hv1⟩ := pair_at hde
            obtain rfl := hv0.strOf
            rw [isStr_of hs1] at hv1
            obtain rfl := hv1.strOf
            have hdrop : (items p).drop i = .tuple [.str n, d1] :: (items p).drop (i + 1) := List.drop_eq_getElem_cons (List.getElem?_eq_some_iff.mp he).1 |>.trans (by rw [(List.getElem?_eq_some_iff.mp he).2])
            rw [hdrop] at h4
            have h4' : partOf (strOf d) (items p) = if n = strOf d then some (strOf d1) else partOf (strOf d) ((items p).drop (i + 1)) := h4
            refine ⟨ap, _, rfl, .inl (.inl hap), rfl, _, _, rfl, _, _, rfl, rfl, ?_⟩
            refine ⟨_, rfl, _, rfl, rfl, _, rfl, ?_⟩
            by_cases hn : n = strOf d
            · rw [decide_eq_true (congrArg V.str hn)]
              rw [if_pos hn] at h4'
              rw [h4'] at q
              exact iteT ⟨_, rfl, q⟩
            · rw [decide_eq_false (fun w => hn (V.str.inj w))]
              rw [if_neg hn] at h4'
              exact iteF ⟨_, _, rfl, rfl, h4'⟩
          · rintro σ H' ⟨y3, y4, rfl, rfl, h4⟩
            rw [hlx, List.drop_length] at h4
            rw [h4] at q
            exact q
end
end Lm

namespace Lm
open PySem PySem.Spec PyProof.Rows L2
open C8 (fnScope_by pe_gc pss_cut tCut Cal pe_c)
theorem cut1 (v : V) (vs : List V) : cutV (v :: vs) (some 1) none = vs := by
  unfold cutV
  have e1 : HT.sIx (v :: vs).length 0 (some 1) = 1 := by
    show HT.sIx (v :: vs).length 0 (some ((1 : Nat) : Int)) = 1
    rw [HT.sIx_nat, List.length_cons]
    omega
  rw [e1, HT.sIx_none, List.length_cons, List.drop_succ_cons, List.drop_zero, Nat.add_sub_cancel, List.take_length]
section
variable {P : Program} {w : World} {K : PySem.W.Frag} {mg : Str → Option Value} {base : Heap}
abbrev nsPK : List Str := ["sorts", "variables", "place", "kind", "field"]
theorem scPK : FnScope nsPK ["sorts", "variables", "place"] (defScope sPlaceKind) := fnScope_by (by decide +kernel)
def spPK (K : PySem.W.Frag) : Sp := fun vs H Q _ => ∃ (a b : Addr) (v : V) (d : PyData) (srt : Srt) (vars : Vars), vs = [.ref a, .ref b, v] ∧ SrtAt K H a srt ∧ SrtOk srt ∧ VarAt H b vars ∧ Dx K H v d ∧ ∀ H', Same H H' → Q (okV (placeKind srt vars d)) H'
theorem kPK {f : Addr} {fd : FuncData} (F : Fun K "place_kind" "place_kind" sPlaceKind f fd) (B : Bt mg) (c : Cal P w K mg base 2 "field_kind" (spFK K) []) : FnOk P w K mg base CX0 3 f fd ["sorts", "variables", "place"] (spPK K) := by
  refine F.ok scPK (fun vs H Q E h => ?_) (fun cdv A outer s H vs Q E hr h => ?_)
  · obtain ⟨a, b, v, d, srt, vars, rfl, _⟩ := h
    rfl
  obtain ⟨a, b, v, d, srt, vars, rfl, ha, hok, hb, hd, q⟩ := h
  have hu := hu_of hr
  refine ⟨_, pss_cons (ps_if (PW.pt (pw_or (pt_not (pt_val (pe_callB call_isi (by rfl) B.isi boot_isinstance (pa_cons (pv 2) (pa_cons (pe_bltn (v := .ty "tuple") (by rfl) B.tup boot_tuple rfl) pa_nil))))) (pw_or (pt_cmpR op_eq (pe_callB call_len_seq (by rfl) B.len boot_len (pa_cons (pv 2) pa_nil)) pe_int (by rfl))
      (pw_or1 (pt_not (pt_val (pe_callB call_isi (by rfl) B.isi boot_isinstance (pa_cons (pe_ix ix_tup (pv 2) pe_int (fun _ _ => rfl)) (pa_cons (pe_bltn (v := .ty "str") (by rfl) B.str boot_str rfl) pa_nil))))))))) (pss_one (ps_ret pe_non)) pss_nil)
    (pss_cons (ps_set (i := 3) scPK.nd rfl (.inl rfl) (pe_dget1 hu (pv 1) (pe_ix ix_tup (pv 2) pe_int (fun _ _ => rfl)) ⟨rfl, rfl, rfl, rfl⟩))
    (pss_cons (ps_for PassesOwn.never rfl (pi_tup (pe_slice sl_tupA (pv 2) (po_some pe_int) po_none)) (pg_name (i := 4) scPK.nd rfl (Or.inl rfl)) (pss_one (ps_set (i := 3) scPK.nd rfl (.inl rfl) (pe_c c hr (by decide) (by rfl) (pa_cons (pv 0) (pa_cons (pv 3) (pa_cons (pv 4) pa_nil)))))))
    (pss_one (ps_ret (pv 3))))), ?_⟩
  refine ⟨_, rfl, v, _, _, _, _, rfl, .ty _, hd.ty, kit_tup d, _, rfl, ?_⟩
  have bad : placeKind srt vars d = none → ∀ H', Same H H' → Q .non H' := fun e H' s' => by
    have z := q H' s'
    rw [e] at z
    exact z
  cases d with
  | tuple ds =>
    refine iteF ?_
    obtain ⟨ap, xs, rfl, hs, hax⟩ := hd.tupOf
    have hlx := hax.len
    refine ⟨_, rfl, ap, xs, rfl, .inr hs, rfl, _, rfl, ?_⟩
    match ds, xs, hax with
    | [], [], _ => exact iteT (iteT (bad rfl H (Same.refl H)))
    | d0 :: fs, v0 :: vs, .cons h0 hr0 =>
      refine iteF ?_
      refine ⟨_, rfl, ap, _, 0, v0, rfl, rfl, hs, atI_nat (j := 0) rfl, v0, _, _, _, _, rfl, .ty _, h0.ty, kit_str d0, _, rfl, ?_⟩
      cases d0 with
      | str x =>
        refine iteF ?_
        obtain rfl := h0.strOf
        refine ⟨_, rfl, b, rfl, .inl ⟨_, .inl hb⟩, _, rfl, ap, _, 0, _, rfl, rfl, hs, atI_nat (j := 0) rfl, _, DGet.k (k := Sum.inr x) hb, ?_⟩
        rw [vs_look]
        refine ⟨_, rfl, _, rfl, ap, _, rfl, hs, fun w => ?_, fun _ p np => ⟨p, rfl, ⟨_, .inl (.inl upd_same)⟩, ?_⟩⟩
        · have e1 : HT.sIx (V.str x :: vs).length 0 (some 1) = 1 := by
            show HT.sIx (V.str x :: vs).length 0 (some ((1 : Nat) : Int)) = 1
            rw [HT.sIx_nat, List.length_cons]
            omega
          rw [e1] at w
          exact absurd w.1 (by decide)
        have sp := same_upd (o := .tup (cutV (V.str x :: vs) (some 1) none)) np
        have hp : (upd H p (.tup (cutV (V.str x :: vs) (some 1) none))) p = some (.tup vs) := by rw [upd_same, cut1]
        generalize hH1 : upd H p (.tup (cutV (V.str x :: vs) (some 1) none)) = H1 at *
        refine for_it (walk_tup (K := K) (a := p) (xs := vs)) (fun i σ H' => ∃ (k : Option Str) (yf : Option V), σ = [some (.ref a), some (.ref b), some (.ref ap), some (okV k), yf] ∧ H' = H1 ∧ placeKind srt vars (.tuple (.str x :: fs)) = (fs.drop i).foldl (fieldKind srt) k)
          ⟨_, none, rfl, rfl, rfl⟩ ?_ ?_ ?_
        · rintro i σ H' hi ⟨k, yf, rfl, rfl, _⟩
          exact .inl (.inl hp)
        · rintro i z σ H2 H3 hi ⟨k, yf, rfl, rfl, h4⟩ ⟨rfl, hx⟩
          obtain ⟨e, he, hde⟩ := hr0.get hx
          have hdrop : fs.drop i = e :: fs.drop (i + 1) := List.drop_eq_getElem_cons (List.getElem?_eq_some_iff.mp he).1 |>.trans (by rw [(List.getElem?_eq_some_iff.mp he).2])
          rw [hdrop, List.foldl_cons] at h4
          exact ⟨_, rfl, _, rfl, _, rfl, a, k, z, e, srt, rfl, ha.mono sp, hok, Dx.mono sp hde, _, _, rfl, rfl, h4⟩
        · rintro σ H' ⟨k, yf, rfl, rfl, h4⟩
          have hl2 : vs.length = fs.length := hr0.len
          rw [hl2, List.drop_length, List.foldl_nil] at h4
          have zz := q _ sp
          rw [h4] at zz
          exact ⟨_, rfl, zz⟩
      | _ => exact iteT (bad rfl H (Same.refl H))
  | _ => exact iteT (iteT (bad rfl H (Same.refl H)))
end
end Lm

namespace Lm
open PySem PySem.Spec PyProof.Rows L2
open C8 (fnScope_by pe_gc pss_cut tCut Cal pe_c)
/-! ### overlap -/
def txts (ds : List PyData) : Prop := ∀ e ∈ ds, isStr e = true
theorem txts_depth : ∀ {ds : List PyData}, txts ds → PyData.depthAll ds ≤ 1
  | [], _ => Nat.zero_le _
  | e :: r, h => by
    have h1 := txts_depth (fun x hx => h x (List.mem_cons_of_mem _ hx))
    have h2 := h e (List.mem_cons_self ..)
    cases e with
    | str x =>
      have : PyData.depth (.str x) ≤ 1 := by simp [PyData.depth]
      simp only [PyData.depthAll]
      omega
    | _ => cases h2
theorem txts_lay : ∀ {ds : List PyData}, txts ds → fitAll ds = true → PyData.canLayAll0 ds = true
  | [], _, _ => rfl
  | e :: r, h, f => by
    have f' : (fit e && fitAll r) = true := f
    rw [Bool.and_eq_true] at f'
    have h1 := txts_lay (fun x hx => h x (List.mem_cons_of_mem _ hx)) f'.2
    have h2 := h e (List.mem_cons_self ..)
    cases e with
    | str x =>
      have g : (PyData.canLay0 (.str x) && decide (x.length ≤ 1000)) = true := f'.1
      rw [Bool.and_eq_true] at g
      show (PyData.canLay0 (.str x) && PyData.canLayAll0 r) = true
      rw [g.1, h1]
      rfl
    | _ => cases h2
theorem txts_shaped {ds : List PyData} (h : txts ds) (f : fitAll ds = true) : SeqAt.shaped (.tuple ds) = true := by
  unfold SeqAt.shaped
  rw [Bool.and_eq_true]
  refine ⟨txts_lay h f, decide_eq_true ?_⟩
  have := txts_depth h
  simp only [PyData.depth]
  omega
theorem canLay_of {ds : List PyData} (h : txts ds) (f : fitAll ds = true) : (PyData.tuple ds).canLay0 = true := txts_lay h f
theorem fitAll_take : ∀ {ds : List PyData} {n : Nat}, fitAll ds = true → fitAll (ds.take n) = true
  | [], n, _ => by rw [List.take_nil]; rfl
  | e :: r, 0, _ => rfl
  | e :: r, n + 1, f => by
    have f' : (fit e && fitAll r) = true := f
    rw [Bool.and_eq_true] at f'
    show (fit e && fitAll (r.take n)) = true
    rw [f'.1, fitAll_take f'.2]
    rfl
theorem txts_take {ds : List PyData} {n : Nat} (h : txts ds) : txts (ds.take n) := fun e he => h e (List.mem_of_mem_take he)
def ovl (xs ys : List PyData) : Bool := PyData.eqv (.tuple (xs.take (min xs.length ys.length))) (.tuple (ys.take (min xs.length ys.length)))
section
variable {P : Program} {w : World} {K : PySem.W.Frag} {mg : Str → Option Value} {base : Heap}
theorem DxAll.take {K : PySem.W.Frag} {H : Hp} : ∀ {vs : List V} {ds : List PyData} {n : Nat}, DxAll K H vs ds → DxAll K H (vs.take n) (ds.take n)
  | _, _, n, .nil => by rw [List.take_nil, List.take_nil]; exact .nil
  | _, _, 0, .cons _ _ => .nil
  | _, _, n + 1, .cons h a => .cons h (DxAll.take a)
theorem sl_pre {K : PySem.W.Frag} {H : Hp} {a : Addr} {xs : List V} {ds : List PyData} {n : Nat} {Q : VK} (hs : H a = some (.tup xs)) (ha : DxAll K H xs ds) (q : ∀ v H', Same H H' → Dx K H' v (.tuple (ds.take n)) → Q v H') : rSlA K (.ref a) none (some (n : Int)) H Q := by
  have e1 : HT.sIx xs.length 0 none = 0 := HT.sIx_none ..
  have e2 : HT.sIx xs.length xs.length (some (n : Int)) = min n xs.length := HT.sIx_nat ..
  refine ⟨a, xs, rfl, .inl (.inl hs), fun h => ?_, fun h p np => ?_⟩
  · rw [e2] at h
    have hl := ha.len
    refine q _ H (Same.refl H) ?_
    rw [List.take_of_length_le (by omega)]
    exact .tup hs ha
  · have sp := same_upd (o := .tup (cutV xs none (some (n : Int)))) np
    refine q _ _ sp (.tup upd_same (DxAll.mono sp ?_))
    have ec : cutV xs none (some (n : Int)) = xs.take n := by
      unfold cutV
      rw [e1, e2, List.drop_zero, Nat.sub_zero]
      by_cases h : n ≤ xs.length
      · rw [Nat.min_eq_left h]
      · rw [Nat.min_eq_right (by omega), List.take_length, List.take_of_length_le (by omega)]
    rw [ec]
    exact DxAll.take ha
abbrev nsOV : List Str := ["place", "other", "size"]
theorem scOV : FnScope nsOV ["place", "other"] (defScope sOverlap) := fnScope_by (by decide +kernel)
def spOV (K : PySem.W.Frag) : Sp := fun vs H Q _ => ∃ (v u : V) (ds es : List PyData), vs = [v, u] ∧ Dx K H v (.tuple ds) ∧ Dx K H u (.tuple es) ∧ txts ds ∧ txts es ∧ fitAll ds = true ∧ fitAll es = true ∧ ∀ H', Same H H' → Q (.bl (ovl ds es)) H'
theorem kOV {f : Addr} {fd : FuncData} (F : Fun K "overlap" "overlap" sOverlap f fd) (B : Bt mg) : FnOk P w K mg base CX0 1 f fd ["place", "other"] (spOV K) := by
  refine F.ok scOV (fun vs H Q E h => ?_) (fun cdv A outer s H vs Q E hr h => ?_)
  · obtain ⟨v, u, ds, es, rfl, _⟩ := h
    rfl
  obtain ⟨v, u, ds, es, rfl, hd, he, td, te, fd', fe, q⟩ := h
  refine ⟨_, pss_cons (ps_set (i := 2) scOV.nd rfl (.inl rfl) (pe_callB (call_min2 rfl) (by rfl) B.min boot_min (pa_cons (pe_callB call_len_seq (by rfl) B.len boot_len (pa_cons (pv 0) pa_nil)) (pa_cons (pe_callB call_len_seq (by rfl) B.len boot_len (pa_cons (pv 1) pa_nil)) pa_nil))))
    (pss_one (ps_ret (pe_cmpR (op_eqD hr.units) (pe_slice sl_tupA (pv 0) po_none (po_some (pv 2))) (pe_slice sl_tupA (pv 1) po_none (po_some (pv 2))) (by rfl)))), ?_⟩
  obtain ⟨a, xs, rfl, hs, hax⟩ := hd.tupAt
  obtain ⟨b, ys, rfl, hs2, hbx⟩ := he.tupAt
  have l1 := hax.len
  have l2 := hbx.len
  refine ⟨_, rfl, a, xs, rfl, .inr (.inl (.inl hs)), _, rfl, b, ys, rfl, .inr (.inl (.inl hs2)), _, _, rfl, ?_⟩
  have en : (if (ys.length : Int) < (xs.length : Int) then (ys.length : Int) else (xs.length : Int)) = ((min ds.length es.length : Nat) : Int) := by
    split <;> omega
  rw [en]
  refine ⟨_, rfl, _, rfl, _, rfl, sl_pre hs hax fun v1 H1 s1 g1 => ?_⟩
  refine ⟨_, rfl, _, rfl, _, rfl, sl_pre (s1 _ _ hs2) (hbx.mono s1) fun v2 H2 s2 g2 => ?_⟩
  exact ⟨_, _, Dx.dp (g1.mono s2) (canLay_of (txts_take td) (fitAll_take fd')), Dx.dp g2 (canLay_of (txts_take te) (fitAll_take fe)), txts_shaped (txts_take td) (fitAll_take fd'), txts_shaped (txts_take te) (fitAll_take fe), q H2 (s1.trans s2)⟩
end
end Lm

/-! A dict that stands at module level and is never written. -/
namespace L2
open PySem PySem.Spec PyProof.Rows
structure Tab (P : Program) (w : World) (K : PySem.W.Frag) (a : Addr) (kvs : List (Key × V)) : Prop where
  sys : (a == sysModules) = false
  is : ∃ vs, KV kvs vs ∧ ∀ h : Heap, K.In h → h.DictOf (mixKind P w) a vs
section
variable {X : Cx} {x : Str} {a : Addr} {kvs : List (Key × V)} {p apos cpos : Pos} {e : Expr} {ty : TE}
/-- NAME.get(e) -/
def tTab (kvs : List (Key × V)) (ty : TE) : TE := fun σ H Q => ty σ H fun y H1 => ∃ k, y = kV k ∧ Q ((valV kvs k).getD .non) H1
theorem pe_tget (hg : Gl X x) (hm : X.mg x = some (.ref a)) (T : Tab X.prog X.w X.K a kvs) (he : PE X e ty) (m : M1 X (.Name x p) "get" apos e cpos) (hd : (x == ("__debug__" : Str)) = false := by decide) : PE X (.Call (.Attribute (.Name x p) "get" apos) [e] [] cpos) (tTab kvs ty) := by
  obtain ⟨sy, vs, rel, there⟩ := T
  refine ⟨fun pins s σ H Q I h => ?_⟩
  refine wpAny_Call_method m.base m.few m.line PySem.F.plainAttrs_dict PySem.F.slot_dict_get PySem.F.type_dict_get (ld_glob I hg hm ?_ hd)
  have dd := there _ I.kIn
  refine ⟨dd.typeIs, fun b q => ?_, ?_⟩
  · cases q
    obtain ⟨ob, _, _, h1, h2, _⟩ := dd
    exact ⟨ob, h1, h2.2.1⟩
  rw [m.trees]
  refine Calls.callWith_builtin rfl (Calls.evalArgs_plain (Calls.spliced_cons (thn (he.run pins s σ H _ I h) fun iv s2 ⟨y, H2, I2, ry, k, ey, q2⟩ => Calls.spliced_nil ?_)))
  subst ey
  have d2 := there _ I2.kIn
  refine call_meetsIn PySem.F.slot_dict_get d2.typeIs PySem.F.entry_dict_get (PySem.F.args_dict_get_2 _ _) (meets_dict_get (mixKind X.prog X.w) a (kV_is ry) sy) ⟨_, d2.mapOf, _, H2, I2.tok _, ?_, q2⟩
  exact (rel.val k).getD rfl
end
theorem rows_ok {P : Program} {w : World} : ∀ {es : List DictEntry} {rs : List (Int × Str × Int)}, rowsOf es = some rs → (∀ r ∈ rs, r.1 = hashStr w r.2.1) →
    ∃ vs : List (Key × Value), KV (rs.map fun r => ((Sum.inr r.2.1 : Key), V.int r.2.2)) vs ∧ Pairs (mixKind P w) es vs ∧ (∀ e ∈ es, ∃ k, (mixKind P w).is k e.key = true ∧ e.hash = (mixKind P w).hash k) ∧ vs.map (·.1) = rs.map fun r => (Sum.inr r.2.1 : Key)
  | [], rs, h, _ => by
    cases h
    exact ⟨[], .nil, .nil, (fun e he => by cases he), rfl⟩
  | e :: r, rs, h, hh => by
    unfold rowsOf at h
    split at h
    · rename_i eh x t1 n t2 l hl
      cases h
      obtain ⟨vs, h1, h2, h3, h4⟩ := rows_ok (P := P) (w := w) hl (fun q hq => hh q (List.mem_cons_of_mem _ hq))
      have e1 : eh = hashStr w x := hh (eh, x, n) (List.mem_cons_self ..)
      have e2 : (mixKind P w).is (Sum.inr x) (Value.str x t1) = true := kV_is (k := Sum.inr x) ⟨t1, rfl⟩
      refine ⟨(Sum.inr x, .int n t2) :: vs, .cons ⟨rfl, t2, rfl⟩ h1, .cons e2 rfl h2, fun e he => ?_, by rw [List.map_cons, h4]; rfl⟩
      rcases List.mem_cons.mp he with rfl | he
      · exact ⟨Sum.inr x, e2, e1⟩
      · exact h3 e he
    · cases h
theorem Tab.of {P : Program} {w : World} {K : PySem.W.Frag} {a : Addr} {rs : List (Int × Str × Int)} (h : tabOf K a = some rs) (hh : ∀ r ∈ rs, r.1 = hashStr w r.2.1) (nd : (rs.map fun r => (Sum.inr r.2.1 : Key)).Nodup) (sys : (a == sysModules) = false) :
    Tab P w K a (rs.map fun r => ((Sum.inr r.2.1 : Key), V.int r.2.2)) := by
  refine ⟨sys, ?_⟩
  unfold tabOf at h
  split at h
  · rename_i es n ho
    obtain ⟨vs, h1, h2, h3, h4⟩ := rows_ok (P := P) (w := w) h hh
    exact ⟨vs, h1, fun hp kin => ⟨_, es, n, kin _ _ ho, ⟨rfl, rfl, rfl⟩, rfl, fun e he => h3 e (Array.mem_toList_iff.mpr he), h2, by rw [h4]; exact nd⟩⟩
  · cases h
end L2

namespace Lm
open PySem PySem.Spec PyProof.Rows L2
open C8 (fnScope_by pe_gc pss_cut tCut Cal pe_c)
def sizesV : List (Key × V) := sizesL.map fun p => ((Sum.inr p.1 : Key), V.int p.2)
def isStmt (d : PyData) : Bool :=
  match d with
  | .tuple (.str x :: r) => decide (sizesL.lookup x = some ((r.length + 1 : Nat) : Int))
  | _ => false
theorem sizes_look (x : Str) : ∀ ps : List (Str × Int), valV (ps.map fun p => ((Sum.inr p.1 : Key), V.int p.2)) (Sum.inr x) = (ps.lookup x).map V.int
  | [] => rfl
  | (y, n) :: r => by
    rw [lk_cons, List.map_cons]
    by_cases e : x = y
    · subst e
      rw [if_pos rfl]
      exact valV_pos rfl
    · rw [if_neg e, ← sizes_look x r]
      exact valV_neg fun h => e (Sum.inr.inj h).symm
section
variable {P : Program} {w : World} {K : PySem.W.Frag} {mg : Str → Option Value} {base : Heap}
theorem scIsStmt : FnScope ["value"] ["value"] (defScope sIsStatement) := fnScope_by (by decide +kernel)
def spD (K : PySem.W.Frag) (g : PyData → Bool) : Sp := fun vs H Q _ => ∃ (v : V) (d : PyData), vs = [v] ∧ Dx K H v d ∧ Q (.bl (g d)) H
theorem kIsStmt {f : Addr} {fd : FuncData} (F : Fun K "is_statement" "is_statement" sIsStatement f fd) (B : Bt mg) {aS : Addr} (gS : mg "SIZES" = some (.ref aS)) (T : Tab P w K aS sizesV) : FnOk P w K mg base CX0 1 f fd ["value"] (spD K isStmt) := by
  refine F.ok scIsStmt (fun vs H Q E h => ?_) (fun cdv A outer s H vs Q E hr h => ?_)
  · obtain ⟨v, d, rfl, _⟩ := h
    rfl
  obtain ⟨v, d, rfl, hd, q⟩ := h
  refine ⟨_, pss_cons (ps_if (PW.pt (pw_or (pt_not (pt_val (pe_callB call_isi (by rfl) B.isi boot_isinstance (pa_cons (pv 0) (pa_cons (pe_bltn (v := .ty "tuple") (by rfl) B.tup boot_tuple rfl) pa_nil))))) (pw_or (pt_cmpR op_eq (pe_callB call_len_seq (by rfl) B.len boot_len (pa_cons (pv 0) pa_nil)) pe_int (by rfl))
      (pw_or1 (pt_not (pt_val (pe_callB call_isi (by rfl) B.isi boot_isinstance (pa_cons (pe_ix ix_tup (pv 0) pe_int (fun _ _ => rfl)) (pa_cons (pe_bltn (v := .ty "str") (by rfl) B.str boot_str rfl) pa_nil))))))))) (pss_one (ps_ret pe_bl)) pss_nil)
    (pss_one (ps_ret (pe_cmpR op_eq (pe_tget (by rfl) gS T (pe_ix ix_tup (pv 0) pe_int (fun _ _ => rfl)) ⟨rfl, rfl, rfl, rfl⟩) (pe_callB call_len_seq (by rfl) B.len boot_len (pa_cons (pv 0) pa_nil)) (by rfl)))), ?_⟩
  refine ⟨_, rfl, v, _, _, _, _, rfl, .ty _, hd.ty, kit_tup d, _, rfl, ?_⟩
  cases d with
  | tuple ds =>
    refine iteF ?_
    obtain ⟨ap, xs, rfl, hs, hax⟩ := hd.tupOf
    have hlx := hax.len
    refine ⟨_, rfl, ap, xs, rfl, .inr hs, rfl, _, rfl, ?_⟩
    match ds, xs, hax with
    | [], [], _ => exact iteT (iteT q)
    | d0 :: fs, v0 :: vs, .cons h0 hr0 =>
      refine iteF ?_
      refine ⟨_, rfl, ap, _, 0, v0, rfl, rfl, hs, atI_nat (j := 0) rfl, v0, _, _, _, _, rfl, .ty _, h0.ty, kit_str d0, _, rfl, ?_⟩
      cases d0 with
      | str x =>
        refine iteF ?_
        obtain rfl := h0.strOf
        refine ⟨_, rfl, ap, _, 0, _, rfl, rfl, hs, atI_nat (j := 0) rfl, Sum.inr x, rfl, _, rfl, ap, _, rfl, .inr hs, ?_⟩
        have e1 : valV sizesV (Sum.inr x) = (sizesL.lookup x).map V.int := sizes_look x sizesL
        have hl : (V.str x :: vs).length = fs.length + 1 := by rw [List.length_cons, hr0.len]
        have ev : isStmt (.tuple (.str x :: fs)) = decide ((valV sizesV (Sum.inr x)).getD V.non = V.int (((V.str x :: vs).length : Nat) : Int)) := by
          rw [e1, hl]
          show decide (sizesL.lookup x = some ((fs.length + 1 : Nat) : Int)) = _
          cases sizesL.lookup x with
          | none => exact decide_eq_decide.mpr ⟨fun h => (nomatch h), fun h => (nomatch h)⟩
          | some n => exact decide_eq_decide.mpr ⟨fun h => by rw [Option.some.inj h]; rfl, fun h => congrArg some (V.int.inj h)⟩
        rw [ev] at q
        refine ⟨?_, q⟩
        rw [e1]
        cases sizesL.lookup x <;> rfl
      | _ => exact iteT q
  | _ => exact iteT (iteT q)
end
end Lm

namespace Lm
open PySem PySem.Spec PyProof.Rows L2
open C8 (fnScope_by pe_gc pss_cut tCut Cal pe_c)
/-! ### the checker of one function -/
/-- name of a function, parameters, result -/
abbrev Heads := List ((Str × Str) × PyData × Option Str)
def HeadRow (K : PySem.W.Frag) (H : Hp) (kv : List Key × V) (s : (Str × Str) × PyData × Option Str) : Prop := kv.1 = [Sum.inr s.1.1, Sum.inr s.1.2] ∧ ∃ t vp, kv.2 = V.ref t ∧ H t = some (.tup [vp, okV s.2.2]) ∧ Dx K H vp s.2.1
def HeadAt (K : PySem.W.Frag) (H : Hp) (a : Addr) (hs : Heads) : Prop := ∃ kvs, H a = some (.dT kvs) ∧ Paired (HeadRow K H) kvs hs
structure Fc where
  srt : Srt
  heads : Heads
  whr : Str × Str
  result : Option Str
  decl : Vars
  passed : Nat
def fcF (s h w c d : Addr) (r : V) (n : Nat) : List (Str × V) := [("sorts", .ref s), ("heads", .ref h), ("where", .ref w), ("cases", .ref c), ("result", r), ("declared", .ref d), ("passed", .int n)]
structure FcC (K : PySem.W.Frag) (C : Addr) : Prop where
  cl : Cls K C
  sorts : NoAttr K C "sorts"
  heads : NoAttr K C "heads"
  whr : NoAttr K C "where"
  cases : NoAttr K C "cases"
  result : NoAttr K C "result"
  declared : NoAttr K C "declared"
  passed : NoAttr K C "passed"
/-- what the checker's parts are, whatever stands at its own address -/
structure FcParts (K : PySem.W.Frag) (H : Hp) (s h w c d : Addr) (st : Fc) : Prop where
  srt : SrtAt K H s st.srt
  ok : SrtOk st.srt
  heads : HeadAt K H h st.heads
  whr : H w = some (.tup [.str st.whr.1, .str st.whr.2])
  cases : H c = some (.dK [])
  decl : VarAt H d st.decl
def FcAt (K : PySem.W.Frag) (C : Addr) (H : Hp) (a : Addr) (st : Fc) : Prop := ∃ dx s h w c d, H a = some (.ins C dx (fcF s h w c d (okV st.result) st.passed)) ∧ FcParts K H s h w c d st
section
variable {P : Program} {w : World} {K : PySem.W.Frag} {mg : Str → Option Value} {base : Heap} {C : Addr}
theorem HeadRow.mono {H H' : Hp} (e : Same H H') {kv : List Key × V} {s : (Str × Str) × PyData × Option Str} (h : HeadRow K H kv s) : HeadRow K H' kv s := by
  obtain ⟨h1, t, vp, h2, h3, h4⟩ := h
  exact ⟨h1, t, vp, h2, e _ _ h3, Dx.mono e h4⟩
theorem HeadAt.mono {H H' : Hp} (e : Same H H') {a : Addr} {hs : Heads} (h : HeadAt K H a hs) : HeadAt K H' a hs := by
  obtain ⟨kvs, h1, h2⟩ := h
  exact ⟨kvs, e _ _ h1, paired_imp (fun _ _ z => z.mono e) h2⟩
theorem FcParts.mono {H H' : Hp} (e : Same H H') {s h w c d : Addr} {st : Fc} (p : FcParts K H s h w c d st) : FcParts K H' s h w c d st :=
  ⟨p.srt.mono e, p.ok, p.heads.mono e, e _ _ p.whr, e _ _ p.cases, e _ _ p.decl⟩
theorem FcAt.mono {H H' : Hp} (e : Same H H') {a : Addr} {st : Fc} (h : FcAt K C H a st) : FcAt K C H' a st := by
  obtain ⟨dx, s, hh, w, c, d, h1, h2⟩ := h
  exact ⟨dx, s, hh, w, c, d, e _ _ h1, h2.mono e⟩
def MCal (P : Program) (w : World) (K : PySem.W.Frag) (mg : Str → Option Value) (base : Heap) (C : Addr) (k : Nat) (m : Str) (sp : Sp) : Prop := ∃ f fd ps, FnOk P w K mg base CX0 k f fd ps sp ∧ Meth K C m f ∧ Binds K fd ps []
/-! is_new -/
def isNew (decl : Vars) (d : PyData) : Bool := isName d && !(decl.map (·.1)).contains (strOf d)
theorem vs_in (vs : Vars) (x : Str) : (valV (vsV vs) (Sum.inr x)).isSome = (vs.map (·.1)).contains x := by
  rw [← lookup_keys]
  have h := vs_look vs x
  induction vs with
  | nil => rfl
  | cons p r ih =>
    obtain ⟨y, k⟩ := p
    rw [lk_cons]
    show (valV ((Sum.inr y, V.str k) :: vsV r) (Sum.inr x)).isSome = _
    by_cases e : x = y
    · subst e
      rw [if_pos rfl, valV_pos rfl]
      rfl
    · rw [if_neg e, valV_neg (fun h => e (Sum.inr.inj h).symm)]
      exact ih (vs_look r x)
def spIsNew (K : PySem.W.Frag) (C : Addr) : Sp := fun vs H Q _ => ∃ (a : Addr) (v : V) (d : PyData) (st : Fc), vs = [.ref a, v] ∧ FcAt K C H a st ∧ Dx K H v d ∧ fit d = true ∧ ∀ H', Same H H' → Q (.bl (isNew st.decl d)) H'
theorem scIsNew : FnScope ["self", "variable"] ["self", "variable"] (defScope mIsNew) := fnScope_by (by decide +kernel)
theorem kIsNew {f : Addr} {fd : FuncData} (F : Fun K "is_new" "FunctionCheck.is_new" mIsNew f fd) (k : FcC K C) (c : Cal P w K mg base 1 "is_name" (spB1 K isName) []) : FnOk P w K mg base CX0 2 f fd ["self", "variable"] (spIsNew K C) := by
  refine F.ok scIsNew (fun vs H Q E h => ?_) (fun cdv A outer s H vs Q E hr h => ?_)
  · obtain ⟨a, v, d, st, rfl, _⟩ := h
    rfl
  obtain ⟨a, v, d, st, rfl, hf, hd, ht, q⟩ := h
  have hu := hu_of hr
  refine ⟨_, pss_one (ps_ret (pe_and (pe_c c hr (by decide) (by rfl) (pa_cons (pv 1) pa_nil)) (pe_one (pe_cmp (pc_dnotin hu (pv 1) (pe_fld (pv 0) rfl)) (by rfl))))), ?_⟩
  refine ⟨_, rfl, v, d, rfl, hd, ht, fun H1 s1 => ⟨_, rfl, ?_⟩⟩
  have zz := q H1 s1
  cases hn : isName d with
  | false =>
    have e : isNew st.decl d = false := by unfold isNew; rw [hn]; rfl
    rw [e] at zz
    exact iteF zz
  | true =>
    refine iteT ?_
    have e : isNew st.decl d = !(st.decl.map (·.1)).contains (strOf d) := by unfold isNew; rw [hn]; rfl
    rw [e] at zz
    have ed := isName_str hn
    rw [ed] at hd
    obtain rfl := hd.strOf
    obtain ⟨dx, sa, ha, wa, ca, da, h1, h2⟩ := hf.mono s1
    refine ⟨_, rfl, _, rfl, a, C, dx, _, _, rfl, h1, k.cl, k.declared, by rfl, da, _, rfl, DGet.k (k := Sum.inr (strOf d)) h2.decl, ?_⟩
    rw [vs_in]
    exact zz
end
end Lm

namespace Lm
open PySem PySem.Spec PyProof.Rows L2
open C8 (fnScope_by pe_gc pss_cut tCut Cal pe_c)
/-! ### takes -/
def takesD (srt : Srt) (vars : Vars) (r : Option Str) (d : PyData) : Bool :=
  match r with
  | none => isNoneD d
  | some k => decide (placeKind srt vars d = some k)
theorem okV_str (o : Option Str) (k : Str) : decide (okV o = V.str k) = decide (o = some k) := by
  cases o with
  | none => exact decide_eq_decide.mpr ⟨fun h => (nomatch h), fun h => (nomatch h)⟩
  | some x => exact decide_eq_decide.mpr ⟨fun h => congrArg some (V.str.inj h), fun h => congrArg V.str (Option.some.inj h)⟩
theorem okV_eq (o p : Option Str) : decide (okV o = okV p) = decide (o = p) := by
  cases p with
  | some k => exact okV_str o k
  | none => cases o with
    | none => rfl
    | some x => exact decide_eq_decide.mpr ⟨fun h => (nomatch h), fun h => (nomatch h)⟩
section
variable {P : Program} {w : World} {K : PySem.W.Frag} {mg : Str → Option Value} {base : Heap} {C : Addr}
def spTakes (K : PySem.W.Frag) (C : Addr) : Sp := fun vs H Q _ => ∃ (a b : Addr) (v : V) (d : PyData) (st : Fc) (vars : Vars) (r : Option Str), vs = [.ref a, v, .ref b, okV r] ∧ FcAt K C H a st ∧ VarAt H b vars ∧ Dx K H v d ∧ ∀ H', Same H H' → Q (.bl (takesD st.srt vars r d)) H'
theorem scTakes : FnScope ["self", "place", "variables", "result"] ["self", "place", "variables", "result"] (defScope mTakes) := fnScope_by (by decide +kernel)
theorem kTakes {f : Addr} {fd : FuncData} (F : Fun K "takes" "FunctionCheck.takes" mTakes f fd) (k : FcC K C) (c : Cal P w K mg base 3 "place_kind" (spPK K) []) : FnOk P w K mg base CX0 4 f fd ["self", "place", "variables", "result"] (spTakes K C) := by
  refine F.ok scTakes (fun vs H Q E h => ?_) (fun cdv A outer s H vs Q E hr h => ?_)
  · obtain ⟨a, b, v, d, st, vars, r, rfl, _⟩ := h
    rfl
  obtain ⟨a, b, v, d, st, vars, r, rfl, hf, hb, hd, q⟩ := h
  refine ⟨_, pss_cons (ps_if (pt_cmpR op_isN (pv 3) pe_non (by rfl)) (pss_one (ps_ret (pe_cmpR op_isN (pv 1) pe_non (by rfl)))) pss_nil)
    (pss_one (ps_ret (pe_cmpR op_eq (pe_c c hr (by decide) (by rfl) (pa_cons (pe_fld (pv 0) rfl) (pa_cons (pv 2) (pa_cons (pv 1) pa_nil)))) (pv 3) (by rfl)))), ?_⟩
  refine ⟨_, rfl, rfl, _, rfl, ?_⟩
  cases r with
  | none =>
    refine iteT ⟨_, rfl, rfl, ?_⟩
    rw [dx_isNone hd]
    exact q H (Same.refl H)
  | some kk =>
    refine iteF ?_
    obtain ⟨dx, sa, ha, wa, ca, da, h1, h2⟩ := hf
    refine ⟨_, rfl, a, C, dx, _, _, rfl, h1, k.cl, k.sorts, by rfl, _, rfl, _, rfl, sa, b, v, d, st.srt, vars, rfl, h2.srt, h2.ok, hb, hd, fun H1 s1 => ?_⟩
    have zz := q H1 s1
    have e : takesD st.srt vars (some kk) d = decide (okV (placeKind st.srt vars d) = V.str kk) := (okV_str _ _).symm
    rw [e] at zz
    refine ⟨_, rfl, ?_, zz⟩
    cases placeKind st.srt vars d <;> rfl
/-! ### move_fits -/
theorem fold_none (srt : Srt) : ∀ fs : List PyData, fs.foldl (fieldKind srt) none = none
  | [] => rfl
  | _ :: r => fold_none srt r
theorem fold_txts (srt : Srt) : ∀ (fs : List PyData) (o : Option Str) (k : Str), fs.foldl (fieldKind srt) o = some k → txts fs
  | [], _, _, _ => fun e he => by cases he
  | e :: r, o, k, h => by
    rw [List.foldl_cons] at h
    intro x hx
    rcases List.mem_cons.mp hx with rfl | hx
    · cases hs : isStr x with
      | true => rfl
      | false =>
        have e1 : fieldKind srt o x = none := by
          unfold fieldKind
          cases o with
          | none => rfl
          | some k =>
            dsimp only
            cases srt.lookup k with
            | none => rfl
            | some zp =>
              dsimp only
              rw [hs]
              split <;> rfl
        rw [e1, fold_none] at h
        cases h
    · exact fold_txts srt r _ k h x hx
theorem place_txts {srt : Srt} {vars : Vars} {d : PyData} {k : Str} (h : placeKind srt vars d = some k) : ∃ ds, d = .tuple ds ∧ txts ds := by
  unfold placeKind at h
  split at h
  · rename_i x fs
    exact ⟨_, rfl, fun e he => (List.mem_cons.mp he).elim (fun q => by rw [q]; rfl) (fun q => fold_txts srt fs _ k h e q)⟩
  · cases h
def moveFits (srt : Srt) (vars : Vars) (d1 d2 : PyData) : Bool :=
  match placeKind srt vars d1 with
  | none => false
  | some k => decide (placeKind srt vars d2 = some k) && !ovl (items d1) (items d2)
def spMove (K : PySem.W.Frag) (C : Addr) : Sp := fun vs H Q _ => ∃ (a b : Addr) (v : V) (x d1 d2 : PyData) (st : Fc) (vars : Vars), vs = [.ref a, v, .ref b] ∧ FcAt K C H a st ∧ VarAt H b vars ∧ Dx K H v (.tuple [x, d1, d2]) ∧ fit d1 = true ∧ fit d2 = true ∧ ∀ H', Same H H' → Q (.bl (moveFits st.srt vars d1 d2)) H'
abbrev nsMV : List Str := ["self", "statement", "variables", "_", "target", "source", "kind"]
theorem scMove : FnScope nsMV ["self", "statement", "variables"] (defScope mMoveFits) := fnScope_by (by decide +kernel)
theorem kMove {f : Addr} {fd : FuncData} (F : Fun K "move_fits" "FunctionCheck.move_fits" mMoveFits f fd) (k : FcC K C) (c : Cal P w K mg base 3 "place_kind" (spPK K) []) (c2 : Cal P w K mg base 1 "overlap" (spOV K) []) : FnOk P w K mg base CX0 4 f fd ["self", "statement", "variables"] (spMove K C) := by
  refine F.ok scMove (fun vs H Q E h => ?_) (fun cdv A outer s H vs Q E hr h => ?_)
  · obtain ⟨a, b, v, x, d1, d2, st, vars, rfl, _⟩ := h
    rfl
  obtain ⟨a, b, v, x, d1, d2, st, vars, rfl, hf, hb, hd, f1, f2, q⟩ := h
  refine ⟨_, pss_cons (ps_asg (pv 1) (pg_tupk K rfl (n := 3) rfl (pgs_cons (pg_name (i := 3) scMove.nd rfl (Or.inl rfl)) (pgs_cons (pg_name (i := 4) scMove.nd rfl (Or.inl rfl)) (pgs_cons (pg_name (i := 5) scMove.nd rfl (Or.inl rfl)) pgs_nil)))))
    (pss_cons (ps_set (i := 6) scMove.nd rfl (.inl rfl) (pe_c c hr (by decide) (by rfl) (pa_cons (pe_fld (pv 0) rfl) (pa_cons (pv 2) (pa_cons (pv 4) pa_nil)))))
    (pss_cons (ps_if (PW.pt (pw_or (pt_cmpR op_isN (pv 6) pe_non (by rfl)) (pw_or1 (pt_cmpR op_ne (pv 6) (pe_c c hr (by decide) (by rfl) (pa_cons (pe_fld (pv 0) rfl) (pa_cons (pv 2) (pa_cons (pv 5) pa_nil)))) (by rfl))))) (pss_one (ps_ret pe_bl)) pss_nil)
    (pss_one (ps_ret (pe_not (pe_c c2 hr (by decide) (by rfl) (pa_cons (pv 4) (pa_cons (pv 5) pa_nil)))))))), ?_⟩
  obtain ⟨av, v0, v1, v2, rfl, hav, hv0, hv1, hv2⟩ := trip_at hd
  obtain ⟨dx, sa, ha, wa, ca, da, h1, h2⟩ := hf
  refine ⟨_, rfl, av, _, rfl, .inl (.inl hav), rfl, _, _, rfl, _, _, rfl, _, _, rfl, rfl, ?_⟩
  refine ⟨_, rfl, a, C, dx, _, _, rfl, h1, k.cl, k.sorts, by rfl, _, rfl, _, rfl, sa, b, v1, d1, st.srt, vars, rfl, h2.srt, h2.ok, hb, hv1, fun H1 s1 => ?_⟩
  refine ⟨_, rfl, rfl, _, rfl, ?_⟩
  have h2' := h2.mono s1
  cases hp : placeKind st.srt vars d1 with
  | none =>
    have zz := q H1 s1
    have e : moveFits st.srt vars d1 d2 = false := by unfold moveFits; rw [hp]
    rw [e] at zz
    exact iteT (iteT zz)
  | some kk =>
    refine iteF ?_
    refine ⟨_, rfl, _, rfl, a, C, dx, _, _, rfl, s1 _ _ h1, k.cl, k.sorts, by rfl, _, rfl, _, rfl, sa, b, v2, d2, st.srt, vars, rfl, h2'.srt, h2'.ok, s1 _ _ hb, Dx.mono s1 hv2, fun H2 s2 => ?_⟩
    refine ⟨by cases placeKind st.srt vars d2 <;> rfl, _, rfl, ?_⟩
    have en : decide (okV (some kk) = okV (placeKind st.srt vars d2)) = decide (placeKind st.srt vars d2 = some kk) := by
      rw [okV_eq]
      exact decide_eq_decide.mpr ⟨fun h => h.symm, fun h => h.symm⟩
    rw [en]
    have e : moveFits st.srt vars d1 d2 = (decide (placeKind st.srt vars d2 = some kk) && !ovl (items d1) (items d2)) := by unfold moveFits; rw [hp]
    cases he : decide (placeKind st.srt vars d2 = some kk) with
    | false =>
      have zz := q H2 (s1.trans s2)
      rw [e, he] at zz
      exact iteT zz
    | true =>
      refine iteF ?_
      obtain ⟨ds, rfl, t1⟩ := place_txts hp
      obtain ⟨es, rfl, t2⟩ := place_txts (of_decide_eq_true he)
      refine ⟨_, rfl, _, rfl, v1, v2, ds, es, rfl, Dx.mono (s1.trans s2) hv1, Dx.mono (s1.trans s2) hv2, t1, t2, fit_items f1, fit_items f2, fun H3 s3 => ⟨_, rfl, ?_⟩⟩
      have zz := q H3 ((s1.trans s2).trans s3)
      rw [e, he] at zz
      exact zz
end
end Lm

namespace Lm
open PySem PySem.Spec PyProof.Rows L2
open C8 (fnScope_by pe_gc pss_cut tCut Cal pe_c)
/-! ### arm_names_fit -/
def armNames (decl : Vars) : List Str → List PyData → Bool
  | _, [] => true
  | ns, e :: r => if (isTupN e 2 && !isNoneD (at0 e)) = true then isNew decl (at0 e) && (!ns.contains (strOf (at0 e)) && armNames decl (ns ++ [strOf (at0 e)]) r) else armNames decl ns r
def armNamesFit (decl : Vars) (d : PyData) : Bool := !isRow d || armNames decl [] (items d)
def nmV (ns : List Str) : List (Key × V) := ns.map fun x => (Sum.inr x, V.bl true)
theorem nm_in (ns : List Str) (x : Str) : (valV (nmV ns) (Sum.inr x)).isSome = ns.contains x := by
  induction ns with
  | nil => rfl
  | cons y r ih =>
    rw [List.contains_cons]
    show (valV ((Sum.inr y, V.bl true) :: nmV r) (Sum.inr x)).isSome = _
    by_cases e : x = y
    · subst e
      rw [valV_pos rfl, beq_self_eq_true]
      rfl
    · rw [valV_neg (fun h => e (Sum.inr.inj h).symm), ih, beq_eq_false_iff_ne.mpr e]
      rfl
theorem nm_put {ns : List Str} {x : Str} (h : ns.contains x = false) : putK (nmV ns) (Sum.inr x) (V.bl true) = nmV (ns ++ [x]) := by
  rw [putK_new]
  · unfold nmV
    rw [List.map_append]
    rfl
  · have e := nm_in ns x
    rw [h] at e
    exact Option.isSome_eq_false_iff.mp e |> Option.isNone_iff_eq_none.mp
section
variable {P : Program} {w : World} {K : PySem.W.Frag} {mg : Str → Option Value} {base : Heap} {C : Addr}
def spArmNames (K : PySem.W.Frag) (C : Addr) : Sp := fun vs H Q _ => ∃ (a : Addr) (v : V) (d : PyData) (st : Fc), vs = [.ref a, v] ∧ FcAt K C H a st ∧ Dx K H v d ∧ fit d = true ∧ ∀ H', Same H H' → Q (.bl (armNamesFit st.decl d)) H'
abbrev nsAN : List Str := ["self", "arms", "names", "arm"]
theorem scAN : FnScope nsAN ["self", "arms"] (defScope mArmNames) := fnScope_by (by decide +kernel)
theorem kArmNames {f : Addr} {fd : FuncData} (F : Fun K "arm_names_fit" "FunctionCheck.arm_names_fit" mArmNames f fd) (k : FcC K C) (c1 : Cal P w K mg base 1 "is_row" (spB1 K isRow) []) (c2 : Cal P w K mg base 1 "is_tuple" (spTupN K) []) (m : MCal P w K mg base C 2 "is_new" (spIsNew K C)) : FnOk P w K mg base CX0 3 f fd ["self", "arms"] (spArmNames K C) := by
  obtain ⟨f1, fd1, ps1, F1, M1, B1⟩ := m
  refine F.ok scAN (fun vs H Q E h => ?_) (fun cdv A outer s H vs Q E hr h => ?_)
  · obtain ⟨a, v, d, st, rfl, _⟩ := h
    rfl
  obtain ⟨a, v, d, st, rfl, hf, hd, ht, q⟩ := h
  have hu := hu_of hr
  refine ⟨_, pss_cons (ps_if (pt_not (pt_val (pe_c c1 hr (by decide) (by rfl) (pa_cons (pv 1) pa_nil)))) (pss_one (ps_ret pe_bl)) pss_nil)
    (pss_cons (ps_set (i := 2) scAN.nd rfl (.inl rfl) pe_dnewK)
    (pss_cons (ps_for PassesOwn.never rfl (pi_row (pv 1)) (pg_name (i := 3) scAN.nd rfl (Or.inl rfl))
      (pss_one (ps_if (PW.pt (pw_and (pt_val (pe_c c2 hr (by decide) (by rfl) (pa_cons (pv 3) (pa_cons pe_int pa_nil)))) (pw_and1 (pt_cmp (pc_notN (pe_ix ix_tup (pv 3) pe_int (fun _ _ => rfl))) (by rfl)))))
        (pss_cons (ps_if (PW.pt (pw_or (pt_not (pt_val (pe_meth (pv 0) k.cl M1 F1 hr B1 .nil pass0 (pa_cons (pe_ix ix_tup (pv 3) pe_int (fun _ _ => rfl)) pa_nil)))) (pw_or1 (pt_cmp (pc_din hu (pe_ix ix_tup (pv 3) pe_int (fun _ _ => rfl)) (pv 2)) (by rfl))))) (pss_one (ps_ret pe_bl)) pss_nil)
        (pss_one (ps_dput hu (pv 2) (pe_ix ix_tup (pv 3) pe_int (fun _ _ => rfl)) pe_bl rfl))) pss_nil)))
    (pss_one (ps_ret pe_bl)))), ?_⟩
  have bad : armNamesFit st.decl d = false → ∀ H', Same H H' → Q (.bl false) H' := fun e H' s' => by
    have z := q H' s'
    rw [e] at z
    exact z
  refine ⟨_, rfl, v, d, rfl, hd, ht, fun H1 s1 => ⟨_, rfl, ?_⟩⟩
  cases hrow : isRow d with
  | false =>
    have zz := q H1 s1
    have e : armNamesFit st.decl d = true := by unfold armNamesFit; rw [hrow]; rfl
    rw [e] at zz
    exact iteT zz
  | true =>
    refine iteF ?_
    have e0 : armNamesFit st.decl d = armNames st.decl [] (items d) := by unfold armNamesFit; rw [hrow]; rfl
    obtain ⟨ar, xs, rfl, hs, hax⟩ := (Dx.mono s1 hd).row hrow
    have hs' : SqL K H1 ar xs ∨ SqT K H1 ar xs := hs.imp (·.1) (·.1)
    have hl := hax.len
    have hl1 := fit_len ht
    refine fun nD nn => ?_
    have s2 := same_upd (o := .dK []) nn
    refine for_row (a := ar) (xs := xs) hs' s2 (fun kk hk => ⟨_, rfl, hk⟩) fun J G gs wk => for_it wk
      (fun i σ H' => ∃ (ns : List Str) (y : Option V), σ = [some (.ref a), some (.ref ar), some (.ref nD), y] ∧ ns.length ≤ i ∧ H' nD = some (.dK (nmV ns)) ∧ Same H1 H' ∧ armNames st.decl [] (items d) = armNames st.decl ns ((items d).drop i))
      ⟨[], none, rfl, Nat.le_refl _, upd_same, s2, rfl⟩ ?_ ?_ ?_
    · rintro i σ H' hi ⟨ns, y, rfl, g1, g2, g3, g4⟩
      exact gs _ g3
    · rintro i x σ H2 H3 hi ⟨ns, y, rfl, g1, g2, g3, g4⟩ ⟨rfl, hx⟩
      obtain ⟨e, he, hde⟩ := hax.get hx
      have hfe : fit e = true := fitAll_at (fit_items ht) he
      have hd3 : Dx K H3 x e := Dx.mono g3 hde
      have hdrop : (items d).drop i = e :: (items d).drop (i + 1) := List.drop_eq_getElem_cons (List.getElem?_eq_some_iff.mp he).1 |>.trans (by rw [(List.getElem?_eq_some_iff.mp he).2])
      rw [hdrop] at g4
      have g4' : armNames st.decl [] (items d) = if (isTupN e 2 && !isNoneD (at0 e)) = true then isNew st.decl (at0 e) && (!ns.contains (strOf (at0 e)) && armNames st.decl (ns ++ [strOf (at0 e)]) ((items d).drop (i + 1))) else armNames st.decl ns ((items d).drop (i + 1)) := g4
      refine ⟨_, rfl, x, e, 2, rfl, hd3, _, rfl, ?_⟩
      cases ht2 : isTupN e 2 with
      | false =>
        rw [ht2, Bool.false_and, if_neg Bool.false_ne_true] at g4'
        exact iteF (iteF ⟨ns, _, rfl, by omega, g2, g3, g4'⟩)
      | true =>
        refine iteT ?_
        obtain ⟨d0, d1, rfl⟩ := pair_of ht2
        obtain ⟨ap, v0, v1, rfl, hap, hv0, _⟩ := pair_at hd3
        rw [ht2, Bool.true_and] at g4'
        have hf0 : fit d0 = true := fitAll_at (i := 0) (fit_items hfe) rfl
        refine ⟨_, rfl, ap, _, 0, _, rfl, rfl, .inl (.inl hap), atI_nat (j := 0) rfl, _, rfl, ?_⟩
        rw [dx_isNone hv0]
        cases hn : isNoneD d0 with
        | true =>
          have hn' : isNoneD (at0 (.tuple [d0, d1])) = true := hn
          rw [hn', if_neg (by decide)] at g4'
          exact iteF ⟨ns, _, rfl, by omega, g2, g3, g4'⟩
        | false =>
          have hn' : isNoneD (at0 (.tuple [d0, d1])) = false := hn
          rw [hn', if_pos (by decide)] at g4'
          have g5 : armNames st.decl [] (items d) = (isNew st.decl d0 && (!ns.contains (strOf d0) && armNames st.decl (ns ++ [strOf d0]) ((items d).drop (i + 1)))) := g4'
          refine iteT ?_
          have hfc := hf.mono (s1.trans g3)
          obtain ⟨dx, sa, ha, wa, ca, da, h1, h2⟩ := id hfc
          refine ⟨_, rfl, a, dx, _, rfl, h1, by rfl, _, rfl, ap, _, 0, _, rfl, rfl, .inl (.inl hap), atI_nat (j := 0) rfl, a, v0, d0, st, rfl, hfc, hv0, hf0, fun H4 s4 => ⟨_, rfl, ?_⟩⟩
          cases hw : isNew st.decl d0 with
          | false =>
            rw [hw] at g5
            exact iteT (iteT (bad (by rw [e0, g5]; rfl) H4 (s1.trans (g3.trans s4))))
          | true =>
            rw [hw, Bool.true_and] at g5
            refine iteF ?_
            have hnm : isName d0 = true := by
              unfold isNew at hw
              rw [Bool.and_eq_true] at hw
              exact hw.1
            have ed := isName_str hnm
            rw [ed] at hv0
            obtain rfl := hv0.strOf
            have hap4 := s4 _ _ hap
            have g24 := s4 _ _ g2
            refine ⟨_, rfl, ap, _, 0, _, rfl, rfl, .inl (.inl hap4), atI_nat (j := 0) rfl, _, rfl, nD, _, rfl, DGet.k (k := Sum.inr (strOf d0)) g24, _, rfl, ?_⟩
            rw [nm_in]
            cases hc : ns.contains (strOf d0) with
            | true =>
              rw [hc] at g5
              exact iteT (bad (by rw [e0, g5]; rfl) H4 (s1.trans (g3.trans s4)))
            | false =>
              rw [hc, Bool.not_false, Bool.true_and] at g5
              refine iteF ?_
              refine ⟨_, rfl, _, rfl, ap, _, 0, _, rfl, rfl, .inl (.inl hap4), atI_nat (j := 0) rfl, nD, _, rfl, DPut.k (k := Sum.inr (strOf d0)) g24 (small1000 (by unfold nmV; rw [List.length_map]; omega)), ns ++ [strOf d0], _, rfl, by rw [List.length_append, List.length_singleton]; omega, ?_, fun b o eb => ?_, g5⟩
              · rw [upd_same, nm_put hc]
              · rw [upd_ne (ne_of_none eb nn)]
                exact s4 _ _ (g3 _ _ eb)
    · rintro σ H' ⟨ns, y, rfl, g1, g2, g3, g4⟩
      have zz := q H' (s1.trans g3)
      rw [e0, g4, hl, List.drop_length] at zz
      exact zz
end
end Lm

namespace Lm
open PySem PySem.Spec PyProof.Rows L2
open C8 (fnScope_by pe_gc pss_cut tCut Cal pe_c)
/-! ### is_function_name -/
def headGet : Heads → Str → Str → Option (PyData × Option Str)
  | [], _, _ => none
  | s :: r, m, f => if s.1.1 = m ∧ s.1.2 = f then some s.2 else headGet r m f
def isFnName (heads : Heads) (d : PyData) : Bool :=
  match d with
  | .tuple [.str m, .str f] => (headGet heads m f).isSome
  | _ => false
section
variable {P : Program} {w : World} {K : PySem.W.Frag} {mg : Str → Option Value} {base : Heap} {C : Addr}
theorem head_look {H : Hp} {m f : Str} : ∀ {kvs : List (List Key × V)} {hs : Heads}, Paired (HeadRow K H) kvs hs →
    (headGet hs m f = none ∧ valV kvs [Sum.inr m, Sum.inr f] = none) ∨ ∃ p r t vp, headGet hs m f = some (p, r) ∧ valV kvs [Sum.inr m, Sum.inr f] = some (V.ref t) ∧ H t = some (.tup [vp, okV r]) ∧ Dx K H vp p
  | _, _, .nil => .inl ⟨rfl, rfl⟩
  | _, _, .cons (a := kv) (b := s) h r => by
    obtain ⟨h1, t, vp, h2, h3, h4⟩ := h
    obtain ⟨⟨m', f'⟩, p, o⟩ := s
    have h1' : kv.1 = [Sum.inr m', Sum.inr f'] := h1
    unfold headGet
    dsimp only
    by_cases e : m' = m ∧ f' = f
    · obtain ⟨rfl, rfl⟩ := e
      rw [if_pos ⟨rfl, rfl⟩]
      exact .inr ⟨p, o, t, vp, rfl, by rw [valV_pos h1', h2], h3, h4⟩
    · rw [if_neg e, valV_neg (fun q => e (by
        have z := h1'.symm.trans q
        injection z with z1 z2
        injection z2 with z2 _
        exact ⟨Sum.inr.inj z1, Sum.inr.inj z2⟩))]
      exact head_look r
def spFnName (K : PySem.W.Frag) : Sp := fun vs H Q _ => ∃ (v : V) (d : PyData) (h : Addr) (heads : Heads), vs = [v, .ref h] ∧ Dx K H v d ∧ HeadAt K H h heads ∧ Q (.bl (isFnName heads d)) H
theorem scFnName : FnScope ["value", "functions"] ["value", "functions"] (defScope sFnName) := fnScope_by (by decide +kernel)
theorem kFnName {f : Addr} {fd : FuncData} (F : Fun K "is_function_name" "is_function_name" sFnName f fd) (B : Bt mg) (c : Cal P w K mg base 1 "is_tuple" (spTupN K) []) : FnOk P w K mg base CX0 2 f fd ["value", "functions"] (spFnName K) := by
  refine F.ok scFnName (fun vs H Q E h => ?_) (fun cdv A outer s H vs Q E hr h => ?_)
  · obtain ⟨v, d, h, heads, rfl, _⟩ := h
    rfl
  obtain ⟨v, d, h, heads, rfl, hd, hh, q⟩ := h
  have hu := hu_of hr
  refine ⟨_, pss_cons (ps_if (PW.pt (pw_or (pt_not (pt_val (pe_c c hr (by decide) (by rfl) (pa_cons (pv 0) (pa_cons pe_int pa_nil))))) (pw_or (pt_not (pt_val (pe_callB call_isi (by rfl) B.isi boot_isinstance (pa_cons (pe_ix ix_tup (pv 0) pe_int (fun _ _ => rfl)) (pa_cons (pe_bltn (v := .ty "str") (by rfl) B.str boot_str rfl) pa_nil)))))
      (pw_or1 (pt_not (pt_val (pe_callB call_isi (by rfl) B.isi boot_isinstance (pa_cons (pe_ix ix_tup (pv 0) pe_int (fun _ _ => rfl)) (pa_cons (pe_bltn (v := .ty "str") (by rfl) B.str boot_str rfl) pa_nil))))))))) (pss_one (ps_ret pe_bl)) pss_nil)
    (pss_one (ps_ret (pe_cmp (pc_din hu (pv 0) (pv 1)) (by rfl)))), ?_⟩
  refine ⟨_, rfl, v, d, 2, rfl, hd, _, rfl, ?_⟩
  cases h1 : isTupN d 2 with
  | false =>
    have e : isFnName heads d = false := by
      unfold isFnName
      split
      · rename_i m f
        cases h1
      · rfl
    rw [e] at q
    exact iteT (iteT q)
  | true =>
    refine iteF ?_
    obtain ⟨d0, d1, rfl⟩ := pair_of h1
    obtain ⟨ap, v0, v1, rfl, hap, hv0, hv1⟩ := pair_at hd
    refine ⟨_, rfl, ap, _, 0, _, rfl, rfl, .inl (.inl hap), atI_nat (j := 0) rfl, v0, _, _, _, _, rfl, .ty _, hv0.ty, kit_str d0, _, rfl, ?_⟩
    cases d0 with
    | str m =>
      refine iteF ?_
      refine ⟨_, rfl, ap, _, 1, _, rfl, rfl, .inl (.inl hap), atI_nat (j := 1) rfl, v1, _, _, _, _, rfl, .ty _, hv1.ty, kit_str d1, _, rfl, ?_⟩
      cases d1 with
      | str f =>
        refine iteF ?_
        obtain rfl := hv0.strOf
        obtain rfl := hv1.strOf
        obtain ⟨kvs, g1, g2⟩ := hh
        have g := DGet.t (k := [Sum.inr m, Sum.inr f]) g1 hap
        refine ⟨_, rfl, _, rfl, h, _, rfl, g, ?_⟩
        have e : (valV kvs [Sum.inr m, Sum.inr f]).isSome = isFnName heads (.tuple [.str m, .str f]) := by
          show _ = (headGet heads m f).isSome
          rcases head_look (m := m) (f := f) g2 with ⟨e1, e2⟩ | ⟨p, r, t, vp, e1, e2, _⟩ <;> rw [e1, e2] <;> rfl
        rw [e]
        exact q
      | _ => exact iteT q
    | _ => exact iteT (iteT q)
/-! ### names_fit -/
/-- a statement's word and its parts behind it -/
def wordOf (d : PyData) : Str := strOf (at0 d)
def namesFit (st : Fc) (d : PyData) : Bool := if wordOf d = "let" then isNew st.decl (at1 d) else if wordOf d = "ask" then isName (at1 d) else if wordOf d = "call" then isFnName st.heads (at1 d) else
  decide (wordOf d ≠ "match") || armNamesFit st.decl (at2 d)
theorem stmt_form {d : PyData} (h : isStmt d = true) : ∃ x r, d = .tuple (.str x :: r) ∧ sizesL.lookup x = some ((r.length + 1 : Nat) : Int) := by
  unfold isStmt at h
  split at h
  · rename_i x r
    exact ⟨x, r, rfl, of_decide_eq_true h⟩
  · cases h
theorem stmt_len {x : Str} {r : List PyData} {n : Nat} (h : sizesL.lookup x = some ((r.length + 1 : Nat) : Int)) (e : sizesL.lookup x = some ((n + 1 : Nat) : Int)) : r.length = n := by
  rw [e] at h
  have z := Option.some.inj h
  omega
end
end Lm

namespace Lm
open PySem PySem.Spec PyProof.Rows L2
open C8 (fnScope_by pe_gc pss_cut tCut Cal pe_c)
section
variable {P : Program} {w : World} {K : PySem.W.Frag} {mg : Str → Option Value} {base : Heap} {C : Addr}
theorem dstr {x y : Str} : decide (V.str x = V.str y) = decide (x = y) := decide_eq_decide.mpr ⟨fun h => V.str.inj h, fun h => congrArg V.str h⟩
/-- the statement's word, and its j-th part -/
theorem st_word {H : Hp} {v : V} {x : Str} {r : List PyData} (h : Dx K H v (.tuple (.str x :: r))) : ∃ a xs, v = .ref a ∧ SqT K H a xs ∧ xs[0]? = some (V.str x) := by
  obtain ⟨a, xs, rfl, hs, ha⟩ := h.tupOf
  obtain ⟨z, hz, hd⟩ := ha.at (i := 0) (d := .str x) rfl
  obtain rfl := hd.strOf
  exact ⟨a, xs, rfl, hs, hz⟩
def spStmt (K : PySem.W.Frag) (C : Addr) (g : Fc → PyData → Bool) : Sp := fun vs H Q _ => ∃ (a : Addr) (v : V) (d : PyData) (st : Fc), vs = [.ref a, v] ∧ FcAt K C H a st ∧ Dx K H v d ∧ fit d = true ∧ isStmt d = true ∧ ∀ H', Same H H' → Q (.bl (g st d)) H'
theorem scNF : FnScope ["self", "statement", "word"] ["self", "statement"] (defScope mNamesFit) := fnScope_by (by decide +kernel)
theorem kNamesFit {f : Addr} {fd : FuncData} (F : Fun K "names_fit" "FunctionCheck.names_fit" mNamesFit f fd) (k : FcC K C) (c1 : Cal P w K mg base 1 "is_name" (spB1 K isName) []) (c2 : Cal P w K mg base 2 "is_function_name" (spFnName K) []) (m1 : MCal P w K mg base C 2 "is_new" (spIsNew K C)) (m2 : MCal P w K mg base C 3 "arm_names_fit" (spArmNames K C)) :
    FnOk P w K mg base CX0 4 f fd ["self", "statement"] (spStmt K C namesFit) := by
  obtain ⟨f1, fd1, ps1, F1, M1, B1⟩ := m1
  obtain ⟨f2, fd2, ps2, F2, M2, B2⟩ := m2
  refine F.ok scNF (fun vs H Q E h => ?_) (fun cdv A outer s H vs Q E hr h => ?_)
  · obtain ⟨a, v, d, st, rfl, _⟩ := h
    rfl
  obtain ⟨a, v, d, st, rfl, hf, hd, ht, hst, q⟩ := h
  have hr2 : Room 2 _ := hr.mono (by decide)
  refine ⟨_, pss_cons (ps_set (i := 2) scNF.nd rfl (.inl rfl) (pe_ix ix_tup (pv 1) pe_int (fun _ _ => rfl)))
    (pss_cons (ps_if (pt_cmpR op_eq (pv 2) pe_str (nomark _)) (pss_one (ps_ret (pe_meth (pv 0) k.cl M1 F1 hr2 B1 .nil pass0 (pa_cons (pe_ix ix_tup (pv 1) pe_int (fun _ _ => rfl)) pa_nil)))) pss_nil)
    (pss_cons (ps_if (pt_cmpR op_eq (pv 2) pe_str (nomark _)) (pss_one (ps_ret (pe_c c1 hr (by decide) (by rfl) (pa_cons (pe_ix ix_tup (pv 1) pe_int (fun _ _ => rfl)) pa_nil)))) pss_nil)
    (pss_cons (ps_if (pt_cmpR op_eq (pv 2) pe_str (nomark _)) (pss_one (ps_ret (pe_c c2 hr (by decide) (by rfl) (pa_cons (pe_ix ix_tup (pv 1) pe_int (fun _ _ => rfl)) (pa_cons (pe_fld (pv 0) rfl) pa_nil))))) pss_nil)
    (pss_one (ps_ret (pe_or (pe_cmpR op_ne (pv 2) pe_str (by rfl)) (pe_one (pe_meth (pv 0) k.cl M2 F2 hr B2 .nil pass0 (pa_cons (pe_ix ix_tup (pv 1) pe_int (fun _ _ => rfl)) pa_nil))))))))), ?_⟩
  obtain ⟨x, r, rfl, hsz⟩ := stmt_form hst
  obtain ⟨av, xs, rfl, hs, h0⟩ := st_word hd
  have hfc := hf
  obtain ⟨dx, sa, ha, wa, ca, da, h1, h2⟩ := hfc
  refine ⟨_, rfl, av, xs, 0, _, rfl, rfl, hs, atI_nat (j := 0) h0, ?_⟩
  refine ⟨_, rfl, rfl, _, rfl, ?_⟩
  rw [dstr]
  have eN : namesFit st (.tuple (.str x :: r)) = if x = "let" then isNew st.decl (at1 (.tuple (.str x :: r))) else if x = "ask" then isName (at1 (.tuple (.str x :: r))) else if x = "call" then isFnName st.heads (at1 (.tuple (.str x :: r))) else
    decide (x ≠ "match") || armNamesFit st.decl (at2 (.tuple (.str x :: r))) := rfl
  by_cases w1 : x = "let"
  · rw [decide_eq_true w1]
    rw [if_pos w1] at eN
    have hl : r.length = 2 := stmt_len hsz (by rw [w1]; rfl)
    obtain ⟨av', xs', z, e', hs', hz, hdz, hfz⟩ := tup_at hd ht (j := 1) (by rw [List.length_cons]; omega)
    cases e'
    rw [eN] at q
    exact iteT ⟨_, rfl, a, dx, _, rfl, h1, by rfl, _, rfl, av, xs', 1, z, rfl, rfl, hs', atI_nat (j := 1) hz, a, z, _, st, rfl, hf, hdz, hfz, q⟩
  rw [decide_eq_false w1]
  rw [if_neg w1] at eN
  refine iteF ⟨_, rfl, rfl, _, rfl, ?_⟩
  rw [dstr]
  by_cases w2 : x = "ask"
  · rw [decide_eq_true w2]
    rw [if_pos w2] at eN
    have hl : r.length = 3 := stmt_len hsz (by rw [w2]; rfl)
    obtain ⟨av', xs', z, e', hs', hz, hdz, hfz⟩ := tup_at hd ht (j := 1) (by rw [List.length_cons]; omega)
    cases e'
    rw [eN] at q
    exact iteT ⟨_, rfl, av, xs', 1, z, rfl, rfl, hs', atI_nat (j := 1) hz, z, _, rfl, hdz, hfz, q⟩
  rw [decide_eq_false w2]
  rw [if_neg w2] at eN
  refine iteF ⟨_, rfl, rfl, _, rfl, ?_⟩
  rw [dstr]
  by_cases w3 : x = "call"
  · rw [decide_eq_true w3]
    rw [if_pos w3] at eN
    have hl : r.length = 3 := stmt_len hsz (by rw [w3]; rfl)
    obtain ⟨av', xs', z, e', hs', hz, hdz, hfz⟩ := tup_at hd ht (j := 1) (by rw [List.length_cons]; omega)
    cases e'
    have zz := q H (Same.refl H)
    rw [eN] at zz
    exact iteT ⟨_, rfl, av, xs', 1, z, rfl, rfl, hs', atI_nat (j := 1) hz, _, rfl, a, C, dx, _, _, rfl, h1, k.cl, k.heads, by rfl, z, _, ha, st.heads, rfl, hdz, h2.heads, zz⟩
  rw [decide_eq_false w3]
  rw [if_neg w3] at eN
  refine iteF ⟨_, rfl, rfl, _, rfl, ?_⟩
  rw [dstr]
  by_cases w4 : x = "match"
  · have hl : r.length = 2 := stmt_len hsz (by rw [w4]; rfl)
    obtain ⟨av', xs', z, e', hs', hz, hdz, hfz⟩ := tup_at hd ht (j := 2) (by rw [List.length_cons]; omega)
    cases e'
    rw [decide_eq_true w4]
    rw [decide_eq_false (fun h => h w4), Bool.false_or] at eN
    rw [eN] at q
    exact iteF ⟨_, rfl, a, dx, _, rfl, h1, by rfl, _, rfl, av, xs', 2, z, rfl, rfl, hs', atI_nat (j := 2) hz, a, z, _, st, rfl, hf, hdz, hfz, q⟩
  · rw [decide_eq_false w4]
    rw [decide_eq_true w4, Bool.true_or] at eN
    have zz := q H (Same.refl H)
    rw [eN] at zz
    exact iteT zz
end
end Lm

/-! enumerate of a tuple. -/
namespace L2
open PySem PySem.Spec PyProof.Rows
set_option maxHeartbeats 1000000 in
theorem meets_enum1 {v : Value} {ob : Obj} {G : Heap → Prop} (B : Begins v ob G) :
    Meets (Builtin.«enumerate.__new__» ⟨[.type "enumerate", v], []⟩) (fun _ R s => G s.heap ∧
      R (.ok (.ret (.ref (s.heap.push ob).objs.size))) { s with heap := (s.heap.push ob).push { cls := .type "enumerate", data := .fields #[.none, .bool false, .ref s.heap.objs.size, rawInt 0, .none, .none] } }) :=
  .of_wp fun prog w A R st0 hyp => by
    obtain ⟨h0, gens0, dr0, tok0, os0⟩ := st0; obtain ⟨hg, hyp⟩ := hyp
    have hsub := sub_enumerate
    have nxt : ∀ {A' : Around} {E : Value → Shared → Prop} {Q : Value → Shared → Prop}, Q (.ref h0.objs.size) ⟨h0.push ob, gens0, dr0, tok0, os0⟩ → wpAny (model prog w) A' (pyIter v) Q E ⟨h0, gens0, dr0, tok0, os0⟩ := fun q => B.iter prog w _ _ ⟨h0, gens0, dr0, tok0, os0⟩ _ hg q
    wp_walk using nxt
    refine wpAny_stack_any (fun stk => wpAny_pure ?_)
    split
    · rename_i c _ _ _ _ _
      cases (c == Value.type "enumerate") <;> (wp_walk using nxt; exact ⟨_, rfl, hyp⟩)
    · wp_walk using nxt
      exact ⟨_, rfl, hyp⟩
theorem call_enumT {prog : Program} {w : World} {A : Around} {E : Value → Shared → Prop} {s : Shared} {v : Value} {ob : Obj} {G : Heap → Prop} {Q : Value → Shared → Prop} (B : Begins v ob G) (hg : G s.heap)
    (h : ∀ h', IsEnum h' (s.heap.objs.size + 1) s.heap.objs.size 0 .none → h'.get? s.heap.objs.size = some ob → (∀ b x, s.heap.get? b = some x → h'.get? b = some x) → Q (.ref (s.heap.objs.size + 1)) { s with heap := h' }) : wpAny (model prog w) A (call (.type "enumerate") [v]) Q E s := by
  refine callType_new F.called_enumerate (by decide) (F.typeCall_enumerate_1 _) (F.newCall_enumerate_1 _) (fun obj => F.args_object_init_2 obj _) F.entry_enumerate_new (meets_enum1 B) ⟨hg, ?_⟩
  have sz : (s.heap.push ob).objs.size = s.heap.objs.size + 1 := Heap.size_push ..
  have en : ((s.heap.push ob).push { cls := .type "enumerate", data := .fields #[.none, .bool false, .ref s.heap.objs.size, rawInt 0, .none, .none] }).get? (s.heap.objs.size + 1) = some { cls := .type "enumerate", data := .fields #[.none, .bool false, .ref s.heap.objs.size, rawInt 0, .none, .none] } := by
    rw [← sz]
    exact Heap.get?_push_size _ rfl
  show _ ∧ _
  rw [sz]
  exact ⟨⟨_, en, rfl⟩, h _ en (Heap.get?_push_of_some _ (Heap.get?_push_size _ B.free)) fun b x e => Heap.get?_push_of_some _ (Heap.get?_push_of_some _ e)⟩
/-- the tuple at a, each item in a new pair behind its number -/
def IteT (K : PySem.W.Frag) (a : Addr) : It := ⟨fun i H => ∃ (xs : List V) (x : V), SqT K H a xs ∧ xs[i]? = some x,
  fun i H v H' => ∃ T x, v = .ref T ∧ H T = none ∧ H' = upd H T (.tup [.int (i : Nat), x]) ∧ ∀ xs, SqT K H a xs → xs[i]? = some x, fun i H => ∃ xs : List V, SqT K H a xs ∧ xs.length ≤ i⟩
theorem walk_enumT {K : PySem.W.Frag} {a : Addr} {xs : List V} : Walk (IteT K a) xs.length (fun H => SqT K H a xs) (YPair (fun i => some (.int (i : Nat))) (fun i => xs[i]?)) := by
  refine ⟨fun i _ hi q => ⟨xs, xs[i], q, by simp [hi]⟩, fun _ q => ⟨xs, q, Nat.le_refl _⟩, fun i H v H' hi q y => ?_⟩
  obtain ⟨T, x, rfl, h2, h3, h4⟩ := y
  exact ⟨T, _, x, rfl, h2, h3, rfl, h4 xs q⟩
theorem turn_enumT {P : Program} {w : World} {K : PySem.W.Frag} {elts : List Expr} {kk : Nat} {tpos : Pos} (a e it : Addr) :
    Turn P w K (.Tuple elts kk tpos) (IteT K a) [e, it] e (fun i h => (∃ old, IsEnum h e it ((i : Nat) : Int) old) ∧ h.IsTupleIter it a i ∧ (e ≠ it ∧ it ≠ a ∧ e ≠ a)) where
  mem := List.mem_cons_self ..
  obj := fun i h st b hb => by
    obtain ⟨⟨old, he⟩, ⟨o, ho, _, hd⟩, _⟩ := st
    rcases List.mem_cons.mp hb with z | z
    · subst z
      exact ⟨_, he, fun v q => nomatch q⟩
    · have z := List.mem_singleton.mp z
      subst z
      exact ⟨o, ho, fun v q => by rw [hd] at q; cases q⟩
  keep := fun i h h' ⟨⟨old, he⟩, hi, hne⟩ k => ⟨⟨old, k e (List.mem_cons_self ..) _ he⟩, hi.at fun o q => k it (List.mem_cons_of_mem _ (List.mem_cons_self ..)) o q, hne⟩
  item := by
    rintro X rfl rfl rfl calm i pins s σ H E inv hf ⟨⟨old, he⟩, hit, hne, hia, hea⟩ ⟨xs, x, hq, hx⟩
    obtain ⟨its, rv, p, hz⟩ := inv.tuple hq
    obtain ⟨u, hu, ru⟩ := rv.get hx
    have le : e < s.heap.objs.size := Heap.lt_size he
    have li : it < s.heap.objs.size := by obtain ⟨_, q, _⟩ := hit; exact Heap.lt_size q
    have tp : s.heap.IsTuple a its.toArray := p
    have il : i < its.toArray.size := by
      have z := (List.getElem?_eq_some_iff.mp hu).1
      rw [List.size_toArray]
      exact z
    refine wpAny_pyNext_enum_itemD (fp := [it, a]) (St := fun i h => h.IsTupleIter it a i ∧ h.IsTuple a its.toArray) (Draws.tuple (show X.A.in1.handled = none from inv.ok.hd calm) it a (Ne.symm hia) its.toArray) he ⟨hit, tp⟩ il hne (fun q => ?_) fun y h1 tk hy ho st1 hT hsz hk => ?_
    · rcases List.mem_cons.mp q with q | q
      · exact hne q
      · exact hea (List.mem_singleton.mp q)
    have ey : y = u := by
      have z : its[i]? = some y := by simpa using hy
      rw [hu] at z
      exact (Option.some.inj z).symm
    subst ey
    refine ⟨_, rfl, wpAny_letOwnedTupleGo_enum (s := { s with heap := h1, toks := tk + 1 }) ho fun h2 he2 sb => ?_⟩
    have hT2 : h2.get? s.heap.objs.size = some { cls := .type "tuple", data := .seq #[.int i tk, y] } := (sb.2 _ (Nat.ne_of_gt le)).trans hT
    have nob : ObjOk X.prog X.w (upd H s.heap.objs.size (.tup [.int (i : Nat), x])) h2 s.heap.objs.size (.tup [.int (i : Nat), x]) := ⟨by show 2 ≤ sizeLine; decide, [.int i tk, y], .cons ⟨_, rfl⟩ (.cons ru .nil), ⟨_, hT2, rfl, _, rfl⟩⟩
    have mem1 : ∀ {b : Addr}, b ∉ [e, it] → b ≠ e ∧ b ≠ it := fun {b} hb => ⟨fun q => hb (by rw [q]; exact List.mem_cons_self ..), fun q => hb (by rw [q]; exact List.mem_cons_of_mem _ (List.mem_cons_self ..))⟩
    have I1 : Inv X pins σ (upd H s.heap.objs.size (.tup [.int (i : Nat), x])) { s with heap := h2, toks := tk + 1 } := inv.turnedNew (ch := [e, it]) (fun b ob hb q => (sb.2 b (mem1 hb).1).trans (hk b ob (mem1 hb).1 (mem1 hb).2 q)) hf (Nat.le_refl _) nob
    refine ⟨.ref s.heap.objs.size, _, I1, rfl, ⟨_, x, rfl, inv.hok.fresh (Nat.le_refl _), rfl, fun ys hy => by rw [inv.tuple_inj hy hq]; exact hx⟩, ⟨⟨y, he2⟩, st1.1.at fun o q => (sb.2 it (Ne.symm hne)).trans q, hne, hia, hea⟩, fun b hb => ?_⟩
    have lb : b < s.heap.objs.size := (List.mem_cons.mp hb).elim (fun z => by rw [z]; exact le) fun z => by rw [List.mem_singleton.mp z]; exact li
    rw [upd_ne (Nat.ne_of_lt lb)]
    exact (hf b hb).1
  done := by
    rintro X rfl rfl rfl calm i pins s σ H E inv hf ⟨⟨old, he⟩, hit, hne, hia, hea⟩ ⟨xs, hq, hx⟩
    obtain ⟨its, rv, p, hz⟩ := inv.tuple hq
    have tp : s.heap.IsTuple a its.toArray := p
    obtain ⟨f0, f1, f2, f3, f4, f5⟩ := hf it (List.mem_cons_of_mem _ (List.mem_cons_self ..))
    have hl := rv.length
    have D : Draws X.prog X.w X.A.in1 it [it, a] i (fun _ _ => True) (fun j h => j = i ∧ h.IsTupleIter it a i ∧ h.IsTuple a its.toArray) := ⟨fun _ _ st => let ⟨o, ho, _⟩ := st.2.1; ⟨o, ho⟩,
      fun _ _ _ st k => ⟨st.1, st.2.1.at fun o q => k it (List.mem_cons_self ..) o q, st.2.2.at fun o q => k a (List.mem_cons_of_mem _ (List.mem_cons_self ..)) o q⟩, fun j _ _ _ hj st _ => absurd st.1 (Nat.ne_of_lt hj),
      fun s Q E st hE => wpAny_nextOf_tuple_end (show X.A.in1.handled = none from inv.ok.hd calm) st.2.1 st.2.2 (by simp; omega) hE⟩
    exact wpAny_pyNext_enum_endD D he ⟨rfl, hit, tp⟩ fun h' eb => ⟨rfl, inv.turned (t' := s.toks) (fun b o hb q => eb b o hb q) f0 f1 f3 f4 f5⟩
  self := fun A i s Q E ⟨⟨_, he⟩, _⟩ q => wpAny_pyIter_enum he q
def iEnumT (K : PySem.W.Frag) (ta : TA) : TI := fun σ H R => ta σ H fun vs H1 => ∃ a xs, vs = [.ref a] ∧ SqT K H1 a xs ∧ R (IteT K a) H1
theorem pi_enumT {X : Cx} {e : Expr} {ta : TA} {p pos tpos : Pos} {elts : List Expr} {kk : Nat} (hg : Gl X "enumerate") (hm : X.mg "enumerate" = none) (ha : PA X [e] ta) (one : starEach [e] X.env = [(false, eval e X.env)] := by rfl) :
    PI X (.Tuple elts kk tpos) (.Call (.Name "enumerate" p) [e] [] pos) (iEnumT X.K ta) := by
  refine ⟨fun pins s σ H R inv red => ?_⟩
  refine Call_ (ld_blt inv hg hm boot_enumerate (PyProof.Rows.callWith_type1 (thn (ha.run pos pins s σ H _ inv red) fun us s1 ⟨vs, H1, I1, r1, a, xs, ex, hq, q⟩ => ?_) one rfl))
  subst ex
  obtain ⟨u, rfl, ru⟩ := vals1 r1
  obtain rfl : u = Value.ref a := ru
  obtain ⟨its, rv, tp, hz⟩ := I1.tuple hq
  have tp' : s1.heap.IsTuple a its.toArray := tp
  have la : a < s1.heap.objs.size := by obtain ⟨_, z, _⟩ := tp'; exact Heap.lt_size z
  refine call_enumT (begins_tuple a its.toArray) tp' fun h' he hit hk => wpAny_pyIter_enum he ?_
  have I2 : Inv X pins σ H1 { s1 with heap := h' } := I1.kept (t' := s1.toks) hk
  refine ⟨s1.heap.objs.size + 1, [s1.heap.objs.size + 1, s1.heap.objs.size], _, _, H1, rfl, I2, turn_enumT a (s1.heap.objs.size + 1) s1.heap.objs.size, ⟨⟨.none, he⟩, ⟨_, hit, rfl, rfl⟩, Nat.succ_ne_self _, Nat.ne_of_gt la, Nat.ne_of_gt (Nat.lt_succ_of_lt la)⟩, fun b hb => ?_, q⟩
  have le : s1.heap.objs.size ≤ b := (List.mem_cons.mp hb).elim (fun z => by rw [z]; exact Nat.le_succ _) fun z => Nat.le_of_eq (List.mem_singleton.mp z).symm
  exact I1.fpOk le (I1.hok.fresh le)
/-- enumerate(row) -/
theorem pi_enumR {X : Cx} {e : Expr} {ta : TA} {p pos tpos : Pos} {elts : List Expr} {kk : Nat} (hg : Gl X "enumerate") (hm : X.mg "enumerate" = none) (ha : PA X [e] ta) (one : starEach [e] X.env = [(false, eval e X.env)] := by rfl) :
    PI X (.Tuple elts kk tpos) (.Call (.Name "enumerate" p) [e] [] pos) (fun σ H R => iEnum X.K ta σ H R ∨ iEnumT X.K ta σ H R) := pi_or (pi_enum hg hm ha one) (pi_enumT hg hm ha one)
end L2

/-! zip of a list and a tuple. -/
namespace L2
open PySem PySem.Spec PyProof.Rows
def ItzM (K : PySem.W.Frag) (a b : Addr) : It := ⟨fun i H => ∃ (xs ys : List V) (x y : V), SqL K H a xs ∧ SqT K H b ys ∧ xs[i]? = some x ∧ ys[i]? = some y,
  fun i H v H' => ∃ T x y, v = .ref T ∧ H T = none ∧ H' = upd H T (.tup [x, y]) ∧ (∀ xs, SqL K H a xs → xs[i]? = some x) ∧ ∀ ys, SqT K H b ys → ys[i]? = some y, fun i H => ∃ xs ys : List V, SqL K H a xs ∧ SqT K H b ys ∧ (xs.length ≤ i ∨ ys.length ≤ i)⟩
theorem walk_zipM {K : PySem.W.Frag} {a b : Addr} {xs ys : List V} {n : Nat} (hn : n = min xs.length ys.length) : Walk (ItzM K a b) n (fun H => SqL K H a xs ∧ SqT K H b ys) (YPair (fun i => xs[i]?) (fun i => ys[i]?)) := by
  subst hn
  refine ⟨fun i _ hi q => ?_, fun _ q => ⟨xs, ys, q.1, q.2, by omega⟩, fun i H v H' hi q y => ?_⟩
  · have h1 : i < xs.length := by omega
    have h2 : i < ys.length := by omega
    exact ⟨xs, ys, _, _, q.1, q.2, List.getElem?_eq_getElem h1, List.getElem?_eq_getElem h2⟩
  · obtain ⟨T, x, y, rfl, h2, h3, h4, h5⟩ := y
    exact ⟨T, x, y, rfl, h2, h3, h4 xs q.1, h5 ys q.2⟩
section
variable {prog : Program} {w : World} {A : Around}
theorem draws_endL (hh : A.handled = none) {it l : Addr} (ne : l ≠ it) {its : Array Value} {i : Nat} {h : Heap} (h1 : h.IsListIter it l i) (h2 : h.IsList l its) : ∃ n P St, Draws prog w A it [it, l] n P St ∧ St i h ∧ i ≤ n ∧ (its.size ≤ i → i = n) := by
  by_cases c : its.size ≤ i
  · exact ⟨i, fun _ _ => True, fun j h => j = i ∧ h.IsListIter it l i ∧ h.IsList l its, ⟨fun _ _ st => let ⟨o, ho, _⟩ := st.2.1; ⟨o, ho⟩,
      fun _ _ _ st k => ⟨st.1, st.2.1.at fun o q => k it (List.mem_cons_self ..) o q, st.2.2.at fun o q => k l (List.mem_cons_of_mem _ (List.mem_cons_self ..)) o q⟩, fun j _ _ _ hj st _ => absurd st.1 (Nat.ne_of_lt hj),
      fun s Q E st hE => wpAny_nextOf_list_end hh st.2.1 st.2.2 (by simp; omega) hE⟩, ⟨rfl, h1, h2⟩, Nat.le_refl _, fun _ => rfl⟩
  · exact ⟨_, _, _, Draws.list hh it l ne its, ⟨h1, h2⟩, by omega, fun z => absurd z c⟩
theorem draws_endT (hh : A.handled = none) {it t : Addr} (ne : t ≠ it) {its : Array Value} {i : Nat} {h : Heap} (h1 : h.IsTupleIter it t i) (h2 : h.IsTuple t its) : ∃ n P St, Draws prog w A it [it, t] n P St ∧ St i h ∧ i ≤ n ∧ (its.size ≤ i → i = n) := by
  by_cases c : its.size ≤ i
  · exact ⟨i, fun _ _ => True, fun j h => j = i ∧ h.IsTupleIter it t i ∧ h.IsTuple t its, ⟨fun _ _ st => let ⟨o, ho, _⟩ := st.2.1; ⟨o, ho⟩,
      fun _ _ _ st k => ⟨st.1, st.2.1.at fun o q => k it (List.mem_cons_self ..) o q, st.2.2.at fun o q => k t (List.mem_cons_of_mem _ (List.mem_cons_self ..)) o q⟩, fun j _ _ _ hj st _ => absurd st.1 (Nat.ne_of_lt hj),
      fun s Q E st hE => wpAny_nextOf_tuple_end hh st.2.1 st.2.2 (by simp; omega) hE⟩, ⟨rfl, h1, h2⟩, Nat.le_refl _, fun _ => rfl⟩
  · exact ⟨_, _, _, Draws.tuple hh it t ne its, ⟨h1, h2⟩, by omega, fun z => absurd z c⟩
end
structure SepM (z TI TO i1 i2 a b : Addr) : Prop where
  s : ZipSep2 z TI TO i1 i2 [i1, a] [i2, b]
  a1 : a ≠ i1
  b2 : b ≠ i2
theorem turn_zipM {P : Program} {w : World} {K : PySem.W.Frag} {elts : List Expr} {kk : Nat} {tpos : Pos} {a b z TI TO i1 i2 : Addr} (S : SepM z TI TO i1 i2 a b) :
    Turn P w K (.Tuple elts kk tpos) (ItzM K a b) [z, TI, TO, i1, i2] z (fun i h => IsZip h z TI TO .none ∧ IsTupOf2 h TI (.ref i1) (.ref i2) ∧ (∃ x y, IsTupOf2 h TO x y) ∧ h.IsListIter i1 a i ∧ h.IsTupleIter i2 b i) where
  mem := List.mem_cons_self ..
  obj := fun i h st c hc => by
    obtain ⟨hz, hTI, ⟨x, y, hTO⟩, ⟨o1, e1, _, d1⟩, ⟨o2, e2, _, d2⟩⟩ := st
    simp only [List.mem_cons, List.not_mem_nil, or_false] at hc
    rcases hc with rfl | rfl | rfl | rfl | rfl
    · exact ⟨_, hz, fun v q => nomatch q⟩
    · exact ⟨_, hTI, fun v q => nomatch q⟩
    · exact ⟨_, hTO, fun v q => nomatch q⟩
    · exact ⟨o1, e1, fun v q => by rw [d1] at q; cases q⟩
    · exact ⟨o2, e2, fun v q => by rw [d2] at q; cases q⟩
  keep := fun i h h' ⟨hz, hTI, ⟨x, y, hTO⟩, g1, g2⟩ k => ⟨k z (by simp) _ hz, k TI (by simp) _ hTI, ⟨x, y, k TO (by simp) _ hTO⟩, g1.at fun o q => k i1 (by simp) o q, g2.at fun o q => k i2 (by simp) o q⟩
  item := by
    rintro X rfl rfl rfl calm i pins s σ H E inv hf ⟨hz, hTI, ⟨x0, y0, hTO⟩, g1, g2⟩ ⟨xs, ys, x, y, hqx, hqy, hx, hy⟩
    obtain ⟨its, rv, p, _⟩ := inv.list hqx
    obtain ⟨its2, rv2, p2, _⟩ := inv.tuple hqy
    obtain ⟨u, hu, ru⟩ := rv.get hx
    obtain ⟨u2, hu2, ru2⟩ := rv2.get hy
    have tp : s.heap.IsTuple b its2.toArray := p2
    have l1 : i < its.toArray.size := by rw [List.size_toArray]; exact (List.getElem?_eq_some_iff.mp hu).1
    have l2 : i < its2.toArray.size := by rw [List.size_toArray]; exact (List.getElem?_eq_some_iff.mp hu2).1
    have lz : z < s.heap.objs.size := Heap.lt_size hz
    have hh1 : X.A.in1.handled = none := inv.ok.hd calm
    refine wpAny_pyNext_zipD2_item S.s (Draws.list hh1 i1 a S.a1 its.toArray) (Draws.tuple hh1 i2 b S.b2 its2.toArray) hz hTI hTO ⟨g1, p.isList⟩ ⟨g2, tp⟩ l1 l2 fun y1 y2 h1 tk q1 q2 z1 TO1 k1 k2 hT hsz hk => ?_
    have e1 : y1 = u := by
      have c : its[i]? = some y1 := by simpa using q1
      rw [hu] at c
      exact (Option.some.inj c).symm
    have e2 : y2 = u2 := by
      have c : its2[i]? = some y2 := by simpa using q2
      rw [hu2] at c
      exact (Option.some.inj c).symm
    subst e1 e2
    refine ⟨_, rfl, wpAny_letOwnedTupleGo_zip (s := { s with heap := h1, toks := tk }) z1 fun h2 z2 sb => ?_⟩
    have hT2 : h2.get? s.heap.objs.size = some { cls := .type "tuple", data := .seq #[y1, y2] } := (sb.2 _ (Nat.ne_of_gt lz)).trans hT
    have nob : ObjOk X.prog X.w (upd H s.heap.objs.size (.tup [x, y])) h2 s.heap.objs.size (.tup [x, y]) := ⟨by show 2 ≤ sizeLine; decide, [y1, y2], .cons ru (.cons ru2 .nil), ⟨_, hT2, rfl, _, rfl⟩⟩
    have I1 : Inv X pins σ (upd H s.heap.objs.size (.tup [x, y])) { s with heap := h2, toks := tk } :=
      inv.turnedNew (t' := tk) (ch := [z, TI, TO, i1, i2]) (fun c o hb q => by
        simp only [List.mem_cons, List.not_mem_nil, or_false, not_or] at hb
        exact (sb.2 c hb.1).trans (hk c o hb.1 hb.2.2.1 hb.2.2.2.1 hb.2.2.2.2 q)) hf (Nat.le_refl _) nob
    have zi1 : i1 ≠ z := fun q => S.s.zf1 (by rw [q]; exact List.mem_cons_self ..)
    have zi2 : i2 ≠ z := fun q => S.s.zf2 (by rw [q]; exact List.mem_cons_self ..)
    refine ⟨.ref s.heap.objs.size, _, I1, rfl, ⟨_, x, y, rfl, inv.hok.fresh (Nat.le_refl _), rfl, fun l hl => by rw [inv.list_inj hl hqx]; exact hx, fun l hl => by rw [inv.tuple_inj hl hqy]; exact hy⟩, ⟨z2, ?_, ⟨y1, y2, ?_⟩, ?_, ?_⟩, fun c hc => ?_⟩
    · exact (sb.2 _ S.s.TIz).trans (hk _ _ S.s.TIz S.s.TITO S.s.TIi1 S.s.TIi2 hTI)
    · exact (sb.2 _ S.s.TOz).trans TO1
    · exact k1.1.at fun o q => (sb.2 _ zi1).trans q
    · exact k2.1.at fun o q => (sb.2 _ zi2).trans q
    · have lc : c < s.heap.objs.size := by
        simp only [List.mem_cons, List.not_mem_nil, or_false] at hc
        rcases hc with rfl | rfl | rfl | rfl | rfl
        · exact lz
        · exact Heap.lt_size hTI
        · exact Heap.lt_size hTO
        · obtain ⟨_, q, _⟩ := g1; exact Heap.lt_size q
        · obtain ⟨_, q, _⟩ := g2; exact Heap.lt_size q
      rw [upd_ne (Nat.ne_of_lt lc)]
      exact (hf c hc).1
  done := by
    rintro X rfl rfl rfl calm i pins s σ H E inv hf ⟨hz, hTI, ⟨x0, y0, hTO⟩, g1, g2⟩ ⟨xs, ys, hqx, hqy, he⟩
    obtain ⟨its, rv, p, _⟩ := inv.list hqx
    obtain ⟨its2, rv2, p2, _⟩ := inv.tuple hqy
    have tp : s.heap.IsTuple b its2.toArray := p2
    have l1 := rv.length
    have l2 := rv2.length
    have hh1 : X.A.in1.handled = none := inv.ok.hd calm
    obtain ⟨n1, P1, St1, D1, s1, le1, eq1⟩ := draws_endL (prog := X.prog) (w := X.w) (A := X.A.in1) hh1 S.a1 g1 p.isList
    obtain ⟨n2, P2, St2, D2, s2, le2, eq2⟩ := draws_endT (prog := X.prog) (w := X.w) (A := X.A.in1) hh1 S.b2 g2 tp
    refine wpAny_pyNext_zipD2_end S.s D1 D2 hz hTI hTO s1 s2 le1 le2 (he.imp (fun q => eq1 (by simp; omega)) fun q => eq2 (by simp; omega)) fun h' tk hk => ⟨rfl, inv.turnedL (t' := tk) (ch := [z, TI, TO, i1, i2]) (fun c o hb q => ?_) hf⟩
    simp only [List.mem_cons, List.not_mem_nil, or_false, not_or] at hb
    exact hk c o hb.1 hb.2.2.1 hb.2.2.2.1 hb.2.2.2.2 q
  self := fun A i s Q E st h => wpAny_pyIter_zip st.1 h
theorem not2 {x y z : Nat} (h1 : x ≠ y) (h2 : x ≠ z) : ¬ x ∈ [y, z] := fun h => (List.mem_cons.mp h).elim h1 fun h => h2 (List.mem_singleton.mp h)
theorem sepM_of (n a b : Nat) (la : a < n) (lb : b < n) : SepM (n + 4) (n + 2) (n + 3) n (n + 1) a b :=
  ⟨⟨(by omega : (n + 2 : Nat) ≠ n + 4), (by omega : (n + 3 : Nat) ≠ n + 4), (by omega : (n + 2 : Nat) ≠ n + 3), (by omega : (n + 2 : Nat) ≠ n), List.mem_cons_self .., not2 (by omega) (by omega), not2 (by omega) (by omega),
    (by omega : (n + 2 : Nat) ≠ n + 1), List.mem_cons_self .., not2 (by omega) (by omega), not2 (by omega) (by omega), not2 (by omega) (by omega), not2 (by omega) (by omega)⟩, (by omega : (a : Nat) ≠ n), (by omega : (b : Nat) ≠ n + 1)⟩
def iZipM (K : PySem.W.Frag) (ta : TA) : TI := fun σ H R => ta σ H fun vs H1 => ∃ a b xs ys, vs = [.ref a, .ref b] ∧ SqL K H1 a xs ∧ SqT K H1 b ys ∧ R (ItzM K a b) H1
theorem pi_zipM {X : Cx} {e e2 : Expr} {ta : TA} {p pos tpos : Pos} {elts : List Expr} {kk : Nat} (hg : Gl X "zip") (hm : X.mg "zip" = none) (ha : PA X [e, e2] ta)
    (two : starEach [e, e2] X.env = (false, eval e X.env) :: starEach [e2] X.env := by rfl) (pl : (backTo pos (starEach [e2] X.env)).any (·.1) = false := by rfl) : PI X (.Tuple elts kk tpos) (.Call (.Name "zip" p) [e, e2] [] pos) (iZipM X.K ta) := by
  refine ⟨fun pins s σ H R inv red => ?_⟩
  refine Call_ (ld_blt inv hg hm PyProof.Rows.boot_zip (PyProof.Rows.callWith_type1 (thn (ha.run pos pins s σ H _ inv red) fun us s1 ⟨vs, H1, I1, r1, a, b, xs, ys, ex, hqx, hqy, q⟩ => ?_) two pl))
  subst ex
  obtain ⟨u, u2, rfl, ru, ru2⟩ := vals2 r1
  obtain rfl : u = Value.ref a := ru
  obtain rfl : u2 = Value.ref b := ru2
  obtain ⟨its, rv, p1, _⟩ := I1.list hqx
  obtain ⟨its2, rv2, p2, _⟩ := I1.tuple hqy
  have tp : s1.heap.IsTuple b its2.toArray := p2
  have la : a < s1.heap.objs.size := p1.lt
  have lb : b < s1.heap.objs.size := by obtain ⟨_, z, _⟩ := tp; exact Heap.lt_size z
  refine zip_begins2 (begins_list a its.toArray) (begins_tuple b its2.toArray) p1.isList tp fun h' hz hTI hTO h1 h2 hsz hk => wpAny_pyIter_zip hz ?_
  have I2 : Inv X pins σ H1 { s1 with heap := h' } := I1.kept (t' := s1.toks) hk
  refine ⟨s1.heap.objs.size + 4, [s1.heap.objs.size + 4, s1.heap.objs.size + 2, s1.heap.objs.size + 3, s1.heap.objs.size, s1.heap.objs.size + 1], _, _, H1, rfl, I2, turn_zipM (sepM_of s1.heap.objs.size a b la lb), ⟨hz, hTI, ⟨_, _, hTO⟩, ⟨_, h1, rfl, rfl⟩, ⟨_, h2, rfl, rfl⟩⟩, fun c hc => ?_, q⟩
  have le : s1.heap.objs.size ≤ c := by
    simp only [List.mem_cons, List.not_mem_nil, or_false] at hc
    rcases hc with rfl | rfl | rfl | rfl | rfl
    · exact Nat.le_add_right _ _
    · exact Nat.le_add_right _ _
    · exact Nat.le_add_right _ _
    · exact Nat.le_refl _
    · exact Nat.le_add_right _ _
  exact I1.fpOk le (I1.hok.fresh le)
end L2

namespace Lm
open PySem PySem.Spec PyProof.Rows L2
open C8 (fnScope_by pe_gc pss_cut tCut Cal pe_c)
def rkGo (srt : Srt) (vars : Vars) : List PyData → List Str → List PyData → Option (List Str)
  | _, ks, [] => some ks
  | prev, ks, e :: r => match placeKind srt vars e with
    | none => none
    | some k => if (prev.any fun o => ovl (items e) (items o)) = true then none else rkGo srt vars (prev ++ [e]) (ks ++ [k]) r
def rowKinds (srt : Srt) (vars : Vars) (d : PyData) : Option (List Str) := if isRow d = true then rkGo srt vars [] [] (items d) else none
section
variable {P : Program} {w : World} {K : PySem.W.Frag} {mg : Str → Option Value} {base : Heap}
theorem place_fit {d : PyData} {srt : Srt} {vars : Vars} {k : Str} (h : placeKind srt vars d = some k) (f : fit d = true) : txts (items d) ∧ fitAll (items d) = true := by
  obtain ⟨ds, rfl, t⟩ := place_txts h
  exact ⟨t, fit_items f⟩
theorem enum_row {K : PySem.W.Frag} {H Hb : Hp} {σ : L2.St} {ta : TA} {R : It → Hp → Prop} {a : Addr} {xs : List V} (e : SqL K Hb a xs ∨ SqT K Hb a xs) (sm : Same Hb H) (ht : ∀ k : List V → Hp → Prop, k [.ref a] H → ta σ H k)
    (go : ∀ (J : It) (G : Hp → Prop), (∀ H', Same Hb H' → G H') → Walk J xs.length G (YPair (fun i => some (.int (i : Nat))) (fun i => xs[i]?)) → R J H) : iEnum K ta σ H R ∨ iEnumT K ta σ H R := by
  rcases e with e | e
  · exact .inl (ht _ ⟨a, xs, rfl, sm.seq e, go _ _ (fun H' s => s.seq e) walk_enum⟩)
  · exact .inr (ht _ ⟨a, xs, rfl, sqt_same sm e, go _ _ (fun H' s => sqt_same s e) walk_enumT⟩)
theorem cut_pre (xs : List V) (n : Nat) : cutV xs none (some (n : Int)) = xs.take n := by
  have e1 : HT.sIx xs.length 0 none = 0 := HT.sIx_none ..
  have e2 : HT.sIx xs.length xs.length (some (n : Int)) = min n xs.length := HT.sIx_nat ..
  unfold cutV
  rw [e1, e2, List.drop_zero, Nat.sub_zero]
  by_cases h : n ≤ xs.length
  · rw [Nat.min_eq_left h]
  · rw [Nat.min_eq_right (by omega), List.take_length, List.take_of_length_le (by omega)]
abbrev nsRK : List Str := ["sorts", "variables", "places", "kinds", "at", "place", "kind", "other"]
theorem scRK : FnScope nsRK ["sorts", "variables", "places"] (defScope sRowKinds) := fnScope_by (by decide +kernel)
/-- None, or a new list of kinds -/
def RkAt (H : Hp) (v : V) : Option (List Str) → Prop
  | none => v = .non
  | some ks => ∃ p, v = .ref p ∧ H p = some (.lst (ks.map V.str))
def spRK (K : PySem.W.Frag) : Sp := fun vs H Q _ => ∃ (a b : Addr) (v : V) (d : PyData) (srt : Srt) (vars : Vars), vs = [.ref a, .ref b, v] ∧ SrtAt K H a srt ∧ SrtOk srt ∧ VarAt H b vars ∧ Dx K H v d ∧ fit d = true ∧ ∀ u H', Same H H' → RkAt H' u (rowKinds srt vars d) → Q u H'
theorem kRK {f : Addr} {fd : FuncData} (F : Fun K "row_kinds" "row_kinds" sRowKinds f fd) (B : Bt mg) (c1 : Cal P w K mg base 1 "is_row" (spB1 K isRow) []) (c2 : Cal P w K mg base 3 "place_kind" (spPK K) []) (c3 : Cal P w K mg base 1 "overlap" (spOV K) []) : FnOk P w K mg base CX0 4 f fd ["sorts", "variables", "places"] (spRK K) := by
  refine F.ok scRK (fun vs H Q E h => ?_) (fun cdv A outer s H vs Q E hr h => ?_)
  · obtain ⟨a, b, v, d, srt, vars, rfl, _⟩ := h
    rfl
  obtain ⟨a, b, v, d, srt, vars, rfl, ha, hok, hb, hd, hf, q⟩ := h
  refine ⟨_, pss_cons (ps_if (pt_not (pt_val (pe_c c1 hr (by decide) (by rfl) (pa_cons (pv 2) pa_nil)))) (pss_one (ps_ret pe_non)) pss_nil)
    (pss_cons (ps_set (i := 3) scRK.nd rfl (.inl rfl) (pe_lst pa_nil))
    (pss_cons (ps_for PassesOwn.never rfl (pi_enumR (by rfl) B.enu (pa_cons (pv 2) pa_nil)) (pg_tupk K rfl (n := 2) rfl (pgs_cons (pg_name (i := 4) scRK.nd rfl (Or.inl rfl)) (pgs_cons (pg_name (i := 5) scRK.nd rfl (Or.inr rfl)) pgs_nil)))
      (pss_cons (ps_set (i := 6) scRK.nd rfl (.inl rfl) (pe_c c2 hr (by decide) (by rfl) (pa_cons (pv 0) (pa_cons (pv 1) (pa_cons (pv 5) pa_nil)))))
      (pss_cons (ps_if (PW.pt (pw_or (pt_cmpR op_isN (pv 6) pe_non (by rfl)) (pw_or1 (pt_val (pe_callB (cr_any rfl) (by rfl) B.any boot_any (pa_cons
        (pe_lc (own := [("other", 7)]) (tt := tYes) rfl scRK.nd (pi_row (pe_slice (sl_list.or sl_tupA) (pv 2) po_none (po_some (pv 4)))) (blkOk_by (N := nsRK) (sc := defScope sRowKinds) (by decide +kernel)) (fun _ _ _ _ _ => pg_name (i := 7) scRK.nd rfl (Or.inl rfl)) (fun _ _ _ _ _ => pts_nil)
          (fun _ _ _ _ _ => pe_c c3 hr (by decide) (by rfl) (pa_cons (pv 5) (pa_cons (pv 7) pa_nil)))) pa_nil)))))) (pss_one (ps_ret pe_non)) pss_nil)
      (pss_one (ps_expr (pe_bm PySem.F.plainAttrs_list PySem.F.slot_list_append PySem.F.type_list_append mt_append (pv 3) (pa_cons (pv 6) pa_nil)))))))
    (pss_one (ps_ret (pv 3))))), ?_⟩
  refine ⟨_, rfl, v, d, rfl, hd, hf, fun H1 s1 => ⟨_, rfl, ?_⟩⟩
  have bad : rowKinds srt vars d = none → ∀ H', Same H H' → Q .non H' := fun e H' s' => q .non H' s' (by rw [e]; rfl)
  cases hrow : isRow d with
  | false => exact iteT (bad (by unfold rowKinds; rw [hrow]; rfl) H1 s1)
  | true =>
    refine iteF ?_
    have e0 : rowKinds srt vars d = rkGo srt vars [] [] (items d) := by unfold rowKinds; rw [hrow]; rfl
    have hd1 := Dx.mono s1 hd
    obtain ⟨ar, xs, rfl, hs, hax⟩ := hd1.row hrow
    have hs' : SqL K H1 ar xs ∨ SqT K H1 ar xs := hs.imp (·.1) (·.1)
    have hl := hax.len
    have hl1 := fit_len hf
    refine ⟨Nat.zero_le _, fun p np => ?_⟩
    have s2 := same_upd (o := .lst []) np
    refine enum_row hs' s2 (fun kk hk => ⟨_, rfl, hk⟩) fun J G gs wk => for_it wk
      (fun i σ H' => ∃ (ks : List Str) (y4 y5 y6 : Option V), σ = [some (.ref a), some (.ref b), some (.ref ar), some (.ref p), y4, y5, y6, none] ∧ ks.length = i ∧ H' p = some (.lst (ks.map V.str)) ∧ Same H1 H' ∧ rkGo srt vars [] [] (items d) = rkGo srt vars ((items d).take i) ks ((items d).drop i) ∧ ∀ o ∈ (items d).take i, ∃ k, placeKind srt vars o = some k)
      ⟨[], none, none, none, rfl, rfl, upd_same, s2, rfl, fun o ho => by cases ho⟩ ?_ ?_ ?_
    · rintro i σ H' hi ⟨ks, y4, y5, y6, rfl, g1, g2, g3, g4, g5⟩
      exact gs _ g3
    · rintro i x σ H2 H3 hi ⟨ks, y4, y5, y6, rfl, g1, g2, g3, g4, g5⟩ ⟨T, ti, te, rfl, nT, rfl, ht, hx⟩
      cases ht
      have sT := same_upd (o := .tup [V.int (i : Nat), te]) nT
      obtain ⟨e, he, hde⟩ := hax.get hx
      have hfe : fit e = true := fitAll_at (fit_items hf) he
      have s3 := g3.trans sT
      have hdrop : (items d).drop i = e :: (items d).drop (i + 1) := List.drop_eq_getElem_cons (List.getElem?_eq_some_iff.mp he).1 |>.trans (by rw [(List.getElem?_eq_some_iff.mp he).2])
      have htake : (items d).take (i + 1) = (items d).take i ++ [e] := by rw [List.take_add_one, he]; rfl
      rw [hdrop] at g4
      have g4' : rkGo srt vars [] [] (items d) = (match placeKind srt vars e with
        | none => none
        | some k => if (((items d).take i).any fun o => ovl (items e) (items o)) = true then none else rkGo srt vars ((items d).take i ++ [e]) (ks ++ [k]) ((items d).drop (i + 1))) := g4
      refine ⟨T, _, rfl, .inl (.inl upd_same), rfl, _, _, rfl, _, _, rfl, rfl, ?_⟩
      refine ⟨_, rfl, _, rfl, _, rfl, a, b, te, e, srt, vars, rfl, ha.mono (s1.trans s3), hok, s3 _ _ (s1 _ _ hb), Dx.mono s3 hde, fun H4 s4 => ?_⟩
      refine ⟨_, rfl, rfl, _, rfl, ?_⟩
      cases hp : placeKind srt vars e with
      | none =>
        rw [hp] at g4'
        exact iteT (iteT (bad (by rw [e0, g4']) H4 (s1.trans (s3.trans s4))))
      | some k =>
        rw [hp] at g4'
        dsimp only at g4'
        refine iteF ?_
        have s34 := s3.trans s4
        have hd4 := Dx.mono s34 hd1
        obtain ⟨te1, te2⟩ := place_fit hp hfe
        obtain ⟨es, rfl, _⟩ := place_txts hp
        have hte4 : Dx K H4 te (.tuple es) := Dx.mono s34 hde
        have hp4 : H4 p = some (.lst (ks.map V.str)) := s4 _ _ (sT _ _ g2)
        have hzt : ((items d).take i).length ≤ 1000 := by rw [List.length_take]; omega
        -- behind the comprehension
        have fin : ∀ (D : Addr) (H' : Hp), Same H4 H' → H' D = some (.lst (((items d).take i).map fun o => V.bl (ovl es (items o)))) → ∃ bs : List Bool, SqL K H' D (bs.map V.bl) ∧ bs.any id = ((items d).take i).any fun o => ovl es (items o) := fun D H' s' hD =>
          ⟨((items d).take i).map fun o => ovl es (items o), .inl (.inl (by rw [hD, List.map_map]; rfl)), by rw [List.any_map]; rfl⟩
        have hel : ∀ (o : PyData) (j : Nat), ((items d).take i)[j]? = some o → ∃ os, o = .tuple os ∧ txts os ∧ fitAll os = true := fun o j ho => by
          have hm := List.mem_of_getElem? ho
          obtain ⟨k', hk'⟩ := g5 o hm
          have hfo : fit o = true := by
            obtain ⟨j2, hj2, e2⟩ := List.getElem_of_mem (List.mem_of_mem_take hm)
            exact fitAll_at (fit_items hf) (by rw [List.getElem?_eq_getElem hj2, e2])
          obtain ⟨os, rfl, t⟩ := place_txts hk'
          exact ⟨os, rfl, t, fit_items hfo⟩
        have last : ∀ H', Same H4 H' → ((((items d).take i).any fun o => ovl es (items o)) = false) → (H' p = some (.lst (ks.map V.str))) → ∃ (ks' : List Str), ks'.length = i + 1 ∧ ks'.map V.str = ks.map V.str ++ [V.str k] ∧ rkGo srt vars [] [] (items d) = rkGo srt vars ((items d).take (i + 1)) ks' ((items d).drop (i + 1)) ∧ ∀ o ∈ (items d).take (i + 1), ∃ k, placeKind srt vars o = some k := fun H' s' hany _ =>
          ⟨ks ++ [k], by rw [List.length_append, g1]; rfl, by rw [List.map_append]; rfl, by
            have z : (((items d).take i).any fun o => ovl (items (PyData.tuple es)) (items o)) = false := hany
            rw [z, if_neg Bool.false_ne_true] at g4'
            rw [htake]
            exact g4', fun o ho => by
            rw [htake] at ho
            rcases List.mem_append.mp ho with ho | ho
            · exact g5 o ho
            · rw [List.mem_singleton.mp ho]
              exact ⟨k, hp⟩⟩
        have pn1 : H1 p = none := np
        rcases hs with ⟨hsl, _⟩ | ⟨hst, ds', rfl⟩
        · refine .inl ⟨_, rfl, _, rfl, _, rfl, .inl ⟨ar, xs, rfl, s34.seq hsl, fun p2 np2 => ⟨p2, rfl, ⟨_, .inl (.inl upd_same)⟩, fun D nD => ?_⟩⟩⟩
          have s5 := same_upd (o := .lst (cutV xs none (some (i : Int)))) np2
          have hcut : DxAll K (upd H4 p2 (.lst (cutV xs none (some (i : Int))))) (cutV xs none (some (i : Int))) ((items d).take i) := by
            have s5' := s5
            rw [cut_pre] at s5' ⊢
            exact DxAll.take (hax.mono (s34.trans s5'))
          refine lc_row (K := K) (walk_list (K := K) (a := p2) (xs := cutV xs none (some (i : Int)))) (fun H' s' => s'.seq (.inl (.inl upd_same))) nD (fun o => V.bl (ovl es (items o))) hcut rfl hzt (fun j y o H6 Z Zf ho hy s6 hZ => ?_) fun H' s' hD => ?_
          · obtain ⟨os, rfl, t1, t2⟩ := hel o j ho
            exact ⟨rfl, tyes ⟨_, rfl, _, rfl, te, y, es, os, rfl, Dx.mono (s5.trans s6) hte4, hy, te1, t1, te2, t2, hZ⟩⟩
          · obtain ⟨bs, b1, b2⟩ := fin D H' (s5.trans s') hD
            refine ⟨D, bs, rfl, b1, _, rfl, ?_⟩
            rw [b2]
            have s45 := s5.trans s'
            cases hany : ((items d).take i).any fun o => ovl es (items o) with
            | true =>
              have z : (((items d).take i).any fun o => ovl (items (PyData.tuple es)) (items o)) = true := hany
              rw [z, if_pos rfl] at g4'
              exact iteT (bad (by rw [e0, g4']) H' (s1.trans (s34.trans s45)))
            | false =>
              refine iteF ?_
              obtain ⟨ks', l1, l2, l3, l4⟩ := last H' s45 hany (s45 _ _ hp4)
              exact ⟨_, rfl, .inl ⟨rfl, _, .inl (.inl (s45 _ _ hp4))⟩, _, rfl, p, _, _, rfl, rfl, s45 _ _ hp4, small1000 (by rw [List.length_map]; omega), ks', _, _, _, rfl, l1, (by rw [upd_same, l2]; rfl), fun b o eb => by rw [upd_ne (ne_of_none eb pn1)]; exact s45 _ _ (s34 _ _ eb), l3, l4⟩
        · obtain ⟨ar', xs', er, hta, hta2⟩ := Dx.tupAt hd4
          cases er
          have hxx : DxAll K H4 xs' (items (.tuple ds')) := hta2
          refine .inr ⟨_, rfl, _, rfl, _, rfl, .inr (sl_pre hta hta2 fun v2 H5 s5 hv2 => ?_)⟩
          obtain ⟨p2, ys, rfl, hys, hcut⟩ := hv2.tupAt
          refine ⟨p2, rfl, ⟨ys, .inl (.inl hys)⟩, fun D nD => ?_⟩
          refine lc_row (K := K) (walk_tup (K := K) (a := p2) (xs := ys)) (fun H' s' => .inl (.inl (s' _ _ hys))) nD (fun o => V.bl (ovl es (items o))) hcut rfl hzt (fun j y o H6 Z Zf ho hy s6 hZ => ?_) fun H' s' hD => ?_
          · obtain ⟨os, rfl, t1, t2⟩ := hel o j ho
            exact ⟨rfl, tyes ⟨_, rfl, _, rfl, te, y, es, os, rfl, Dx.mono (s5.trans s6) hte4, hy, te1, t1, te2, t2, hZ⟩⟩
          · obtain ⟨bs, b1, b2⟩ := fin D H' (s5.trans s') hD
            refine ⟨D, bs, rfl, b1, _, rfl, ?_⟩
            rw [b2]
            have s45 := s5.trans s'
            cases hany : ((items (PyData.tuple ds')).take i).any fun o => ovl es (items o) with
            | true =>
              have z : (((items (PyData.tuple ds')).take i).any fun o => ovl (items (PyData.tuple es)) (items o)) = true := hany
              rw [z, if_pos rfl] at g4'
              exact iteT (bad (by rw [e0, g4']) H' (s1.trans (s34.trans s45)))
            | false =>
              refine iteF ?_
              obtain ⟨ks', l1, l2, l3, l4⟩ := last H' s45 hany (s45 _ _ hp4)
              exact ⟨_, rfl, .inl ⟨rfl, _, .inl (.inl (s45 _ _ hp4))⟩, _, rfl, p, _, _, rfl, rfl, s45 _ _ hp4, small1000 (by rw [List.length_map]; omega), ks', _, _, _, rfl, l1, (by rw [upd_same, l2]; rfl), fun b o eb => by rw [upd_ne (ne_of_none eb pn1)]; exact s45 _ _ (s34 _ _ eb), l3, l4⟩
    · rintro σ H' ⟨ks, y4, y5, y6, rfl, g1, g2, g3, g4, g5⟩
      rw [hl, List.drop_length] at g4
      have g4' : rkGo srt vars [] [] (items d) = some ks := g4
      exact ⟨_, rfl, q _ H' (s1.trans g3) (by rw [e0, g4']; exact ⟨p, rfl, g2⟩)⟩
end
end Lm

namespace Lm
open PySem PySem.Spec PyProof.Rows L2
open C8 (fnScope_by pe_gc pss_cut tCut Cal pe_c)
/-! ### arms_fit -/
def armsGo : List PyData → List PyData → Bool
  | e :: r, q :: s => isTupN e 2 && (decide (isNoneD (at0 e) = isNoneD (at1 q)) && armsGo r s)
  | _, _ => true
def armsFit (srt : Srt) (vars : Vars) (place arms : PyData) : Bool :=
  match placeKind srt vars place with
  | none => false
  | some k => match srt.lookup k with
    | none => false
    | some (_, p) => isRow arms && (decide ((items arms).length = (items p).length) && armsGo (items arms) (items p))
def SrtTup (srt : Srt) : Prop := ∀ s ∈ srt, isTup s.2.2 = true
section
variable {P : Program} {w : World} {K : PySem.W.Frag} {mg : Str → Option Value} {base : Heap} {C : Addr}
theorem walk_zipTT {a b : Addr} {xs ys : List V} {n : Nat} (hn : n = min xs.length ys.length) : Walk (RZ.ItzT K a b) n (fun H => SqT K H a xs ∧ SqT K H b ys) (YPair (fun i => xs[i]?) (fun i => ys[i]?)) := by
  subst hn
  refine ⟨fun i _ hi q => ?_, fun _ q => ⟨xs, ys, q.1, q.2, by omega⟩, fun i H v H' hi q y => ?_⟩
  · have h1 : i < xs.length := by omega
    have h2 : i < ys.length := by omega
    exact ⟨xs, ys, _, _, q.1, q.2, List.getElem?_eq_getElem h1, List.getElem?_eq_getElem h2⟩
  · obtain ⟨T, x, y, rfl, h2, h3, h4, h5⟩ := y
    exact ⟨T, x, y, rfl, h2, h3, h4 xs q.1, h5 ys q.2⟩
theorem zip_row {H Hb : Hp} {σ : L2.St} {ta : TA} {R : It → Hp → Prop} {a b : Addr} {xs ys : List V} (e : SqL K Hb a xs ∨ SqT K Hb a xs) (e2 : SqT K Hb b ys) (sm : Same Hb H) (ht : ∀ k : List V → Hp → Prop, k [.ref a, .ref b] H → ta σ H k)
    (go : ∀ (J : It) (G : Hp → Prop), (∀ H', Same Hb H' → G H') → Walk J (min xs.length ys.length) G (YPair (fun i => xs[i]?) (fun i => ys[i]?)) → R J H) : iZipM K ta σ H R ∨ RZ.iZipA K ta σ H R := by
  rcases e with e | e
  · exact .inl (ht _ ⟨a, b, xs, ys, rfl, sm.seq e, sqt_same sm e2, go _ _ (fun H' s => ⟨s.seq e, sqt_same s e2⟩) (walk_zipM rfl)⟩)
  · exact .inr (ht _ ⟨a, b, xs, ys, rfl, .inr ⟨sqt_same sm e, sqt_same sm e2, go _ _ (fun H' s => ⟨sqt_same s e, sqt_same s e2⟩) (walk_zipTT rfl)⟩⟩)
theorem names_data {H : Hp} : ∀ {ps : List PyData}, (∀ e ∈ ps, ∃ n d, e = PyData.tuple [.str n, d]) → fitAll ps = true → DxAll K H (ps.map fun c => V.str (strOf (at0 c))) (ps.map at0) ∧ txts (ps.map at0) ∧ fitAll (ps.map at0) = true
  | [], _, _ => ⟨.nil, (fun e he => by cases he), rfl⟩
  | e :: r, h, f => by
    have f' : (fit e && fitAll r) = true := f
    rw [Bool.and_eq_true] at f'
    obtain ⟨n, d, rfl⟩ := h e (List.mem_cons_self ..)
    obtain ⟨i1, i2, i3⟩ := names_data (H := H) (fun x hx => h x (List.mem_cons_of_mem _ hx)) f'.2
    have f0 : fit (.str n) = true := fitAll_at (i := 0) (fit_items f'.1) rfl
    refine ⟨.cons (.str n) i1, fun x hx => ?_, ?_⟩
    · rcases List.mem_cons.mp hx with rfl | hx
      · rfl
      · exact i2 x hx
    · show (fit (.str n) && fitAll (r.map at0)) = true
      rw [f0, i3]
      rfl
def spArms (K : PySem.W.Frag) (C : Addr) : Sp := fun vs H Q _ => ∃ (a b : Addr) (v : V) (x d1 d2 : PyData) (st : Fc) (vars : Vars), vs = [.ref a, v, .ref b] ∧ FcAt K C H a st ∧ SrtTup st.srt ∧ VarAt H b vars ∧ Dx K H v (.tuple [x, d1, d2]) ∧ fit d2 = true ∧
  (∃ k z p, placeKind st.srt vars d1 = some k ∧ st.srt.lookup k = some (z, p)) ∧ ∀ H', Same H H' → Q (.bl (armsFit st.srt vars d1 d2)) H'
abbrev nsAF : List Str := ["self", "statement", "variables", "_", "place", "arms", "parts", "arm", "kind", "names", "case"]
theorem scAF : FnScope nsAF ["self", "statement", "variables"] (defScope mArmsFit) := fnScope_by (by decide +kernel)
theorem kArms {f : Addr} {fd : FuncData} (F : Fun K "arms_fit" "FunctionCheck.arms_fit" mArmsFit f fd) (B : Bt mg) (k : FcC K C) (c1 : Cal P w K mg base 1 "is_row" (spB1 K isRow) []) (c2 : Cal P w K mg base 1 "is_tuple" (spTupN K) []) (c3 : Cal P w K mg base 3 "place_kind" (spPK K) []) : FnOk P w K mg base CX0 4 f fd ["self", "statement", "variables"] (spArms K C) := by
  refine F.ok scAF (fun vs H Q E h => ?_) (fun cdv A outer s H vs Q E hr h => ?_)
  · obtain ⟨a, b, v, x, d1, d2, st, vars, rfl, _⟩ := h
    rfl
  obtain ⟨a, b, v, x, d1, d2, st, vars, rfl, hf, htu, hb, hd, f2, ⟨kk, z, p, hpk, hlk⟩, q⟩ := h
  have hu := hu_of hr
  refine ⟨_, pss_cons (ps_asg (pv 1) (pg_tupk K rfl (n := 3) rfl (pgs_cons (pg_name (i := 3) scAF.nd rfl (Or.inl rfl)) (pgs_cons (pg_name (i := 4) scAF.nd rfl (Or.inl rfl)) (pgs_cons (pg_name (i := 5) scAF.nd rfl (Or.inl rfl)) pgs_nil)))))
    (pss_cons (ps_set (i := 6) scAF.nd rfl (.inl rfl) (pe_ix ix_tup (pe_dget hu (pe_fld (pv 0) rfl) (pe_c c3 hr (by decide) (by rfl) (pa_cons (pe_fld (pv 0) rfl) (pa_cons (pv 2) (pa_cons (pv 4) pa_nil)))) (fun _ _ => rfl)) pe_int (fun _ _ => rfl)))
    (pss_cons (ps_if (PW.pt (pw_or (pt_not (pt_val (pe_c c1 hr (by decide) (by rfl) (pa_cons (pv 5) pa_nil)))) (pw_or1 (pt_cmpR op_ne (pe_callB call_len_seq (by rfl) B.len boot_len (pa_cons (pv 5) pa_nil)) (pe_callB call_len_seq (by rfl) B.len boot_len (pa_cons (pv 6) pa_nil)) (by rfl))))) (pss_one (ps_ret pe_bl)) pss_nil)
    (pss_cons (ps_for PassesOwn.never rfl (pi_or (pi_zipM (by rfl) B.zip (pa_cons (pv 5) (pa_cons (pv 6) pa_nil))) (RZ.pi_zipA (by rfl) B.zip (pa_cons (pv 5) (pa_cons (pv 6) pa_nil)))) (pg_tupk K rfl (n := 2) rfl (pgs_cons (pg_name (i := 7) scAF.nd rfl (Or.inl rfl)) (pgs_cons (pg_tupk K rfl (n := 2) rfl (pgs_cons (pg_name (i := 3) scAF.nd rfl (Or.inl rfl)) (pgs_cons (pg_name (i := 8) scAF.nd rfl (Or.inl rfl)) pgs_nil))) pgs_nil)))
      (pss_one (ps_if (PW.pt (pw_or (pt_not (pt_val (pe_c c2 hr (by decide) (by rfl) (pa_cons (pv 7) (pa_cons pe_int pa_nil))))) (pw_or1 (pt_cmpR op_ne (pe_cmpR op_isN (pe_ix ix_tup (pv 7) pe_int (fun _ _ => rfl)) pe_non (by rfl)) (pe_cmpR op_isN (pv 8) pe_non (by rfl)) (by rfl))))) (pss_one (ps_ret pe_bl)) pss_nil)))
    (pss_cons (ps_setLc (i := 9) (own := [("case", 10), ("_", 3)]) (tt := tYes) rfl scAF.nd rfl (by rfl) (sw_true rfl (by rfl) (by rfl) (by rfl)) (pi_row (pv 6)) (blkOk_by (N := nsAF) (sc := defScope mArmsFit) (by decide +kernel)) (fun _ _ _ _ _ => pg_tupk K rfl (n := 2) rfl (pgs_cons (pg_name (i := 10) scAF.nd rfl (Or.inl rfl)) (pgs_cons (pg_name (i := 3) scAF.nd rfl (Or.inl rfl)) pgs_nil)))
      (fun _ _ _ _ _ => pts_nil) (fun _ _ _ _ _ => pv 10))
    (pss_one (ps_ret (pe_cmpR (op_eqD hr.units) (pe_dget2 hu (pe_fld (pv 0) rfl) (pe_fld (pv 0) rfl) (pv 9) ⟨rfl, rfl, rfl, rfl⟩) (pv 9) (by rfl)))))))), ?_⟩
  obtain ⟨av, v0, v1, v2, rfl, hav, hv0, hv1, hv2⟩ := trip_at hd
  have hfc := hf
  obtain ⟨dx, sa, ha, wa, ca, da, h1, h2⟩ := hfc
  refine ⟨_, rfl, av, _, rfl, .inl (.inl hav), rfl, _, _, rfl, _, _, rfl, _, _, rfl, rfl, ?_⟩
  refine ⟨_, rfl, a, C, dx, _, _, rfl, h1, k.cl, k.sorts, by rfl, _, rfl, a, C, dx, _, _, rfl, h1, k.cl, k.sorts, by rfl, _, rfl, _, rfl, sa, b, v1, d1, st.srt, vars, rfl, h2.srt, h2.ok, hb, hv1, fun H1 s1 => ?_⟩
  rw [hpk]
  obtain ⟨t, vp, gg, hgt, hvp⟩ := srt_get (h2.srt.mono s1) hlk
  refine ⟨sa, _, rfl, gg, t, _, 1, _, rfl, rfl, .inl (.inl hgt), atI_nat (j := 1) rfl, ?_⟩
  have htp : isTup p = true := htu _ (lookup_mem hlk)
  obtain ⟨hprow, hpfit, hpp⟩ := h2.ok _ (lookup_mem hlk)
  have hpfit : fit p = true := hpfit
  obtain ⟨ps, rfl⟩ : ∃ ps, p = .tuple ps := by
    cases p with
    | tuple ps => exact ⟨ps, rfl⟩
    | _ => cases htp
  have hpp : ∀ e ∈ ps, ∃ n d, e = .tuple [.str n, d] ∧ noneStr d ∧ (z ≠ "choice" → isStr d = true) := hpp
  have eA : armsFit st.srt vars d1 d2 = (isRow d2 && (decide ((items d2).length = ps.length) && armsGo (items d2) ps)) := by
    unfold armsFit
    rw [hpk]
    dsimp only
    rw [hlk]
    rfl
  have bad : armsFit st.srt vars d1 d2 = false → ∀ H', Same H H' → Q (.bl false) H' := fun e H' s' => by
    have zz := q H' s'
    rw [e] at zz
    exact zz
  refine ⟨_, rfl, v2, d2, rfl, Dx.mono s1 hv2, f2, fun H2 s2 => ⟨_, rfl, ?_⟩⟩
  have s12 := s1.trans s2
  cases hrow : isRow d2 with
  | false => exact iteT (iteT (bad (by rw [eA, hrow]; rfl) H2 s12))
  | true =>
    refine iteF ?_
    rw [hrow, Bool.true_and] at eA
    obtain ⟨ar, xs, rfl, hs, hax⟩ := (Dx.mono s12 hv2).row hrow
    have hs' : SqL K H2 ar xs ∨ SqT K H2 ar xs := hs.imp (·.1) (·.1)
    obtain ⟨ap, ys, rfl, hap, hay⟩ := (Dx.mono s2 hvp).tupAt
    have hsy : SqT K H2 ap ys := .inl (.inl hap)
    have lx := hax.len
    have ly := hay.len
    refine ⟨_, rfl, ar, xs, rfl, hs', _, rfl, ap, ys, rfl, .inr hsy, rfl, _, rfl, ?_⟩
    have el : (!decide (V.int ((xs.length : Nat) : Int) = V.int ((ys.length : Nat) : Int))) = !decide ((items d2).length = ps.length) := by
      rw [lx, ly]
      exact congrArg (!·) (decide_eq_decide.mpr ⟨fun h => by have := V.int.inj h; omega, fun h => by rw [h]⟩)
    rw [el]
    by_cases hlen : (items d2).length = ps.length
    · rw [decide_eq_true hlen]
      rw [decide_eq_true hlen, Bool.true_and] at eA
      refine iteF ?_
      have hmin : min xs.length ys.length = (items d2).length := by omega
      refine zip_row hs' hsy (Same.refl H2) (fun kk hk => ⟨_, rfl, _, rfl, hk⟩) fun J G gs wk => for_it wk
        (fun i σ H' => ∃ (y3 y7 y8 : Option V), σ = [some (.ref a), some (.ref av), some (.ref b), y3, some v1, some (.ref ar), some (.ref ap), y7, y8, none, none] ∧ Same H2 H' ∧ armsGo (items d2) ps = armsGo ((items d2).drop i) (ps.drop i)) ⟨_, none, none, rfl, Same.refl H2, rfl⟩ ?_ ?_ ?_
      · rintro i σ H' hi ⟨y3, y7, y8, rfl, g1, g2⟩
        exact gs _ g1
      · rintro i x σ H3 H4 hi ⟨y3, y7, y8, rfl, g1, g2⟩ ⟨T, tx, ty, rfl, nT, rfl, hx, hy⟩
        have sT := same_upd (o := .tup [tx, ty]) nT
        obtain ⟨e, he, hde⟩ := hax.get hx
        obtain ⟨c, hc, hdc⟩ := hay.get hy
        obtain ⟨n, dk, rfl, hnk, _⟩ := hpp c (List.mem_of_getElem? hc)
        have s4 := g1.trans sT
        obtain ⟨aq, w0, w1, rfl, haq, hw0, hw1⟩ := pair_at (Dx.mono s4 hdc)
        have hd4 := Dx.mono s4 hde
        have hdrop : (items d2).drop i = e :: (items d2).drop (i + 1) := List.drop_eq_getElem_cons (List.getElem?_eq_some_iff.mp he).1 |>.trans (by rw [(List.getElem?_eq_some_iff.mp he).2])
        have hdrop2 : ps.drop i = .tuple [.str n, dk] :: ps.drop (i + 1) := List.drop_eq_getElem_cons (List.getElem?_eq_some_iff.mp hc).1 |>.trans (by rw [(List.getElem?_eq_some_iff.mp hc).2])
        rw [hdrop, hdrop2] at g2
        have g2' : armsGo (items d2) ps = (isTupN e 2 && (decide (isNoneD (at0 e) = isNoneD dk) && armsGo ((items d2).drop (i + 1)) (ps.drop (i + 1)))) := g2
        refine ⟨T, _, rfl, .inl (.inl upd_same), rfl, _, _, rfl, _, _, rfl, ⟨aq, _, rfl, .inl (.inl haq), rfl, _, _, rfl, _, _, rfl, rfl, rfl, ?_⟩⟩
        refine ⟨_, rfl, tx, e, 2, rfl, hd4, _, rfl, ?_⟩
        cases ht2 : isTupN e 2 with
        | false =>
          rw [ht2, Bool.false_and] at g2'
          exact iteT (iteT (bad (by rw [eA, g2']) _ (s12.trans s4)))
        | true =>
          refine iteF ?_
          rw [ht2, Bool.true_and] at g2'
          obtain ⟨e0, e1, rfl⟩ := pair_of ht2
          obtain ⟨ae, u0, u1, rfl, hae, hu0, _⟩ := pair_at hd4
          refine ⟨_, rfl, ae, _, 0, _, rfl, rfl, .inl (.inl hae), atI_nat (j := 0) rfl, rfl, _, rfl, rfl, rfl, _, rfl, ?_⟩
          rw [dx_isNone hu0, dx_isNone hw1]
          have eb : (!decide (V.bl (isNoneD e0) = V.bl (isNoneD dk))) = !decide (isNoneD e0 = isNoneD dk) := congrArg (!·) (decide_eq_decide.mpr ⟨fun h => V.bl.inj h, fun h => congrArg V.bl h⟩)
          rw [eb]
          have g3 : armsGo (items d2) ps = (decide (isNoneD e0 = isNoneD dk) && armsGo ((items d2).drop (i + 1)) (ps.drop (i + 1))) := g2'
          cases hq : decide (isNoneD e0 = isNoneD dk) with
          | false =>
            rw [hq, Bool.false_and] at g3
            exact iteT (bad (by rw [eA, g3]) _ (s12.trans s4))
          | true =>
            rw [hq, Bool.true_and] at g3
            exact iteF ⟨_, _, _, rfl, s4, g3⟩
      · rintro σ H' ⟨y3, y7, y8, rfl, g1, g2⟩
        have g3 : armsGo (items d2) ps = true := by
          rw [hmin, List.drop_length, hlen, List.drop_length] at g2
          exact g2
        rw [g3] at eA
        have s2' := s12.trans g1
        have hsy' : SqT K H' ap ys := sqt_same g1 hsy
        obtain ⟨n1, n2, n3⟩ := names_data (K := K) (H := H') (ps := ps) (fun e he => by obtain ⟨n, d, e1, _⟩ := hpp e he; exact ⟨n, d, e1⟩) (fit_items hpfit)
        refine for_row (a := ap) (xs := ys) (.inr hsy') (Same.refl H') (fun kk hk => ⟨_, rfl, hk⟩) fun J G gs wk D nD => lc_row wk gs nD (fun c => V.str (strOf (at0 c))) (hay.mono g1) rfl (fit_len hpfit) (fun i x e H5 Z Zf he hx s5 hZ => ?_) fun H5 s5 hD => ?_
        · obtain ⟨n, dk, rfl, _⟩ := hpp e (List.mem_of_getElem? he)
          obtain ⟨aq, w0, w1, rfl, haq, hw0, _⟩ := pair_at hx
          obtain rfl := hw0.strOf
          exact ⟨aq, _, rfl, .inl (.inl haq), rfl, _, _, rfl, _, _, rfl, rfl, rfl, tyes ⟨_, rfl, hZ H5 (Same.refl H5)⟩⟩
        · have sH5 := s2'.trans s5
          have h15 := sH5 _ _ h1
          have hca := sH5 _ _ h2.cases
          have zz := q H5 sH5
          rw [eA] at zz
          have hlay : PyData.canLayAll0 (ps.map at0) = true := txts_lay n2 n3
          have hDp : Dp K H5 (.ref D) (.list (ps.map at0)) := Dx.dp (.lst hD (n1.mono s5)) hlay
          have hsh : SeqAt.shaped (.list (ps.map at0)) = true := by
            unfold SeqAt.shaped
            rw [Bool.and_eq_true]
            refine ⟨hlay, decide_eq_true ?_⟩
            have := txts_depth n2
            simp only [PyData.depth]
            omega
          have he : PyData.eqv (.list (ps.map at0)) (.list (ps.map at0)) = true := SeqAt.eqv_refl _ hlay
          refine ⟨_, rfl, a, C, dx, _, _, rfl, h15, k.cl, k.cases, by rfl, ca, rfl, .inl ⟨[], .inl hca⟩, _, rfl, a, C, dx, _, _, rfl, h15, k.cl, k.passed, by rfl, _, rfl, _, DGet.k (k := Sum.inl ((st.passed : Nat) : Int)) hca, _, rfl, .list (ps.map at0), .list (ps.map at0), hDp, hDp, hsh, hsh, ?_⟩
          rw [he]
          exact zz
    · rw [decide_eq_false hlen]
      exact iteT (bad (by rw [eA, decide_eq_false hlen]; rfl) H2 s12)
end
end Lm

namespace Lm
open PySem PySem.Spec PyProof.Rows L2
open C8 (fnScope_by pe_gc pss_cut tCut Cal pe_c)
def askFits (srt : Srt) (vars : Vars) (d2 d3 : PyData) : Bool :=
  match rowKinds srt vars d2 with
  | none => false
  | some ks => decide (ks.length ≤ 4) && (isNoneD d3 || (placeKind srt vars d3).isSome)
section
variable {P : Program} {w : World} {K : PySem.W.Frag} {mg : Str → Option Value} {base : Heap} {C : Addr}
theorem quad_at {H : Hp} {v : V} {d0 d1 d2 d3 : PyData} (h : Dx K H v (.tuple [d0, d1, d2, d3])) : ∃ a v0 v1 v2 v3, v = .ref a ∧ H a = some (.tup [v0, v1, v2, v3]) ∧ Dx K H v0 d0 ∧ Dx K H v1 d1 ∧ Dx K H v2 d2 ∧ Dx K H v3 d3 := by
  obtain ⟨a, xs, rfl, hs, ha⟩ := h.tupAt
  match xs, ha with
  | [v0, v1, v2, v3], .cons h0 (.cons h1 (.cons h2 (.cons h3 .nil))) => exact ⟨a, v0, v1, v2, v3, rfl, hs, h0, h1, h2, h3⟩
theorem rk_len {srt : Srt} {vars : Vars} : ∀ (ds prev : List PyData) (ks ks' : List Str), rkGo srt vars prev ks ds = some ks' → ks'.length = ks.length + ds.length
  | [], _, ks, ks', h => by
    cases h
    rfl
  | e :: r, prev, ks, ks', h => by
    unfold rkGo at h
    split at h
    · cases h
    · split at h
      · cases h
      · have z := rk_len r _ _ _ h
        simp only [z, List.length_append, List.length_cons, List.length_nil]
        omega
def spAsk (K : PySem.W.Frag) (C : Addr) (g : Fc → Vars → PyData → Bool) : Sp := fun vs H Q _ => ∃ (a b : Addr) (v : V) (d0 d1 d2 d3 : PyData) (st : Fc) (vars : Vars), vs = [.ref a, v, .ref b] ∧ FcAt K C H a st ∧ VarAt H b vars ∧ Dx K H v (.tuple [d0, d1, d2, d3]) ∧ fit (.tuple [d0, d1, d2, d3]) = true ∧
  ∀ H', Same H H' → Q (.bl (g st vars (.tuple [d0, d1, d2, d3]))) H'
abbrev nsAK : List Str := ["self", "statement", "variables", "_", "places", "target", "kinds"]
theorem scAK : FnScope nsAK ["self", "statement", "variables"] (defScope mAskFits) := fnScope_by (by decide +kernel)
theorem kAsk {f : Addr} {fd : FuncData} (F : Fun K "ask_fits" "FunctionCheck.ask_fits" mAskFits f fd) (B : Bt mg) (M4 : ∃ u, mg "MOST_ASKED" = some u ∧ RelV (.int 4) u) (k : FcC K C) (c1 : Cal P w K mg base 4 "row_kinds" (spRK K) []) (c2 : Cal P w K mg base 3 "place_kind" (spPK K) []) :
    FnOk P w K mg base CX0 5 f fd ["self", "statement", "variables"] (spAsk K C fun st vars d => askFits st.srt vars (at2 d) (at3 d)) := by
  refine F.ok scAK (fun vs H Q E h => ?_) (fun cdv A outer s H vs Q E hr h => ?_)
  · obtain ⟨a, b, v, d0, d1, d2, d3, st, vars, rfl, _⟩ := h
    rfl
  obtain ⟨a, b, v, d0, d1, d2, d3, st, vars, rfl, hf, hb, hd, ht, q⟩ := h
  refine ⟨_, pss_cons (ps_asg (pv 1) (pg_tupk K rfl (n := 4) rfl (pgs_cons (pg_name (i := 3) scAK.nd rfl (Or.inl rfl)) (pgs_cons (pg_name (i := 3) scAK.nd rfl (Or.inl rfl)) (pgs_cons (pg_name (i := 4) scAK.nd rfl (Or.inl rfl)) (pgs_cons (pg_name (i := 5) scAK.nd rfl (Or.inl rfl)) pgs_nil))))))
    (pss_cons (ps_set (i := 6) scAK.nd rfl (.inl rfl) (pe_c c1 hr (by decide) (by rfl) (pa_cons (pe_fld (pv 0) rfl) (pa_cons (pv 2) (pa_cons (pv 4) pa_nil)))))
    (pss_cons (ps_if (PW.pt (pw_or (pt_cmpR op_isN (pv 6) pe_non (by rfl)) (pw_or1 (pt_cmpR op_gt (pe_callB call_len_seq (by rfl) B.len boot_len (pa_cons (pv 6) pa_nil)) (pe_gc (by rfl) M4) (by rfl))))) (pss_one (ps_ret pe_bl)) pss_nil)
    (pss_one (ps_ret (pe_or (pe_cmpR op_isN (pv 5) pe_non (by rfl)) (pe_one (pe_cmp (pc_notN (pe_c c2 hr (by decide) (by rfl) (pa_cons (pe_fld (pv 0) rfl) (pa_cons (pv 2) (pa_cons (pv 5) pa_nil))))) (by rfl)))))))), ?_⟩
  obtain ⟨av, v0, v1, v2, v3, rfl, hav, _, _, hv2, hv3⟩ := quad_at hd
  have hfc := hf
  obtain ⟨dx, sa, ha, wa, ca, da, h1, h2⟩ := hfc
  have f2 : fit d2 = true := fitAll_at (i := 2) (fit_items ht) rfl
  have q : ∀ H', Same H H' → Q (.bl (askFits st.srt vars d2 d3)) H' := q
  refine ⟨_, rfl, av, _, rfl, .inl (.inl hav), rfl, _, _, rfl, _, _, rfl, _, _, rfl, _, _, rfl, rfl, ?_⟩
  refine ⟨_, rfl, a, C, dx, _, _, rfl, h1, k.cl, k.sorts, by rfl, _, rfl, _, rfl, sa, b, v2, d2, st.srt, vars, rfl, h2.srt, h2.ok, hb, hv2, f2, fun u H1 s1 hu => ?_⟩
  refine ⟨_, rfl, rfl, _, rfl, ?_⟩
  cases hk : rowKinds st.srt vars d2 with
  | none =>
    rw [hk] at hu
    have hu : u = .non := hu
    subst hu
    have zz := q H1 s1
    have e : askFits st.srt vars d2 d3 = false := by unfold askFits; rw [hk]
    rw [e] at zz
    exact iteT (iteT zz)
  | some ks =>
    rw [hk] at hu
    obtain ⟨p, rfl, hp⟩ := hu
    refine iteF ?_
    have eA : askFits st.srt vars d2 d3 = (decide (ks.length ≤ 4) && (isNoneD d3 || (placeKind st.srt vars d3).isSome)) := by unfold askFits; rw [hk]
    refine ⟨_, rfl, p, _, rfl, .inl (.inl (.inl hp)), _, _, rfl, rfl, _, rfl, ?_⟩
    show (if decide ((((ks.map V.str).length : Nat) : Int) > 4) = true then _ else _)
    rw [List.length_map]
    by_cases hl : ks.length ≤ 4
    · rw [decide_eq_false (by omega)]
      rw [decide_eq_true hl, Bool.true_and] at eA
      refine iteF ⟨_, rfl, rfl, _, rfl, ?_⟩
      rw [dx_isNone hv3]
      cases hn : isNoneD d3 with
      | true =>
        have zz := q H1 s1
        rw [eA, hn] at zz
        exact iteT zz
      | false =>
        rw [hn, Bool.false_or] at eA
        refine iteF ⟨_, rfl, a, C, dx, _, _, rfl, s1 _ _ h1, k.cl, k.sorts, by rfl, _, rfl, _, rfl, sa, b, v3, d3, st.srt, vars, rfl, h2.srt.mono s1, h2.ok, s1 _ _ hb, Dx.mono s1 hv3, fun H2 s2 => ?_⟩
        have zz := q H2 (s1.trans s2)
        rw [eA] at zz
        cases hpk : placeKind st.srt vars d3 with
        | none => rw [hpk] at zz; exact zz
        | some kk => rw [hpk] at zz; exact zz
    · rw [decide_eq_true (by omega)]
      have zz := q H1 s1
      rw [eA, decide_eq_false hl] at zz
      exact iteT zz
end
end Lm

namespace Lm
open PySem PySem.Spec PyProof.Rows L2
open C8 (fnScope_by pe_gc pss_cut tCut Cal pe_c)
/-! ### kinds are texts that fit -/
def VarsOk (vs : Vars) : Prop := ∀ p ∈ vs, fit (.str p.2) = true
theorem part_mem : ∀ {ps : List PyData} {y k : Str}, partOf y ps = some k → ∃ e ∈ ps, k = strOf (at1 e)
  | [], _, _, h => by cases h
  | e :: r, y, k, h => by
    unfold partOf at h
    split at h
    · cases h
      exact ⟨e, List.mem_cons_self .., rfl⟩
    · obtain ⟨e', h1, h2⟩ := part_mem h
      exact ⟨e', List.mem_cons_of_mem _ h1, h2⟩
theorem fitAll_mem : ∀ {ds : List PyData} {e : PyData}, fitAll ds = true → e ∈ ds → fit e = true
  | [], _, _, h => by cases h
  | x :: r, e, f, h => by
    have f' : (fit x && fitAll r) = true := f
    rw [Bool.and_eq_true] at f'
    rcases List.mem_cons.mp h with rfl | h
    · exact f'.1
    · exact fitAll_mem f'.2 h
theorem field_fit {srt : Srt} (ok : SrtOk srt) {o : Option Str} {f : PyData} {k : Str} (h : fieldKind srt o f = some k) : fit (.str k) = true := by
  unfold fieldKind at h
  split at h
  · cases h
  · split at h
    · cases h
    · rename_i kk z p hl
      split at h
      · cases h
      · rename_i hz
        split at h
        · obtain ⟨e, he, rfl⟩ := part_mem h
          obtain ⟨_, hf, hp⟩ := ok _ (lookup_mem hl)
          obtain ⟨n, d, rfl, _, hs⟩ := hp e he
          have hd : isStr d = true := hs hz
          have h1 : fit d = true := fitAll_at (i := 1) (fit_items (fitAll_mem (fit_items hf) he)) rfl
          rw [isStr_of hd] at h1
          exact h1
        · cases h
theorem fold_fit {srt : Srt} (ok : SrtOk srt) : ∀ (fs : List PyData) (o : Option Str) (k : Str), (∀ y, o = some y → fit (.str y) = true) → fs.foldl (fieldKind srt) o = some k → fit (.str k) = true
  | [], o, k, h0, h => h0 k h
  | f :: r, o, k, h0, h => fold_fit ok r _ k (fun y e => field_fit ok e) h
theorem placeKind_fit {srt : Srt} (ok : SrtOk srt) {vars : Vars} (vo : VarsOk vars) {d : PyData} {k : Str} (h : placeKind srt vars d = some k) : fit (.str k) = true := by
  unfold placeKind at h
  split at h
  · exact fold_fit ok _ _ k (fun y e => vo _ (lookup_mem e)) h
  · cases h
theorem rk_fit {srt : Srt} (ok : SrtOk srt) {vars : Vars} (vo : VarsOk vars) : ∀ (ds prev : List PyData) (ks ks' : List Str), (∀ k ∈ ks, fit (.str k) = true) → rkGo srt vars prev ks ds = some ks' → ∀ k ∈ ks', fit (.str k) = true
  | [], _, ks, ks', h0, h => by
    cases h
    exact h0
  | e :: r, prev, ks, ks', h0, h => by
    unfold rkGo at h
    split at h
    · cases h
    · rename_i k hk
      split at h
      · cases h
      · refine rk_fit ok vo r _ _ ks' (fun x hx => ?_) h
        rcases List.mem_append.mp hx with hx | hx
        · exact h0 x hx
        · rw [List.mem_singleton.mp hx]
          exact placeKind_fit ok vo hk
/-! ### lists of texts, compared -/
theorem eqv_strs : ∀ xs ys : List Str, PyData.eqvAll (xs.map PyData.str) (ys.map PyData.str) = decide (xs = ys)
  | [], [] => by simp [PyData.eqvAll]
  | [], _ :: _ => by simp [PyData.eqvAll]
  | _ :: _, [] => by simp [PyData.eqvAll]
  | x :: xs, y :: ys => by
    rw [List.map_cons, List.map_cons]
    simp only [PyData.eqvAll]
    rw [eqv_strs xs ys]
    have e : PyData.eqv (.str x) (.str y) = decide (x = y) := by
      simp only [PyData.eqv]
      by_cases h : x = y
      · subst h; simp
      · simp [h]
    rw [e, ← Bool.decide_and]
    exact decide_eq_decide.mpr ⟨fun h => by rw [h.1, h.2], fun h => by injection h with a b; exact ⟨a, b⟩⟩
theorem strs_lay : ∀ {ks : List Str}, (∀ k ∈ ks, fit (.str k) = true) → txts (ks.map PyData.str) ∧ fitAll (ks.map PyData.str) = true
  | [], _ => ⟨(fun e he => by cases he), rfl⟩
  | k :: r, h => by
    obtain ⟨h1, h2⟩ := strs_lay (ks := r) (fun x hx => h x (List.mem_cons_of_mem _ hx))
    refine ⟨fun e he => ?_, ?_⟩
    · rcases List.mem_cons.mp he with rfl | he
      · rfl
      · exact h1 e he
    · show (fit (.str k) && fitAll (r.map PyData.str)) = true
      rw [h k (List.mem_cons_self ..), h2]
      rfl
theorem strs_dx {K : PySem.W.Frag} {H : Hp} : ∀ ks : List Str, DxAll K H (ks.map V.str) (ks.map PyData.str)
  | [] => .nil
  | k :: r => .cons (.str k) (strs_dx r)
theorem strs_shape {ks : List Str} (h : ∀ k ∈ ks, fit (.str k) = true) : SeqAt.shaped (.list (ks.map PyData.str)) = true := by
  obtain ⟨h1, h2⟩ := strs_lay h
  unfold SeqAt.shaped
  rw [Bool.and_eq_true]
  refine ⟨txts_lay h1 h2, decide_eq_true ?_⟩
  have := txts_depth h1
  simp only [PyData.depth]
  omega
end Lm

namespace Lm
open PySem PySem.Spec PyProof.Rows L2
open C8 (fnScope_by pe_gc pss_cut tCut Cal pe_c)
/-! ### call_fits -/
def HeadsOk (hs : Heads) : Prop := ∀ s ∈ hs, isRow s.2.1 = true ∧ fit s.2.1 = true ∧ ∀ e ∈ items s.2.1, ∃ n k, e = PyData.tuple [.str n, .str k]
theorem head_mem : ∀ {hs : Heads} {m f : Str} {x : PyData × Option Str}, headGet hs m f = some x → ∃ s ∈ hs, s.2 = x
  | [], _, _, _, h => by cases h
  | s :: r, m, f, x, h => by
    unfold headGet at h
    split at h
    · cases h
      exact ⟨s, List.mem_cons_self .., rfl⟩
    · obtain ⟨s', h1, h2⟩ := head_mem h
      exact ⟨s', List.mem_cons_of_mem _ h1, h2⟩
def wantOf (p : PyData) : List Str := (items p).map fun e => strOf (at1 e)
def callFits (srt : Srt) (vars : Vars) (hs : Heads) (d1 d2 d3 : PyData) : Bool :=
  match d1 with
  | .tuple [.str m, .str f] => match headGet hs m f with
    | some (p, r) => decide (rowKinds srt vars d2 = some (wantOf p)) && takesD srt vars r d3
    | none => false
  | _ => false
section
variable {P : Program} {w : World} {K : PySem.W.Frag} {mg : Str → Option Value} {base : Heap} {C : Addr}
def spCallF (K : PySem.W.Frag) (C : Addr) : Sp := fun vs H Q _ => ∃ (a b : Addr) (v : V) (d0 d1 d2 d3 : PyData) (st : Fc) (vars : Vars), vs = [.ref a, v, .ref b] ∧ FcAt K C H a st ∧ VarAt H b vars ∧ VarsOk vars ∧ HeadsOk st.heads ∧ Dx K H v (.tuple [d0, d1, d2, d3]) ∧ fit (.tuple [d0, d1, d2, d3]) = true ∧ isFnName st.heads d1 = true ∧
  ∀ H', Same H H' → Q (.bl (callFits st.srt vars st.heads d1 d2 d3)) H'
abbrev nsCF : List Str := ["self", "statement", "variables", "_", "name", "places", "target", "parameters", "result", "wanted", "kind"]
theorem scCF : FnScope nsCF ["self", "statement", "variables"] (defScope mCallFits) := fnScope_by (by decide +kernel)
theorem kCallF {f : Addr} {fd : FuncData} (F : Fun K "call_fits" "FunctionCheck.call_fits" mCallFits f fd) (k : FcC K C) (c1 : Cal P w K mg base 4 "row_kinds" (spRK K) []) (m : MCal P w K mg base C 4 "takes" (spTakes K C)) : FnOk P w K mg base CX0 5 f fd ["self", "statement", "variables"] (spCallF K C) := by
  obtain ⟨fm, fdm, psm, Fm, Mm, Bm⟩ := m
  refine F.ok scCF (fun vs H Q E h => ?_) (fun cdv A outer s H vs Q E hr h => ?_)
  · obtain ⟨a, b, v, d0, d1, d2, d3, st, vars, rfl, _⟩ := h
    rfl
  obtain ⟨a, b, v, d0, d1, d2, d3, st, vars, rfl, hf, hb, hvo, hho, hd, ht, hfn, q⟩ := h
  have hu := hu_of hr
  refine ⟨_, pss_cons (ps_asg (pv 1) (pg_tupk K rfl (n := 4) rfl (pgs_cons (pg_name (i := 3) scCF.nd rfl (Or.inl rfl)) (pgs_cons (pg_name (i := 4) scCF.nd rfl (Or.inl rfl)) (pgs_cons (pg_name (i := 5) scCF.nd rfl (Or.inl rfl)) (pgs_cons (pg_name (i := 6) scCF.nd rfl (Or.inl rfl)) pgs_nil))))))
    (pss_cons (ps_asg (pe_dget hu (pe_fld (pv 0) rfl) (pv 4) (fun _ _ => rfl)) (pg_tupk K rfl (n := 2) rfl (pgs_cons (pg_name (i := 7) scCF.nd rfl (Or.inl rfl)) (pgs_cons (pg_name (i := 8) scCF.nd rfl (Or.inl rfl)) pgs_nil))))
    (pss_cons (ps_setLc (i := 9) (own := [("_", 3), ("kind", 10)]) (tt := tYes) rfl scCF.nd rfl (by rfl) (sw_true rfl (by rfl) (by rfl) (by rfl)) (pi_row (pv 7)) (blkOk_by (N := nsCF) (sc := defScope mCallFits) (by decide +kernel)) (fun _ _ _ _ _ => pg_tupk K rfl (n := 2) rfl (pgs_cons (pg_name (i := 3) scCF.nd rfl (Or.inl rfl)) (pgs_cons (pg_name (i := 10) scCF.nd rfl (Or.inl rfl)) pgs_nil)))
      (fun _ _ _ _ _ => pts_nil) (fun _ _ _ _ _ => pv 10))
    (pss_cons (ps_if (pt_cmpR (op_neD hr.units) (pe_c c1 hr (by decide) (by rfl) (pa_cons (pe_fld (pv 0) rfl) (pa_cons (pv 2) (pa_cons (pv 5) pa_nil)))) (pv 9) (by rfl)) (pss_one (ps_ret pe_bl)) pss_nil)
    (pss_one (ps_ret (pe_meth (pv 0) k.cl Mm Fm hr Bm .nil pass0 (pa_cons (pv 6) (pa_cons (pv 2) (pa_cons (pv 8) pa_nil))))))))), ?_⟩
  obtain ⟨av, v0, v1, v2, v3, rfl, hav, _, hv1, hv2, hv3⟩ := quad_at hd
  have hfc := hf
  obtain ⟨dx, sa, ha, wa, ca, da, h1, h2⟩ := hfc
  have f2 : fit d2 = true := fitAll_at (i := 2) (fit_items ht) rfl
  obtain ⟨m, fn, rfl⟩ : ∃ m fn, d1 = .tuple [.str m, .str fn] := by
    unfold isFnName at hfn
    split at hfn
    · exact ⟨_, _, rfl⟩
    · cases hfn
  obtain ⟨an, w0, w1, rfl, han, hw0, hw1⟩ := pair_at hv1
  obtain rfl := hw0.strOf
  obtain rfl := hw1.strOf
  obtain ⟨kvs, g1, g2⟩ := h2.heads
  have hfn' : (headGet st.heads m fn).isSome = true := hfn
  rcases head_look (m := m) (f := fn) g2 with ⟨e1, _⟩ | ⟨p, r, t, vp, e1, e2, e3, e4⟩
  · rw [e1] at hfn'
    cases hfn'
  have eC : callFits st.srt vars st.heads (.tuple [.str m, .str fn]) d2 d3 = (decide (rowKinds st.srt vars d2 = some (wantOf p)) && takesD st.srt vars r d3) := by
    unfold callFits
    dsimp only
    rw [e1]
  rw [eC] at q
  obtain ⟨s0, hs0, es⟩ := head_mem e1
  obtain ⟨hrow, hpf, hpp⟩ := hho s0 hs0
  rw [es] at hrow hpf hpp
  have hrow : isRow p = true := hrow
  have hpf : fit p = true := hpf
  have hpp : ∀ e ∈ items p, ∃ n k, e = PyData.tuple [.str n, .str k] := hpp
  have gD := DGet.t (k := [Sum.inr m, Sum.inr fn]) g1 han
  rw [e2] at gD
  refine ⟨_, rfl, av, _, rfl, .inl (.inl hav), rfl, _, _, rfl, _, _, rfl, _, _, rfl, _, _, rfl, rfl, ?_⟩
  refine ⟨_, rfl, a, C, dx, _, _, rfl, h1, k.cl, k.heads, by rfl, _, rfl, ha, _, rfl, gD, t, _, rfl, .inl (.inl e3), rfl, _, _, rfl, _, _, rfl, rfl, ?_⟩
  obtain ⟨ar, xs, rfl, hsr, hax⟩ := e4.row hrow
  have hs' : SqL K H ar xs ∨ SqT K H ar xs := hsr.imp (·.1) (·.1)
  refine for_row (a := ar) (xs := xs) hs' (Same.refl H) (fun kk hk => ⟨_, rfl, hk⟩) fun J G gs wk D nD => lc_row wk gs nD (fun c => V.str (strOf (at1 c))) hax rfl (fit_len hpf) (fun i x e H5 Z Zf he hx s5 hZ => ?_) fun H5 s5 hD => ?_
  · obtain ⟨n, kd, rfl⟩ := hpp e (List.mem_of_getElem? he)
    obtain ⟨aq, y0, y1, rfl, haq, _, hy1⟩ := pair_at hx
    obtain rfl := hy1.strOf
    exact ⟨aq, _, rfl, .inl (.inl haq), rfl, _, _, rfl, _, _, rfl, rfl, rfl, tyes ⟨_, rfl, hZ H5 (Same.refl H5)⟩⟩
  have hDw : H5 D = some (.lst ((wantOf p).map V.str)) := by
    rw [hD]
    unfold wantOf
    rw [List.map_map]
    rfl
  have hwf : ∀ y ∈ wantOf p, fit (.str y) = true := fun y hy => by
    unfold wantOf at hy
    obtain ⟨e, he, rfl⟩ := List.mem_map.mp hy
    obtain ⟨n, kd, rfl⟩ := hpp e he
    exact fitAll_at (i := 1) (fit_items (fitAll_mem (fit_items hpf) he)) rfl
  have h2' := h2.mono s5
  refine ⟨_, rfl, a, C, dx, _, _, rfl, s5 _ _ h1, k.cl, k.sorts, by rfl, _, rfl, _, rfl, sa, b, v2, d2, st.srt, vars, rfl, h2'.srt, h2'.ok, s5 _ _ hb, Dx.mono s5 hv2, f2, fun u H6 s6 hru => ?_⟩
  have s56 := s5.trans s6
  have lw := strs_lay hwf
  have dpw : Dp K H6 (.ref D) (.list ((wantOf p).map PyData.str)) := Dx.dp (.lst (s6 _ _ hDw) (strs_dx _)) (txts_lay lw.1 lw.2)
  have nok : ∀ H', Same H H' → decide (rowKinds st.srt vars d2 = some (wantOf p)) = false → Q (.bl false) H' := fun H' s' e => by
    have zz := q H' s'
    rw [e, Bool.false_and] at zz
    exact zz
  cases hk : rowKinds st.srt vars d2 with
  | none =>
    rw [hk] at hru
    have hru : u = .non := hru
    subst hru
    refine ⟨_, rfl, .none, _, .non, dpw, rfl, strs_shape hwf, _, rfl, ?_⟩
    have e0 : PyData.eqv .none (.list ((wantOf p).map PyData.str)) = false := by simp [PyData.eqv]
    rw [e0]
    exact iteT (nok H6 s56 (by rw [hk]; rfl))
  | some ks =>
    rw [hk] at hru
    obtain ⟨p2, rfl, hp2⟩ := hru
    have hkf : ∀ y ∈ ks, fit (.str y) = true := by
      unfold rowKinds at hk
      split at hk
      · exact rk_fit h2.ok hvo _ _ _ ks (fun y hy => by cases hy) hk
      · cases hk
    have lk := strs_lay hkf
    have dpk : Dp K H6 (.ref p2) (.list (ks.map PyData.str)) := Dx.dp (.lst hp2 (strs_dx _)) (txts_lay lk.1 lk.2)
    refine ⟨_, rfl, _, _, dpk, dpw, strs_shape hkf, strs_shape hwf, _, rfl, ?_⟩
    have e0 : PyData.eqv (.list (ks.map PyData.str)) (.list ((wantOf p).map PyData.str)) = decide (ks = wantOf p) := by
      simp only [PyData.eqv]
      exact eqv_strs _ _
    rw [e0]
    by_cases hw : ks = wantOf p
    · rw [decide_eq_true hw]
      refine iteF ?_
      refine ⟨_, rfl, a, dx, _, rfl, s56 _ _ h1, by rfl, _, rfl, _, rfl, _, rfl, a, b, v3, d3, st, vars, r, rfl, hf.mono s56, s56 _ _ hb, Dx.mono s56 hv3, fun H7 s7 => ?_⟩
      have zz := q H7 (s56.trans s7)
      rw [hk, decide_eq_true (congrArg some hw), Bool.true_and] at zz
      exact zz
    · rw [decide_eq_false hw]
      exact iteT (nok H6 s56 (by rw [hk]; exact decide_eq_false fun z => hw (Option.some.inj z)))
end
end Lm

namespace Lm
open PySem PySem.Spec PyProof.Rows L2
open C8 (fnScope_by pe_gc pss_cut tCut Cal pe_c)
/-! ### places_fit -/
def okD : Option Str → PyData
  | none => .none
  | some k => .str k
def placesFit (st : Fc) (vars : Vars) (d : PyData) : Bool := if wordOf d = "new" ∨ wordOf d = "drop" then (placeKind st.srt vars (at1 d)).isSome else if wordOf d = "move" then moveFits st.srt vars (at1 d) (at2 d) else
  if wordOf d = "call" then callFits st.srt vars st.heads (at1 d) (at2 d) (at3 d) else if wordOf d = "ask" then askFits st.srt vars (at2 d) (at3 d) else if wordOf d = "match" then isChoiceD st.srt (okD (placeKind st.srt vars (at1 d))) else
  decide (wordOf d ≠ "return") || takesD st.srt vars st.result (at1 d)
section
variable {P : Program} {w : World} {K : PySem.W.Frag} {mg : Str → Option Value} {base : Heap} {C : Addr}
theorem okD_dx {H : Hp} (o : Option Str) : Dx K H (okV o) (okD o) := by
  cases o with
  | none => exact .non
  | some k => exact .str k
theorem okD_ns (o : Option Str) : noneStr (okD o) := by
  cases o with
  | none => exact .inl rfl
  | some k => exact .inr rfl
def spPF2 (K : PySem.W.Frag) (C : Addr) : Sp := fun vs H Q _ => ∃ (a b : Addr) (v : V) (d : PyData) (st : Fc) (vars : Vars), vs = [.ref a, v, .ref b] ∧ FcAt K C H a st ∧ VarAt H b vars ∧ VarsOk vars ∧ HeadsOk st.heads ∧ Dx K H v d ∧ fit d = true ∧ isStmt d = true ∧ namesFit st d = true ∧
  ∀ H', Same H H' → Q (.bl (placesFit st vars d)) H'
theorem scPF2 : FnScope ["self", "statement", "variables", "word"] ["self", "statement", "variables"] (defScope mPlacesFit) := fnScope_by (by decide +kernel)
theorem kPlaces {f : Addr} {fd : FuncData} (F : Fun K "places_fit" "FunctionCheck.places_fit" mPlacesFit f fd) (k : FcC K C) (c1 : Cal P w K mg base 3 "place_kind" (spPK K) []) (c2 : Cal P w K mg base 1 "is_choice" (spSK K isChoiceD noneStr) []) (m1 : MCal P w K mg base C 4 "move_fits" (spMove K C)) (m2 : MCal P w K mg base C 5 "call_fits" (spCallF K C))
    (m3 : MCal P w K mg base C 5 "ask_fits" (spAsk K C fun st vars d => askFits st.srt vars (at2 d) (at3 d))) (m4 : MCal P w K mg base C 4 "takes" (spTakes K C)) : FnOk P w K mg base CX0 6 f fd ["self", "statement", "variables"] (spPF2 K C) := by
  obtain ⟨f1, fd1, ps1, F1, M1, B1⟩ := m1
  obtain ⟨f2, fd2, ps2, F2, M2, B2⟩ := m2
  obtain ⟨f3, fd3, ps3, F3, M3, B3⟩ := m3
  obtain ⟨f4, fd4, ps4, F4, M4, B4⟩ := m4
  refine F.ok scPF2 (fun vs H Q E h => ?_) (fun cdv A outer s H vs Q E hr h => ?_)
  · obtain ⟨a, b, v, d, st, vars, rfl, _⟩ := h
    rfl
  obtain ⟨a, b, v, d, st, vars, rfl, hf, hb, hvo, hho, hd, ht, hst, hnf, q⟩ := h
  have hr4 : Room 4 _ := hr.mono (by decide)
  refine ⟨_, pss_cons (ps_set (i := 3) scPF2.nd rfl (.inl rfl) (pe_ix ix_tup (pv 1) pe_int (fun _ _ => rfl)))
    (pss_cons (ps_if (pt_cmpR op_in_seq (pv 3) (pe_tup (pa_cons pe_str (pa_cons pe_str pa_nil))) (by rfl)) (pss_one (ps_ret (pe_cmp (pc_notN (pe_c c1 hr (by decide) (by rfl) (pa_cons (pe_fld (pv 0) rfl) (pa_cons (pv 2) (pa_cons (pe_ix ix_tup (pv 1) pe_int (fun _ _ => rfl)) pa_nil))))) (by rfl)))) pss_nil)
    (pss_cons (ps_if (pt_cmpR op_eq (pv 3) pe_str (nomark _)) (pss_one (ps_ret (pe_meth (pv 0) k.cl M1 F1 hr4 B1 .nil pass0 (pa_cons (pv 1) (pa_cons (pv 2) pa_nil))))) pss_nil)
    (pss_cons (ps_if (pt_cmpR op_eq (pv 3) pe_str (nomark _)) (pss_one (ps_ret (pe_meth (pv 0) k.cl M2 F2 hr B2 .nil pass0 (pa_cons (pv 1) (pa_cons (pv 2) pa_nil))))) pss_nil)
    (pss_cons (ps_if (pt_cmpR op_eq (pv 3) pe_str (nomark _)) (pss_one (ps_ret (pe_meth (pv 0) k.cl M3 F3 hr B3 .nil pass0 (pa_cons (pv 1) (pa_cons (pv 2) pa_nil))))) pss_nil)
    (pss_cons (ps_if (pt_cmpR op_eq (pv 3) pe_str (nomark _)) (pss_one (ps_ret (pe_c c2 hr (by decide) (by rfl) (pa_cons (pe_fld (pv 0) rfl) (pa_cons (pe_c c1 hr (by decide) (by rfl) (pa_cons (pe_fld (pv 0) rfl) (pa_cons (pv 2) (pa_cons (pe_ix ix_tup (pv 1) pe_int (fun _ _ => rfl)) pa_nil)))) pa_nil))))) pss_nil)
    (pss_one (ps_ret (pe_or (pe_cmpR op_ne (pv 3) pe_str (by rfl)) (pe_one (pe_meth (pv 0) k.cl M4 F4 hr4 B4 .nil pass0 (pa_cons (pe_ix ix_tup (pv 1) pe_int (fun _ _ => rfl)) (pa_cons (pv 2) (pa_cons (pe_fld (pv 0) rfl) pa_nil))))))))))))), ?_⟩
  obtain ⟨x, r, rfl, hsz⟩ := stmt_form hst
  obtain ⟨av, xs, rfl, hs, h0⟩ := st_word hd
  refine ⟨_, rfl, av, xs, 0, _, rfl, rfl, hs, atI_nat (j := 0) h0, ?_⟩
  refine ⟨_, rfl, by show 2 ≤ sizeLine; decide, fun p np => ⟨p, (["new", "drop"] : List Str).map V.str, rfl, .inr (.inl (.inl upd_same)), rfl, rfl, _, rfl, ?_⟩⟩
  rw [in_strs]
  have s1 := same_upd (o := .tup ((["new", "drop"] : List Str).map V.str)) np
  have hf1 := hf.mono s1
  have hd1 := Dx.mono s1 hd
  have hb1 : VarAt _ b vars := s1 _ _ hb
  have q1 : ∀ H', Same (upd H p (.tup ((["new", "drop"] : List Str).map V.str))) H' → Q (.bl (placesFit st vars (.tuple (.str x :: r)))) H' := fun H' s' => q H' (s1.trans s')
  show (if (["new", "drop"] : List Str).contains x = true then _ else _)
  change (∀ H', Same (upd H p (.tup [V.str "new", V.str "drop"])) H' → _) at q1
  change FcAt K C (upd H p (.tup [V.str "new", V.str "drop"])) a st at hf1
  change Dx K (upd H p (.tup [V.str "new", V.str "drop"])) _ _ at hd1
  change VarAt (upd H p (.tup [V.str "new", V.str "drop"])) b vars at hb1
  generalize upd H p (.tup [V.str "new", V.str "drop"]) = H1 at *
  have hfc := hf1
  obtain ⟨dx, sa, ha, wa, ca, da, h1, h2⟩ := hfc
  have eP : placesFit st vars (.tuple (.str x :: r)) = if x = "new" ∨ x = "drop" then (placeKind st.srt vars (at1 (.tuple (.str x :: r)))).isSome else if x = "move" then moveFits st.srt vars (at1 (.tuple (.str x :: r))) (at2 (.tuple (.str x :: r))) else
    if x = "call" then callFits st.srt vars st.heads (at1 (.tuple (.str x :: r))) (at2 (.tuple (.str x :: r))) (at3 (.tuple (.str x :: r))) else if x = "ask" then askFits st.srt vars (at2 (.tuple (.str x :: r))) (at3 (.tuple (.str x :: r))) else
    if x = "match" then isChoiceD st.srt (okD (placeKind st.srt vars (at1 (.tuple (.str x :: r))))) else decide (x ≠ "return") || takesD st.srt vars st.result (at1 (.tuple (.str x :: r))) := rfl
  by_cases w1 : x = "new" ∨ x = "drop"
  · rw [if_pos w1] at eP
    have hc : (["new", "drop"] : List Str).contains x = true := by rcases w1 with w | w <;> (rw [w]; rfl)
    rw [hc]
    have hl : r.length = 1 := stmt_len hsz (by rcases w1 with w | w <;> (rw [w]; rfl))
    obtain ⟨av', xs', z, e', hs', hz, hdz, hfz⟩ := tup_at hd1 ht (j := 1) (by rw [List.length_cons]; omega)
    cases e'
    refine iteT ⟨_, rfl, a, C, dx, _, _, rfl, h1, k.cl, k.sorts, by rfl, _, rfl, _, rfl, av, xs', 1, z, rfl, rfl, hs', atI_nat (j := 1) hz, sa, b, z, _, st.srt, vars, rfl, h2.srt, h2.ok, hb1, hdz, fun H2 s2 => ?_⟩
    have zz := q1 H2 s2
    rw [eP] at zz
    have ea : at1 (.tuple (.str x :: r)) = (PyData.str x :: r).getD 1 .none := rfl
    rw [ea] at zz
    cases hpk : placeKind st.srt vars ((PyData.str x :: r).getD 1 .none) with
    | none => rw [hpk] at zz; exact zz
    | some kk => rw [hpk] at zz; exact zz
  rw [if_neg w1] at eP
  have hc : (["new", "drop"] : List Str).contains x = false := by
    rw [List.contains_cons, List.contains_cons, List.contains_nil, Bool.or_false, Bool.or_eq_false_iff]
    exact ⟨beq_eq_false_iff_ne.mpr fun w => w1 (.inl w), beq_eq_false_iff_ne.mpr fun w => w1 (.inr w)⟩
  rw [hc]
  refine iteF ⟨_, rfl, rfl, _, rfl, ?_⟩
  rw [dstr]
  by_cases w2 : x = "move"
  · rw [decide_eq_true w2]
    rw [if_pos w2] at eP
    have hl : r.length = 2 := stmt_len hsz (by rw [w2]; rfl)
    rw [eP] at q1
    match r, hl with
    | [d1, d2], _ => exact iteT ⟨_, rfl, a, dx, _, rfl, h1, by rfl, _, rfl, _, rfl, a, b, _, .str x, d1, d2, st, vars, rfl, hf1, hb1, hd1, fitAll_at (i := 1) (fit_items ht) rfl, fitAll_at (i := 2) (fit_items ht) rfl, q1⟩
  rw [decide_eq_false w2]
  rw [if_neg w2] at eP
  refine iteF ⟨_, rfl, rfl, _, rfl, ?_⟩
  rw [dstr]
  by_cases w3 : x = "call"
  · rw [decide_eq_true w3]
    rw [if_pos w3] at eP
    have hl : r.length = 3 := stmt_len hsz (by rw [w3]; rfl)
    rw [eP] at q1
    have hfn : isFnName st.heads (at1 (.tuple (.str x :: r))) = true := by
      have z : (if x = "let" then isNew st.decl (at1 (.tuple (.str x :: r))) else if x = "ask" then isName (at1 (.tuple (.str x :: r))) else if x = "call" then isFnName st.heads (at1 (.tuple (.str x :: r))) else decide (x ≠ "match") || armNamesFit st.decl (at2 (.tuple (.str x :: r)))) = true := hnf
      rw [if_neg (by rw [w3]; decide), if_neg (by rw [w3]; decide), if_pos w3] at z
      exact z
    match r, hl with
    | [d1, d2, d3], _ => exact iteT ⟨_, rfl, a, dx, _, rfl, h1, by rfl, _, rfl, _, rfl, a, b, _, .str x, d1, d2, d3, st, vars, rfl, hf1, hb1, hvo, hho, hd1, ht, hfn, q1⟩
  rw [decide_eq_false w3]
  rw [if_neg w3] at eP
  refine iteF ⟨_, rfl, rfl, _, rfl, ?_⟩
  rw [dstr]
  by_cases w4 : x = "ask"
  · rw [decide_eq_true w4]
    rw [if_pos w4] at eP
    have hl : r.length = 3 := stmt_len hsz (by rw [w4]; rfl)
    rw [eP] at q1
    match r, hl with
    | [d1, d2, d3], _ => exact iteT ⟨_, rfl, a, dx, _, rfl, h1, by rfl, _, rfl, _, rfl, a, b, _, .str x, d1, d2, d3, st, vars, rfl, hf1, hb1, hd1, ht, q1⟩
  rw [decide_eq_false w4]
  rw [if_neg w4] at eP
  refine iteF ⟨_, rfl, rfl, _, rfl, ?_⟩
  rw [dstr]
  by_cases w5 : x = "match"
  · rw [decide_eq_true w5]
    rw [if_pos w5] at eP
    have hl : r.length = 2 := stmt_len hsz (by rw [w5]; rfl)
    obtain ⟨av', xs', z, e', hs', hz, hdz, hfz⟩ := tup_at hd1 ht (j := 1) (by rw [List.length_cons]; omega)
    cases e'
    refine iteT ⟨_, rfl, a, C, dx, _, _, rfl, h1, k.cl, k.sorts, by rfl, _, rfl, a, C, dx, _, _, rfl, h1, k.cl, k.sorts, by rfl, _, rfl, _, rfl, av, xs', 1, z, rfl, rfl, hs', atI_nat (j := 1) hz, sa, b, z, _, st.srt, vars, rfl, h2.srt, h2.ok, hb1, hdz, fun H2 s2 => ?_⟩
    have zz := q1 H2 s2
    rw [eP] at zz
    exact ⟨sa, _, okD (placeKind st.srt vars ((PyData.str x :: r).getD 1 .none)), st.srt, rfl, h2.srt.mono s2, okD_dx _, okD_ns _, zz⟩
  rw [decide_eq_false w5]
  rw [if_neg w5] at eP
  refine iteF ⟨_, rfl, rfl, _, rfl, ?_⟩
  rw [dstr]
  by_cases w6 : x = "return"
  · rw [decide_eq_true w6]
    rw [decide_eq_false (fun h => h w6), Bool.false_or] at eP
    have hl : r.length = 1 := stmt_len hsz (by rw [w6]; rfl)
    obtain ⟨av', xs', z, e', hs', hz, hdz, hfz⟩ := tup_at hd1 ht (j := 1) (by rw [List.length_cons]; omega)
    cases e'
    rw [eP] at q1
    exact iteF ⟨_, rfl, a, dx, _, rfl, h1, by rfl, _, rfl, av, xs', 1, z, rfl, rfl, hs', atI_nat (j := 1) hz, _, rfl, _, rfl, a, C, dx, _, _, rfl, h1, k.cl, k.result, by rfl, a, b, z, _, st, vars, st.result, rfl, hf1, hb1, hdz, q1⟩
  · rw [decide_eq_false w6]
    rw [decide_eq_true w6, Bool.true_or] at eP
    have zz := q1 H1 (Same.refl H1)
    rw [eP] at zz
    exact iteT zz
end
end Lm

namespace Lm
open PySem PySem.Spec PyProof.Rows L2
open C8 (fnScope_by pe_gc pss_cut tCut Cal pe_c)
/-! ### stands_right -/
def standsRight (x : Str) (looped last : Bool) : Bool := if (["break", "next"] : List Str).contains x = true then looped && last else last || !(["return", "fail"] : List Str).contains x
section
variable {P : Program} {w : World} {K : PySem.W.Frag} {mg : Str → Option Value} {base : Heap} {C : Addr}
def spSR : Sp := fun vs H Q _ => ∃ (x : Str) (l t : Bool), vs = [.str x, .bl l, .bl t] ∧ ∀ H', Same H H' → Q (.bl (standsRight x l t)) H'
theorem scSR : FnScope ["word", "looped", "last"] ["word", "looped", "last"] (defScope sStandsRight) := fnScope_by (by decide +kernel)
theorem kSR {f : Addr} {fd : FuncData} (F : Fun K "stands_right" "stands_right" sStandsRight f fd) : FnOk P w K mg base CX0 1 f fd ["word", "looped", "last"] spSR := by
  refine F.ok scSR (fun vs H Q E h => ?_) (fun cdv A outer s H vs Q E hr h => ?_)
  · obtain ⟨x, l, t, rfl, _⟩ := h
    rfl
  obtain ⟨x, l, t, rfl, q⟩ := h
  refine ⟨_, pss_cons (ps_if (pt_cmpR op_in_seq (pv 0) (pe_tup (pa_cons pe_str (pa_cons pe_str pa_nil))) (by rfl)) (pss_one (ps_ret (pe_and (pv 1) (pe_one (pv 2))))) pss_nil)
    (pss_one (ps_ret (pe_or (pv 2) (pe_one (pe_cmpR op_notIn_seq (pv 0) (pe_tup (pa_cons pe_str (pa_cons pe_str pa_nil))) (by rfl)))))), ?_⟩
  refine ⟨_, rfl, by show 2 ≤ sizeLine; decide, fun p np => ⟨p, (["break", "next"] : List Str).map V.str, rfl, .inr (.inl (.inl upd_same)), rfl, rfl, _, rfl, ?_⟩⟩
  rw [in_strs]
  have s1 := same_upd (o := .tup ((["break", "next"] : List Str).map V.str)) np
  show (if (["break", "next"] : List Str).contains x = true then _ else _)
  cases hc : (["break", "next"] : List Str).contains x with
  | true =>
    have e : standsRight x l t = (l && t) := by unfold standsRight; rw [hc]; rfl
    have zz := q _ s1
    rw [e] at zz
    refine iteT ⟨_, rfl, _, rfl, ?_⟩
    cases l with
    | false => exact iteF zz
    | true => exact iteT ⟨_, rfl, zz⟩
  | false =>
    have e : standsRight x l t = (t || !(["return", "fail"] : List Str).contains x) := by unfold standsRight; rw [hc]; rfl
    refine iteF ⟨_, rfl, _, rfl, ?_⟩
    cases t with
    | true =>
      have zz := q _ s1
      rw [e] at zz
      exact iteT zz
    | false =>
      refine iteF ⟨_, rfl, by show 2 ≤ sizeLine; decide, fun p2 np2 => ⟨p2, (["return", "fail"] : List Str).map V.str, rfl, .inr (.inl (.inl upd_same)), rfl, rfl, ?_⟩⟩
      have s2 := same_upd (o := .tup ((["return", "fail"] : List Str).map V.str)) np2
      have zz := q _ (s1.trans s2)
      rw [e] at zz
      rw [if_pos rfl, in_strs]
      exact zz
end
end Lm

namespace Lm
open PySem PySem.Spec PyProof.Rows L2
open C8 (fnScope_by pe_gc pss_cut tCut Cal pe_c)
/-! ### Scope -/
structure Sc where
  vars : Vars
  depth : Nat
  looped : Bool
def scF (v : Addr) (n : Nat) (l : Bool) : List (Str × V) := [("variables", .ref v), ("depth", .int n), ("looped", .bl l)]
structure ScC (K : PySem.W.Frag) (S : Addr) : Prop where
  cl : Cls K S
  variables : NoAttr K S "variables"
  depth : NoAttr K S "depth"
  looped : NoAttr K S "looped"
def ScAt (S : Addr) (H : Hp) (a : Addr) (c : Sc) : Prop := ∃ dx v, H a = some (.ins S dx (scF v c.depth c.looped)) ∧ VarAt H v c.vars
section
variable {P : Program} {w : World} {K : PySem.W.Frag} {mg : Str → Option Value} {base : Heap} {S : Addr}
theorem ScAt.mono {H H' : Hp} (e : Same H H') {a : Addr} {c : Sc} (h : ScAt S H a c) : ScAt S H' a c := by
  obtain ⟨dx, v, h1, h2⟩ := h
  exact ⟨dx, v, e _ _ h1, e _ _ h2⟩
def spScI (S : Addr) : Sp := fun vs H Q _ => ∃ (a dx v : Addr) (n : Nat) (l : Bool), vs = [.ref a, .ref v, .int n, .bl l] ∧ H a = some (.ins S dx []) ∧ Q .non (upd H a (.ins S dx (scF v n l)))
theorem scSI : FnScope ["self", "variables", "depth", "looped"] ["self", "variables", "depth", "looped"] (defScope mScopeInit) := fnScope_by (by decide +kernel)
theorem kScI {f : Addr} {fd : FuncData} (F : Fun K "__init__" "Scope.__init__" mScopeInit f fd) (k : ScC K S) : FnOk P w K mg base CX0 1 f fd ["self", "variables", "depth", "looped"] (spScI S) := by
  refine F.ok scSI (fun vs H Q E h => ?_) (fun cdv A outer s H vs Q E hr h => ?_)
  · obtain ⟨a, dx, v, n, l, rfl, _⟩ := h
    rfl
  obtain ⟨a, dx, v, n, l, rfl, ha, q⟩ := h
  refine ⟨_, pss_cons (ps_fld (pv 0) (pv 1) rfl) (pss_cons (ps_fld (pv 0) (pv 2) rfl) (pss_one (ps_fld (pv 0) (pv 3) rfl))), ?_⟩
  refine ⟨_, rfl, _, rfl, a, S, dx, _, rfl, ha, k.cl, k.variables, by decide, ?_⟩
  refine ⟨_, rfl, _, rfl, a, S, dx, _, rfl, upd_same, k.cl, k.depth, by show 1 < 1000; decide, ?_⟩
  refine ⟨_, rfl, _, rfl, a, S, dx, _, rfl, upd_same, k.cl, k.looped, by show 2 < 1000; decide, ?_⟩
  have e : upd (upd (upd H a (.ins S dx (putF "variables" (.ref v) []))) a (.ins S dx (putF "depth" (.int n) (putF "variables" (.ref v) [])))) a (.ins S dx (putF "looped" (.bl l) (putF "depth" (.int n) (putF "variables" (.ref v) [])))) = upd H a (.ins S dx (scF v n l)) := by
    rw [upd_upd, upd_upd]
    rfl
  show Q .non _
  rw [e]
  exact q
def spInner (S : Addr) : Sp := fun vs H Q _ => ∃ (a : Addr) (l : Bool) (c : Sc), vs = [.ref a, .bl l] ∧ ScAt S H a c ∧ ∀ (x v dx : Addr) (H' : Hp), Same H H' → H x = none → H v = none → H' x = some (.ins S dx (scF v (c.depth + 1) (c.looped || l))) → VarAt H' v c.vars → Q (.ref x) H'
theorem scIn : FnScope ["self", "looped"] ["self", "looped"] (defScope mScopeInner) := fnScope_by (by decide +kernel)
theorem kInner {f fi : Addr} {fd fdi : FuncData} (F : Fun K "inner" "Scope.inner" mScopeInner f fd) (B : Bt mg) (k : ScC K S) (M : Mk K S fi) (gS : mg "Scope" = some (.ref S)) (Fi : FnOk P w K mg base CX0 1 fi fdi ["self", "variables", "depth", "looped"] (spScI S)) (bi : Binds K fdi ["self", "variables", "depth", "looped"] []) :
    FnOk P w K mg base CX0 3 f fd ["self", "looped"] (spInner S) := by
  refine F.ok scIn (fun vs H Q E h => ?_) (fun cdv A outer s H vs Q E hr h => ?_)
  · obtain ⟨a, l, c, rfl, _⟩ := h
    rfl
  obtain ⟨a, l, c, rfl, ⟨dx, v, h1, h2⟩, q⟩ := h
  refine ⟨_, pss_one (ps_ret (pe_make M Fi hr (by rfl) gS bi .nil pass0 (pa_cons (pe_callTy call_dictD (by rfl) B.dct boot_dict (pa_cons (pe_fld (pv 0) rfl) pa_nil)) (pa_cons (pe_op op_add (pe_fld (pv 0) rfl) pe_int) (pa_cons (pe_or (pe_fld (pv 0) rfl) (pe_one (pv 1))) pa_nil))))), ?_⟩
  refine ⟨_, rfl, a, S, dx, _, _, rfl, h1, k.cl, k.variables, by rfl, v, _, rfl, .inl h2, fun p np => ?_⟩
  have sp := same_upd (o := .dK (vsV c.vars)) np
  refine ⟨_, rfl, a, S, dx, _, _, rfl, sp _ _ h1, k.cl, k.depth, by rfl, _, _, rfl, rfl, ?_⟩
  refine ⟨_, rfl, a, S, dx, _, _, rfl, sp _ _ h1, k.cl, k.looped, by rfl, _, rfl, ?_⟩
  have fin : ∀ bb : Bool, bb = (c.looped || l) → ∀ x dx', (upd H p (.dK (vsV c.vars))) x = none → (upd H p (.dK (vsV c.vars))) dx' = none → dx' ≠ x → Q (.ref x) (upd (upd (upd (upd H p (.dK (vsV c.vars))) dx' (.own x)) x (.ins S dx' [])) x (.ins S dx' (scF p (c.depth + 1) bb))) := fun bb hb x dx' nx ndx hne => by
    subst hb
    have s2 := same_upd (o := .own x) ndx
    have nx2 : (upd (upd H p (.dK (vsV c.vars))) dx' (.own x)) x = none := by rw [upd_ne (Ne.symm hne)]; exact nx
    have s3 := same_upd (o := .ins S dx' (scF p (c.depth + 1) (c.looped || l))) nx2
    have sA := sp.trans (s2.trans s3)
    have hx : H x = none := by
      cases hh : H x with
      | none => rfl
      | some o => rw [sp _ _ hh] at nx; cases nx
    rw [upd_upd]
    exact q x p dx' _ sA hx np upd_same (s3 _ _ (s2 _ _ upd_same))
  cases hl : c.looped with
  | true => exact iteT fun x dx' nx ndx hne => ⟨x, dx', p, c.depth + 1, true, rfl, upd_same, rfl, fin true (by rw [hl]; rfl) x dx' nx ndx hne⟩
  | false => exact iteF ⟨_, rfl, fun x dx' nx ndx hne => ⟨x, dx', p, c.depth + 1, l, rfl, upd_same, rfl, fin l (by rw [hl]; rfl) x dx' nx ndx hne⟩⟩
end
end Lm

namespace Lm
open PySem PySem.Spec PyProof.Rows L2
open C8 (fnScope_by pe_gc pss_cut tCut Cal pe_c)
/-! ### added -/
def addedD (d : PyData) : Nat := if wordOf d = "match" then ((items (at2 d)).filter fun e => !isNoneD (at0 e)).length else if wordOf d = "let" then 1 else 0
section
variable {P : Program} {w : World} {K : PySem.W.Frag} {mg : Str → Option Value} {base : Heap} {C : Addr}
def spAdded (K : PySem.W.Frag) : Sp := fun vs H Q _ => ∃ (v : V) (d : PyData), vs = [v] ∧ Dx K H v d ∧ fit d = true ∧ isStmt d = true ∧ (wordOf d = "match" → isRow (at2 d) = true ∧ ∀ e ∈ items (at2 d), isTupN e 2 = true) ∧ ∀ H', Same H H' → Q (.int (addedD d : Nat)) H'
abbrev nsAD : List Str := ["statement", "variable", "_"]
theorem scAD : FnScope nsAD ["statement"] (defScope sAdded) := fnScope_by (by decide +kernel)
theorem kAdded {f : Addr} {fd : FuncData} (F : Fun K "added" "added" sAdded f fd) (B : Bt mg) : FnOk P w K mg base CX0 1 f fd ["statement"] (spAdded K) := by
  refine F.ok scAD (fun vs H Q E h => ?_) (fun cdv A outer s H vs Q E hr h => ?_)
  · obtain ⟨v, d, rfl, _⟩ := h
    rfl
  obtain ⟨v, d, rfl, hd, ht, hst, hm, q⟩ := h
  refine ⟨_, pss_cons (ps_if (pt_cmpR op_eq (pe_ix ix_tup (pv 0) pe_int (fun _ _ => rfl)) pe_str (nomark _)) (pss_one (ps_ret (pe_callB call_len_seq (by rfl) B.len boot_len (pa_cons
      (pe_lc (own := [("variable", 1), ("_", 2)]) rfl scAD.nd (pi_row (pe_ix ix_tup (pv 0) pe_int (fun _ _ => rfl))) (blkOk_by (N := nsAD) (sc := defScope sAdded) (by decide +kernel)) (fun _ _ _ _ _ => pg_tupk K rfl (n := 2) rfl (pgs_cons (pg_name (i := 1) scAD.nd rfl (Or.inl rfl)) (pgs_cons (pg_name (i := 2) scAD.nd rfl (Or.inl rfl)) pgs_nil)))
        (fun _ _ _ _ _ => pts_one (pt_cmp (pc_notN (pv 1)) (by rfl))) (fun _ _ _ _ _ => pv 1)) pa_nil)))) pss_nil)
    (pss_one (ps_ret (pe_ifExp (pt_cmpR op_eq (pe_ix ix_tup (pv 0) pe_int (fun _ _ => rfl)) pe_str (nomark _)) pe_int pe_int))), ?_⟩
  obtain ⟨x, r, rfl, hsz⟩ := stmt_form hst
  obtain ⟨av, xs, rfl, hs, h0⟩ := st_word hd
  have eA : addedD (.tuple (.str x :: r)) = if x = "match" then ((items (at2 (.tuple (.str x :: r)))).filter fun e => !isNoneD (at0 e)).length else if x = "let" then 1 else 0 := rfl
  refine ⟨_, rfl, av, xs, 0, _, rfl, rfl, hs, atI_nat (j := 0) h0, rfl, _, rfl, ?_⟩
  rw [dstr]
  by_cases w1 : x = "match"
  · rw [decide_eq_true w1]
    rw [if_pos w1] at eA
    obtain ⟨hrow, hpp⟩ := hm w1
    have hl : r.length = 2 := stmt_len hsz (by rw [w1]; rfl)
    obtain ⟨av', xs', z, e', hs', hz, hdz, hfz⟩ := tup_at hd ht (j := 2) (by rw [List.length_cons]; omega)
    cases e'
    have hrow : isRow ((PyData.str x :: r).getD 2 .none) = true := hrow
    have hpp : ∀ e ∈ items ((PyData.str x :: r).getD 2 .none), isTupN e 2 = true := hpp
    have eA : addedD (.tuple (.str x :: r)) = ((items ((PyData.str x :: r).getD 2 .none)).filter fun e => !isNoneD (at0 e)).length := eA
    generalize (PyData.str x :: r).getD 2 .none = dm at *
    obtain ⟨ar, ws, rfl, hsr, hax⟩ := hdz.row hrow
    have hs2 : SqL K H ar ws ∨ SqT K H ar ws := hsr.imp (·.1) (·.1)
    have hlx := hax.len
    have hl1 := fit_len hfz
    refine iteT ?_
    refine for_row (a := ar) (xs := ws) hs2 (Same.refl H) (fun kk hk => ⟨_, rfl, av, xs', 2, _, rfl, rfl, hs', atI_nat (j := 2) hz, hk⟩) fun J G gs wk D nD => lc_it wk
      (fun i H' => (∃ ys : List V, H' D = some (.lst ys) ∧ ys.length = (((items dm).take i).filter fun e => !isNoneD (at0 e)).length) ∧ Same H H') ⟨⟨[], upd_same, rfl⟩, same_upd nD⟩ (fun i H' _ h => gs _ h.2) ?_ ?_
    · rintro i y H2 H3 hi ⟨⟨ys, g1, g2⟩, g3⟩ ⟨rfl, hy⟩
      obtain ⟨e, he, hde⟩ := hax.get hy
      obtain ⟨e0, e1, rfl⟩ := pair_of (hpp e (List.mem_of_getElem? he))
      obtain ⟨aq, y0, y1, rfl, haq, hy0, _⟩ := pair_at (Dx.mono g3 hde)
      have etk : (items dm).take (i + 1) = (items dm).take i ++ [.tuple [e0, e1]] := by rw [List.take_add_one, he]; rfl
      refine ⟨aq, _, rfl, .inl (.inl haq), rfl, _, _, rfl, _, _, rfl, rfl, rfl, ?_⟩
      refine ⟨_, rfl, _, rfl, ?_⟩
      rw [dx_isNone hy0]
      have hlt : (((items dm).take i).filter fun e => !isNoneD (at0 e)).length ≤ i := Nat.le_trans (List.length_filter_le _ _) (by rw [List.length_take]; omega)
      cases hn : isNoneD e0 with
      | true =>
        refine iteF ⟨⟨ys, g1, ?_⟩, g3⟩
        rw [etk, List.filter_append, List.filter_cons_of_neg (by show ¬ (!isNoneD e0) = true; rw [hn]; decide), List.filter_nil, List.append_nil]
        exact g2
      | false =>
        refine iteT ⟨_, rfl, ys, g1, small1000 (by omega), ⟨_, upd_same, ?_⟩, fun b o eb => ?_⟩
        · rw [etk, List.filter_append, List.filter_cons_of_pos (by show (!isNoneD e0) = true; rw [hn]; rfl), List.filter_nil, List.length_append, List.length_append, g2]
          rfl
        · rw [upd_ne (ne_of_none eb nD)]
          exact g3 b o eb
    · rintro H' ⟨⟨ys, g1, g2⟩, g3⟩
      rw [hlx, List.take_length] at g2
      have zz := q H' g3
      rw [eA, ← g2] at zz
      exact ⟨D, ys, rfl, .inl (.inl (.inl g1)), zz⟩
  · rw [decide_eq_false w1]
    rw [if_neg w1] at eA
    refine iteF ⟨_, rfl, av, xs, 0, _, rfl, rfl, hs, atI_nat (j := 0) h0, rfl, _, rfl, ?_⟩
    rw [dstr]
    have zz := q H (Same.refl H)
    rw [eA] at zz
    by_cases w2 : x = "let"
    · rw [decide_eq_true w2]
      rw [if_pos w2] at zz
      exact iteT zz
    · rw [decide_eq_false w2]
      rw [if_neg w2] at zz
      exact iteF zz
end
end Lm

namespace Lm
open PySem PySem.Spec PyProof.Rows L2
open C8 (fnScope_by pe_gc pss_cut tCut Cal pe_c)
/-! ### reason -/
def reasonD (st : Fc) (c : Sc) (last : Bool) (d : PyData) : Option Str :=
  if st.passed = 40 then some "row" else if isStmt d = false then some "statement" else if namesFit st d = false then some "name" else
  if wordOf d = "let" ∧ isKindD st.srt (at2 d) = false then some "kind" else if placesFit st c.vars d = false then some "place" else
  if wordOf d = "match" ∧ armsFit st.srt c.vars (at1 d) (at2 d) = false then some "arms" else if standsRight (wordOf d) c.looped last = false then some "last" else
  if 6 < c.depth ∨ 8 < st.decl.length + addedD d then some "deep" else none
theorem armsGo_tup : ∀ {xs ys : List PyData}, xs.length = ys.length → armsGo xs ys = true → ∀ e ∈ xs, isTupN e 2 = true
  | [], _, _, _, e, he => by cases he
  | x :: r, [], h, _, _, _ => by cases h
  | x :: r, y :: s, h, g, e, he => by
    unfold armsGo at g
    rw [Bool.and_eq_true, Bool.and_eq_true] at g
    rcases List.mem_cons.mp he with rfl | he
    · exact g.1
    · exact armsGo_tup (Nat.succ.inj h) g.2.2 e he
theorem arms_pairs {srt : Srt} {vars : Vars} {d1 d2 : PyData} (h : armsFit srt vars d1 d2 = true) : isRow d2 = true ∧ ∀ e ∈ items d2, isTupN e 2 = true := by
  unfold armsFit at h
  split at h
  · cases h
  · split at h
    · cases h
    · rw [Bool.and_eq_true, Bool.and_eq_true, decide_eq_true_eq] at h
      exact ⟨h.1, armsGo_tup h.2.1 h.2.2⟩
theorem choice_at {srt : Srt} {o : Option Str} (h : isChoiceD srt (okD o) = true) : ∃ k z p, o = some k ∧ srt.lookup k = some (z, p) := by
  cases o with
  | none => cases h
  | some k =>
    have h' : (true && match srt.lookup k with | some (z, _) => decide (z = "choice") | none => false) = true := h
    cases hl : srt.lookup k with
    | none => rw [hl] at h'; cases h'
    | some zp => exact ⟨k, zp.1, zp.2, rfl, hl⟩

section
variable {P : Program} {w : World} {K : PySem.W.Frag} {mg : Str → Option Value} {base : Heap} {C S : Addr}
structure Cn (mg : Str → Option Value) : Prop where
  statements : ∃ u, mg "MOST_STATEMENTS" = some u ∧ RelV (.int 40) u
  bodies : ∃ u, mg "MOST_BODIES" = some u ∧ RelV (.int 6) u
  variables : ∃ u, mg "MOST_VARIABLES" = some u ∧ RelV (.int 8) u
def spReason (K : PySem.W.Frag) (C S : Addr) : Sp := fun vs H Q _ => ∃ (a b : Addr) (v : V) (d : PyData) (st : Fc) (c : Sc) (t : Bool), vs = [.ref a, v, .ref b, .bl t] ∧ FcAt K C H a st ∧ ScAt S H b c ∧ SrtTup st.srt ∧ VarsOk c.vars ∧ HeadsOk st.heads ∧ Dx K H v d ∧ fit d = true ∧
  ∀ H', Same H H' → Q (okV (reasonD st c t d)) H'
theorem scRs : FnScope ["self", "statement", "scope", "last"] ["self", "statement", "scope", "last"] (defScope mReason) := fnScope_by (by decide +kernel)
theorem kReason {f : Addr} {fd : FuncData} (F : Fun K "reason" "FunctionCheck.reason" mReason f fd) (B : Bt mg) (N : Cn mg) (k : FcC K C) (ks : ScC K S) (c1 : Cal P w K mg base 1 "is_statement" (spD K isStmt) []) (c2 : Cal P w K mg base 1 "is_kind" (spSK K isKindD fun _ => True) []) (c3 : Cal P w K mg base 1 "stands_right" spSR []) (c4 : Cal P w K mg base 1 "added" (spAdded K) [])
    (m1 : MCal P w K mg base C 4 "names_fit" (spStmt K C namesFit)) (m2 : MCal P w K mg base C 6 "places_fit" (spPF2 K C)) (m3 : MCal P w K mg base C 4 "arms_fit" (spArms K C)) : FnOk P w K mg base CX0 7 f fd ["self", "statement", "scope", "last"] (spReason K C S) := by
  obtain ⟨f1, fd1, ps1, F1, M1, B1⟩ := m1
  obtain ⟨f2, fd2, ps2, F2, M2, B2⟩ := m2
  obtain ⟨f3, fd3, ps3, F3, M3, B3⟩ := m3
  refine F.ok scRs (fun vs H Q E h => ?_) (fun cdv A outer s H vs Q E hr h => ?_)
  · obtain ⟨a, b, v, d, st, c, t, rfl, _⟩ := h
    rfl
  obtain ⟨a, b, v, d, st, c, t, rfl, hf, hc, htu, hvo, hho, hd, ht, q⟩ := h
  have hr4 : Room 4 _ := hr.mono (by decide)
  refine ⟨_, pss_cons (ps_if (pt_cmpR op_eq (pe_fld (pv 0) rfl) (pe_gc (by rfl) N.statements) (by rfl)) (pss_one (ps_ret pe_str)) pss_nil)
    (pss_cons (ps_if (pt_not (pt_val (pe_c c1 hr (by decide) (by rfl) (pa_cons (pv 1) pa_nil)))) (pss_one (ps_ret pe_str)) pss_nil)
    (pss_cons (ps_if (pt_not (pt_val (pe_meth (pv 0) k.cl M1 F1 hr4 B1 .nil pass0 (pa_cons (pv 1) pa_nil)))) (pss_one (ps_ret pe_str)) pss_nil)
    (pss_cons (ps_if (PW.pt (pw_and (pt_cmpR op_eq (pe_ix ix_tup (pv 1) pe_int (fun _ _ => rfl)) pe_str (nomark _)) (pw_and1 (pt_not (pt_val (pe_c c2 hr (by decide) (by rfl) (pa_cons (pe_fld (pv 0) rfl) (pa_cons (pe_ix ix_tup (pv 1) pe_int (fun _ _ => rfl)) pa_nil)))))))) (pss_one (ps_ret pe_str)) pss_nil)
    (pss_cons (ps_if (pt_not (pt_val (pe_meth (pv 0) k.cl M2 F2 hr B2 .nil pass0 (pa_cons (pv 1) (pa_cons (pe_fld (pv 2) rfl) pa_nil))))) (pss_one (ps_ret pe_str)) pss_nil)
    (pss_cons (ps_if (PW.pt (pw_and (pt_cmpR op_eq (pe_ix ix_tup (pv 1) pe_int (fun _ _ => rfl)) pe_str (nomark _)) (pw_and1 (pt_not (pt_val (pe_meth (pv 0) k.cl M3 F3 hr4 B3 .nil pass0 (pa_cons (pv 1) (pa_cons (pe_fld (pv 2) rfl) pa_nil)))))))) (pss_one (ps_ret pe_str)) pss_nil)
    (pss_cons (ps_if (pt_not (pt_val (pe_c c3 hr (by decide) (by rfl) (pa_cons (pe_ix ix_tup (pv 1) pe_int (fun _ _ => rfl)) (pa_cons (pe_fld (pv 2) rfl) (pa_cons (pv 3) pa_nil)))))) (pss_one (ps_ret pe_str)) pss_nil)
    (pss_cons (ps_if (PW.pt (pw_or (pt_cmpR op_gt (pe_fld (pv 2) rfl) (pe_gc (by rfl) N.bodies) (by rfl)) (pw_or1 (pt_cmpR op_gt (pe_op op_add (pe_callB call_lenD (by rfl) B.len boot_len (pa_cons (pe_fld (pv 0) rfl) pa_nil)) (pe_c c4 hr (by decide) (by rfl) (pa_cons (pv 1) pa_nil))) (pe_gc (by rfl) N.variables) (by rfl))))) (pss_one (ps_ret pe_str)) pss_nil)
    (pss_one (ps_ret pe_non))))))))), ?_⟩
  have hfc := hf
  obtain ⟨dx, sa, ha, wa, ca, da, h1, h2⟩ := hfc
  have hcc := hc
  obtain ⟨dy, va, g1, g2⟩ := hcc
  have say : ∀ (y : Option Str) (H' : Hp), Same H H' → reasonD st c t d = y → Q (okV y) H' := fun y H' s' e => by
    have zz := q H' s'
    rw [e] at zz
    exact zz
  refine ⟨_, rfl, a, C, dx, _, _, rfl, h1, k.cl, k.passed, by rfl, rfl, _, rfl, ?_⟩
  have e40 : decide (V.int ((st.passed : Nat) : Int) = V.int 40) = decide (st.passed = 40) := decide_eq_decide.mpr ⟨fun h => by have := V.int.inj h; omega, fun h => by rw [h]; rfl⟩
  rw [e40]
  by_cases w0 : st.passed = 40
  · rw [decide_eq_true w0]
    exact iteT (say (some "row") H (Same.refl H) (by unfold reasonD; rw [if_pos w0]))
  rw [decide_eq_false w0]
  refine iteF ⟨_, rfl, v, d, rfl, hd, _, rfl, ?_⟩
  cases w1 : isStmt d with
  | false => exact iteT (say (some "statement") H (Same.refl H) (by unfold reasonD; rw [if_neg w0, if_pos w1]))
  | true =>
    refine iteF ⟨_, rfl, a, dx, _, rfl, h1, by rfl, _, rfl, a, v, d, st, rfl, hf, hd, ht, w1, fun H1 s1 => ⟨_, rfl, ?_⟩⟩
    have w1' : ¬ isStmt d = false := by rw [w1]; decide
    cases w2 : namesFit st d with
    | false => exact iteT (say (some "name") H1 s1 (by unfold reasonD; rw [if_neg w0, if_neg w1', if_pos w2]))
    | true =>
      have w2' : ¬ namesFit st d = false := by rw [w2]; decide
      refine iteF ?_
      obtain ⟨x, r, rfl, hsz⟩ := stmt_form w1
      obtain ⟨av, xs, rfl, hs, h0⟩ := st_word hd
      have hs1 := sqt_same s1 hs
      have hd1 := Dx.mono s1 hd
      have hf1 := hf.mono s1
      have h11 := s1 _ _ h1
      have g11 := s1 _ _ g1
      have h21 := h2.mono s1
      have eW : wordOf (.tuple (.str x :: r)) = x := rfl
      have eR : reasonD st c t (.tuple (.str x :: r)) = (if st.passed = 40 then some "row" else if isStmt (.tuple (.str x :: r)) = false then some "statement" else if namesFit st (.tuple (.str x :: r)) = false then some "name" else
        if x = "let" ∧ isKindD st.srt (at2 (.tuple (.str x :: r))) = false then some "kind" else if placesFit st c.vars (.tuple (.str x :: r)) = false then some "place" else
        if x = "match" ∧ armsFit st.srt c.vars (at1 (.tuple (.str x :: r))) (at2 (.tuple (.str x :: r))) = false then some "arms" else if standsRight x c.looped t = false then some "last" else
        if 6 < c.depth ∨ 8 < st.decl.length + addedD (.tuple (.str x :: r)) then some "deep" else none : Option Str) := rfl
      rw [if_neg w0, if_neg w1', if_neg w2'] at eR
      refine ⟨_, rfl, av, xs, 0, _, rfl, rfl, hs1, atI_nat (j := 0) h0, rfl, _, rfl, ?_⟩
      rw [dstr]
      by_cases wl : x = "let"
      · rw [decide_eq_true wl]
        refine iteT ?_
        have hl : r.length = 2 := stmt_len hsz (by rw [wl]; rfl)
        obtain ⟨av', xs', z, e', hs', hz, hdz, hfz⟩ := tup_at hd1 ht (j := 2) (by rw [List.length_cons]; omega)
        cases e'
        refine ⟨_, rfl, a, C, dx, _, _, rfl, h11, k.cl, k.sorts, by rfl, _, rfl, av, xs', 2, z, rfl, rfl, hs', atI_nat (j := 2) hz, sa, z, _, st.srt, rfl, h21.srt, hdz, trivial, _, rfl, ?_⟩
        have ea : isKindD st.srt ((PyData.str x :: r).getD 2 .none) = isKindD st.srt (at2 (.tuple (.str x :: r))) := rfl
        rw [ea]
        cases wk : isKindD st.srt (at2 (.tuple (.str x :: r))) with
        | false =>
          have hx : x = "let" ∧ isKindD st.srt (at2 (.tuple (.str x :: r))) = false := ⟨wl, wk⟩
          exact iteT (say (some "kind") H1 s1 (by rw [eR, if_pos hx]))
        | true =>
          refine iteF ?_
          have nk : ¬ (x = "let" ∧ isKindD st.srt (at2 (.tuple (.str x :: r))) = false) := fun z => by rw [wk] at z; cases z.2
          rw [if_neg nk] at eR
          refine ⟨_, rfl, a, dx, _, rfl, h11, by rfl, _, rfl, _, rfl, b, S, dy, _, _, rfl, g11, ks.cl, ks.variables, by rfl, a, va, _, _, st, c.vars, rfl, hf1, s1 _ _ g2, hvo, hho, hd1, ht, w1, w2, fun H2 s2 => ⟨_, rfl, ?_⟩⟩
          have s02 := s1.trans s2
          cases w5 : placesFit st c.vars (.tuple (.str x :: r)) with
          | false => exact iteT (say (some "place") H2 s02 (by rw [eR, if_pos w5]))
          | true =>
            have w5' : ¬ placesFit st c.vars (.tuple (.str x :: r)) = false := by rw [w5]; decide
            rw [if_neg w5'] at eR
            refine iteF ?_
            have hs2 := sqt_same s02 hs
            refine ⟨_, rfl, av, xs, 0, _, rfl, rfl, hs2, atI_nat (j := 0) h0, rfl, _, rfl, ?_⟩
            rw [dstr]
            by_cases wm : x = "match"
            · rw [decide_eq_true wm]
              refine iteT ?_
              have hl2 : r.length = 2 := stmt_len hsz (by rw [wm]; rfl)
              have hch : isChoiceD st.srt (okD (placeKind st.srt c.vars (at1 (.tuple (.str x :: r))))) = true := by
                have z := w5
                have e1 : ¬ (x = "new" ∨ x = "drop") := by rw [wm]; decide
                have e2 : ¬ x = "move" := by rw [wm]; decide
                have e3 : ¬ x = "call" := by rw [wm]; decide
                have e4 : ¬ x = "ask" := by rw [wm]; decide
                unfold placesFit at z
                rw [eW, if_neg e1, if_neg e2, if_neg e3, if_neg e4, if_pos wm] at z
                exact z
              match r, hl2 with
              | [d1, d2], _ =>
                refine ⟨_, rfl, a, dx, _, rfl, s2 _ _ h11, by rfl, _, rfl, _, rfl, b, S, dy, _, _, rfl, s2 _ _ g11, ks.cl, ks.variables, by rfl, a, va, _, .str x, d1, d2, st, c.vars, rfl, hf.mono s02, htu, s02 _ _ g2, Dx.mono s02 hd, fitAll_at (i := 2) (fit_items ht) rfl, choice_at hch, fun H3 s3 => ⟨_, rfl, ?_⟩⟩
                have s03 := s02.trans s3
                cases w6 : armsFit st.srt c.vars d1 d2 with
                | false =>
                  have hx6 : x = "match" ∧ armsFit st.srt c.vars (at1 (.tuple [.str x, d1, d2])) (at2 (.tuple [.str x, d1, d2])) = false := ⟨wm, w6⟩
                  exact iteT (say (some "arms") H3 s03 (by rw [eR, if_pos hx6]))
                | true =>
                  refine iteF ?_
                  have na : ¬ (x = "match" ∧ armsFit st.srt c.vars (at1 (.tuple [.str x, d1, d2])) (at2 (.tuple [.str x, d1, d2])) = false) := fun z => by
                    have z2 : armsFit st.srt c.vars d1 d2 = false := z.2
                    rw [w6] at z2
                    cases z2
                  rw [if_neg na] at eR
                  have hmm : wordOf (.tuple [.str x, d1, d2]) = "match" → isRow (at2 (.tuple [.str x, d1, d2])) = true ∧ ∀ e ∈ items (at2 (.tuple [.str x, d1, d2])), isTupN e 2 = true := fun _ => arms_pairs w6
                  have hs3 := sqt_same s03 hs
                  refine ⟨_, rfl, av, xs, 0, _, rfl, rfl, hs3, atI_nat (j := 0) h0, _, rfl, b, S, dy, _, _, rfl, s03 _ _ g1, ks.cl, ks.looped, by rfl, _, rfl, x, c.looped, t, rfl, fun H4 s4 => ⟨_, rfl, ?_⟩⟩
                  have s04 := s03.trans s4
                  cases w7 : standsRight x c.looped t with
                  | false => exact iteT (say (some "last") H4 s04 (by rw [eR, if_pos w7]))
                  | true =>
                    have w7' : ¬ standsRight x c.looped t = false := by rw [w7]; decide
                    rw [if_neg w7'] at eR
                    refine iteF ⟨_, rfl, b, S, dy, _, _, rfl, s04 _ _ g1, ks.cl, ks.depth, by rfl, _, _, rfl, rfl, _, rfl, ?_⟩
                    show (if decide (((c.depth : Nat) : Int) > 6) = true then _ else _)
                    by_cases w8 : 6 < c.depth
                    · rw [decide_eq_true (by omega : ((c.depth : Nat) : Int) > 6)]
                      exact iteT (iteT (say (some "deep") H4 s04 (by rw [eR, if_pos (.inl w8)])))
                    rw [decide_eq_false (by omega : ¬ ((c.depth : Nat) : Int) > 6)]
                    refine iteF ?_
                    refine ⟨_, rfl, a, C, dx, _, _, rfl, s04 _ _ h1, k.cl, k.declared, by rfl, da, _, rfl, s04 _ _ h2.decl, _, rfl, _, _, rfl, Dx.mono s04 hd, ht, w1, hmm, fun H5 s5 => ?_⟩
                    have s05 := s04.trans s5
                    refine ⟨_, _, rfl, rfl, _, _, rfl, rfl, _, rfl, ?_⟩
                    have ev : (vsV st.decl).length = st.decl.length := List.length_map ..
                    rw [ev]
                    by_cases w9 : 8 < st.decl.length + addedD (.tuple [.str x, d1, d2])
                    · rw [decide_eq_true (by omega)]
                      exact iteT (say (some "deep") H5 s05 (by rw [eR, if_pos (.inr w9)]))
                    · rw [decide_eq_false (by omega)]
                      exact iteF (say none H5 s05 (by rw [eR, if_neg (fun z => z.elim w8 w9)]))
            · rw [decide_eq_false wm]
              refine iteF (iteF ?_)
              have na : ¬ (x = "match" ∧ armsFit st.srt c.vars (at1 (.tuple (.str x :: r))) (at2 (.tuple (.str x :: r))) = false) := fun z => wm z.1
              rw [if_neg na] at eR
              have hmm : wordOf (.tuple (.str x :: r)) = "match" → isRow (at2 (.tuple (.str x :: r))) = true ∧ ∀ e ∈ items (at2 (.tuple (.str x :: r))), isTupN e 2 = true := fun z => absurd z wm
              have s03 := s02
              have hs3 := sqt_same s03 hs
              refine ⟨_, rfl, av, xs, 0, _, rfl, rfl, hs3, atI_nat (j := 0) h0, _, rfl, b, S, dy, _, _, rfl, s03 _ _ g1, ks.cl, ks.looped, by rfl, _, rfl, x, c.looped, t, rfl, fun H4 s4 => ⟨_, rfl, ?_⟩⟩
              have s04 := s03.trans s4
              cases w7 : standsRight x c.looped t with
              | false => exact iteT (say (some "last") H4 s04 (by rw [eR, if_pos w7]))
              | true =>
                have w7' : ¬ standsRight x c.looped t = false := by rw [w7]; decide
                rw [if_neg w7'] at eR
                refine iteF ⟨_, rfl, b, S, dy, _, _, rfl, s04 _ _ g1, ks.cl, ks.depth, by rfl, _, _, rfl, rfl, _, rfl, ?_⟩
                show (if decide (((c.depth : Nat) : Int) > 6) = true then _ else _)
                by_cases w8 : 6 < c.depth
                · rw [decide_eq_true (by omega : ((c.depth : Nat) : Int) > 6)]
                  exact iteT (iteT (say (some "deep") H4 s04 (by rw [eR, if_pos (.inl w8)])))
                rw [decide_eq_false (by omega : ¬ ((c.depth : Nat) : Int) > 6)]
                refine iteF ?_
                refine ⟨_, rfl, a, C, dx, _, _, rfl, s04 _ _ h1, k.cl, k.declared, by rfl, da, _, rfl, s04 _ _ h2.decl, _, rfl, _, _, rfl, Dx.mono s04 hd, ht, w1, hmm, fun H5 s5 => ?_⟩
                have s05 := s04.trans s5
                refine ⟨_, _, rfl, rfl, _, _, rfl, rfl, _, rfl, ?_⟩
                have ev : (vsV st.decl).length = st.decl.length := List.length_map ..
                rw [ev]
                by_cases w9 : 8 < st.decl.length + addedD (.tuple (.str x :: r))
                · rw [decide_eq_true (by omega)]
                  exact iteT (say (some "deep") H5 s05 (by rw [eR, if_pos (.inr w9)]))
                · rw [decide_eq_false (by omega)]
                  exact iteF (say none H5 s05 (by rw [eR, if_neg (fun z => z.elim w8 w9)]))
      · rw [decide_eq_false wl]
        refine iteF (iteF ?_)
        have nk : ¬ (x = "let" ∧ isKindD st.srt (at2 (.tuple (.str x :: r))) = false) := fun z => wl z.1
        rw [if_neg nk] at eR
        refine ⟨_, rfl, a, dx, _, rfl, h11, by rfl, _, rfl, _, rfl, b, S, dy, _, _, rfl, g11, ks.cl, ks.variables, by rfl, a, va, _, _, st, c.vars, rfl, hf1, s1 _ _ g2, hvo, hho, hd1, ht, w1, w2, fun H2 s2 => ⟨_, rfl, ?_⟩⟩
        have s02 := s1.trans s2
        cases w5 : placesFit st c.vars (.tuple (.str x :: r)) with
        | false => exact iteT (say (some "place") H2 s02 (by rw [eR, if_pos w5]))
        | true =>
          have w5' : ¬ placesFit st c.vars (.tuple (.str x :: r)) = false := by rw [w5]; decide
          rw [if_neg w5'] at eR
          refine iteF ?_
          have hs2 := sqt_same s02 hs
          refine ⟨_, rfl, av, xs, 0, _, rfl, rfl, hs2, atI_nat (j := 0) h0, rfl, _, rfl, ?_⟩
          rw [dstr]
          by_cases wm : x = "match"
          · rw [decide_eq_true wm]
            refine iteT ?_
            have hl2 : r.length = 2 := stmt_len hsz (by rw [wm]; rfl)
            have hch : isChoiceD st.srt (okD (placeKind st.srt c.vars (at1 (.tuple (.str x :: r))))) = true := by
              have z := w5
              have e1 : ¬ (x = "new" ∨ x = "drop") := by rw [wm]; decide
              have e2 : ¬ x = "move" := by rw [wm]; decide
              have e3 : ¬ x = "call" := by rw [wm]; decide
              have e4 : ¬ x = "ask" := by rw [wm]; decide
              unfold placesFit at z
              rw [eW, if_neg e1, if_neg e2, if_neg e3, if_neg e4, if_pos wm] at z
              exact z
            match r, hl2 with
            | [d1, d2], _ =>
              refine ⟨_, rfl, a, dx, _, rfl, s2 _ _ h11, by rfl, _, rfl, _, rfl, b, S, dy, _, _, rfl, s2 _ _ g11, ks.cl, ks.variables, by rfl, a, va, _, .str x, d1, d2, st, c.vars, rfl, hf.mono s02, htu, s02 _ _ g2, Dx.mono s02 hd, fitAll_at (i := 2) (fit_items ht) rfl, choice_at hch, fun H3 s3 => ⟨_, rfl, ?_⟩⟩
              have s03 := s02.trans s3
              cases w6 : armsFit st.srt c.vars d1 d2 with
              | false =>
                have hx6 : x = "match" ∧ armsFit st.srt c.vars (at1 (.tuple [.str x, d1, d2])) (at2 (.tuple [.str x, d1, d2])) = false := ⟨wm, w6⟩
                exact iteT (say (some "arms") H3 s03 (by rw [eR, if_pos hx6]))
              | true =>
                refine iteF ?_
                have na : ¬ (x = "match" ∧ armsFit st.srt c.vars (at1 (.tuple [.str x, d1, d2])) (at2 (.tuple [.str x, d1, d2])) = false) := fun z => by
                  have z2 : armsFit st.srt c.vars d1 d2 = false := z.2
                  rw [w6] at z2
                  cases z2
                rw [if_neg na] at eR
                have hmm : wordOf (.tuple [.str x, d1, d2]) = "match" → isRow (at2 (.tuple [.str x, d1, d2])) = true ∧ ∀ e ∈ items (at2 (.tuple [.str x, d1, d2])), isTupN e 2 = true := fun _ => arms_pairs w6
                have hs3 := sqt_same s03 hs
                refine ⟨_, rfl, av, xs, 0, _, rfl, rfl, hs3, atI_nat (j := 0) h0, _, rfl, b, S, dy, _, _, rfl, s03 _ _ g1, ks.cl, ks.looped, by rfl, _, rfl, x, c.looped, t, rfl, fun H4 s4 => ⟨_, rfl, ?_⟩⟩
                have s04 := s03.trans s4
                cases w7 : standsRight x c.looped t with
                | false => exact iteT (say (some "last") H4 s04 (by rw [eR, if_pos w7]))
                | true =>
                  have w7' : ¬ standsRight x c.looped t = false := by rw [w7]; decide
                  rw [if_neg w7'] at eR
                  refine iteF ⟨_, rfl, b, S, dy, _, _, rfl, s04 _ _ g1, ks.cl, ks.depth, by rfl, _, _, rfl, rfl, _, rfl, ?_⟩
                  show (if decide (((c.depth : Nat) : Int) > 6) = true then _ else _)
                  by_cases w8 : 6 < c.depth
                  · rw [decide_eq_true (by omega : ((c.depth : Nat) : Int) > 6)]
                    exact iteT (iteT (say (some "deep") H4 s04 (by rw [eR, if_pos (.inl w8)])))
                  rw [decide_eq_false (by omega : ¬ ((c.depth : Nat) : Int) > 6)]
                  refine iteF ?_
                  refine ⟨_, rfl, a, C, dx, _, _, rfl, s04 _ _ h1, k.cl, k.declared, by rfl, da, _, rfl, s04 _ _ h2.decl, _, rfl, _, _, rfl, Dx.mono s04 hd, ht, w1, hmm, fun H5 s5 => ?_⟩
                  have s05 := s04.trans s5
                  refine ⟨_, _, rfl, rfl, _, _, rfl, rfl, _, rfl, ?_⟩
                  have ev : (vsV st.decl).length = st.decl.length := List.length_map ..
                  rw [ev]
                  by_cases w9 : 8 < st.decl.length + addedD (.tuple [.str x, d1, d2])
                  · rw [decide_eq_true (by omega)]
                    exact iteT (say (some "deep") H5 s05 (by rw [eR, if_pos (.inr w9)]))
                  · rw [decide_eq_false (by omega)]
                    exact iteF (say none H5 s05 (by rw [eR, if_neg (fun z => z.elim w8 w9)]))
          · rw [decide_eq_false wm]
            refine iteF (iteF ?_)
            have na : ¬ (x = "match" ∧ armsFit st.srt c.vars (at1 (.tuple (.str x :: r))) (at2 (.tuple (.str x :: r))) = false) := fun z => wm z.1
            rw [if_neg na] at eR
            have hmm : wordOf (.tuple (.str x :: r)) = "match" → isRow (at2 (.tuple (.str x :: r))) = true ∧ ∀ e ∈ items (at2 (.tuple (.str x :: r))), isTupN e 2 = true := fun z => absurd z wm
            have s03 := s02
            have hs3 := sqt_same s03 hs
            refine ⟨_, rfl, av, xs, 0, _, rfl, rfl, hs3, atI_nat (j := 0) h0, _, rfl, b, S, dy, _, _, rfl, s03 _ _ g1, ks.cl, ks.looped, by rfl, _, rfl, x, c.looped, t, rfl, fun H4 s4 => ⟨_, rfl, ?_⟩⟩
            have s04 := s03.trans s4
            cases w7 : standsRight x c.looped t with
            | false => exact iteT (say (some "last") H4 s04 (by rw [eR, if_pos w7]))
            | true =>
              have w7' : ¬ standsRight x c.looped t = false := by rw [w7]; decide
              rw [if_neg w7'] at eR
              refine iteF ⟨_, rfl, b, S, dy, _, _, rfl, s04 _ _ g1, ks.cl, ks.depth, by rfl, _, _, rfl, rfl, _, rfl, ?_⟩
              show (if decide (((c.depth : Nat) : Int) > 6) = true then _ else _)
              by_cases w8 : 6 < c.depth
              · rw [decide_eq_true (by omega : ((c.depth : Nat) : Int) > 6)]
                exact iteT (iteT (say (some "deep") H4 s04 (by rw [eR, if_pos (.inl w8)])))
              rw [decide_eq_false (by omega : ¬ ((c.depth : Nat) : Int) > 6)]
              refine iteF ?_
              refine ⟨_, rfl, a, C, dx, _, _, rfl, s04 _ _ h1, k.cl, k.declared, by rfl, da, _, rfl, s04 _ _ h2.decl, _, rfl, _, _, rfl, Dx.mono s04 hd, ht, w1, hmm, fun H5 s5 => ?_⟩
              have s05 := s04.trans s5
              refine ⟨_, _, rfl, rfl, _, _, rfl, rfl, _, rfl, ?_⟩
              have ev : (vsV st.decl).length = st.decl.length := List.length_map ..
              rw [ev]
              by_cases w9 : 8 < st.decl.length + addedD (.tuple (.str x :: r))
              · rw [decide_eq_true (by omega)]
                exact iteT (say (some "deep") H5 s05 (by rw [eR, if_pos (.inr w9)]))
              · rw [decide_eq_false (by omega)]
                exact iteF (say none H5 s05 (by rw [eR, if_neg (fun z => z.elim w8 w9)]))
end
end Lm

namespace Lm
open PySem PySem.Spec PyProof.Rows L2
open C8 (fnScope_by pe_gc pss_cut tCut Cal pe_c)
/-! ### bodies_of -/
def bodyWords : List Str := ["if", "try", "loop", "block"]
def bodiesD (d : PyData) : List PyData := if wordOf d = "match" then (items (at2 d)).map at1 else if bodyWords.contains (wordOf d) = true then (items d).drop 1 else []
section
variable {P : Program} {w : World} {K : PySem.W.Frag} {mg : Str → Option Value} {base : Heap} {C : Addr}
theorem DxAll.app {H : Hp} : ∀ {vs us : List V} {ds es : List PyData}, DxAll K H vs ds → DxAll K H us es → DxAll K H (vs ++ us) (ds ++ es)
  | _, _, _, _, .nil, h => h
  | _, _, _, _, .cons h a, g => .cons h (DxAll.app a g)
def spBodies (K : PySem.W.Frag) : Sp := fun vs H Q _ => ∃ (v : V) (d : PyData), vs = [v] ∧ Dx K H v d ∧ fit d = true ∧ isStmt d = true ∧ (wordOf d = "match" → isRow (at2 d) = true ∧ ∀ e ∈ items (at2 d), isTupN e 2 = true) ∧
  ∀ (p : Addr) (H' : Hp) (ys : List V), Same H H' → H p = none → H' p = some (.lst ys) → DxAll K H ys (bodiesD d) → Q (.ref p) H'
abbrev nsBO : List Str := ["statement", "word", "_", "body"]
theorem scBO : FnScope nsBO ["statement"] (defScope sBodiesOf) := fnScope_by (by decide +kernel)
theorem kBodies {f : Addr} {fd : FuncData} (F : Fun K "bodies_of" "bodies_of" sBodiesOf f fd) (B : Bt mg) : FnOk P w K mg base CX0 1 f fd ["statement"] (spBodies K) := by
  refine F.ok scBO (fun vs H Q E h => ?_) (fun cdv A outer s H vs Q E hr h => ?_)
  · obtain ⟨v, d, rfl, _⟩ := h
    rfl
  obtain ⟨v, d, rfl, hd, ht, hst, hm, q⟩ := h
  refine ⟨_, pss_cons (ps_set (i := 1) scBO.nd rfl (.inl rfl) (pe_ix ix_tup (pv 0) pe_int (fun _ _ => rfl)))
    (pss_cons (ps_if (pt_cmpR op_eq (pv 1) pe_str (nomark _)) (pss_one (ps_ret
      (pe_lc (own := [("_", 2), ("body", 3)]) (tt := tYes) rfl scBO.nd (pi_row (pe_ix ix_tup (pv 0) pe_int (fun _ _ => rfl))) (blkOk_by (N := nsBO) (sc := defScope sBodiesOf) (by decide +kernel)) (fun _ _ _ _ _ => pg_tupk K rfl (n := 2) rfl (pgs_cons (pg_name (i := 2) scBO.nd rfl (Or.inl rfl)) (pgs_cons (pg_name (i := 3) scBO.nd rfl (Or.inl rfl)) pgs_nil)))
        (fun _ _ _ _ _ => pts_nil) (fun _ _ _ _ _ => pv 3)))) pss_nil)
    (pss_cons (ps_if (pt_cmpR op_in_seq (pv 1) (pe_tup (pa_cons pe_str (pa_cons pe_str (pa_cons pe_str (pa_cons pe_str pa_nil))))) (by rfl)) (pss_one (ps_ret (pe_callTy call_list_of (by rfl) B.lst boot_list (pa_cons (pe_slice sl_tupA (pv 0) (po_some pe_int) po_none) pa_nil)))) pss_nil)
    (pss_one (ps_ret (pe_lst pa_nil))))), ?_⟩
  obtain ⟨x, r, rfl, hsz⟩ := stmt_form hst
  obtain ⟨av, xs, rfl, hs, h0⟩ := st_word hd
  have eB : bodiesD (.tuple (.str x :: r)) = if x = "match" then (items (at2 (.tuple (.str x :: r)))).map at1 else if bodyWords.contains x = true then r else [] := rfl
  refine ⟨_, rfl, av, xs, 0, _, rfl, rfl, hs, atI_nat (j := 0) h0, _, rfl, rfl, _, rfl, ?_⟩
  rw [dstr]
  by_cases w1 : x = "match"
  · rw [decide_eq_true w1]
    rw [if_pos w1] at eB
    obtain ⟨hrow, hpp⟩ := hm w1
    have hl : r.length = 2 := stmt_len hsz (by rw [w1]; rfl)
    obtain ⟨av', xs', z, e', hs', hz, hdz, hfz⟩ := tup_at hd ht (j := 2) (by rw [List.length_cons]; omega)
    cases e'
    have hrow : isRow ((PyData.str x :: r).getD 2 .none) = true := hrow
    have hpp : ∀ e ∈ items ((PyData.str x :: r).getD 2 .none), isTupN e 2 = true := hpp
    have eB : bodiesD (.tuple (.str x :: r)) = (items ((PyData.str x :: r).getD 2 .none)).map at1 := eB
    generalize (PyData.str x :: r).getD 2 .none = dm at *
    obtain ⟨ar, ws, rfl, hsr, hax⟩ := hdz.row hrow
    have hs2 : SqL K H ar ws ∨ SqT K H ar ws := hsr.imp (·.1) (·.1)
    have hlx := hax.len
    have hl1 := fit_len hfz
    refine iteT ?_
    refine for_row (a := ar) (xs := ws) hs2 (Same.refl H) (fun kk hk => ⟨_, rfl, av, xs', 2, _, rfl, rfl, hs', atI_nat (j := 2) hz, hk⟩) fun J G gs wk D nD => lc_it wk
      (fun i H' => (∃ ys : List V, H' D = some (.lst ys) ∧ DxAll K H ys (((items dm).take i).map at1)) ∧ Same H H') ⟨⟨[], upd_same, .nil⟩, same_upd nD⟩ (fun i H' _ h => gs _ h.2) ?_ ?_
    · rintro i y H2 H3 hi ⟨⟨ys, g1, g2⟩, g3⟩ ⟨rfl, hy⟩
      obtain ⟨e, he, hde⟩ := hax.get hy
      obtain ⟨e0, e1, rfl⟩ := pair_of (hpp e (List.mem_of_getElem? he))
      obtain ⟨aq, y0, y1, rfl, haq, _, hy1⟩ := pair_at hde
      have etk : (items dm).take (i + 1) = (items dm).take i ++ [.tuple [e0, e1]] := by rw [List.take_add_one, he]; rfl
      refine ⟨aq, _, rfl, .inl (.inl (g3 _ _ haq)), rfl, _, _, rfl, _, _, rfl, rfl, rfl, tyes ⟨_, rfl, ys, g1, small1000 (by rw [g2.len, List.length_map, List.length_take]; omega), ⟨_, upd_same, ?_⟩, fun b o eb => ?_⟩⟩
      · rw [etk, List.map_append]
        exact DxAll.app g2 (.cons hy1 .nil)
      · rw [upd_ne (ne_of_none eb nD)]
        exact g3 b o eb
    · rintro H' ⟨⟨ys, g1, g2⟩, g3⟩
      rw [hlx, List.take_length, ← eB] at g2
      exact q D H' ys g3 nD g1 g2
  · rw [decide_eq_false w1]
    rw [if_neg w1] at eB
    refine iteF ⟨_, rfl, by show 4 ≤ sizeLine; decide, fun p np => ⟨p, bodyWords.map V.str, rfl, .inr (.inl (.inl upd_same)), rfl, rfl, _, rfl, ?_⟩⟩
    rw [in_strs]
    have s1 := same_upd (o := .tup (bodyWords.map V.str)) np
    have old : ∀ {p2 : Addr}, (upd H p (.tup (bodyWords.map V.str))) p2 = none → H p2 = none := fun {p2} h => by
      cases hh : H p2 with
      | none => rfl
      | some o => rw [s1 _ _ hh] at h; cases h
    show (if bodyWords.contains x = true then _ else _)
    cases hc : bodyWords.contains x with
    | true =>
      rw [hc, if_pos rfl] at eB
      refine iteT ?_
      obtain ⟨a2, ws, er, hws, hwd⟩ := (Dx.mono s1 hd).tupAt
      cases er
      match ws, hwd with
      | w0 :: wr, .cons hw0 hwr =>
        refine ⟨_, rfl, _, rfl, av, _, rfl, .inl (.inl hws), fun z => ?_, fun _ p2 np2 => ?_⟩
        · have e1 : HT.sIx (w0 :: wr).length 0 (some 1) = 1 := by
            show HT.sIx (w0 :: wr).length 0 (some ((1 : Nat) : Int)) = 1
            rw [HT.sIx_nat, List.length_cons]
            omega
          rw [e1] at z
          exact absurd z.1 (by decide)
        · have s2 := same_upd (o := .tup (cutV (w0 :: wr) (some 1) none)) np2
          refine ⟨p2, _, rfl, .inr (.inl (.inl upd_same)), fun l nl => ?_⟩
          have s3 := same_upd (o := .lst (cutV (w0 :: wr) (some 1) none)) nl
          have nl1 : (upd H p (.tup (bodyWords.map V.str))) l = none := by
            cases hh : (upd H p (.tup (bodyWords.map V.str))) l with
            | none => rfl
            | some o => rw [s2 _ _ hh] at nl; cases nl
          have hcut : DxAll K H (cutV (w0 :: wr) (some 1) none) r := by
            rw [cut1]
            obtain ⟨a3, ws3, er3, hws3, hwd3⟩ := hd.tupAt
            cases er3
            have z := s1 _ _ hws3
            rw [hws] at z
            cases z
            cases hwd3 with
            | cons _ h3 => exact h3
          rw [← eB] at hcut
          exact q l _ _ (s1.trans (s2.trans s3)) (old nl1) upd_same hcut
    | false =>
      rw [hc, if_neg Bool.false_ne_true] at eB
      refine iteF ⟨Nat.zero_le _, fun l nl => ?_⟩
      exact q l _ [] (s1.trans (same_upd nl)) (old nl) upd_same (by rw [eB]; exact .nil)
end
end Lm

namespace Lm
open PySem PySem.Spec PyProof.Rows L2
open C8 (fnScope_by pe_gc pss_cut tCut Cal pe_c)
/-! ### declare -/
/-- a kind is noted: in its place, or at the end -/
def vPut (vs : Vars) (x k : Str) : Vars := if (vs.any fun p => decide (p.1 = x)) = true then vs.map (fun p => if p.1 = x then (p.1, k) else p) else vs ++ [(x, k)]
theorem putK_vs (vs : Vars) (x k : Str) : putK (vsV vs) (Sum.inr x) (V.str k) = vsV (vPut vs x k) := by
  unfold putK vPut
  have e : ((vsV vs).any fun kv => decide (kv.1 = Sum.inr x)) = vs.any fun p => decide (p.1 = x) := by
    unfold vsV
    rw [List.any_map]
    refine congrArg (fun f => vs.any f) (funext fun p => ?_)
    exact decide_eq_decide.mpr ⟨fun h => Sum.inr.inj h, fun h => congrArg Sum.inr h⟩
  rw [e]
  cases vs.any fun p => decide (p.1 = x) with
  | false =>
    rw [if_neg Bool.false_ne_true, if_neg Bool.false_ne_true]
    unfold vsV
    rw [List.map_append]
    rfl
  | true =>
    rw [if_pos rfl, if_pos rfl]
    unfold vsV
    rw [List.map_map, List.map_map]
    refine List.map_congr_left fun p _ => ?_
    show (if (Sum.inr p.1 : Key) = Sum.inr x then ((Sum.inr p.1 : Key), V.str k) else (Sum.inr p.1, V.str p.2)) = _
    by_cases h : p.1 = x
    · rw [if_pos (congrArg Sum.inr h)]
      show _ = ((Sum.inr (if p.1 = x then (p.1, k) else p).1 : Key), V.str ((if p.1 = x then (p.1, k) else p).2))
      rw [if_pos h]
    · rw [if_neg (fun q => h (Sum.inr.inj q))]
      show _ = ((Sum.inr (if p.1 = x then (p.1, k) else p).1 : Key), V.str ((if p.1 = x then (p.1, k) else p).2))
      rw [if_neg h]
/-- the arms' variables -/
def declGo : Vars → List PyData → List PyData → Vars
  | vs, e :: r, p :: s => declGo (if isNoneD (at0 e) = true then vs else vPut vs (strOf (at0 e)) (strOf (at1 p))) r s
  | vs, _, _ => vs
def declD (srt : Srt) (vs : Vars) (d : PyData) : Vars := if wordOf d = "let" then vPut vs (strOf (at1 d)) (strOf (at2 d)) else if wordOf d = "match" then
  (match placeKind srt vs (at1 d) with
   | some k => match srt.lookup k with
     | some (_, p) => declGo vs (items (at2 d)) (items p)
     | none => vs
   | none => vs) else vs
/-! ### a heap in which one dict was written -/
def SameX (dd : Addr) (H H' : Hp) : Prop := (∀ b o, b ≠ dd → H b = some o → H' b = some o) ∧ ∃ k1 k2, H dd = some (.dK k1) ∧ H' dd = some (.dK k2)
theorem SameX.trans {dd : Addr} {H1 H2 H3 : Hp} (a : SameX dd H1 H2) (b : SameX dd H2 H3) : SameX dd H1 H3 := by
  obtain ⟨a1, k1, _, a2, _⟩ := a
  obtain ⟨b1, _, k2, _, b2⟩ := b
  exact ⟨fun x o n e => b1 x o n (a1 x o n e), k1, k2, a2, b2⟩
theorem SameX.of {dd : Addr} {H H' : Hp} {k : List (Key × V)} (s : Same H H') (h : H dd = some (.dK k)) : SameX dd H H' := ⟨fun b o _ e => s b o e, k, k, h, s _ _ h⟩
theorem SameX.put {dd : Addr} {H : Hp} {k k' : List (Key × V)} (h : H dd = some (.dK k)) : SameX dd H (upd H dd (.dK k')) := ⟨fun b o n e => by rw [upd_ne n]; exact e, k, k', h, upd_same⟩
section
variable {K : PySem.W.Frag} {dd : Addr} {H H' : Hp}
mutual
theorem Dx.monoX (e : SameX dd H H') : ∀ {v : V} {d : PyData}, Dx K H v d → Dx K H' v d
  | _, _, .non => .non
  | _, _, .bl b => .bl b
  | _, _, .int i => .int i
  | _, _, .str x => .str x
  | _, _, .lst h a => .lst (e.1 _ _ (fun q => by obtain ⟨_, k1, _, z, _⟩ := e; rw [q, z] at h; cases h) h) (DxAll.monoX e a)
  | _, _, .tup h a => .tup (e.1 _ _ (fun q => by obtain ⟨_, k1, _, z, _⟩ := e; rw [q, z] at h; cases h) h) (DxAll.monoX e a)
  | _, _, .dic (a := a) (kvs := kvs) h => by
    by_cases q : a = dd
    · obtain ⟨_, _, k2, _, z⟩ := e
      subst q
      exact .dic z
    · exact .dic (e.1 _ _ q h)
theorem DxAll.monoX (e : SameX dd H H') : ∀ {vs : List V} {ds : List PyData}, DxAll K H vs ds → DxAll K H' vs ds
  | _, _, .nil => .nil
  | _, _, .cons h a => .cons (Dx.monoX e h) (DxAll.monoX e a)
end
theorem SrtAt.monoX (e : SameX dd H H') {a : Addr} {srt : Srt} (ne : a ≠ dd) (h : SrtAt K H a srt) : SrtAt K H' a srt := by
  obtain ⟨kvs, h1, h2⟩ := h
  refine ⟨kvs, e.1 _ _ ne h1, paired_imp (fun kv s z => ?_) h2⟩
  obtain ⟨z1, t, vp, z2, z3, z4⟩ := z
  exact ⟨z1, t, vp, z2, e.1 _ _ (fun q => by obtain ⟨_, k1, _, y, _⟩ := e; rw [q, y] at z3; cases z3) z3, Dx.monoX e z4⟩
end
end Lm

namespace Lm
open PySem PySem.Spec PyProof.Rows L2
open C8 (fnScope_by pe_gc pss_cut tCut Cal pe_c)
theorem vPut_len (vs : Vars) (x k : Str) : (vPut vs x k).length ≤ vs.length + 1 := by
  unfold vPut
  split
  · rw [List.length_map]; omega
  · rw [List.length_append]; exact Nat.le_refl _
theorem line2000 {n : Nat} (h : n ≤ 2000) : n < sizeLine := Nat.lt_of_le_of_lt h (by decide)
/-- what is known of a statement that is declared -/
def declOk (srt : Srt) (vs : Vars) (d : PyData) : Prop := (wordOf d = "let" → isStr (at1 d) = true ∧ isStr (at2 d) = true) ∧
  (wordOf d = "match" → (∃ k z p, placeKind srt vs (at1 d) = some k ∧ srt.lookup k = some (z, p)) ∧ armsFit srt vs (at1 d) (at2 d) = true ∧ ∀ e ∈ items (at2 d), isNoneD (at0 e) = false → isStr (at0 e) = true)
section
variable {P : Program} {w : World} {K : PySem.W.Frag} {mg : Str → Option Value} {base : Heap} {C : Addr}
theorem zip_rowX {dd : Addr} {H : Hp} {σ : L2.St} {ta : TA} {R : It → Hp → Prop} {a b : Addr} {xs ys : List V} (e : H a = some (.lst xs) ∨ H a = some (.tup xs)) (e2 : H b = some (.tup ys)) (na : a ≠ dd) (nb : b ≠ dd) (sr : SameX dd H H) (ht : ∀ k : List V → Hp → Prop, k [.ref a, .ref b] H → ta σ H k)
    (go : ∀ (J : It) (G : Hp → Prop), (∀ H', SameX dd H H' → G H') → Walk J (min xs.length ys.length) G (YPair (fun i => xs[i]?) (fun i => ys[i]?)) → R J H) : iZipM K ta σ H R ∨ RZ.iZipA K ta σ H R := by
  rcases e with e | e
  · exact .inl (ht _ ⟨a, b, xs, ys, rfl, .inl (.inl e), .inl (.inl e2), go _ _ (fun H' s => ⟨.inl (.inl (s.1 _ _ na e)), .inl (.inl (s.1 _ _ nb e2))⟩) (walk_zipM rfl)⟩)
  · exact .inr (ht _ ⟨a, b, xs, ys, rfl, .inr ⟨.inl (.inl e), .inl (.inl e2), go _ _ (fun H' s => ⟨.inl (.inl (s.1 _ _ na e)), .inl (.inl (s.1 _ _ nb e2))⟩) (walk_zipTT rfl)⟩⟩)
theorem row_raw {H : Hp} {v : V} {d : PyData} (h : Dx K H v d) (r : isRow d = true) : ∃ a xs, v = .ref a ∧ (H a = some (.lst xs) ∨ H a = some (.tup xs)) ∧ DxAll K H xs (items d) := by
  cases h with
  | lst h a => exact ⟨_, _, rfl, .inl h, a⟩
  | tup h a => exact ⟨_, _, rfl, .inr h, a⟩
  | _ => cases r
theorem armsGo_at : ∀ {xs ys : List PyData} {i : Nat} {e q : PyData}, armsGo xs ys = true → xs[i]? = some e → ys[i]? = some q → isNoneD (at0 e) = isNoneD (at1 q)
  | x :: r, y :: s, 0, e, q, h, h1, h2 => by
    unfold armsGo at h
    rw [Bool.and_eq_true, Bool.and_eq_true, decide_eq_true_eq] at h
    cases h1
    cases h2
    exact h.2.1
  | x :: r, y :: s, i + 1, e, q, h, h1, h2 => by
    unfold armsGo at h
    rw [Bool.and_eq_true, Bool.and_eq_true] at h
    exact armsGo_at (i := i) h.2.2 (by simpa using h1) (by simpa using h2)
  | [], _, i, e, q, _, h1, _ => by simp at h1
  | _ :: _, [], i, e, q, _, _, h2 => by simp at h2
def spDecl (K : PySem.W.Frag) : Sp := fun vs H Q _ => ∃ (a dd : Addr) (v : V) (d : PyData) (srt : Srt) (vars : Vars), vs = [.ref a, v, .ref dd] ∧ a ≠ dd ∧ SrtAt K H a srt ∧ SrtOk srt ∧ SrtTup srt ∧ VarAt H dd vars ∧ vars.length ≤ 100 ∧ Dx K H v d ∧ fit d = true ∧ isStmt d = true ∧ declOk srt vars d ∧
  ∀ H', SameX dd H H' → VarAt H' dd (declD srt vars d) → Q .non H'
abbrev nsDC : List Str := ["sorts", "statement", "declared", "parts", "variable", "_", "kind"]
theorem scDC : FnScope nsDC ["sorts", "statement", "declared"] (defScope sDeclare) := fnScope_by (by decide +kernel)
theorem kDecl {f : Addr} {fd : FuncData} (F : Fun K "declare" "declare" sDeclare f fd) (B : Bt mg) (c : Cal P w K mg base 3 "place_kind" (spPK K) []) : FnOk P w K mg base CX0 4 f fd ["sorts", "statement", "declared"] (spDecl K) := by
  refine F.ok scDC (fun vs H Q E h => ?_) (fun cdv A outer s H vs Q E hr h => ?_)
  · obtain ⟨a, dd, v, d, srt, vars, rfl, _⟩ := h
    rfl
  obtain ⟨a, dd, v, d, srt, vars, rfl, hne, ha, hok, htu, hv, hvl, hd, ht, hst, hdo, q⟩ := h
  have hu := hu_of hr
  refine ⟨_, pss_cons (ps_if (pt_cmpR op_eq (pe_ix ix_tup (pv 1) pe_int (fun _ _ => rfl)) pe_str (nomark _)) (pss_one (ps_dput hu (pv 2) (pe_ix ix_tup (pv 1) pe_int (fun _ _ => rfl)) (pe_ix ix_tup (pv 1) pe_int (fun _ _ => rfl)) rfl)) pss_nil)
    (pss_one (ps_if (pt_cmpR op_eq (pe_ix ix_tup (pv 1) pe_int (fun _ _ => rfl)) pe_str (nomark _))
      (pss_cons (ps_set (i := 3) scDC.nd rfl (.inl rfl) (pe_ix ix_tup (pe_dget hu (pv 0) (pe_c c hr (by decide) (by rfl) (pa_cons (pv 0) (pa_cons (pv 2) (pa_cons (pe_ix ix_tup (pv 1) pe_int (fun _ _ => rfl)) pa_nil)))) (fun _ _ => rfl)) pe_int (fun _ _ => rfl)))
      (pss_one (ps_for PassesOwn.never rfl (pi_or (pi_zipM (by rfl) B.zip (pa_cons (pe_ix ix_tup (pv 1) pe_int (fun _ _ => rfl)) (pa_cons (pv 3) pa_nil))) (RZ.pi_zipA (by rfl) B.zip (pa_cons (pe_ix ix_tup (pv 1) pe_int (fun _ _ => rfl)) (pa_cons (pv 3) pa_nil))))
        (pg_tupk K rfl (n := 2) rfl (pgs_cons (pg_tupk K rfl (n := 2) rfl (pgs_cons (pg_name (i := 4) scDC.nd rfl (Or.inl rfl)) (pgs_cons (pg_name (i := 5) scDC.nd rfl (Or.inl rfl)) pgs_nil))) (pgs_cons (pg_tupk K rfl (n := 2) rfl (pgs_cons (pg_name (i := 5) scDC.nd rfl (Or.inl rfl)) (pgs_cons (pg_name (i := 6) scDC.nd rfl (Or.inl rfl)) pgs_nil))) pgs_nil)))
        (pss_one (ps_if (pt_cmp (pc_notN (pv 4)) (by rfl)) (pss_one (ps_dput hu (pv 2) (pv 4) (pv 6) rfl)) pss_nil))))) pss_nil)), ?_⟩
  obtain ⟨x, r, rfl, hsz⟩ := stmt_form hst
  obtain ⟨av, xs, rfl, hs, h0⟩ := st_word hd
  have eD : declD srt vars (.tuple (.str x :: r)) = if x = "let" then vPut vars (strOf (at1 (.tuple (.str x :: r)))) (strOf (at2 (.tuple (.str x :: r)))) else if x = "match" then
    (match placeKind srt vars (at1 (.tuple (.str x :: r))) with
     | some k => match srt.lookup k with
       | some (_, p) => declGo vars (items (at2 (.tuple (.str x :: r)))) (items p)
       | none => vars
     | none => vars) else vars := rfl
  refine ⟨_, rfl, av, xs, 0, _, rfl, rfl, hs, atI_nat (j := 0) h0, rfl, _, rfl, ?_⟩
  rw [dstr]
  by_cases w1 : x = "let"
  · rw [decide_eq_true w1]
    rw [if_pos w1] at eD
    refine iteT ?_
    have hl : r.length = 2 := stmt_len hsz (by rw [w1]; rfl)
    obtain ⟨i1, i2⟩ := hdo.1 w1
    match r, hl with
    | [d1, d2], _ =>
      have i1 : isStr d1 = true := i1
      have i2 : isStr d2 = true := i2
      obtain ⟨a2, v0, v1, v2, e2, hav, hv0, hv1, hv2⟩ := trip_at hd
      cases e2
      rw [isStr_of i1] at hv1
      rw [isStr_of i2] at hv2
      obtain rfl := hv0.strOf
      obtain rfl := hv1.strOf
      obtain rfl := hv2.strOf
      have px := putK_vs vars (strOf d1) (strOf d2)
      have sx := SameX.put (k' := putK (vsV vars) (Sum.inr (strOf d1)) (V.str (strOf d2))) hv
      have nav : av ≠ dd := fun z => by rw [z, hv] at hav; cases hav
      refine ⟨_, rfl, av, _, 2, _, rfl, rfl, .inl (.inl hav), atI_nat (j := 2) rfl, _, rfl, _, rfl, av, _, 1, _, rfl, rfl, .inl (.inl hav), atI_nat (j := 1) rfl, dd, _, rfl, DPut.k (k := Sum.inr (strOf d1)) hv (line2000 (by unfold vsV; rw [List.length_map]; omega)), ?_⟩
      have hav' := sx.1 _ _ nav hav
      refine ⟨_, rfl, av, _, 0, _, rfl, rfl, .inl (.inl hav'), atI_nat (j := 0) rfl, rfl, _, rfl, ?_⟩
      rw [dstr, decide_eq_false (by rw [w1]; decide)]
      refine iteF (q _ sx ?_)
      show upd H dd _ dd = _
      rw [upd_same, px, eD]
      rfl
  · rw [decide_eq_false w1]
    rw [if_neg w1] at eD
    refine iteF ⟨_, rfl, av, xs, 0, _, rfl, rfl, hs, atI_nat (j := 0) h0, rfl, _, rfl, ?_⟩
    rw [dstr]
    by_cases w2 : x = "match"
    · rw [decide_eq_true w2]
      rw [if_pos w2] at eD
      refine iteT ?_
      have hl : r.length = 2 := stmt_len hsz (by rw [w2]; rfl)
      obtain ⟨⟨kk, z, p, hpk, hlk⟩, harm, hnm⟩ := hdo.2 w2
      match r, hl with
      | [d1, d2], _ =>
        have hpk : placeKind srt vars d1 = some kk := hpk
        have harm : armsFit srt vars d1 d2 = true := harm
        have hnm : ∀ e ∈ items d2, isNoneD (at0 e) = false → isStr (at0 e) = true := hnm
        obtain ⟨hrow, hpairs⟩ := arms_pairs harm
        have hA : armsGo (items d2) (items p) = true := by
          unfold armsFit at harm
          rw [hpk] at harm
          dsimp only at harm
          rw [hlk, Bool.and_eq_true, Bool.and_eq_true] at harm
          exact harm.2.2
        have eD' : declD srt vars (.tuple [.str x, d1, d2]) = declGo vars (items d2) (items p) := by
          rw [eD]
          show (match placeKind srt vars d1 with
            | some k => match srt.lookup k with
              | some (_, p) => declGo vars (items d2) (items p)
              | none => vars
            | none => vars) = _
          rw [hpk]
          dsimp only
          rw [hlk]
        obtain ⟨a2, v0, v1, v2, e2, hav, hv0, hv1, hv2⟩ := trip_at hd
        cases e2
        have htp : isTup p = true := htu _ (lookup_mem hlk)
        obtain ⟨_, hpfit, hpp⟩ := hok _ (lookup_mem hlk)
        obtain ⟨ps, rfl⟩ : ∃ ps, p = .tuple ps := by
          cases p with
          | tuple ps => exact ⟨ps, rfl⟩
          | _ => cases htp
        have hpp : ∀ e ∈ ps, ∃ n d, e = .tuple [.str n, d] ∧ noneStr d ∧ (z ≠ "choice" → isStr d = true) := hpp
        have f2 : fit d2 = true := fitAll_at (i := 2) (fit_items ht) rfl
        have hl2 := fit_len f2
        refine ⟨_, rfl, _, rfl, _, rfl, _, rfl, av, _, 1, _, rfl, rfl, .inl (.inl hav), atI_nat (j := 1) rfl, a, dd, v1, d1, srt, vars, rfl, ha, hok, hv, hv1, fun H1 s1 => ?_⟩
        rw [hpk]
        obtain ⟨t, vp, gg, hgt, hvp⟩ := srt_get (ha.mono s1) hlk
        refine ⟨a, _, rfl, gg, t, _, 1, _, rfl, rfl, .inl (.inl hgt), atI_nat (j := 1) rfl, ?_⟩
        obtain ⟨ap, ys, rfl, hap, hay⟩ := hvp.tupAt
        obtain ⟨ar, ws, rfl, har, hax⟩ := row_raw (Dx.mono s1 hv2) hrow
        have hv1' : H1 dd = some (.dK (vsV vars)) := s1 _ _ hv
        have nap : ap ≠ dd := fun w => by rw [w, hv1'] at hap; cases hap
        have nar : ar ≠ dd := fun w => by rcases har with h | h <;> (rw [w, hv1'] at h; cases h)
        have hav1 := s1 _ _ hav
        have nav : av ≠ dd := fun w => by rw [w, hv1'] at hav1; cases hav1
        refine zip_rowX (dd := dd) har hap nar nap ⟨fun b o _ e => e, _, _, hv1', hv1'⟩ (fun k hk => ⟨_, rfl, av, _, 2, _, rfl, rfl, .inl (.inl hav1), atI_nat (j := 2) rfl, _, rfl, hk⟩) fun J G gs wk => for_it wk
          (fun i σ H' => ∃ (vs' : Vars) (y4 y5 y6 : Option V), σ = [some (.ref a), some (.ref av), some (.ref dd), some (.ref ap), y4, y5, y6] ∧ SameX dd H1 H' ∧ VarAt H' dd vs' ∧ vs'.length ≤ 100 + i ∧ declGo vars (items d2) ps = declGo vs' ((items d2).drop i) (ps.drop i))
          ⟨vars, none, none, none, rfl, ⟨fun b o _ e => e, _, _, hv1', hv1'⟩, hv1', by omega, rfl⟩ ?_ ?_ ?_
        · rintro i σ H' hi ⟨vs', y4, y5, y6, rfl, k1, k2, k3, k4⟩
          exact gs _ k1
        · rintro i y σ H2 H3 hi ⟨vs', y4, y5, y6, rfl, k1, k2, k3, k4⟩ ⟨T, tx, ty, rfl, nT, rfl, hx, hy⟩
          have sT := same_upd (o := .tup [tx, ty]) nT
          have k2' : VarAt (upd H2 T (.tup [tx, ty])) dd vs' := sT _ _ k2
          have kX := k1.trans (SameX.of sT k2)
          obtain ⟨e, he, hde⟩ := hax.get hx
          obtain ⟨cc, hcc, hdc⟩ := hay.get hy
          obtain ⟨n, dk, rfl, hnk, _⟩ := hpp cc (List.mem_of_getElem? hcc)
          obtain ⟨e0, e1, rfl⟩ := pair_of (hpairs e (List.mem_of_getElem? he))
          obtain ⟨ae, u0, u1, rfl, hae, hu0, _⟩ := pair_at (Dx.monoX kX hde)
          obtain ⟨aq, q0, q1, rfl, haq, _, hq1⟩ := pair_at (Dx.monoX kX hdc)
          have hag : isNoneD e0 = isNoneD dk := armsGo_at (i := i) hA he hcc
          have hdrop : (items d2).drop i = .tuple [e0, e1] :: (items d2).drop (i + 1) := List.drop_eq_getElem_cons (List.getElem?_eq_some_iff.mp he).1 |>.trans (by rw [(List.getElem?_eq_some_iff.mp he).2])
          have hdrop2 : ps.drop i = .tuple [.str n, dk] :: ps.drop (i + 1) := List.drop_eq_getElem_cons (List.getElem?_eq_some_iff.mp hcc).1 |>.trans (by rw [(List.getElem?_eq_some_iff.mp hcc).2])
          rw [hdrop, hdrop2] at k4
          have k4' : declGo vars (items d2) ps = declGo (if isNoneD e0 = true then vs' else vPut vs' (strOf e0) (strOf dk)) ((items d2).drop (i + 1)) (ps.drop (i + 1)) := k4
          have lw := hax.len
          have hi2 : i ≤ 1000 := by omega
          refine ⟨T, _, rfl, .inl (.inl upd_same), rfl, _, _, rfl, ⟨ae, _, rfl, .inl (.inl hae), rfl, _, _, rfl, _, _, rfl, rfl, _, _, rfl, ⟨aq, _, rfl, .inl (.inl haq), rfl, _, _, rfl, _, _, rfl, rfl, rfl, ?_⟩⟩⟩
          refine ⟨_, rfl, _, rfl, ?_⟩
          rw [dx_isNone hu0]
          cases hn : isNoneD e0 with
          | true =>
            rw [hn, if_pos rfl] at k4'
            exact iteF ⟨vs', _, _, _, rfl, kX, k2', by omega, k4'⟩
          | false =>
            rw [hn, if_neg Bool.false_ne_true] at k4'
            refine iteT ?_
            have hs0 : isStr e0 = true := hnm _ (List.mem_of_getElem? he) hn
            have hsk : isStr dk = true := by
              rcases hnk with h | h
              · rw [hn, h] at hag
                cases hag
              · exact h
            rw [isStr_of hs0] at hu0
            rw [isStr_of hsk] at hq1
            obtain rfl := hu0.strOf
            obtain rfl := hq1.strOf
            have px := putK_vs vs' (strOf e0) (strOf dk)
            have hlen := vPut_len vs' (strOf e0) (strOf dk)
            refine ⟨_, rfl, _, rfl, _, rfl, dd, _, rfl, DPut.k (k := Sum.inr (strOf e0)) k2' (line2000 (by unfold vsV; rw [List.length_map]; omega)), vPut vs' (strOf e0) (strOf dk), _, _, _, rfl, kX.trans (SameX.put k2'), ?_, by omega, k4'⟩
            show upd _ dd _ dd = _
            rw [upd_same, px]
        · rintro σ H' ⟨vs', y4, y5, y6, rfl, k1, k2, k3, k4⟩
          have hmn : declGo vs' ((items d2).drop (min ws.length ys.length)) (ps.drop (min ws.length ys.length)) = vs' := by
            have l1 := hax.len
            have l2 := hay.len
            rcases Nat.le_total ws.length ys.length with h | h
            · rw [Nat.min_eq_left h, l1, List.drop_length]
              rfl
            · rw [Nat.min_eq_right h, l2, List.drop_length]
              cases (items d2).drop ps.length <;> rfl
          rw [hmn] at k4
          refine q H' ((SameX.of s1 hv).trans k1) ?_
          rw [eD']
          show VarAt H' dd (declGo vars (items d2) ps)
          rw [k4]
          exact k2
    · rw [decide_eq_false w2]
      rw [if_neg w2] at eD
      refine iteF (q H ⟨fun b o _ e => e, _, _, hv, hv⟩ ?_)
      rw [eD]
      exact hv
end
end Lm

namespace Lm
open PySem PySem.Spec PyProof.Rows L2
open C8 (fnScope_by pe_gc pss_cut tCut Cal pe_c)
/-! ### nested -/
mutual
def nestD : PyData → PyData
  | .list xs => .tuple (nestAll xs)
  | .tuple xs => .tuple (nestAll xs)
  | d => d
def nestAll : List PyData → List PyData
  | [] => []
  | x :: xs => nestD x :: nestAll xs
end
theorem nestAll_map : ∀ ds : List PyData, nestAll ds = ds.map nestD
  | [] => rfl
  | x :: r => by rw [nestAll, nestAll_map r]; rfl
theorem nest_row {d : PyData} (h : isRow d = true) : nestD d = .tuple ((items d).map nestD) := by
  cases d with
  | list xs => rw [nestD, nestAll_map]; rfl
  | tuple xs => rw [nestD, nestAll_map]; rfl
  | _ => cases h
theorem nest_no {d : PyData} (h : isRow d = false) : nestD d = d := by
  cases d with
  | list xs => cases h
  | tuple xs => cases h
  | _ => rfl
theorem depth_items {d e : PyData} {n : Nat} (h : d.depth ≤ n + 1) (r : isRow d = true) (m : e ∈ items d) : e.depth ≤ n := by
  have key : ∀ xs : List PyData, e ∈ xs → e.depth ≤ PyData.depthAll xs := by
    intro xs
    induction xs with
    | nil => intro h; cases h
    | cons x r ih =>
      intro h
      show _ ≤ max x.depth (PyData.depthAll r)
      rcases List.mem_cons.mp h with rfl | h
      · exact Nat.le_max_left _ _
      · exact Nat.le_trans (ih h) (Nat.le_max_right _ _)
  cases d with
  | list xs =>
    have h : PyData.depthAll xs + 1 ≤ n + 1 := h
    exact Nat.le_trans (key xs m) (Nat.le_of_succ_le_succ h)
  | tuple xs =>
    have h : PyData.depthAll xs + 1 ≤ n + 1 := h
    exact Nat.le_trans (key xs m) (Nat.le_of_succ_le_succ h)
  | _ => cases r
/-! no list stands in it -/
mutual
def noLst : PyData → Bool
  | .list _ => false
  | .tuple xs => noLstAll xs
  | _ => true
def noLstAll : List PyData → Bool
  | [] => true
  | x :: xs => noLst x && noLstAll xs
end
mutual
theorem noLst_nest : ∀ d : PyData, noLst (nestD d) = true
  | .list xs => by rw [nestD, noLst]; exact noLst_nestAll xs
  | .tuple xs => by rw [nestD, noLst]; exact noLst_nestAll xs
  | .none => by simp [nestD, noLst]
  | .bool _ => by simp [nestD, noLst]
  | .int _ => by simp [nestD, noLst]
  | .str _ => by simp [nestD, noLst]
  | .dict _ => by simp [nestD, noLst]
theorem noLst_nestAll : ∀ ds : List PyData, noLstAll (nestAll ds) = true
  | [] => rfl
  | x :: r => by rw [nestAll, noLstAll, noLst_nest x, noLst_nestAll r]; rfl
end
section
variable {K : PySem.W.Frag} {D : Addr} {H H' : Hp} {zs : List V}
mutual
theorem Dx.monoL (k : ∀ b o, b ≠ D → H b = some o → H' b = some o) (hD : H D = some (.lst zs)) : ∀ {v : V} {d : PyData}, Dx K H v d → noLst d = true → Dx K H' v d
  | _, _, .non, _ => .non
  | _, _, .bl b, _ => .bl b
  | _, _, .int i, _ => .int i
  | _, _, .str x, _ => .str x
  | _, _, .lst _ _, n => by cases n
  | _, _, .tup (ds := ds) h a, n => .tup (k _ _ (fun q => by rw [q, hD] at h; cases h) h) (DxAll.monoL k hD a (show noLstAll ds = true from n))
  | _, _, .dic h, _ => .dic (k _ _ (fun q => by rw [q, hD] at h; cases h) h)
theorem DxAll.monoL (k : ∀ b o, b ≠ D → H b = some o → H' b = some o) (hD : H D = some (.lst zs)) : ∀ {vs : List V} {ds : List PyData}, DxAll K H vs ds → noLstAll ds = true → DxAll K H' vs ds
  | _, _, .nil, _ => .nil
  | _, _, .cons (d := d) (ds := ds) h a, n => by
    have n : (noLst d && noLstAll ds) = true := n
    rw [Bool.and_eq_true] at n
    exact .cons (Dx.monoL k hD h n.1) (DxAll.monoL k hD a n.2)
end
end
theorem noLst_map (ds : List PyData) : noLstAll (ds.map nestD) = true := by
  rw [← nestAll_map]
  exact noLst_nestAll ds
section
variable {P : Program} {w : World} {K : PySem.W.Frag} {mg : Str → Option Value} {base : Heap}
def spNest (K : PySem.W.Frag) (n : Nat) : Sp := fun vs H Q _ => ∃ (v : V) (d : PyData), vs = [v] ∧ Dx K H v d ∧ fit d = true ∧ d.depth ≤ n ∧ ∀ u H', Same H H' → Dx K H' u (nestD d) → Q u H'
theorem map_take_snoc {α β : Type} {xs : List α} {i : Nat} {e : α} (f : α → β) (h : xs[i]? = some e) : (xs.take (i + 1)).map f = (xs.take i).map f ++ [f e] := by
  rw [List.take_add_one, h, List.map_append]
  rfl
end
/-! ### rebuilt -/
/-- a row that is worked at: what is left of it, in the order of the text; what is built -/
abbrev RbLv := List PyData × List PyData
/-- what the lowest level has at the end, p comes to the uppermost one -/
def rbEnd : List RbLv → List PyData → List PyData
  | [], p => p
  | [(ds, bs)], p => bs ++ p ++ ds.map nestD
  | (ds, bs) :: l :: r, p => rbEnd (l :: r) [.tuple (bs ++ p ++ ds.map nestD)]
mutual
def rbSz : PyData → Nat
  | .list xs => rbSzAll xs + 2
  | .tuple xs => rbSzAll xs + 2
  | _ => 1
def rbSzAll : List PyData → Nat
  | [] => 0
  | x :: xs => rbSz x + rbSzAll xs
end
def rbSzL : List RbLv → Nat
  | [] => 0
  | (ds, _) :: r => rbSzAll ds + 1 + rbSzL r
theorem rbSz_row {d : PyData} (h : isRow d = true) : rbSz d = rbSzAll (items d) + 2 := by
  cases d with
  | list xs => rw [rbSz]; rfl
  | tuple xs => rw [rbSz]; rfl
  | _ => cases h
theorem rbSz_pos (d : PyData) : 0 < rbSz d := by
  cases d <;> simp [rbSz]
theorem rbEnd_atom {d : PyData} (h : isRow d = false) (ds bs : List PyData) (r : List RbLv) : rbEnd ((ds, bs ++ [d]) :: r) [] = rbEnd ((d :: ds, bs) :: r) [] := by
  cases r with
  | nil => simp [rbEnd, nest_no h]
  | cons l r => simp [rbEnd, nest_no h]
theorem rbEnd_row {d : PyData} (h : isRow d = true) (ds bs : List PyData) (r : List RbLv) : rbEnd ((items d, []) :: (ds, bs) :: r) [] = rbEnd ((d :: ds, bs) :: r) [] := by
  cases r with
  | nil => simp [rbEnd, nest_row h]
  | cons l r => simp [rbEnd, nest_row h]
theorem rbEnd_pop (ds bs cs : List PyData) (r : List RbLv) : rbEnd ((ds, bs ++ [.tuple cs]) :: r) [] = rbEnd (([], cs) :: (ds, bs) :: r) [] := by
  cases r with
  | nil => simp [rbEnd]
  | cons l r => simp [rbEnd]

/-! what stands hidden while the rows are worked at -/
def rbHid (R : List Addr) (H : Hp) : Hp := fun b => if b ∈ R then none else H b
theorem rbHid_put {R : List Addr} {H : Hp} {p : Addr} {o : HO} (h : p ∈ R) : rbHid R (upd H p o) = rbHid R H := by
  funext b
  unfold rbHid
  by_cases h2 : b ∈ R
  · rw [if_pos h2, if_pos h2]
  · rw [if_neg h2, if_neg h2, upd_ne (fun z => by subst z; exact h2 h)]
theorem rbHid_cons {R : List Addr} {H : Hp} {p : Addr} {o : HO} (n : H p = none) : rbHid (p :: R) (upd H p o) = rbHid R H := by
  funext b
  unfold rbHid
  by_cases h : b = p
  · subst h
    rw [if_pos (List.mem_cons_self ..)]
    by_cases h2 : b ∈ R
    · rw [if_pos h2]
    · rw [if_neg h2, n]
  · rw [upd_ne h]
    by_cases h2 : b ∈ R
    · rw [if_pos h2, if_pos (List.mem_cons_of_mem _ h2)]
    · rw [if_neg h2, if_neg (fun z => (List.mem_cons.mp z).elim h h2)]
theorem rbHid_sub (R : List Addr) (H : Hp) : Same (rbHid R H) H := fun b o e => by
  unfold rbHid at e
  by_cases h : b ∈ R
  · rw [if_pos h] at e; cases e
  · rw [if_neg h] at e; exact e
theorem rbHid_same {R : List Addr} {H H' : Hp} (s : Same H H') : Same (rbHid R H) (rbHid R H') := fun b o e => by
  unfold rbHid at e ⊢
  by_cases h : b ∈ R
  · rw [if_pos h] at e; cases e
  · rw [if_neg h] at e ⊢; exact s _ _ e
theorem rbHid_at {R : List Addr} {H : Hp} {p : Addr} {o : HO} (h : p ∉ R) : rbHid R (upd H p o) p = some o := by
  unfold rbHid
  rw [if_neg h, upd_same]
/-- a level as it stands: its tuple, its rbLists -/
structure RbRow where
  t : Addr
  r : Addr
  b : Addr
  f : Bool
/-- one level in the heap: the tuple is never written, the two rbLists are -/
def RbAt (K : PySem.W.Frag) (R : List Addr) (H : Hp) (x : RbRow) (l : RbLv) : Prop :=
  H x.t = some (.tup [.ref x.r, .ref x.b, .bl x.f]) ∧ ∃ rs bs : List V, H x.r = some (.lst rs.reverse) ∧ H x.b = some (.lst bs) ∧ DxAll K (rbHid R H) rs l.1 ∧ DxAll K (rbHid R H) bs l.2
/-- all levels, the uppermost first -/
inductive RbRows (K : PySem.W.Frag) (R : List Addr) (H : Hp) : List RbRow → List RbLv → Prop
  | nil : RbRows K R H [] []
  | cons {x : RbRow} {xs : List RbRow} {l : RbLv} {ls : List RbLv} : RbAt K R H x l → x.f = xs.isEmpty → RbRows K R H xs ls → RbRows K R H (x :: xs) (l :: ls)
/-- the rbLists of the levels -/
def rbLists : List RbRow → List Addr
  | [] => []
  | x :: r => x.r :: x.b :: rbLists r
/-- all but W is as it was -/
def RbOut (W : List Addr) (H H' : Hp) : Prop := ∀ b o, b ∉ W → H b = some o → H' b = some o
theorem RbOut.refl (W : List Addr) (H : Hp) : RbOut W H H := fun _ _ _ e => e
theorem RbOut.same {W : List Addr} {H H' H2 : Hp} (h : RbOut W H H') (s : Same H' H2) : RbOut W H H2 := fun b o n e => s _ _ (h b o n e)
theorem RbOut.put {W : List Addr} {H H' : Hp} {p : Addr} {o : HO} (h : RbOut W H H') (m : p ∈ W) : RbOut W H (upd H' p o) := fun b u n e => by
  rw [upd_ne (fun z => by subst z; exact n m)]
  exact h b u n e
section
variable {K : PySem.W.Frag} {R R' W : List Addr} {H H' : Hp}
theorem RbRows.keep (s : Same (rbHid R H) (rbHid R' H')) (k : RbOut W H H') (w2 : ∀ b ∈ W, ∃ l, H b = some (.lst l)) {xs : List RbRow} {ls : List RbLv} (w1 : ∀ b ∈ W, b ∉ rbLists xs) (r : RbRows K R H xs ls) : RbRows K R' H' xs ls := by
  induction r with
  | nil => exact .nil
  | @cons x xs l ls ha hf r ih =>
    obtain ⟨ht, rs, bs, h1, h2, h3, h4⟩ := ha
    have nt : x.t ∉ W := fun m => by
      obtain ⟨l, e⟩ := w2 _ m
      rw [ht] at e
      cases e
    have nr : x.r ∉ W := fun m => w1 _ m (List.mem_cons_self ..)
    have nb : x.b ∉ W := fun m => w1 _ m (List.mem_cons_of_mem _ (List.mem_cons_self ..))
    exact .cons ⟨k _ _ nt ht, rs, bs, k _ _ nr h1, k _ _ nb h2, DxAll.mono s h3, DxAll.mono s h4⟩ hf
      (ih fun b m z => w1 b m (List.mem_cons_of_mem _ (List.mem_cons_of_mem _ z)))
theorem RbRows.len {xs : List RbRow} {ls : List RbLv} (r : RbRows K R H xs ls) : xs.length = ls.length := by
  induction r with
  | nil => rfl
  | cons _ _ _ ih => rw [List.length_cons, List.length_cons, ih]
theorem RbRows.lst {xs : List RbRow} {ls : List RbLv} {b : Addr} (r : RbRows K R H xs ls) (m : b ∈ rbLists xs) : ∃ l, H b = some (.lst l) := by
  induction r with
  | nil => cases m
  | @cons x xs l ls ha hf r ih =>
    obtain ⟨_, rs, bs, h1, h2, _⟩ := ha
    have m : b ∈ x.r :: x.b :: rbLists xs := m
    rcases List.mem_cons.mp m with rfl | m
    · exact ⟨_, h1⟩
    · rcases List.mem_cons.mp m with rfl | m
      · exact ⟨_, h2⟩
      · exact ih m
end
def RbGood : Nat → List RbLv → Prop
  | _, [] => True
  | k, (ds, bs) :: r => fitAll ds = true ∧ ds.length + bs.length + k ≤ 1000 ∧ r.length ≤ 60 ∧ (∀ e ∈ ds, e.depth + r.length ≤ 60) ∧ RbGood 1 r
/-- what holds ahead of each turn: H stood at the beginning -/
structure RbI (K : PySem.W.Frag) (H : Hp) (d : PyData) (L : Addr) (R : List Addr) (xs : List RbRow) (ls : List RbLv) (H1 : Hp) : Prop where
  hL : H1 L = some (.lst (xs.map fun x => V.ref x.t).reverse)
  hLR : L ∈ R
  hin : ∀ b ∈ rbLists xs, b ∈ R ∧ b ≠ L
  hnd : (rbLists xs).Nodup
  hth : ∀ b ∈ R, H1 b ≠ none
  hS : Same H (rbHid R H1)
  hR : RbRows K R H1 xs ls
  hg : RbGood 0 ls
  hne : ls ≠ []
  he : rbEnd ls [] = [nestD d]
theorem rbFresh {H : Hp} {a b : Addr} {o : HO} (h : upd H a o b = none) : b ≠ a ∧ H b = none := by
  have n : b ≠ a := fun e => by rw [e, upd_same] at h; cases h
  rw [upd_ne n] at h
  exact ⟨n, h⟩
section
variable {P : Program} {w : World} {K : PySem.W.Frag} {mg : Str → Option Value} {base : Heap}
def spRb (K : PySem.W.Frag) : Sp := fun vs H Q _ => ∃ (v : V) (d : PyData), vs = [v, .bl false] ∧ Dx K H v d ∧ fit d = true ∧ d.depth ≤ 60 ∧ ∀ u H', Same H H' → Dx K H' u (nestD d) → Q u H'
abbrev nsRB : List Str := ["value", "listed", "levels", "rest", "built", "is_list", "element"]
theorem scRB : FnScope nsRB ["value", "listed"] (defScope sRebuilt) := fnScope_by (by decide +kernel)
theorem rbDepth {d : PyData} (h : isRow d = true) : 1 ≤ d.depth := by
  cases d with
  | list xs => show 1 ≤ PyData.depthAll xs + 1; omega
  | tuple xs => show 1 ≤ PyData.depthAll xs + 1; omega
  | _ => cases h
theorem kRebuilt {f : Addr} {fd : FuncData} (F : Fun K "rebuilt" "rebuilt" sRebuilt f fd) (B : Bt mg) (c1 : Cal P w K mg base 1 "is_row" (spB1 K isRow) []) : FnOk P w K mg base CX0 2 f fd ["value", "listed"] (spRb K) := by
  refine F.ok scRB (fun vs H Q E h => ?_) (fun cdv A outer s H vs Q E hr h => ?_)
  · obtain ⟨v, d, rfl, _⟩ := h
    rfl
  obtain ⟨v, d, rfl, hd, hf, hz, q⟩ := h
  refine ⟨_, pss_cons (ps_set (i := 2) scRB.nd rfl (.inl rfl) (pe_lst (pa_cons (pe_tup (pa_cons (pe_lst (pa_cons (pv 0) pa_nil)) (pa_cons (pe_lst pa_nil) (pa_cons pe_bl pa_nil)))) pa_nil)))
    (pss_one (ps_while PassesOwn.never (pt_val pe_bl)
      (pss_cons (ps_asg (pe_bm0 PySem.F.plainAttrs_list PySem.F.slot_list_pop PySem.F.type_list_pop mt_pop (pv 2))
        (pg_tupk K rfl (n := 3) rfl (pgs_cons (pg_name (i := 3) scRB.nd rfl (Or.inl rfl)) (pgs_cons (pg_name (i := 4) scRB.nd rfl (Or.inl rfl)) (pgs_cons (pg_name (i := 5) scRB.nd rfl (Or.inl rfl)) pgs_nil)))))
      (pss_one (ps_if (pt_cmpR op_gt (pe_callB call_len_seq (by rfl) B.len boot_len (pa_cons (pv 3) pa_nil)) pe_int (nomark _))
        (pss_cons (ps_set (i := 6) scRB.nd rfl (.inl rfl) (pe_bm0 PySem.F.plainAttrs_list PySem.F.slot_list_pop PySem.F.type_list_pop mt_pop (pv 3)))
        (pss_cons (ps_expr (pe_bm PySem.F.plainAttrs_list PySem.F.slot_list_append PySem.F.type_list_append mt_append (pv 2) (pa_cons (pe_tup (pa_cons (pv 3) (pa_cons (pv 4) (pa_cons (pv 5) pa_nil)))) pa_nil)))
        (pss_one (ps_if (pt_val (pe_c c1 hr (by omega) (by rfl) (pa_cons (pv 6) pa_nil)))
          (pss_one (ps_expr (pe_bm PySem.F.plainAttrs_list PySem.F.slot_list_append PySem.F.type_list_append mt_append (pv 2) (pa_cons (pe_tup (pa_cons (pe_revL (pe_callTy call_list_of (by rfl) B.lst boot_list (pa_cons (pv 6) pa_nil)))
            (pa_cons (pe_lst pa_nil) (pa_cons (pe_and (pv 1) (pe_one (pe_callB call_isi (by rfl) B.isi boot_isinstance (pa_cons (pv 6) (pa_cons (pe_bltn (v := .ty "list") (by rfl) B.lst boot_list rfl) pa_nil))))) pa_nil)))) pa_nil))))
          (pss_one (ps_expr (pe_bm PySem.F.plainAttrs_list PySem.F.slot_list_append PySem.F.type_list_append mt_append (pv 4) (pa_cons (pv 6) pa_nil))))))))
        (pss_one (ps_if (pt_cmpR op_gt (pe_callB call_len_seq (by rfl) B.len boot_len (pa_cons (pv 2) pa_nil)) pe_int (nomark _))
          (pss_one (ps_expr (pe_bm PySem.F.plainAttrs_list PySem.F.slot_list_append PySem.F.type_list_append mt_append (pe_ix ix_tup (pe_ix ix_list (pv 2) (pe_un un_neg pe_int) (fun _ _ => rfl)) pe_int (fun _ _ => rfl))
            (pa_cons (pe_ifExp (pt_val (pv 5)) (pv 4) (pe_callTy call_tuple_of (by rfl) B.tup boot_tuple (pa_cons (pv 4) pa_nil))) pa_nil))))
          (pss_one (ps_ret (pe_ix ix_list (pv 4) pe_int (fun _ _ => rfl))))))))))), ?_⟩
  refine ⟨_, rfl, by show 1 ≤ sizeLine; decide, fun r0 n1 => ⟨by show 0 ≤ sizeLine; decide, fun b0 n2 => ⟨by show 3 ≤ sizeLine; decide, fun t0 n3 => ⟨by show 1 ≤ sizeLine; decide, fun L n4 => ?_⟩⟩⟩⟩
  obtain ⟨a1, m1⟩ := rbFresh n2
  obtain ⟨a2, n3'⟩ := rbFresh n3
  obtain ⟨a3, m2⟩ := rbFresh n3'
  obtain ⟨a4, n4'⟩ := rbFresh n4
  obtain ⟨a5, n4''⟩ := rbFresh n4'
  obtain ⟨a6, m3⟩ := rbFresh n4''
  have sR : Same H (rbHid [L, b0, r0] (upd (upd (upd (upd H r0 (.lst [v])) b0 (.lst [])) t0 (.tup [.ref r0, .ref b0, .bl true])) L (.lst [.ref t0]))) := by
    rw [rbHid_cons n4]
    refine Same.trans ?_ (rbHid_same (same_upd n3))
    rw [rbHid_cons n2, rbHid_cons n1]
    intro b o e
    unfold rbHid
    rw [if_neg (fun h => nomatch h)]
    exact e
  have hinit : RbI K H d L [L, b0, r0] [⟨t0, r0, b0, true⟩] [([d], [])] (upd (upd (upd (upd H r0 (.lst [v])) b0 (.lst [])) t0 (.tup [.ref r0, .ref b0, .bl true])) L (.lst [.ref t0])) := by
    refine ⟨upd_same, List.mem_cons_self .., ?_, ?_, ?_, sR, .cons ⟨?_, [v], [], ?_, ?_, .cons (Dx.mono sR hd) .nil, .nil⟩ rfl .nil, ⟨?_, by simp, by decide, ?_, trivial⟩, by simp, by simp [rbEnd]⟩
    · intro b hb
      rcases List.mem_cons.mp hb with rfl | hb
      · exact ⟨by simp, a6.symm⟩
      · rcases List.mem_cons.mp hb with rfl | hb
        · exact ⟨by simp, a5.symm⟩
        · cases hb
    · show List.Nodup [r0, b0]
      simp [a1.symm]
    · intro b hb e
      rcases List.mem_cons.mp hb with rfl | hb
      · rw [upd_same] at e; cases e
      · have e1 := (rbFresh e).2
        have e2 := (rbFresh e1).2
        rcases List.mem_cons.mp hb with rfl | hb
        · rw [upd_same] at e2; cases e2
        · have e3 := (rbFresh e2).2
          rcases List.mem_cons.mp hb with rfl | hb
          · rw [upd_same] at e3; cases e3
          · cases hb
    · show upd _ L _ t0 = _
      rw [upd_ne a4.symm, upd_same]
    · show upd _ L _ r0 = _
      rw [upd_ne a6.symm, upd_ne a3.symm, upd_ne a1.symm, upd_same]
      rfl
    · show upd _ L _ b0 = _
      rw [upd_ne a5.symm, upd_ne a2.symm, upd_same]
    · show (fit d && true) = true
      rw [hf]; rfl
    · intro e he
      rcases List.mem_cons.mp he with rfl | he
      · exact hz
      · cases he
  refine ⟨fun m σ H1 => ∃ R xs ls, m = rbSzL ls ∧ RbI K H d L R xs ls H1 ∧ ∃ u3 u4 u5 u6, σ = [some v, some (.bl false), some (.ref L), u3, u4, u5, u6], ⟨_, [L, b0, r0], [⟨t0, r0, b0, true⟩], [([d], [])], rfl, hinit, _, _, _, _, rfl⟩, ?_⟩
  rintro m σ H1 ⟨R, xs, ls, rfl, I, u3, u4, u5, u6, rfl⟩
  obtain ⟨hL, hLR, hin, hnd, hth, hS, hR, hg, hne, he⟩ := I
  refine ⟨_, rfl, iteT ⟨fun σ' H' => ∃ m', m' < rbSzL ls ∧ ∃ R xs ls, m' = rbSzL ls ∧ RbI K H d L R xs ls H' ∧ ∃ u3 u4 u5 u6, σ' = [some v, some (.bl false), some (.ref L), u3, u4, u5, u6], fun _ _ h => h, ?_⟩⟩
  cases hR with
  | nil => exact absurd rfl hne
  | @cons x xr l lr ha hfx hr' =>
  obtain ⟨t1, r1, b1, f1⟩ := x
  obtain ⟨ht, rs, bs, h1, h2, dr, db⟩ := ha
  obtain ⟨ds, cs⟩ := l
  dsimp only at ht h1 h2 dr db hfx
  subst hfx
  have hin' : ∀ b ∈ r1 :: b1 :: rbLists xr, b ∈ R ∧ b ≠ L := hin
  have hnd' : (r1 :: b1 :: rbLists xr).Nodup := hnd
  obtain ⟨hr1R, nLx⟩ := hin' r1 (List.mem_cons_self ..)
  obtain ⟨hb1R, nLb⟩ := hin' b1 (List.mem_cons_of_mem _ (List.mem_cons_self ..))
  obtain ⟨q1, hnd2⟩ := List.nodup_cons.mp hnd'
  obtain ⟨q2, hnd3⟩ := List.nodup_cons.mp hnd2
  have nrb : r1 ≠ b1 := fun e => q1 (by rw [e]; exact List.mem_cons_self ..)
  have q1' : r1 ∉ rbLists xr := fun m => q1 (List.mem_cons_of_mem _ m)
  have hin3 : ∀ b ∈ rbLists xr, b ∈ R ∧ b ≠ L := fun b m => hin' b (List.mem_cons_of_mem _ (List.mem_cons_of_mem _ m))
  have qL : L ∉ rbLists xr := fun m => (hin3 L m).2 rfl
  have nLt : t1 ≠ L := fun e => by rw [e, hL] at ht; cases ht
  have hgl : fitAll ds = true ∧ ds.length + cs.length + 0 ≤ 1000 ∧ lr.length ≤ 60 ∧ (∀ e ∈ ds, e.depth + lr.length ≤ 60) ∧ RbGood 1 lr := hg
  obtain ⟨g1, g2, g3, g4, g5⟩ := hgl
  have hlen := RbRows.len hr'
  have hL : H1 L = some (.lst ((xr.map fun x => V.ref x.t).reverse ++ [V.ref t1])) := by rw [hL]; simp
  generalize hZ : (xr.map fun x => V.ref x.t).reverse = Z at hL
  have hZl : Z.length = lr.length := by rw [← hZ]; simp [hlen]
  refine ⟨_, rfl, .inl ⟨rfl, _, SqL.of hL⟩, L, _, .ref t1, rfl, rfl, hL, by simp, ?_⟩
  have ed : (Z ++ [V.ref t1]).dropLast = Z := by simp
  rw [ed]
  refine ⟨t1, _, rfl, .inl (.inl (by rw [upd_ne nLt]; exact ht)), rfl, _, _, rfl, _, _, rfl, _, _, rfl, rfl, ?_⟩
  have e2 : rbHid R (upd H1 L (.lst Z)) = rbHid R H1 := rbHid_put hLR
  have o2 : RbOut [L] H1 (upd H1 L (.lst Z)) := (RbOut.refl _ _).put (List.mem_cons_self ..)
  have p2 : ∀ b ∈ R, (upd H1 L (.lst Z)) b ≠ none := fun b m z => hth b m (rbFresh z).2
  have hL2 : (upd H1 L (.lst Z)) L = some (.lst Z) := upd_same
  have h1' : (upd H1 L (.lst Z)) r1 = some (.lst rs.reverse) := by rw [upd_ne nLx]; exact h1
  have h2' : (upd H1 L (.lst Z)) b1 = some (.lst bs) := by rw [upd_ne nLb]; exact h2
  rw [← e2] at dr db hS
  have hr2 : RbRows K R (upd H1 L (.lst Z)) xr lr := RbRows.keep (by rw [e2]; exact Same.refl _) o2 (fun b m => by
    rcases List.mem_cons.mp m with rfl | m
    · exact ⟨_, hL⟩
    · cases m) (fun b m => by
    rcases List.mem_cons.mp m with rfl | m
    · exact qL
    · cases m) hr'
  generalize upd H1 L (.lst Z) = H2 at hL2 h1' h2' p2 dr db hS hr2 ⊢
  clear o2 e2 hr' h1 h2 ht hL hth
  refine ⟨_, rfl, r1, _, rfl, .inl (SqL.of h1'), _, _, rfl, rfl, _, rfl, ?_⟩
  cases dr with
  | nil =>
    refine ite2 (fun h => by simp at h) (fun _ => ?_)
    refine ⟨_, rfl, L, _, rfl, .inl (SqL.of hL2), _, _, rfl, rfl, _, rfl, ?_⟩
    cases hr2 with
    | nil =>
      refine ite2 (fun h => by rw [hZl] at h; simp at h) (fun _ => ?_)
      have eb : cs = [nestD d] := by simpa [rbEnd] using he
      subst eb
      cases db with
      | @cons u _ _ _ hu hr0 =>
        cases hr0
        exact ⟨_, rfl, b1, _, 0, u, rfl, rfl, SqL.of h2', rfl, q u H2 (hS.trans (rbHid_sub R H2)) (Dx.mono (rbHid_sub R H2) hu)⟩
    | @cons x2 xr2 l2 lr2 ha2 hf2 hr3 =>
      refine ite2 (fun _ => ?_) (fun h => absurd (by rw [hZl]; simp) h)
      obtain ⟨t2, r2, b2, f2⟩ := x2
      obtain ⟨kt, rs2, bs2, k1, k2, d1, d2⟩ := ha2
      obtain ⟨ds2, cs2⟩ := l2
      dsimp only at kt k1 k2 d1 d2 hf2
      have hgl2 : fitAll ds2 = true ∧ ds2.length + cs2.length + 1 ≤ 1000 ∧ lr2.length ≤ 60 ∧ (∀ e ∈ ds2, e.depth + lr2.length ≤ 60) ∧ RbGood 1 lr2 := g5
      obtain ⟨i1, i2, i3, i4, i5⟩ := hgl2
      have hin4 : ∀ b ∈ r2 :: b2 :: rbLists xr2, b ∈ R ∧ b ≠ L := hin3
      have hnd4 : (r2 :: b2 :: rbLists xr2).Nodup := hnd3
      obtain ⟨hb2R, nLb2⟩ := hin4 b2 (List.mem_cons_of_mem _ (List.mem_cons_self ..))
      obtain ⟨j1, hnd5⟩ := List.nodup_cons.mp hnd4
      obtain ⟨j2, hnd6⟩ := List.nodup_cons.mp hnd5
      have n22 : r2 ≠ b2 := fun e => j1 (by rw [e]; exact List.mem_cons_self ..)
      have eZ : Z = (xr2.map fun x => V.ref x.t).reverse ++ [V.ref t2] := by rw [← hZ]; simp
      have at2 : atI Z (-1) = some (V.ref t2) := by rw [eZ]; exact atI_last _ _
      refine ⟨_, rfl, _, rfl, L, _, -1, .ref t2, rfl, rfl, SqL.of hL2, at2, t2, _, 1, .ref b2, rfl, rfl, .inl (.inl kt), rfl, .inl ⟨rfl, _, SqL.of k2⟩, _, rfl, _, rfl, iteF ?_⟩
      refine ⟨_, rfl, b1, bs, rfl, .inl ⟨SqL.of h2', fun p np => ?_⟩⟩
      have npb : p ≠ b2 := (ne_of_none k2 np).symm
      have s3 : Same (rbHid R H2) (rbHid R (upd (upd H2 p (.tup bs)) b2 (.lst (bs2 ++ [.ref p])))) := by rw [rbHid_put hb2R]; exact rbHid_same (same_upd np)
      have o3 : RbOut [b2] H2 (upd (upd H2 p (.tup bs)) b2 (.lst (bs2 ++ [.ref p]))) := ((RbOut.refl _ _).same (same_upd np)).put (List.mem_cons_self ..)
      have nb2 : ∀ b, b ≠ b2 → b ∉ [b2] := fun b n m => by
        rcases List.mem_cons.mp m with h | h
        · exact n h
        · cases h
      have ntb : t2 ≠ b2 := fun e => by rw [e, k2] at kt; cases kt
      have hl2 := d2.len
      refine ⟨b2, bs2, .ref p, rfl, rfl, by rw [upd_ne npb.symm]; exact k2, small1000 (by rw [hl2]; show cs2.length ≤ 1000; omega), ⟨_, ?_, R, ⟨t2, r2, b2, f2⟩ :: xr2, (ds2, cs2 ++ [.tuple cs]) :: lr2, rfl, ⟨?_, hLR, hin3, hnd3, fun b m z => p2 b m (rbFresh (rbFresh z).2).2, hS.trans s3, .cons ⟨o3 _ _ (nb2 _ ntb) kt, rs2, bs2 ++ [.ref p], o3 _ _ (nb2 _ n22) k1, upd_same, DxAll.mono s3 d1, DxAll.snoc (DxAll.mono s3 d2) (.tup ?_ (DxAll.mono s3 db))⟩ hf2 (RbRows.keep s3 o3 (fun b m => ?_) (fun b m => ?_) hr3), ⟨i1, by rw [List.length_append]; exact i2, i3, i4, i5⟩, (fun h => nomatch h), by rw [rbEnd_pop]; exact he⟩, _, _, _, _, rfl⟩⟩
      · show rbSzAll ds2 + 1 + rbSzL lr2 < rbSzAll [] + 1 + (rbSzAll ds2 + 1 + rbSzL lr2)
        omega
      · rw [upd_ne nLb2.symm, upd_ne (ne_of_none hL2 np), hL2, ← hZ]
      · unfold rbHid
        rw [if_neg (fun m => p2 p m np), upd_ne npb, upd_same]
      · rcases List.mem_cons.mp m with rfl | h
        · exact ⟨_, k2⟩
        · cases h
      · rcases List.mem_cons.mp m with rfl | h
        · exact j2
        · cases h
  | @cons v1 rs' e ds' hv hrs =>
    refine ite2 (fun _ => ?_) (fun h => absurd (by simp) h)
    refine ⟨_, rfl, .inl ⟨rfl, _, SqL.of h1'⟩, r1, _, v1, rfl, rfl, h1', by simp, ?_⟩
    have ed3 : ((v1 :: rs').reverse).dropLast = rs'.reverse := by simp
    rw [ed3]
    have e3 : rbHid R (upd H2 r1 (.lst rs'.reverse)) = rbHid R H2 := rbHid_put hr1R
    have o3 : RbOut [r1] H2 (upd H2 r1 (.lst rs'.reverse)) := (RbOut.refl _ _).put (List.mem_cons_self ..)
    have p3 : ∀ b ∈ R, (upd H2 r1 (.lst rs'.reverse)) b ≠ none := fun b m z => p2 b m (rbFresh z).2
    have hL3 : (upd H2 r1 (.lst rs'.reverse)) L = some (.lst Z) := by rw [upd_ne nLx.symm]; exact hL2
    have h13 : (upd H2 r1 (.lst rs'.reverse)) r1 = some (.lst rs'.reverse) := upd_same
    have h23 : (upd H2 r1 (.lst rs'.reverse)) b1 = some (.lst bs) := by rw [upd_ne nrb.symm]; exact h2'
    have hr3 : RbRows K R (upd H2 r1 (.lst rs'.reverse)) xr lr := RbRows.keep (by rw [e3]; exact Same.refl _) o3 (fun b m => by
      rcases List.mem_cons.mp m with rfl | m
      · exact ⟨_, h1'⟩
      · cases m) (fun b m => by
      rcases List.mem_cons.mp m with rfl | m
      · exact q1'
      · cases m) hr2
    rw [← e3] at hv hrs db hS
    generalize upd H2 r1 (.lst rs'.reverse) = H3 at hL3 h13 h23 p3 hv hrs db hS hr3 ⊢
    clear e3 o3 hr2 h1' h2' hL2 p2
    refine ⟨_, rfl, .inl ⟨rfl, _, SqL.of hL3⟩, _, rfl, _, rfl, _, rfl, by show 3 ≤ sizeLine; decide, fun p np => ⟨L, Z, .ref p, rfl, rfl, by rw [upd_ne (ne_of_none hL3 np)]; exact hL3, small1000 (by rw [hZl]; omega), ?_⟩⟩
    have npL : p ≠ L := (ne_of_none hL3 np).symm
    have s5 : Same (rbHid R H3) (rbHid R (upd (upd H3 p (.tup [.ref r1, .ref b1, .bl xr.isEmpty])) L (.lst (Z ++ [.ref p])))) := by rw [rbHid_put hLR]; exact rbHid_same (same_upd np)
    have o5 : RbOut [L] H3 (upd (upd H3 p (.tup [.ref r1, .ref b1, .bl xr.isEmpty])) L (.lst (Z ++ [.ref p]))) := ((RbOut.refl _ _).same (same_upd np)).put (List.mem_cons_self ..)
    have nL1 : ∀ b, b ≠ L → b ∉ [L] := fun b n m => by
      rcases List.mem_cons.mp m with h | h
      · exact n h
      · cases h
    have hp5 : (upd (upd H3 p (.tup [.ref r1, .ref b1, .bl xr.isEmpty])) L (.lst (Z ++ [.ref p]))) p = some (.tup [.ref r1, .ref b1, .bl xr.isEmpty]) := by rw [upd_ne npL, upd_same]
    have hL5 : (upd (upd H3 p (.tup [.ref r1, .ref b1, .bl xr.isEmpty])) L (.lst (Z ++ [.ref p]))) L = some (.lst (Z ++ [.ref p])) := upd_same
    have h15 := o5 _ _ (nL1 _ nLx) h13
    have h25 := o5 _ _ (nL1 _ nLb) h23
    have p5 : ∀ b ∈ R, (upd (upd H3 p (.tup [.ref r1, .ref b1, .bl xr.isEmpty])) L (.lst (Z ++ [.ref p]))) b ≠ none := fun b m z => p3 b m (rbFresh (rbFresh z).2).2
    have hr5 : RbRows K R (upd (upd H3 p (.tup [.ref r1, .ref b1, .bl xr.isEmpty])) L (.lst (Z ++ [.ref p]))) xr lr := RbRows.keep s5 o5 (fun b m => by
      rcases List.mem_cons.mp m with rfl | m
      · exact ⟨_, hL3⟩
      · cases m) (fun b m => by
      rcases List.mem_cons.mp m with rfl | m
      · exact qL
      · cases m) hr3
    have hv5 := Dx.mono s5 hv
    have hrs5 := DxAll.mono s5 hrs
    have db5 := DxAll.mono s5 db
    have hS5 := hS.trans s5
    generalize upd (upd H3 p (.tup [.ref r1, .ref b1, .bl xr.isEmpty])) L (.lst (Z ++ [.ref p])) = H5 at hp5 hL5 h15 h25 p5 hr5 hv5 hrs5 db5 hS5 ⊢
    clear s5 o5 hr3 h13 h23 hL3 p3 hv hrs db hS np
    have hfe : fit e = true := fitAll_at (i := 0) g1 rfl
    refine ⟨_, rfl, v1, e, rfl, Dx.mono (rbHid_sub R H5) hv5, hfe, fun H6 s6 => ⟨_, rfl, ?_⟩⟩
    have hp6 := s6 _ _ hp5
    have hL6 := s6 _ _ hL5
    have h16 := s6 _ _ h15
    have h26 := s6 _ _ h25
    have t6 : Same (rbHid R H5) (rbHid R H6) := rbHid_same s6
    have p6 : ∀ b ∈ R, H6 b ≠ none := fun b m z => by
      cases w : H5 b with
      | none => exact p5 b m w
      | some o => rw [s6 _ _ w] at z; cases z
    have hr6 : RbRows K R H6 xr lr := RbRows.keep (W := []) t6 (fun b o _ e => s6 _ _ e) (fun b m => nomatch m) (fun b m => nomatch m) hr5
    have hv6 := Dx.mono t6 hv5
    have hrs6 := DxAll.mono t6 hrs5
    have db6 := DxAll.mono t6 db5
    have hS6 := hS5.trans t6
    have g1' : fitAll ds' = true := by
      have z : (fit e && fitAll ds') = true := g1
      rw [Bool.and_eq_true] at z
      exact z.2
    have g2' : ds'.length + 1 + cs.length ≤ 1000 := g2
    have g4' : ∀ x ∈ ds', x.depth + lr.length ≤ 60 := fun x m => g4 x (List.mem_cons_of_mem _ m)
    have ge := g4 e (List.mem_cons_self ..)
    have hbl := db6.len
    clear hp5 hL5 h15 h25 p5 hr5 hv5 hrs5 db5 hS5 t6 s6
    cases hrow : isRow e with
    | false =>
      have s7 : Same (rbHid R H6) (rbHid R (upd H6 b1 (.lst (bs ++ [v1])))) := by rw [rbHid_put hb1R]; exact Same.refl _
      have o7 : RbOut [b1] H6 (upd H6 b1 (.lst (bs ++ [v1]))) := (RbOut.refl _ _).put (List.mem_cons_self ..)
      refine iteF ⟨_, rfl, .inl ⟨rfl, _, SqL.of h26⟩, _, rfl, b1, bs, v1, rfl, rfl, h26, small1000 (by rw [hbl]; show cs.length ≤ 1000; omega), ⟨_, ?_, R, ⟨p, r1, b1, xr.isEmpty⟩ :: xr, (ds', cs ++ [e]) :: lr, rfl, ⟨?_, hLR, hin', hnd', fun b m z => p6 b m (rbFresh z).2, hS6.trans s7, .cons ⟨?_, rs', bs ++ [v1], ?_, upd_same, DxAll.mono s7 hrs6, DxAll.snoc (DxAll.mono s7 db6) (Dx.mono s7 hv6)⟩ rfl (RbRows.keep s7 o7 (fun b m => ?_) (fun b m => ?_) hr6), ⟨g1', by rw [List.length_append]; show ds'.length + (cs.length + 1) + 0 ≤ 1000; omega, g3, g4', g5⟩, (fun h => nomatch h), by rw [rbEnd_atom hrow]; exact he⟩, _, _, _, _, rfl⟩⟩
      · show rbSzAll ds' + 1 + rbSzL lr < (rbSz e + rbSzAll ds') + 1 + rbSzL lr
        have := rbSz_pos e
        omega
      · rw [upd_ne nLb.symm, hL6, ← hZ]
        simp
      · show upd H6 b1 _ p = _
        rw [upd_ne (fun z => by rw [z, h26] at hp6; cases hp6)]
        exact hp6
      · show upd H6 b1 _ r1 = _
        rw [upd_ne nrb]
        exact h16
      · rcases List.mem_cons.mp m with rfl | h
        · exact ⟨_, h26⟩
        · cases h
      · rcases List.mem_cons.mp m with rfl | h
        · exact q2
        · cases h
    | true =>
      obtain ⟨a, ys, rfl, hs, hys⟩ := hv6.row hrow
      have hs' : SqL K H6 a ys ∨ SqT K H6 a ys := hs.imp (fun z => (rbHid_sub R H6).seq z.1) (fun z => sqt_same (rbHid_sub R H6) z.1)
      have d1 := rbDepth hrow
      refine iteT ⟨_, rfl, .inl ⟨rfl, _, SqL.of hL6⟩, _, rfl, a, ys, rfl, hs', fun l1 k1 => ⟨l1, ys, rfl, SqL.of upd_same, fun l2 k2 => ⟨by show 0 ≤ sizeLine; decide, fun l3 k3 => ⟨_, rfl, _, rfl, iteF ⟨by show 3 ≤ sizeLine; decide, fun p4 k4 => ?_⟩⟩⟩⟩⟩
      obtain ⟨c1', k2'⟩ := rbFresh k2
      obtain ⟨c2', k3'⟩ := rbFresh k3
      obtain ⟨c3', k3z⟩ := rbFresh k3'
      obtain ⟨c4', k4'⟩ := rbFresh k4
      obtain ⟨c5', k4y⟩ := rbFresh k4'
      obtain ⟨c6', k4z⟩ := rbFresh k4y
      have w2 : l2 ≠ L := (ne_of_none hL6 k2').symm
      have w3 : l3 ≠ L := (ne_of_none hL6 k3z).symm
      have w4 : p4 ≠ L := (ne_of_none hL6 k4z).symm
      have w1 : l1 ≠ L := (ne_of_none hL6 k1).symm
      have hLn : L ∈ l3 :: l2 :: R := List.mem_cons_of_mem _ (List.mem_cons_of_mem _ hLR)
      have s7 : Same (rbHid R H6) (rbHid (l3 :: l2 :: R) (upd (upd (upd (upd (upd H6 l1 (.lst ys)) l2 (.lst ys.reverse)) l3 (.lst [])) p4 (.tup [.ref l2, .ref l3, .bl false])) L (.lst (Z ++ [.ref p] ++ [.ref p4])))) := by
        rw [rbHid_put hLn]
        refine Same.trans ?_ (rbHid_same (same_upd k4))
        rw [rbHid_cons k3, rbHid_cons k2]
        exact rbHid_same (same_upd k1)
      have o7 : RbOut [L] H6 (upd (upd (upd (upd (upd H6 l1 (.lst ys)) l2 (.lst ys.reverse)) l3 (.lst [])) p4 (.tup [.ref l2, .ref l3, .bl false])) L (.lst (Z ++ [.ref p] ++ [.ref p4]))) :=
        (((((RbOut.refl _ _).same (same_upd k1)).same (same_upd k2)).same (same_upd k3)).same (same_upd k4)).put (List.mem_cons_self ..)
      have hXL : (upd (upd (upd (upd H6 l1 (.lst ys)) l2 (.lst ys.reverse)) l3 (.lst [])) p4 (.tup [.ref l2, .ref l3, .bl false])) L = some (.lst (Z ++ [.ref p])) := by
        rw [upd_ne w4.symm, upd_ne w3.symm, upd_ne w2.symm, upd_ne w1.symm]; exact hL6
      have hr7 := RbRows.keep s7 o7 (fun b m => by
        rcases List.mem_cons.mp m with rfl | m
        · exact ⟨_, hL6⟩
        · cases m) (fun b m => by
        rcases List.mem_cons.mp m with rfl | m
        · exact qL
        · cases m) hr6
      have u2 : (upd (upd (upd (upd (upd H6 l1 (.lst ys)) l2 (.lst ys.reverse)) l3 (.lst [])) p4 (.tup [.ref l2, .ref l3, .bl false])) L (.lst (Z ++ [.ref p] ++ [.ref p4]))) l2 = some (.lst ys.reverse) := by
        rw [upd_ne w2, upd_ne c5'.symm, upd_ne c2'.symm, upd_same]
      have u3 : (upd (upd (upd (upd (upd H6 l1 (.lst ys)) l2 (.lst ys.reverse)) l3 (.lst [])) p4 (.tup [.ref l2, .ref l3, .bl false])) L (.lst (Z ++ [.ref p] ++ [.ref p4]))) l3 = some (.lst []) := by
        rw [upd_ne w3, upd_ne c4'.symm, upd_same]
      have u4 : (upd (upd (upd (upd (upd H6 l1 (.lst ys)) l2 (.lst ys.reverse)) l3 (.lst [])) p4 (.tup [.ref l2, .ref l3, .bl false])) L (.lst (Z ++ [.ref p] ++ [.ref p4]))) p4 = some (.tup [.ref l2, .ref l3, .bl false]) := by
        rw [upd_ne w4, upd_same]
      have uL : (upd (upd (upd (upd (upd H6 l1 (.lst ys)) l2 (.lst ys.reverse)) l3 (.lst [])) p4 (.tup [.ref l2, .ref l3, .bl false])) L (.lst (Z ++ [.ref p] ++ [.ref p4]))) L = some (.lst (Z ++ [.ref p] ++ [.ref p4])) := upd_same
      have m2 : ∀ b, (∃ l, H6 b = some (.lst l)) → b ≠ l2 ∧ b ≠ l3 := fun b ⟨l, e⟩ => ⟨ne_of_none e k2', ne_of_none e k3z⟩
      have m1 := m2 r1 ⟨_, h16⟩
      have m0 := m2 b1 ⟨_, h26⟩
      refine ⟨L, Z ++ [.ref p], .ref p4, rfl, rfl, hXL, small1000 (by rw [List.length_append, hZl]; show lr.length + 1 ≤ 1000; omega), ⟨_, ?_, l3 :: l2 :: R, ⟨p4, l2, l3, false⟩ :: ⟨p, r1, b1, xr.isEmpty⟩ :: xr, (items e, []) :: (ds', cs) :: lr, rfl, ⟨?_, hLn, ?_, ?_, ?_, hS6.trans s7, .cons ⟨u4, ys, [], u2, u3, DxAll.mono s7 hys, .nil⟩ rfl (.cons ⟨o7 _ _ (nL1 _ npL) hp6, rs', bs, o7 _ _ (nL1 _ nLx) h16, o7 _ _ (nL1 _ nLb) h26, DxAll.mono s7 hrs6, DxAll.mono s7 db6⟩ rfl hr7), ⟨fit_items hfe, fit_len hfe, ?_, ?_, ⟨g1', ?_, g3, g4', g5⟩⟩, (fun h => nomatch h), by rw [rbEnd_row hrow]; exact he⟩, _, _, _, _, rfl⟩⟩
      · show rbSzAll (items e) + 1 + (rbSzAll ds' + 1 + rbSzL lr) < (rbSz e + rbSzAll ds') + 1 + rbSzL lr
        rw [rbSz_row hrow]
        omega
      · rw [uL, ← hZ]
        simp
      · intro b m
        have m : b ∈ l2 :: l3 :: r1 :: b1 :: rbLists xr := m
        rcases List.mem_cons.mp m with rfl | m
        · exact ⟨by simp, w2⟩
        rcases List.mem_cons.mp m with rfl | m
        · exact ⟨by simp, w3⟩
        obtain ⟨z1, z2⟩ := hin' b m
        exact ⟨List.mem_cons_of_mem _ (List.mem_cons_of_mem _ z1), z2⟩
      · show (l2 :: l3 :: r1 :: b1 :: rbLists xr).Nodup
        have fr : ∀ b ∈ r1 :: b1 :: rbLists xr, b ≠ l2 ∧ b ≠ l3 := fun b m => by
          rcases List.mem_cons.mp m with rfl | m
          · exact m1
          rcases List.mem_cons.mp m with rfl | m
          · exact m0
          exact m2 b (RbRows.lst hr6 m)
        refine List.nodup_cons.mpr ⟨fun m => ?_, List.nodup_cons.mpr ⟨fun m => (fr _ m).2 rfl, hnd'⟩⟩
        rcases List.mem_cons.mp m with h | m
        · exact c2' h.symm
        · exact (fr _ m).1 rfl
      · intro b m z
        rcases List.mem_cons.mp m with rfl | m
        · rw [u3] at z; cases z
        rcases List.mem_cons.mp m with rfl | m
        · rw [u2] at z; cases z
        exact p6 b m (rbFresh (rbFresh (rbFresh (rbFresh (rbFresh z).2).2).2).2).2
      · show lr.length + 1 ≤ 60
        omega
      · intro x m
        have := depth_items (d := e) (n := e.depth - 1) (by omega) hrow m
        show x.depth + (lr.length + 1) ≤ 60
        omega
      · omega
/-! ### nested -/
abbrev nsNE : List Str := ["value"]
theorem scNE : FnScope nsNE ["value"] (defScope sNested) := fnScope_by (by decide +kernel)
theorem kNest {f : Addr} {fd : FuncData} (F : Fun K "nested" "nested" sNested f fd) (c : Cal P w K mg base 2 "rebuilt" (spRb K) []) : FnOk P w K mg base CX0 62 f fd ["value"] (spNest K 60) := by
  refine F.ok (k := 61) scNE (fun vs H Q E h => ?_) (fun cdv A outer s H vs Q E hr h => ?_)
  · obtain ⟨v, d, rfl, _⟩ := h
    rfl
  obtain ⟨v, d, rfl, hd, hf, hz, q⟩ := h
  refine ⟨_, pss_one (ps_ret (pe_c c hr (by omega) (by rfl) (pa_cons (pv 0) (pa_cons pe_bl pa_nil)))), ?_⟩
  exact ⟨_, rfl, v, d, rfl, hd, hf, hz, fun u H' s h => q u H' s h⟩
end
end Lm

namespace Lm
open PySem PySem.Spec PyProof.Rows L2
open C8 (fnScope_by pe_gc pss_cut tCut Cal pe_c)
/-! ### head_fits, is_module -/
structure Ms (mg : Str → Option Value) : Prop where
  modules : ∃ u, mg "MOST_MODULES" = some u ∧ RelV (.int 6) u
  functions : ∃ u, mg "MOST_FUNCTIONS" = some u ∧ RelV (.int 8) u
  parameters : ∃ u, mg "MOST_PARAMETERS" = some u ∧ RelV (.int 4) u
def headFits (srt : Srt) (p r : PyData) : Bool := isNamedRow p 2 0 4 && ((items p).all (fun e => isKindD srt (at1 e)) && (isNoneD r || isKindD srt r))
def isModule (srt : Srt) (d : PyData) : Bool := isTupN d 2 && (isName (at0 d) && (isNamedRow (at1 d) 4 0 8 && (items (at1 d)).all (fun e => headFits srt (at1 e) (at2 e))))
section
variable {P : Program} {w : World} {K : PySem.W.Frag} {mg : Str → Option Value} {base : Heap}
abbrev nsHF : List Str := ["sorts", "parameters", "result", "_", "kind"]
theorem scHF : FnScope nsHF ["sorts", "parameters", "result"] (defScope sHeadFits) := fnScope_by (by decide +kernel)
def spHF (K : PySem.W.Frag) : Sp := fun vs H Q _ => ∃ (a : Addr) (v u : V) (p r : PyData) (srt : Srt), vs = [.ref a, v, u] ∧ SrtAt K H a srt ∧ Dx K H v p ∧ fit p = true ∧ Dx K H u r ∧ ∀ H', Same H H' → Q (.bl (headFits srt p r)) H'
theorem kHF {f : Addr} {fd : FuncData} (F : Fun K "head_fits" "head_fits" sHeadFits f fd) (B : Bt mg) (C : Ms mg) (c1 : Cal P w K mg base 2 "is_named_row" (spNamed K) []) (c2 : Cal P w K mg base 1 "is_kind" (spSK K isKindD fun _ => True) []) :
    FnOk P w K mg base CX0 3 f fd ["sorts", "parameters", "result"] (spHF K) := by
  refine F.ok scHF (fun vs H Q E h => ?_) (fun cdv A outer s H vs Q E hr h => ?_)
  · obtain ⟨a, v, u, p, r, srt, rfl, _⟩ := h
    rfl
  obtain ⟨a, v, u, p, r, srt, rfl, ha, hp, hf, hu2, q⟩ := h
  refine ⟨_, pss_cons (ps_if (pt_not (pt_val (pe_c c1 hr (by decide) (by rfl) (pa_cons (pv 1) (pa_cons pe_int (pa_cons pe_int (pa_cons (pe_gc (by rfl) C.parameters) pa_nil))))))) (pss_one (ps_ret pe_bl)) pss_nil)
    (pss_cons (ps_if (pt_not (pt_val (pe_callB (cr_all rfl) (by rfl) B.all boot_all (pa_cons
        (pe_lc (own := [("_", 3), ("kind", 4)]) (tt := tYes) rfl scHF.nd (pi_row (pv 1)) (blkOk_by (N := nsHF) (sc := defScope sHeadFits) (by decide +kernel)) (fun _ _ _ _ _ => pg_tupk K rfl (n := 2) rfl (pgs_cons (pg_name (i := 3) scHF.nd rfl (Or.inl rfl)) (pgs_cons (pg_name (i := 4) scHF.nd rfl (Or.inl rfl)) pgs_nil)))
          (fun _ _ _ _ _ => pts_nil) (fun _ _ _ _ _ => pe_c c2 hr (by decide) (by rfl) (pa_cons (pv 0) (pa_cons (pv 4) pa_nil)))) pa_nil)))) (pss_one (ps_ret pe_bl)) pss_nil)
    (pss_one (ps_ret (pe_or (pe_cmpR op_isN (pv 2) pe_non (by rfl)) (pe_one (pe_c c2 hr (by decide) (by rfl) (pa_cons (pv 0) (pa_cons (pv 2) pa_nil)))))))), ?_⟩
  have bad : headFits srt p r = false → ∀ H', Same H H' → Q (.bl false) H' := fun e H' s' => by
    have z := q H' s'
    rw [e] at z
    exact z
  refine ⟨_, rfl, v, p, 2, 0, 4, rfl, hp, hf, by decide, fun H1 s1 => ⟨_, rfl, ?_⟩⟩
  cases h1 : isNamedRow p 2 0 4 with
  | false => exact iteT (bad (by unfold headFits; rw [h1]; rfl) H1 s1)
  | true =>
    refine iteF ?_
    obtain ⟨hrow, hps, _, hlen⟩ := named_row h1
    have hpr := named_pairs h1
    have hl1 := fit_len hf
    obtain ⟨ar, xs, rfl, hs, hxs⟩ := (Dx.mono s1 hp).row hrow
    have hs' : SqL K H1 ar xs ∨ SqT K H1 ar xs := hs.imp (·.1) (·.1)
    refine for_row (a := ar) (xs := xs) hs' (Same.refl H1) (fun k hk => ⟨_, rfl, hk⟩) fun J G gs wk D nD => lc_row wk gs nD (fun e => .bl (isKindD srt (at1 e))) hxs rfl hl1 (fun i x e H3 Z Zf he hx s3 hZ => ?_) fun H' s' hD => ?_
    · obtain ⟨d0, d1, rfl⟩ := hpr e (List.mem_of_getElem? he)
      obtain ⟨ap, w0, w1, rfl, hap, _, hw1⟩ := pair_at hx
      refine ⟨ap, _, rfl, .inl (.inl hap), rfl, _, _, rfl, _, _, rfl, rfl, rfl, tyes ?_⟩
      exact ⟨_, rfl, _, rfl, a, w1, d1, srt, rfl, (ha.mono s1).mono s3, hw1, trivial, hZ H3 (Same.refl H3)⟩
    · refine ⟨D, (items p).map (fun e => isKindD srt (at1 e)), rfl, .inl (.inl ?_), ⟨_, rfl, ?_⟩⟩
      · rw [hD, List.map_map]
        rfl
      · rw [List.all_map]
        cases hk : (items p).all (id ∘ fun e => isKindD srt (at1 e)) with
        | false =>
          have hk' : (items p).all (fun e => isKindD srt (at1 e)) = false := hk
          exact iteT (bad (by unfold headFits; rw [h1, hk']; rfl) H' (s1.trans s'))
        | true =>
          have hk' : (items p).all (fun e => isKindD srt (at1 e)) = true := hk
          refine iteF ⟨_, rfl, rfl, _, rfl, ?_⟩
          have eq : headFits srt p r = (isNoneD r || isKindD srt r) := by unfold headFits; rw [h1, hk']; rfl
          have q' := q H' (s1.trans s')
          rw [eq] at q'
          rw [dx_isNone hu2]
          cases hn : isNoneD r with
          | true =>
            rw [hn] at q'
            exact iteT q'
          | false =>
            rw [hn] at q'
            exact iteF ⟨_, rfl, _, rfl, a, u, r, srt, rfl, (ha.mono s1).mono s', Dx.mono (s1.trans s') hu2, trivial, q'⟩
abbrev nsIM : List Str := ["sorts", "value", "_", "parameters", "result"]
theorem scIM : FnScope nsIM ["sorts", "value"] (defScope sIsModule) := fnScope_by (by decide +kernel)
def spIM (K : PySem.W.Frag) : Sp := fun vs H Q _ => ∃ (a : Addr) (v : V) (d : PyData) (srt : Srt), vs = [.ref a, v] ∧ SrtAt K H a srt ∧ Dx K H v d ∧ fit d = true ∧ ∀ H', Same H H' → Q (.bl (isModule srt d)) H'
theorem quad_of {p : PyData} (h : isTupN p 4 = true) : ∃ d0 d1 d2 d3, p = .tuple [d0, d1, d2, d3] := by
  obtain ⟨ds, rfl, hl⟩ := tupN_items h
  match ds, hl with
  | [a, b, c, d], _ => exact ⟨a, b, c, d, rfl⟩
  | [], h => cases h
  | [_], h => cases h
  | [_, _], h => cases h
  | [_, _, _], h => cases h
  | _ :: _ :: _ :: _ :: _ :: _, h => simp only [List.length_cons] at h; omega
theorem kIM {f : Addr} {fd : FuncData} (F : Fun K "is_module" "is_module" sIsModule f fd) (B : Bt mg) (C : Ms mg) (c1 : Cal P w K mg base 1 "is_tuple" (spTupN K) []) (c2 : Cal P w K mg base 1 "is_name" (spB1 K isName) []) (c3 : Cal P w K mg base 2 "is_named_row" (spNamed K) [])
    (c4 : Cal P w K mg base 3 "head_fits" (spHF K) []) : FnOk P w K mg base CX0 4 f fd ["sorts", "value"] (spIM K) := by
  refine F.ok scIM (fun vs H Q E h => ?_) (fun cdv A outer s H vs Q E hr h => ?_)
  · obtain ⟨a, v, d, srt, rfl, _⟩ := h
    rfl
  obtain ⟨a, v, d, srt, rfl, ha, hd, hf, q⟩ := h
  refine ⟨_, pss_cons (ps_if (PW.pt (pw_or (pt_not (pt_val (pe_c c1 hr (by decide) (by rfl) (pa_cons (pv 1) (pa_cons pe_int pa_nil)))))
      (pw_or (pt_not (pt_val (pe_c c2 hr (by decide) (by rfl) (pa_cons (pe_ix ix_tup (pv 1) pe_int (fun _ _ => rfl)) pa_nil))))
      (pw_or1 (pt_not (pt_val (pe_c c3 hr (by decide) (by rfl) (pa_cons (pe_ix ix_tup (pv 1) pe_int (fun _ _ => rfl)) (pa_cons pe_int (pa_cons pe_int (pa_cons (pe_gc (by rfl) C.functions) pa_nil))))))))))) (pss_one (ps_ret pe_bl)) pss_nil)
    (pss_one (ps_ret (pe_callB (cr_all rfl) (by rfl) B.all boot_all (pa_cons
        (pe_lc (own := [("_", 2), ("parameters", 3), ("result", 4)]) (tt := tYes) rfl scIM.nd (pi_row (pe_ix ix_tup (pv 1) pe_int (fun _ _ => rfl))) (blkOk_by (N := nsIM) (sc := defScope sIsModule) (by decide +kernel))
          (fun _ _ _ _ _ => pg_tupk K rfl (n := 4) rfl (pgs_cons (pg_name (i := 2) scIM.nd rfl (Or.inl rfl)) (pgs_cons (pg_name (i := 3) scIM.nd rfl (Or.inl rfl)) (pgs_cons (pg_name (i := 4) scIM.nd rfl (Or.inl rfl)) (pgs_cons (pg_name (i := 2) scIM.nd rfl (Or.inl rfl)) pgs_nil)))))
          (fun _ _ _ _ _ => pts_nil) (fun _ _ _ _ _ => pe_c c4 hr (by decide) (by rfl) (pa_cons (pv 0) (pa_cons (pv 3) (pa_cons (pv 4) pa_nil))))) pa_nil)))), ?_⟩
  have bad : isModule srt d = false → ∀ H', Same H H' → Q (.bl false) H' := fun e H' s' => by
    have z := q H' s'
    rw [e] at z
    exact z
  refine ⟨_, rfl, v, d, 2, rfl, hd, _, rfl, ?_⟩
  cases h1 : isTupN d 2 with
  | false => exact iteT (iteT (bad (by unfold isModule; rw [h1]; rfl) H (Same.refl H)))
  | true =>
    obtain ⟨d0, d1, rfl⟩ := pair_of h1
    obtain ⟨av, v0, v1, rfl, hav, hv0, hv1⟩ := pair_at hd
    have f0 : fit d0 = true := fitAll_at (i := 0) (fit_items hf) rfl
    have f1 : fit d1 = true := fitAll_at (i := 1) (fit_items hf) rfl
    have e0 : isModule srt (.tuple [d0, d1]) = (isName d0 && (isNamedRow d1 4 0 8 && (items d1).all (fun e => headFits srt (at1 e) (at2 e)))) := by unfold isModule; rw [h1]; rfl
    refine iteF ⟨_, rfl, av, _, 0, _, rfl, rfl, .inl (.inl hav), atI_nat (j := 0) rfl, v0, d0, rfl, hv0, f0, fun H1 s1 => ⟨_, rfl, ?_⟩⟩
    cases h2 : isName d0 with
    | false => exact iteT (iteT (bad (by rw [e0, h2]; rfl) H1 s1))
    | true =>
      have hav1 := s1 _ _ hav
      refine iteF ⟨_, rfl, av, _, 1, _, rfl, rfl, .inl (.inl hav1), atI_nat (j := 1) rfl, v1, d1, 4, 0, 8, rfl, Dx.mono s1 hv1, f1, by decide, fun H2 s2 => ⟨_, rfl, ?_⟩⟩
      cases h3 : isNamedRow d1 4 0 8 with
      | false => exact iteT (bad (by rw [e0, h2, h3]; rfl) H2 (s1.trans s2))
      | true =>
        obtain ⟨hrow, hps, _, hlen⟩ := named_row h3
        have hl1 := fit_len f1
        have s12 := s1.trans s2
        obtain ⟨ar, xs, rfl, hs, hxs⟩ := (Dx.mono s12 hv1).row hrow
        have hs' : SqL K H2 ar xs ∨ SqT K H2 ar xs := hs.imp (·.1) (·.1)
        refine iteF ?_
        refine for_row (a := ar) (xs := xs) hs' (Same.refl H2) (fun k hk => ⟨_, rfl, av, _, 1, _, rfl, rfl, .inl (.inl (s2 _ _ hav1)), atI_nat (j := 1) rfl, hk⟩) fun J G gs wk D nD => lc_row wk gs nD (fun e => .bl (headFits srt (at1 e) (at2 e))) hxs rfl hl1 (fun i x e H3 Z Zf he hx s3 hZ => ?_) fun H' s' hD => ?_
        · obtain ⟨m0, m1, m2, m3, rfl⟩ := quad_of (hps e (List.mem_of_getElem? he)).1
          obtain ⟨ap, w0, w1, w2, w3, rfl, hap, _, hw1, hw2, _⟩ := quad_at hx
          have fe : fit (.tuple [m0, m1, m2, m3]) = true := fitAll_at (fit_items f1) he
          refine ⟨ap, _, rfl, .inl (.inl hap), rfl, _, _, rfl, _, _, rfl, _, _, rfl, _, _, rfl, rfl, rfl, tyes ?_⟩
          exact ⟨_, rfl, _, rfl, _, rfl, a, w1, w2, m1, m2, srt, rfl, (ha.mono s12).mono s3, hw1, fitAll_at (i := 1) (fit_items fe) rfl, hw2, fun H4 s4 => hZ H4 s4⟩
        · refine ⟨D, (items d1).map (fun e => headFits srt (at1 e) (at2 e)), rfl, .inl (.inl ?_), ?_⟩
          · rw [hD, List.map_map]
            rfl
          · rw [List.all_map]
            have z := q H' (s12.trans s')
            rw [e0, h2, h3] at z
            exact z
end
end Lm

/-! raise NoProgram(where, at, why) -/
namespace Lm
open PySem PySem.Spec PyProof.Rows L2
open C8 (fnScope_by pe_gc pss_cut tCut Cal pe_c)
section
variable {P : Program} {w : World} {K : PySem.W.Frag} {mg : Str → Option Value} {base : Heap} {CN : Addr}
def spI (K : PySem.W.Frag) (fs : List Str) : Sp := fun vs H Q _ => ∃ (a C : Addr) (ws : List V), vs = .ref a :: ws ∧ ws.length = fs.length ∧ OexC K C ∧ (∀ f ∈ fs, PySem.W.findIn K (.ref C) f = some none) ∧ H a = some (exo a C none) ∧
  ∀ (H' : Hp) (dx : Addr), H dx = none → dx ≠ a → (∀ b, b ≠ a → b ≠ dx → H' b = H b) → H' a = some (exo a C (some dx)) → H' dx = some (exd dx (fs.zip ws).reverse) → Q .non H'
theorem scNpI : FnScope ["self", "where", "at", "why"] ["self", "where", "at", "why"] (defScope mNpInit) := fnScope_by (by decide +kernel)
theorem kNpI {f : Addr} {fd : FuncData} (F : Fun K "__init__" "NoProgram.__init__" mNpInit f fd) : FnOk P w K mg base CX0 1 f fd ["self", "where", "at", "why"] (spI K npF) := by
  refine F.ok scNpI (fun vs H Q E h => ?_) (fun cdv A outer s H vs Q E hr h => ?_)
  · obtain ⟨a, C, ws, rfl, hl, _⟩ := h
    rw [List.length_cons, hl]
    rfl
  obtain ⟨a, C, ws, rfl, hl, T, no, ha, k⟩ := h
  match ws, hl with
  | [v0, v1, v2], _ =>
    refine ⟨_, (pss_cons (ps_ost (pv 0) (pv 1)) (pss_cons (ps_ost (pv 0) (pv 2)) (pss_one (ps_ost (pv 0) (pv 3))))), ?_⟩
    refine ⟨_, rfl, _, rfl, a, C, rfl, T, no _ (by simp), .inl ⟨ha, fun dx nd ne => ?_⟩⟩
    refine ⟨_, rfl, _, rfl, a, C, rfl, T, no _ (by simp), .inr ⟨dx, _, upd_same, by rw [upd_ne ne, upd_same], by simp, ?_⟩⟩
    refine ⟨_, rfl, _, rfl, a, C, rfl, T, no _ (by simp), .inr ⟨dx, _, by rw [upd_ne ne.symm, upd_same], upd_same, by simp, ?_⟩⟩
    exact k _ dx nd ne (fun b h1 h2 => by rw [upd_ne h2, upd_ne h2, upd_ne h1, upd_ne h2]) (by rw [upd_ne ne.symm, upd_ne ne.symm, upd_same]) (by rw [upd_same]; rfl)
/-- what is known of the class -/
structure Np (P : Program) (w : World) (K : PySem.W.Frag) (mg : Str → Option Value) (base : Heap) (CN : Addr) : Prop where
  g : mg "NoProgram" = some (.ref CN)
  o : OexC K CN
  no : ∀ f ∈ npF, PySem.W.findIn K (.ref CN) f = some none
  init : ∃ fI fd, PySem.W.findIn K (.ref CN) "__init__" = some (some (.ref fI)) ∧ PySem.W.typeIn K (.ref fI) = some (.type "function") ∧ FnOk P w K mg base CX0 1 fI fd ["self", "where", "at", "why"] (spI K npF) ∧ Binds K fd ["self", "where", "at", "why"] []
def xdN (v : V) (n : Int) (y : Str) : HO := .xd [("why", .str y), ("at", .int n), ("where", v)]
/-- what is wanted when it is raised: the heap is kept, but that the error's dict d is new -/
def tNp (CN : Addr) (W : WX) (ta : TA) : TS := fun _ σ H => ta σ H fun vs H1 => ∃ (v : V) (n : Int) (y : Str), vs = [v, .int n, .str y] ∧ ∀ (d : Addr) (H' : Hp), Same H1 H' → H1 d = none → H' d = some (xdN v n y) → W (.ref CN) (some d) σ H'
theorem ps_np {X : Cx} {W : WX} {e1 e2 e3 : Expr} {ta : TA} {p pos pos2 : Pos} (N : Np X.prog X.w X.K X.mg X.base CN) (hc : X.calm = true) (tk : Takes X W) {j : Nat} (hr : Room j X.A) (hj : 2 ≤ j) (ha : PA X [e1, e2, e3] ta) (hg : Gl X "NoProgram" := by rfl)
    (he : starEach [e1, e2, e3] X.env = (false, eval e1 X.env) :: starEach [e2, e3] X.env := by rfl) (hpl : (backTo pos (starEach [e2, e3] X.env)).any (·.1) = false := by rfl) :
    PS X (.Raise (some (.Call (.Name "NoProgram" p) [e1, e2, e3] [] pos)) none pos2) (tNp CN W ta) := by
  obtain ⟨fI, fd, i1, i2, i3, i4⟩ := N.init
  have ha2 : PA X [e1, e2, e3] (fun σ H Q => ∃ Q' : List V → Hp → Prop, ta σ H Q' ∧ ∀ vs H', Q' vs H' → Q vs H') := ⟨fun pos pins s σ H Q I ⟨Q', q, i⟩ => thn (ha.run pos pins s σ H Q' I q) fun us s1 ⟨vs, H1, I1, r1, q1⟩ => ⟨vs, H1, I1, r1, i _ _ q1⟩⟩
  have h := ps_raise (pos := pos2) hc tk (pmk_oex (p := p) (pos := pos) (CX := CX0) N.o i1 i2 i3 (hr.mono hj) i4 .nil pass0 hg N.g ha2 (by decide) he hpl)
  refine ⟨fun pins s σ H D I q => h.run pins s σ H D I ⟨_, q, fun vs H1 hv => ?_⟩⟩
  obtain ⟨v, n, y, rfl, q⟩ := hv
  refine ⟨(show 3 ≤ 1000 by decide), fun a na => ⟨a, CN, [v, .int n, .str y], rfl, rfl, N.o, N.no, upd_same, fun H' dx nd nda hk h1 h2 => ⟨rfl, dx, _, h1, h2, ?_, ?_⟩⟩⟩
  · rw [upd_ne nda] at nd
    exact nd
  · rw [upd_ne nda] at nd
    refine q dx _ (fun b o e => ?_) nd (by rw [upd_same]; rfl)
    have nb : b ≠ dx := ne_of_none e nd
    have nb2 : b ≠ a := ne_of_none e na
    rw [upd_ne nb, del_ne nb2, hk b nb2 nb, upd_ne nb2]
    exact e
end
end Lm

namespace Lm
open PySem PySem.Spec PyProof.Rows L2
open C8 (fnScope_by pe_gc pss_cut tCut Cal pe_c)
/-- what is wanted of NoProgram(wd, n, y), raised from the heap H on -/
def NpW (K : PySem.W.Frag) (CN : Addr) (H : Hp) (E : XK) (wd : PyData) (n : Int) (y : Str) : Prop := ∀ (d : Addr) (v : V) (H' : Hp), Same H H' → H d = none → H' d = some (xdN v n y) → Dx K H' v wd → E (.ref CN) (some d) H'
/-! ### check_main -/
def isMain (e : PyData) : Bool := decide (strOf (at0 e) = "main") && (decide ((items (at1 e)).length = 0) && isNoneD (at2 e))
def hasMain (d : PyData) : Bool := (items d).any isMain
/-- the rows of functions, of which the heads are right -/
def fnRow (e : PyData) : Prop := ∃ x p r b, e = .tuple [.str x, p, r, b] ∧ isRow p = true
section
variable {P : Program} {w : World} {K : PySem.W.Frag} {mg : Str → Option Value} {base : Heap} {CN : Addr}
theorem NpW.mono {H H' : Hp} {E : XK} {wd : PyData} {n : Int} {y : Str} (s : Same H H') (h : NpW K CN H E wd n y) : NpW K CN H' E wd n y := fun d v H2 s2 nd hd hv => h d v H2 (s.trans s2) (by
  cases hh : H d with
  | none => rfl
  | some o => rw [s _ _ hh] at nd; cases nd) hd hv
abbrev nsCM : List Str := ["functions", "name", "parameters", "result", "_"]
theorem scCM : FnScope nsCM ["functions"] (defScope sCheckMain) := fnScope_by (by decide +kernel)
def spCM (K : PySem.W.Frag) (CN : Addr) : Sp := fun vs H Q E => ∃ (v : V) (d : PyData), vs = [v] ∧ Dx K H v d ∧ isRow d = true ∧ (∀ e ∈ items d, fnRow e) ∧ (hasMain d = true → Q .non H) ∧ (hasMain d = false → NpW K CN H E .none (-1) "main")
theorem kCM {f : Addr} {fd : FuncData} (F : Fun K "check_main" "check_main" sCheckMain f fd) (B : Bt mg) (N : Np P w K mg base CN) : FnOk P w K mg base (L2.CX P w) 3 f fd ["functions"] (spCM K CN) := by
  refine F.okX (k := 2) scCM (fun vs H Q E h => ?_) (fun cdv A outer s H vs Q E hr h => ?_)
  · obtain ⟨v, d, rfl, _⟩ := h
    rfl
  obtain ⟨v, d, rfl, hd, hrow, hfn, q, qe⟩ := h
  refine ⟨_, pss_cons (ps_for (passes_of rfl) rfl (pi_row (pv 0)) (pg_tupk K rfl (n := 4) rfl (pgs_cons (pg_name (i := 1) scCM.nd rfl (Or.inl rfl)) (pgs_cons (pg_name (i := 2) scCM.nd rfl (Or.inl rfl)) (pgs_cons (pg_name (i := 3) scCM.nd rfl (Or.inl rfl)) (pgs_cons (pg_name (i := 4) scCM.nd rfl (Or.inl rfl)) pgs_nil)))))
      (pss_one (ps_if (PW.pt (pw_and (pt_cmpR op_eq (pv 1) pe_str (nomark _)) (pw_and (pt_cmpR op_eq (pe_callB call_len_seq (by rfl) B.len boot_len (pa_cons (pv 2) pa_nil)) pe_int (nomark _)) (pw_and1 (pt_cmp (pc_isN (pv 3)) (by rfl)))))) (pss_one ps_retN) pss_nil)))
    (pss_one (ps_np N rfl (takes_of rfl rfl rfl rfl) hr (by decide) (pa_cons pe_non (pa_cons (pe_un un_neg pe_int) (pa_cons pe_str pa_nil))))), ?_⟩
  obtain ⟨a, xs, rfl, hs, ha⟩ := hd.row hrow
  have hs' : SqL K H a xs ∨ SqT K H a xs := hs.imp (·.1) (·.1)
  have hl := ha.len
  refine for_row (a := a) (xs := xs) hs' (Same.refl H) (fun k hk => ⟨_, rfl, hk⟩) fun J G gs wk => for_it wk
    (fun i σ H' => ∃ y1 y2 y3 y4, σ = [some (.ref a), y1, y2, y3, y4] ∧ H' = H ∧ ((items d).drop i).any isMain = hasMain d) ⟨none, none, none, none, rfl, rfl, rfl⟩ ?_ ?_ ?_
  · rintro i σ H' hi ⟨y1, y2, y3, y4, rfl, rfl, _⟩
    exact gs _ (Same.refl _)
  · rintro i x σ H2 H3 hi ⟨y1, y2, y3, y4, rfl, rfl, h4⟩ ⟨rfl, hx⟩
    obtain ⟨e, he, hde⟩ := ha.get hx
    obtain ⟨z, p, r, b, rfl, hp⟩ := hfn e (List.mem_of_getElem? he)
    obtain ⟨ae, v0, v1, v2, v3, rfl, hae, hv0, hv1, hv2, hv3⟩ := quad_at hde
    obtain rfl := hv0.strOf
    obtain ⟨ap, zs, rfl, hsp, hap⟩ := hv1.row hp
    have hdrop : (items d).drop i = .tuple [.str z, p, r, b] :: (items d).drop (i + 1) := List.drop_eq_getElem_cons (List.getElem?_eq_some_iff.mp he).1 |>.trans (by rw [(List.getElem?_eq_some_iff.mp he).2])
    rw [hdrop, List.any_cons] at h4
    have em : isMain (.tuple [.str z, p, r, b]) = (decide (z = "main") && (decide ((items p).length = 0) && isNoneD r)) := rfl
    rw [em] at h4
    refine ⟨ae, _, rfl, .inl (.inl hae), rfl, _, _, rfl, _, _, rfl, _, _, rfl, _, _, rfl, rfl, ?_⟩
    refine ⟨_, rfl, rfl, _, rfl, ?_⟩
    rw [dstr]
    cases h1 : decide (z = "main") with
    | false =>
      rw [h1] at h4
      exact iteF (iteF ⟨_, _, _, _, rfl, rfl, h4⟩)
    | true =>
      rw [h1] at h4
      refine iteT ⟨_, rfl, ap, zs, rfl, hsp.imp (·.1) (·.1), rfl, _, rfl, ?_⟩
      have ez : decide (V.int (zs.length : Nat) = V.int 0) = decide ((items p).length = 0) := decide_eq_decide.mpr ⟨fun h => by have := V.int.inj h; have := hap.len; omega, fun h => by rw [hap.len, h]; rfl⟩
      rw [ez]
      cases h2 : decide ((items p).length = 0) with
      | false =>
        rw [h2] at h4
        exact iteF (iteF ⟨_, _, _, _, rfl, rfl, h4⟩)
      | true =>
        rw [h2] at h4
        refine iteT ⟨_, rfl, _, rfl, ?_⟩
        rw [dx_isNone hv2]
        cases h3 : isNoneD r with
        | false =>
          rw [h3] at h4
          exact iteF ⟨_, _, _, _, rfl, rfl, h4⟩
        | true =>
          rw [h3] at h4
          exact iteT (q h4.symm)
  · rintro σ H' ⟨y1, y2, y3, y4, rfl, rfl, h4⟩
    rw [hl, List.drop_length] at h4
    exact ⟨1, rfl, .non, -1, "main", rfl, fun dd H2 s2 nd hd2 => qe h4.symm dd .non H2 s2 nd hd2 .non⟩
end
end Lm

namespace Lm
open PySem PySem.Spec PyProof.Rows L2
open C8 (fnScope_by pe_gc pss_cut tCut Cal pe_c)
/-! ### check_modules -/
def modGo (srt : Srt) : List Str → Nat → List PyData → Option Int
  | _, _, [] => none
  | ns, i, e :: r => if (isModule srt e && !ns.contains (strOf (at0 e))) = true then modGo srt (ns ++ [strOf (at0 e)]) (i + 1) r else some (i : Int)
def modFault (srt : Srt) (d : PyData) : Option Int := if (isRow d && (decide (1 ≤ (items d).length) && decide ((items d).length ≤ 6))) = true then modGo srt [] 0 (items d) else some (-1)
section
variable {P : Program} {w : World} {K : PySem.W.Frag} {mg : Str → Option Value} {base : Heap} {CN : Addr}
abbrev nsCMo : List Str := ["sorts", "modules", "names", "at", "module"]
theorem scCMo : FnScope nsCMo ["sorts", "modules"] (defScope sCheckModules) := fnScope_by (by decide +kernel)
def spCMo (K : PySem.W.Frag) (CN : Addr) : Sp := fun vs H Q E => ∃ (a : Addr) (v : V) (d : PyData) (srt : Srt), vs = [.ref a, v] ∧ SrtAt K H a srt ∧ Dx K H v d ∧ fit d = true ∧ (modFault srt d = none → ∀ H', Same H H' → Q .non H') ∧ (∀ n, modFault srt d = some n → NpW K CN H E .none n "modules")
theorem kCMo {f : Addr} {fd : FuncData} (F : Fun K "check_modules" "check_modules" sCheckModules f fd) (B : Bt mg) (C : Ms mg) (N : Np P w K mg base CN) (c1 : Cal P w K mg base 1 "is_row" (spB1 K isRow) []) (c2 : Cal P w K mg base 4 "is_module" (spIM K) []) : FnOk P w K mg base (L2.CX P w) 5 f fd ["sorts", "modules"] (spCMo K CN) := by
  refine F.okX (k := 4) scCMo (fun vs H Q E h => ?_) (fun cdv A outer s H vs Q E hr h => ?_)
  · obtain ⟨a, v, d, srt, rfl, _⟩ := h
    rfl
  obtain ⟨a, v, d, srt, rfl, ha, hd, hf, q, qe⟩ := h
  refine ⟨_, pss_cons (ps_if (PW.pt (pw_or (pt_not (pt_val (pe_c c1 hr (by decide) (by rfl) (pa_cons (pv 1) pa_nil)))) (pw_or1 (pt_not (pt_chain op_le op_le pe_int (pe_callB call_len_seq (by rfl) B.len boot_len (pa_cons (pv 1) pa_nil)) (pe_gc (by rfl) C.modules))))))
      (pss_one (ps_np N rfl (takes_of rfl rfl rfl rfl) hr (by decide) (pa_cons pe_non (pa_cons (pe_un un_neg pe_int) (pa_cons pe_str pa_nil))))) pss_nil)
    (pss_cons (ps_set (i := 2) scCMo.nd rfl (.inl rfl) (pe_lst pa_nil))
    (pss_one (ps_for (passes_of rfl) rfl (pi_enumR (by rfl) B.enu (pa_cons (pv 1) pa_nil)) (pg_tupk K rfl (n := 2) rfl (pgs_cons (pg_name (i := 3) scCMo.nd rfl (Or.inl rfl)) (pgs_cons (pg_name (i := 4) scCMo.nd rfl (Or.inl rfl)) pgs_nil)))
      (pss_cons (ps_if (PW.pt (pw_or (pt_not (pt_val (pe_c c2 hr (by decide) (by rfl) (pa_cons (pv 0) (pa_cons (pv 4) pa_nil))))) (pw_or1 (pt_cmpR op_in_seq (pe_ix ix_tup (pv 4) pe_int (fun _ _ => rfl)) (pv 2) (by rfl)))))
        (pss_one (ps_np N rfl (takes_of rfl rfl rfl rfl) hr (by decide) (pa_cons pe_non (pa_cons (pv 3) (pa_cons pe_str pa_nil))))) pss_nil)
      (pss_one (ps_expr (pe_bm PySem.F.plainAttrs_list PySem.F.slot_list_append PySem.F.type_list_append mt_append (pv 2) (pa_cons (pe_ix ix_tup (pv 4) pe_int (fun _ _ => rfl)) pa_nil))))))) ), ?_⟩
  refine ⟨_, rfl, v, d, rfl, hd, hf, fun H1 s1 => ⟨_, rfl, ?_⟩⟩
  have none_ : ∀ (n : Int) (H' : Hp), Same H H' → modFault srt d = some n → ∀ (dd : Addr) (H2 : Hp), Same H' H2 → H' dd = none → H2 dd = some (xdN .non n "modules") → E (.ref CN) (some dd) H2 := fun n H' s' e dd H2 s2 nd hh => (qe n e).mono s' dd .non H2 s2 nd hh .non
  cases hrow : isRow d with
  | false =>
    refine iteT (iteT ⟨1, rfl, .non, -1, "modules", rfl, fun dd H2 s2 nd hh => none_ (-1) H1 s1 (by unfold modFault; rw [hrow]; rfl) dd H2 s2 nd hh⟩)
  | true =>
    refine iteF ?_
    have hd1 := Dx.mono s1 hd
    obtain ⟨ar, xs, rfl, hs, hax⟩ := hd1.row hrow
    have hs' : SqL K H1 ar xs ∨ SqT K H1 ar xs := hs.imp (·.1) (·.1)
    have hl := hax.len
    have hl1 := fit_len hf
    have bad : ¬ (1 ≤ (items d).length ∧ (items d).length ≤ 6) → modFault srt d = some (-1) := fun h => by
      unfold modFault
      rw [hrow, Bool.true_and, if_neg (by rw [Bool.and_eq_true, decide_eq_true_eq, decide_eq_true_eq]; exact h)]
    refine ⟨_, rfl, ar, xs, rfl, hs', _, _, rfl, rfl, _, rfl, ?_⟩
    by_cases h1 : 1 ≤ (items d).length
    · have c1' : decide ((1 : Int) ≤ (xs.length : Int)) = true := decide_eq_true (by omega)
      rw [c1']
      refine iteT ⟨_, _, rfl, rfl, _, rfl, ?_⟩
      by_cases h2 : (items d).length ≤ 6
      · have c2' : decide ((xs.length : Int) ≤ (6 : Int)) = true := decide_eq_true (by omega)
        rw [c2']
        refine iteF ⟨Nat.zero_le _, fun p np => ?_⟩
        have s2 := same_upd (o := .lst []) np
        have e0 : modFault srt d = modGo srt [] 0 (items d) := by unfold modFault; rw [hrow, Bool.true_and, if_pos (by rw [Bool.and_eq_true, decide_eq_true_eq, decide_eq_true_eq]; exact ⟨h1, h2⟩)]
        refine enum_row hs' s2 (fun kk hk => ⟨_, rfl, hk⟩) fun J G gs wk => for_it wk
          (fun i σ H' => ∃ (ns : List Str) (y3 y4 : Option V), σ = [some (.ref a), some (.ref ar), some (.ref p), y3, y4] ∧ ns.length = i ∧ H' p = some (.lst (ns.map V.str)) ∧ Same H1 H' ∧ modFault srt d = modGo srt ns i ((items d).drop i))
          ⟨[], none, none, rfl, rfl, upd_same, s2, e0⟩ ?_ ?_ ?_
        · rintro i σ H' hi ⟨ns, y3, y4, rfl, g1, g2, g3, g4⟩
          exact gs _ g3
        · rintro i x σ H2 H3 hi ⟨ns, y3, y4, rfl, g1, g2, g3, g4⟩ ⟨T, ti, te, rfl, nT, rfl, ht, hx⟩
          cases ht
          have sT := same_upd (o := .tup [V.int (i : Nat), te]) nT
          obtain ⟨e, he, hde⟩ := hax.get hx
          have hfe : fit e = true := fitAll_at (fit_items hf) he
          have s3 := g3.trans sT
          have hdrop : (items d).drop i = e :: (items d).drop (i + 1) := List.drop_eq_getElem_cons (List.getElem?_eq_some_iff.mp he).1 |>.trans (by rw [(List.getElem?_eq_some_iff.mp he).2])
          rw [hdrop] at g4
          have g4' : modFault srt d = if (isModule srt e && !ns.contains (strOf (at0 e))) = true then modGo srt (ns ++ [strOf (at0 e)]) (i + 1) ((items d).drop (i + 1)) else some (i : Int) := g4
          refine ⟨T, _, rfl, .inl (.inl upd_same), rfl, _, _, rfl, _, _, rfl, rfl, ?_⟩
          refine ⟨_, rfl, _, rfl, a, te, e, srt, rfl, (ha.mono s1).mono s3, Dx.mono s3 hde, hfe, fun H4 s4 => ⟨_, rfl, ?_⟩⟩
          have s14 := (s1.trans s3).trans s4
          have hp4 : H4 p = some (.lst (ns.map V.str)) := s4 _ _ (sT _ _ g2)
          have fault : ∀ H5, Same H4 H5 → modFault srt d = some (i : Int) → ∀ (dd : Addr) (H6 : Hp), Same H5 H6 → H5 dd = none → H6 dd = some (xdN .non (i : Nat) "modules") → E (.ref CN) (some dd) H6 := fun H5 s5 e dd H6 s6 nd hh => none_ (i : Int) H5 (s14.trans s5) e dd H6 s6 nd hh
          cases hm : isModule srt e with
          | false =>
            rw [hm, Bool.false_and, if_neg Bool.false_ne_true] at g4'
            exact iteT (iteT ⟨_, rfl, .non, _, "modules", rfl, fault H4 (Same.refl H4) g4'⟩)
          | true =>
            rw [hm, Bool.true_and] at g4'
            have hm' := hm
            unfold isModule at hm'
            rw [Bool.and_eq_true, Bool.and_eq_true] at hm'
            obtain ⟨m0, m1, rfl⟩ := pair_of hm'.1
            have hn0 : isName m0 = true := hm'.2.1
            have hte4 := Dx.mono s4 (Dx.mono s3 hde)
            obtain ⟨am, w0, w1, rfl, ham, hw0, _⟩ := pair_at hte4
            rw [isName_str hn0] at hw0
            obtain rfl := hw0.strOf
            refine iteF ⟨_, rfl, am, _, 0, _, rfl, rfl, .inl (.inl ham), atI_nat (j := 0) rfl, _, rfl, p, ns.map V.str, rfl, .inl (.inl (.inl hp4)), rfl, flat_strs ns, _, rfl, ?_⟩
            rw [in_strs]
            have g4'' : modFault srt d = if (!ns.contains (strOf m0)) = true then modGo srt (ns ++ [strOf m0]) (i + 1) ((items d).drop (i + 1)) else some (i : Int) := g4'
            show (if ns.contains (strOf m0) = true then _ else _)
            cases hc : ns.contains (strOf m0) with
            | true =>
              rw [hc, if_neg (by decide)] at g4''
              exact iteT ⟨_, rfl, .non, _, "modules", rfl, fault H4 (Same.refl H4) g4''⟩
            | false =>
              rw [hc, if_pos (by decide)] at g4''
              refine iteF ⟨_, rfl, .inl ⟨rfl, _, .inl (.inl hp4)⟩, _, rfl, am, _, 0, _, rfl, rfl, .inl (.inl ham), atI_nat (j := 0) rfl, p, _, _, rfl, rfl, hp4, small1000 (by rw [List.length_map]; omega), ?_⟩
              refine ⟨ns ++ [strOf m0], _, _, rfl, by rw [List.length_append, g1]; rfl, by rw [upd_same, List.map_append]; rfl, fun b o eb => ?_, g4''⟩
              have nb : b ≠ p := ne_of_none eb np
              rw [upd_ne nb]
              exact s4 _ _ (s3 _ _ eb)
        · rintro σ H' ⟨ns, y3, y4, rfl, g1, g2, g3, g4⟩
          rw [hl, List.drop_length] at g4
          exact q g4 H' (s1.trans g3)
      · have c2' : decide ((xs.length : Int) ≤ (6 : Int)) = false := decide_eq_false (by omega)
        rw [c2']
        exact iteT ⟨1, rfl, .non, -1, "modules", rfl, fun dd H2 s2 nd hh => none_ (-1) H1 s1 (bad (fun h => h2 h.2)) dd H2 s2 nd hh⟩
    · have c1' : decide ((1 : Int) ≤ (xs.length : Int)) = false := decide_eq_false (by omega)
      rw [c1']
      exact iteF ⟨_, rfl, iteT ⟨1, rfl, .non, -1, "modules", rfl, fun dd H2 s2 nd hh => none_ (-1) H1 s1 (bad (fun h => h1 h.1)) dd H2 s2 nd hh⟩⟩
end
end Lm

namespace Lm
open PySem PySem.Spec PyProof.Rows L2
open C8 (fnScope_by pe_gc pss_cut tCut Cal pe_c)
/-! ### FunctionCheck.__init__ -/
/-! a heap in which one instance was written -/
def SameI (a : Addr) (H H' : Hp) : Prop := (∀ b o, b ≠ a → H b = some o → H' b = some o) ∧ (∃ C dx fs, H a = some (.ins C dx fs)) ∧ ∃ C dx fs, H' a = some (.ins C dx fs)
theorem SameI.trans {a : Addr} {H1 H2 H3 : Hp} (x : SameI a H1 H2) (y : SameI a H2 H3) : SameI a H1 H3 := ⟨fun b o n e => y.1 b o n (x.1 b o n e), x.2.1, y.2.2⟩
theorem SameI.of {a : Addr} {H H' : Hp} {C dx : Addr} {fs : List (Str × V)} (s : Same H H') (h : H a = some (.ins C dx fs)) : SameI a H H' := ⟨fun b o _ e => s b o e, ⟨C, dx, fs, h⟩, ⟨C, dx, fs, s _ _ h⟩⟩
theorem SameI.put {a : Addr} {H : Hp} {C dx C' dx' : Addr} {fs fs' : List (Str × V)} (h : H a = some (.ins C dx fs)) : SameI a H (upd H a (.ins C' dx' fs')) := ⟨fun b o n e => by rw [upd_ne n]; exact e, ⟨C, dx, fs, h⟩, ⟨C', dx', fs', upd_same⟩⟩
section
variable {K : PySem.W.Frag} {aa : Addr} {H H' : Hp}
theorem SameI.ne (e : SameI aa H H') {b : Addr} {o : HO} (h : H b = some o) (n : ∀ C dx fs, o ≠ .ins C dx fs) : b ≠ aa := fun q => by
  obtain ⟨_, ⟨C, dx, fs, z⟩, _⟩ := e
  rw [q, z] at h
  cases h
  exact n _ _ _ rfl
mutual
theorem Dx.monoI (e : SameI aa H H') : ∀ {v : V} {d : PyData}, Dx K H v d → Dx K H' v d
  | _, _, .non => .non
  | _, _, .bl b => .bl b
  | _, _, .int i => .int i
  | _, _, .str x => .str x
  | _, _, .lst h a => .lst (e.1 _ _ (e.ne h (fun _ _ _ z => by cases z)) h) (DxAll.monoI e a)
  | _, _, .tup h a => .tup (e.1 _ _ (e.ne h (fun _ _ _ z => by cases z)) h) (DxAll.monoI e a)
  | _, _, .dic h => .dic (e.1 _ _ (e.ne h (fun _ _ _ z => by cases z)) h)
theorem DxAll.monoI (e : SameI aa H H') : ∀ {vs : List V} {ds : List PyData}, DxAll K H vs ds → DxAll K H' vs ds
  | _, _, .nil => .nil
  | _, _, .cons h a => .cons (Dx.monoI e h) (DxAll.monoI e a)
end
theorem SrtAt.monoI (e : SameI aa H H') {a : Addr} {srt : Srt} (h : SrtAt K H a srt) : SrtAt K H' a srt := by
  obtain ⟨kvs, h1, h2⟩ := h
  refine ⟨kvs, e.1 _ _ (e.ne h1 (fun _ _ _ z => by cases z)) h1, paired_imp (fun kv s z => ?_) h2⟩
  obtain ⟨z1, t, vp, z2, z3, z4⟩ := z
  exact ⟨z1, t, vp, z2, e.1 _ _ (e.ne z3 (fun _ _ _ z => by cases z)) z3, Dx.monoI e z4⟩
theorem HeadAt.monoI (e : SameI aa H H') {a : Addr} {hs : Heads} (h : HeadAt K H a hs) : HeadAt K H' a hs := by
  obtain ⟨kvs, h1, h2⟩ := h
  refine ⟨kvs, e.1 _ _ (e.ne h1 (fun _ _ _ z => by cases z)) h1, paired_imp (fun kv s z => ?_) h2⟩
  obtain ⟨z1, t, vp, z2, z3, z4⟩ := z
  exact ⟨z1, t, vp, z2, e.1 _ _ (e.ne z3 (fun _ _ _ z => by cases z)) z3, Dx.monoI e z4⟩
theorem VarAt.monoI (e : SameI aa H H') {a : Addr} {vs : Vars} (h : VarAt H a vs) : VarAt H' a vs := e.1 _ _ (e.ne (o := .dK (vsV vs)) h (fun _ _ _ z => by cases z)) h
end
def varPut (vs : Vars) (e : PyData) : Vars := vPut vs (strOf (at0 e)) (strOf (at1 e))
def varsOf (ds : List PyData) : Vars := ds.foldl varPut []
theorem varsGo_len : ∀ (ds : List PyData) (vs : Vars), (ds.foldl varPut vs).length ≤ vs.length + ds.length
  | [], vs => Nat.le_refl _
  | e :: r, vs => by
    have h1 := varsGo_len r (varPut vs e)
    have h2 := vPut_len vs (strOf (at0 e)) (strOf (at1 e))
    show (r.foldl varPut (varPut vs e)).length ≤ _
    unfold varPut at h1 ⊢
    rw [List.length_cons]
    omega
theorem varsOf_len (ds : List PyData) : (varsOf ds).length ≤ ds.length := by
  have := varsGo_len ds []
  simpa [varsOf] using this
section
variable {P : Program} {w : World} {K : PySem.W.Frag} {mg : Str → Option Value} {base : Heap} {C : Addr}
def spFcI (K : PySem.W.Frag) (C : Addr) : Sp := fun vs H Q _ => ∃ (a dx s h t c : Addr) (heads : Heads) (m f : Str) (p : PyData) (r : Option Str), vs = [.ref a, .ref s, .ref h, .ref t, .ref c] ∧ H a = some (.ins C dx []) ∧ HeadAt K H h heads ∧ HeadsOk heads ∧ H t = some (.tup [.str m, .str f]) ∧
  headGet heads m f = some (p, r) ∧ ∀ (H' : Hp) (d : Addr), (∀ b o, b ≠ a → H b = some o → H' b = some o) → H d = none → H' a = some (.ins C dx (fcF s h t c d (okV r) 0)) → VarAt H' d (varsOf (items p)) → Q .non H'
abbrev nsFI : List Str := ["self", "sorts", "heads", "where", "cases", "variable", "kind"]
theorem scFI : FnScope nsFI ["self", "sorts", "heads", "where", "cases"] (defScope mFcInit) := fnScope_by (by decide +kernel)
theorem kFcI {f : Addr} {fd : FuncData} (F : Fun K "__init__" "FunctionCheck.__init__" mFcInit f fd) (k : FcC K C) : FnOk P w K mg base CX0 1 f fd ["self", "sorts", "heads", "where", "cases"] (spFcI K C) := by
  refine F.ok scFI (fun vs H Q E h => ?_) (fun cdv A outer s H vs Q E hr h => ?_)
  · obtain ⟨a, dx, s, h, t, c, heads, m, f, p, r, rfl, _⟩ := h
    rfl
  obtain ⟨a, dx, sa, ha, wa, ca, heads, m, fn, p, r, rfl, hi, hh, hho, hw, hg, q⟩ := h
  have hu := hu_of hr
  refine ⟨_, pss_cons (ps_fld (pv 0) (pv 1) rfl) (pss_cons (ps_fld (pv 0) (pv 2) rfl) (pss_cons (ps_fld (pv 0) (pv 3) rfl) (pss_cons (ps_fld (pv 0) (pv 4) rfl)
    (pss_cons (ps_fld (pv 0) (pe_ix ix_tup (pe_dget hu (pv 2) (pv 3) (fun _ _ => rfl)) pe_int (fun _ _ => rfl)) rfl)
    (pss_cons (ps_fld (pv 0) (pe_dc (own := [("variable", 5), ("kind", 6)]) (tt := tYes) rfl scFI.nd (pi_row (pe_ix ix_tup (pe_dget hu (pv 2) (pv 3) (fun _ _ => rfl)) pe_int (fun _ _ => rfl))) (blkOk_by (N := nsFI) (sc := defScope mFcInit) (by decide +kernel))
        (fun _ _ _ _ _ => pg_tupk K rfl (n := 2) rfl (pgs_cons (pg_name (i := 5) scFI.nd rfl (Or.inl rfl)) (pgs_cons (pg_name (i := 6) scFI.nd rfl (Or.inl rfl)) pgs_nil))) (fun _ _ _ _ _ => pts_nil) (fun _ _ _ _ _ => pv 5) (fun _ _ _ _ _ => pv 6)) rfl)
    (pss_one (ps_fld (pv 0) pe_int rfl))))))), ?_⟩
  obtain ⟨kvs, g1, g2⟩ := hh
  rcases head_look (m := m) (f := fn) g2 with ⟨e1, _⟩ | ⟨p', r', t, vp, e1, e2, e3, e4⟩
  · rw [e1] at hg
    cases hg
  rw [hg] at e1
  cases e1
  obtain ⟨s0, hs0, es⟩ := head_mem hg
  obtain ⟨hrow, hpf, hpp⟩ := hho s0 hs0
  rw [es] at hrow hpf hpp
  have hrow : isRow p = true := hrow
  have hpf : fit p = true := hpf
  have hpp : ∀ e ∈ items p, ∃ n k, e = PyData.tuple [.str n, .str k] := hpp
  have nh : ha ≠ a := fun z => by rw [z, hi] at g1; cases g1
  have nw : wa ≠ a := fun z => by rw [z, hi] at hw; cases hw
  have nt : t ≠ a := fun z => by rw [z, hi] at e3; cases e3
  refine ⟨_, rfl, _, rfl, a, C, dx, _, rfl, hi, k.cl, k.sorts, by decide, ?_⟩
  refine ⟨_, rfl, _, rfl, a, C, dx, _, rfl, upd_same, k.cl, k.heads, by show 1 < 1000; decide, ?_⟩
  rw [upd_upd]
  refine ⟨_, rfl, _, rfl, a, C, dx, _, rfl, upd_same, k.cl, k.whr, by show 2 < 1000; decide, ?_⟩
  rw [upd_upd]
  refine ⟨_, rfl, _, rfl, a, C, dx, _, rfl, upd_same, k.cl, k.cases, by show 3 < 1000; decide, ?_⟩
  rw [upd_upd]
  have up1 : ∀ {o : HO} {b : Addr} {u : HO}, b ≠ a → H b = some u → (upd H a o) b = some u := fun nb e => by rw [upd_ne nb]; exact e
  have gD : ∀ o : HO, DGet (upd H a o) ha (.ref wa) (some (.ref t)) := fun o => by
    have z := DGet.t (k := [Sum.inr m, Sum.inr fn]) (up1 (o := o) nh g1) (up1 (o := o) nw hw)
    rw [e2] at z
    exact z
  refine ⟨_, rfl, _, rfl, ha, _, rfl, gD _, t, _, 1, _, rfl, rfl, .inl (.inl (up1 nt e3)), atI_nat (j := 1) rfl, _, rfl, a, C, dx, _, rfl, upd_same, k.cl, k.result, by show 4 < 1000; decide, ?_⟩
  rw [upd_upd]
  have sI := SameI.put (C' := C) (dx' := dx) (fs' := putF "result" (okV r) (putF "cases" (.ref ca) (putF "where" (.ref wa) (putF "heads" (.ref ha) (putF "sorts" (.ref sa) []))))) hi
  obtain ⟨ap, xs, rfl, hsp, hax⟩ := (Dx.monoI sI e4).row hrow
  have hs' : SqL K _ ap xs ∨ SqT K _ ap xs := hsp.imp (·.1) (·.1)
  have hlx := hax.len
  have hlp := fit_len hpf
  refine for_row (a := ap) (xs := xs) hs' (Same.refl _) (fun kk hk => ⟨_, rfl, _, rfl, ha, _, rfl, gD _, t, _, 0, _, rfl, rfl, .inl (.inl (up1 nt e3)), atI_nat (j := 0) rfl, hk⟩) fun J G gs wk D nD => dc_it wk
    (fun i H' => H' D = some (.dK (vsV (varsOf ((items p).take i)))) ∧ Same (upd H a (.ins C dx (putF "result" (okV r) (putF "cases" (.ref ca) (putF "where" (.ref wa) (putF "heads" (.ref ha) (putF "sorts" (.ref sa) []))))))) H') ⟨upd_same, same_upd nD⟩ (fun i H' _ h => gs _ h.2) ?_ ?_
  · rintro i x H2 H3 hi2 ⟨g5, g6⟩ ⟨rfl, hx⟩
    obtain ⟨e, he, hde⟩ := hax.get hx
    obtain ⟨n, kd, rfl⟩ := hpp e (List.mem_of_getElem? he)
    obtain ⟨aq, y0, y1, rfl, haq, hy0, hy1⟩ := pair_at hde
    obtain rfl := hy0.strOf
    obtain rfl := hy1.strOf
    have etk : varsOf ((items p).take (i + 1)) = vPut (varsOf ((items p).take i)) n kd := by
      unfold varsOf
      rw [List.take_add_one, he]
      show ((items p).take i ++ [PyData.tuple [.str n, .str kd]]).foldl varPut [] = _
      rw [List.foldl_append]
      rfl
    refine ⟨aq, _, rfl, .inl (.inl (g6 _ _ haq)), rfl, _, _, rfl, _, _, rfl, rfl, rfl, tyes ⟨_, rfl, _, rfl, _, Sum.inr n, rfl, g5, line2000 (by unfold vsV; rw [List.length_map]; have := varsOf_len ((items p).take i); rw [List.length_take] at this; omega), ?_, fun b o eb => ?_⟩⟩
    · rw [upd_same, etk, ← putK_vs]
    · rw [upd_ne (ne_of_none eb nD)]
      exact g6 b o eb
  · rintro H2 ⟨g5, g6⟩
    rw [hlx, List.take_length] at g5
    have nDa : D ≠ a := fun z => by rw [z, upd_same] at nD; cases nD
    have nDH : H D = none := by rw [upd_ne nDa] at nD; exact nD
    have h2a := g6 _ _ upd_same
    refine ⟨_, rfl, a, C, dx, _, rfl, h2a, k.cl, k.declared, by show 5 < 1000; decide, ?_⟩
    refine ⟨_, rfl, a, C, dx, _, rfl, upd_same, k.cl, k.passed, by show 6 < 1000; decide, ?_⟩
    rw [upd_upd]
    refine q _ D (fun b o nb e => ?_) nDH upd_same ?_
    · rw [upd_ne nb]
      exact g6 _ _ (up1 nb e)
    · show upd H2 a _ D = _
      rw [upd_ne nDa]
      exact g5
end
end Lm

namespace Lm
open PySem PySem.Spec PyProof.Rows L2
open C8 (fnScope_by pe_gc pss_cut tCut Cal pe_c)
/-! ### has_own_break, ends_itself -/
/-- a statement of which the form is right, as far as bodies_of looks at it -/
def stOk (e : PyData) : Prop := isStmt e = true ∧ (wordOf e = "match" → isRow (at2 e) = true ∧ ∀ x ∈ items (at2 e), isTupN x 2 = true)
/-- a body whose statements are right in this way, to a depth -/
def bodyOk : Nat → PyData → Prop
  | 0, _ => False
  | n + 1, d => isRow d = true ∧ ∀ e ∈ items d, stOk e ∧ ∀ b ∈ bodiesD e, bodyOk n b
def ownBreak : Nat → PyData → Bool
  | 0, _ => false
  | n + 1, d => (items d).any fun e => decide (wordOf e = "break") || (!decide (wordOf e = "loop") && (bodiesD e).any (ownBreak n))
section
variable {P : Program} {w : World} {K : PySem.W.Frag} {mg : Str → Option Value} {base : Heap} {C : Addr}
def spOB (K : PySem.W.Frag) (n : Nat) : Sp := fun vs H Q _ => ∃ (v : V) (d : PyData), vs = [v] ∧ Dx K H v d ∧ fit d = true ∧ bodyOk n d ∧ ∀ H', Same H H' → Q (.bl (ownBreak n d)) H'
abbrev nsOB : List Str := ["body", "statement", "inner"]
theorem scOB : FnScope nsOB ["body"] (defScope sOwnBreak) := fnScope_by (by decide +kernel)
theorem bodies_fit {e : PyData} (h : stOk e) (f : fit e = true) : ∀ b ∈ bodiesD e, fit b = true := by
  intro b hb
  unfold bodiesD at hb
  obtain ⟨x, r, rfl, _⟩ := stmt_form h.1
  split at hb
  · rename_i hm
    obtain ⟨hrow, hp⟩ := h.2 hm
    obtain ⟨y, hy, rfl⟩ := List.mem_map.mp hb
    obtain ⟨d0, d1, rfl⟩ := pair_of (hp y hy)
    have f2 : fit (at2 (.tuple (.str x :: r))) = true := by
      cases r with
      | nil => cases hrow
      | cons a r2 => cases r2 with
        | nil => cases hrow
        | cons b2 r3 => exact fitAll_at (i := 2) (fit_items f) rfl
    exact fitAll_at (i := 1) (fit_items (fitAll_mem (fit_items f2) hy)) rfl
  · split at hb
    · exact fitAll_mem (fit_items f) (List.mem_of_mem_drop hb)
    · cases hb
theorem kOB1 {n : Nat} {f : Addr} {fd : FuncData} (F : Fun K "has_own_break" "has_own_break" sOwnBreak f fd) (B : Bt mg) (c1 : Cal P w K mg base 1 "bodies_of" (spBodies K) []) (c2 : Cal P w K mg base (n + 1) "has_own_break" (spOB K n) []) : FnOk P w K mg base CX0 (n + 2) f fd ["body"] (spOB K (n + 1)) := by
  refine F.ok scOB (fun vs H Q E h => ?_) (fun cdv A outer s H vs Q E hr h => ?_)
  · obtain ⟨v, d, rfl, _⟩ := h
    rfl
  obtain ⟨v, d, rfl, hd, hf, ⟨hrow, hb⟩, q⟩ := h
  refine ⟨_, pss_cons (ps_for PassesOwn.never rfl (pi_row (pv 0)) (pg_name (i := 1) scOB.nd rfl (Or.inl rfl))
      (pss_cons (ps_if (pt_cmpR op_eq (pe_ix ix_tup (pv 1) pe_int (fun _ _ => rfl)) pe_str (nomark _)) (pss_one (ps_ret pe_bl)) pss_nil)
      (pss_one (ps_if (PW.pt (pw_and (pt_cmpR op_ne (pe_ix ix_tup (pv 1) pe_int (fun _ _ => rfl)) pe_str (nomark _)) (pw_and1 (pt_val (pe_callB (cr_any rfl) (by rfl) B.any boot_any (pa_cons
        (pe_lc (own := [("inner", 2)]) (g := gName 2) (tt := tYes) rfl scOB.nd (pi_list (pe_c c1 hr (by omega) (by rfl) (pa_cons (pv 1) pa_nil))) (blkOk_by (N := nsOB) (sc := defScope sOwnBreak) (by decide +kernel)) (fun _ _ _ _ _ => pg_name (i := 2) scOB.nd rfl (Or.inl rfl)) (fun _ _ _ _ _ => pts_nil)
          (fun _ _ _ _ _ => pe_c c2 hr (by omega) (by rfl) (pa_cons (pv 2) pa_nil))) pa_nil)))))) (pss_one (ps_ret pe_bl)) pss_nil))))
    (pss_one (ps_ret pe_bl)), ?_⟩
  obtain ⟨a, xs, rfl, hs, ha⟩ := hd.row hrow
  have hs' : SqL K H a xs ∨ SqT K H a xs := hs.imp (·.1) (·.1)
  have hl := ha.len
  refine for_row (a := a) (xs := xs) hs' (Same.refl H) (fun k hk => ⟨_, rfl, hk⟩) fun J G gs wk => for_it wk
    (fun i σ H' => ∃ y1, σ = [some (.ref a), y1, none] ∧ Same H H' ∧ ownBreak (n + 1) d = ((items d).drop i).any fun e => decide (wordOf e = "break") || (!decide (wordOf e = "loop") && (bodiesD e).any (ownBreak n))) ⟨none, rfl, Same.refl H, rfl⟩ ?_ ?_ ?_
  · rintro i σ H' hi ⟨y1, rfl, g1, g2⟩
    exact gs _ g1
  · rintro i x σ H2 H3 hi ⟨y1, rfl, g1, g2⟩ ⟨rfl, hx⟩
    obtain ⟨e, he, hde⟩ := ha.get hx
    have hm := List.mem_of_getElem? he
    obtain ⟨hst, hbs⟩ := hb e hm
    have hfe : fit e = true := fitAll_at (fit_items hf) he
    have hdrop : (items d).drop i = e :: (items d).drop (i + 1) := List.drop_eq_getElem_cons (List.getElem?_eq_some_iff.mp he).1 |>.trans (by rw [(List.getElem?_eq_some_iff.mp he).2])
    rw [hdrop, List.any_cons] at g2
    have hde2 := Dx.mono g1 hde
    obtain ⟨y, r, rfl, hsz⟩ := stmt_form hst.1
    obtain ⟨av, zs, rfl, hsv, h0⟩ := st_word hde2
    have ew : wordOf (.tuple (.str y :: r)) = y := rfl
    rw [ew] at g2
    refine ⟨_, rfl, av, zs, 0, _, rfl, rfl, hsv, atI_nat (j := 0) h0, rfl, _, rfl, ?_⟩
    rw [dstr]
    cases h1 : decide (y = "break") with
    | true =>
      refine iteT ?_
      have z := q _ g1
      rw [g2, h1] at z
      exact z
    | false =>
      rw [h1, Bool.false_or] at g2
      refine iteF ⟨_, rfl, av, zs, 0, _, rfl, rfl, hsv, atI_nat (j := 0) h0, rfl, _, rfl, ?_⟩
      rw [dstr]
      cases h2 : decide (y = "loop") with
      | true =>
        rw [h2] at g2
        exact iteF (iteF ⟨_, rfl, g1, g2⟩)
      | false =>
        rw [h2] at g2
        refine iteT ⟨_, rfl, _, _, rfl, hde2, hfe, hst.1, hst.2, fun p H4 ys s4 np hp hys => ?_⟩
        have hlys := hys.len
        have hbf := bodies_fit hst hfe
        have hyl : (bodiesD (.tuple (.str y :: r))).length ≤ 1000 := by
          unfold bodiesD
          split
          · rename_i hmm
            obtain ⟨hrow2, _⟩ := hst.2 hmm
            rw [List.length_map]
            cases r with
            | nil => cases hrow2
            | cons q1 r2 => cases r2 with
              | nil => cases hrow2
              | cons q2 r3 => exact fit_len (fitAll_at (i := 2) (fit_items hfe) rfl)
          · split
            · rw [List.length_drop]
              have := fit_len hfe
              omega
            · exact Nat.zero_le _
        refine ⟨p, rfl, ⟨_, .inl (.inl hp)⟩, fun D nD => lc_row (walk_list (K := K) (a := p) (xs := ys)) (fun H' s' => s'.seq (.inl (.inl hp))) nD (fun b => .bl (ownBreak n b)) (DxAll.mono s4 hys) rfl hyl (fun j x e H5 Z Zf he5 hx5 s5 hZ => ?_) fun H' s' hD => ?_⟩
        · have hmb := List.mem_of_getElem? he5
          exact ⟨rfl, tyes ⟨_, rfl, x, e, rfl, hx5, hbf e hmb, hbs e hmb, fun H6 s6 => hZ H6 s6⟩⟩
        · refine ⟨D, (bodiesD (.tuple (.str y :: r))).map (ownBreak n), rfl, .inl (.inl ?_), ?_⟩
          · rw [hD, List.map_map]
            rfl
          · rw [List.any_map]
            refine ⟨_, rfl, ?_⟩
            have s7 := g1.trans (s4.trans s')
            cases h3 : (bodiesD (.tuple (.str y :: r))).any (id ∘ ownBreak n) with
            | true =>
              have h3' : (bodiesD (.tuple (.str y :: r))).any (ownBreak n) = true := h3
              rw [h3'] at g2
              refine iteT ?_
              have z := q H' s7
              rw [g2] at z
              exact z
            | false =>
              have h3' : (bodiesD (.tuple (.str y :: r))).any (ownBreak n) = false := h3
              rw [h3'] at g2
              exact iteF ⟨_, rfl, s7, g2⟩
  · rintro σ H' ⟨y1, rfl, g1, g2⟩
    rw [hl, List.drop_length] at g2
    have z := q H' g1
    rw [g2] at z
    exact z
theorem kOB {f : Addr} {fd : FuncData} (F : Fun K "has_own_break" "has_own_break" sOwnBreak f fd) (B : Bt mg) (g : mg "has_own_break" = some (.ref f)) (b : Binds K fd ["body"] []) (c1 : Cal P w K mg base 1 "bodies_of" (spBodies K) []) : ∀ n : Nat, FnOk P w K mg base CX0 (n + 1) f fd ["body"] (spOB K n)
  | 0 => F.ok (k := 0) scOB (fun vs H Q E h => by obtain ⟨v, d, rfl, _⟩ := h; rfl) (fun _ _ _ _ _ _ _ _ _ h => by obtain ⟨v, d, rfl, _, _, z, _⟩ := h; exact z.elim)
  | n + 1 => kOB1 F B c1 (calOf F g b (kOB F B g b c1 n))
end
end Lm

namespace Lm
open PySem PySem.Spec PyProof.Rows L2
open C8 (fnScope_by pe_gc pss_cut tCut Cal pe_c)
def endsD (n : Nat) (d : PyData) : Bool := match (items d).getLast? with
  | none => false
  | some e => (["return", "fail"] : List Str).contains (wordOf e) || (decide (wordOf e = "loop") && !ownBreak n (at1 e))
section
variable {P : Program} {w : World} {K : PySem.W.Frag} {mg : Str → Option Value} {base : Heap} {C : Addr}
def spEI (K : PySem.W.Frag) (n : Nat) : Sp := fun vs H Q _ => ∃ (v : V) (d : PyData), vs = [v] ∧ Dx K H v d ∧ fit d = true ∧ bodyOk (n + 1) d ∧ ∀ H', Same H H' → Q (.bl (endsD n d)) H'
theorem scEI : FnScope ["body", "last"] ["body"] (defScope sEndsItself) := fnScope_by (by decide +kernel)
theorem last_at {α : Type} {xs : List α} {x : α} (h : xs.getLast? = some x) : atI xs (-1) = some x := by
  obtain ⟨ys, rfl⟩ := List.getLast?_eq_some_iff.mp h
  exact atI_last ys x
theorem ix_row {H : Hp} {a : Addr} {xs : List V} {i : Int} {v : V} {Q : VK} (hs : SqL K H a xs ∨ SqT K H a xs) (h : atI xs i = some v) (q : Q v H) : rIxL K (.ref a) (.int i) H Q ∨ rIxT K (.ref a) (.int i) H Q :=
  hs.imp (fun hs => ⟨a, xs, i, v, rfl, rfl, hs, h, q⟩) (fun hs => ⟨a, xs, i, v, rfl, rfl, hs, h, q⟩)
theorem kEI {n : Nat} {f : Addr} {fd : FuncData} (F : Fun K "ends_itself" "ends_itself" sEndsItself f fd) (B : Bt mg) (c : Cal P w K mg base (n + 1) "has_own_break" (spOB K n) []) : FnOk P w K mg base CX0 (n + 2) f fd ["body"] (spEI K n) := by
  refine F.ok scEI (fun vs H Q E h => ?_) (fun cdv A outer s H vs Q E hr h => ?_)
  · obtain ⟨v, d, rfl, _⟩ := h
    rfl
  obtain ⟨v, d, rfl, hd, hf, ⟨hrow, hb⟩, q⟩ := h
  refine ⟨_, pss_cons (ps_if (pt_cmpR op_eq (pe_callB call_len_seq (by rfl) B.len boot_len (pa_cons (pv 0) pa_nil)) pe_int (nomark _)) (pss_one (ps_ret pe_bl)) pss_nil)
    (pss_cons (ps_set (i := 1) scEI.nd rfl (.inl rfl) (pe_ix (ix_list.or ix_tup) (pv 0) (pe_un un_neg pe_int) (fun _ _ => rfl)))
    (pss_one (ps_ret (pe_or (pe_cmpR op_in_seq (pe_ix ix_tup (pv 1) pe_int (fun _ _ => rfl)) (pe_tup (pa_cons pe_str (pa_cons pe_str pa_nil))) (by rfl))
      (pe_one (pe_and (pe_cmpR op_eq (pe_ix ix_tup (pv 1) pe_int (fun _ _ => rfl)) pe_str (nomark _)) (pe_one (pe_not (pe_c c hr (by omega) (by rfl) (pa_cons (pe_ix ix_tup (pv 1) pe_int (fun _ _ => rfl)) pa_nil)))))))))), ?_⟩
  obtain ⟨a, xs, rfl, hs, ha⟩ := hd.row hrow
  have hs' : SqL K H a xs ∨ SqT K H a xs := hs.imp (·.1) (·.1)
  have hl := ha.len
  refine ⟨_, rfl, a, xs, rfl, hs', rfl, _, rfl, ?_⟩
  have ez : decide (V.int (xs.length : Nat) = V.int 0) = decide ((items d).length = 0) := decide_eq_decide.mpr ⟨fun h => by have := V.int.inj h; omega, fun h => by rw [hl, h]; rfl⟩
  rw [ez]
  cases hg : (items d).getLast? with
  | none =>
    have e0 : items d = [] := List.getLast?_eq_none_iff.mp hg
    have eE : endsD n d = false := by unfold endsD; rw [hg]
    rw [eE] at q
    rw [e0]
    exact iteT (q H (Same.refl H))
  | some e =>
    have hm : e ∈ items d := List.mem_of_getLast? hg
    have hne : decide ((items d).length = 0) = false := decide_eq_false (fun h => by rw [List.length_eq_zero_iff.mp h] at hm; cases hm)
    rw [hne]
    have eE : endsD n d = ((["return", "fail"] : List Str).contains (wordOf e) || (decide (wordOf e = "loop") && !ownBreak n (at1 e))) := by unfold endsD; rw [hg]
    rw [eE] at q
    obtain ⟨hst, hbs⟩ := hb e hm
    have hfe : fit e = true := fitAll_mem (fit_items hf) hm
    -- the last value
    obtain ⟨v, hv, hde⟩ : ∃ v, xs.getLast? = some v ∧ Dx K H v e := by
      rw [List.getLast?_eq_getElem?] at hg
      obtain ⟨v, h1, h2⟩ := ha.at hg
      exact ⟨v, by rw [List.getLast?_eq_getElem?, hl]; exact h1, h2⟩
    have hat := last_at hv
    obtain ⟨y, r, rfl, hsz⟩ := stmt_form hst.1
    obtain ⟨av, zs, rfl, hsv, h0⟩ := st_word hde
    have ew : wordOf (.tuple (.str y :: r)) = y := rfl
    rw [ew] at q
    refine iteF ⟨_, rfl, 1, rfl, ?_⟩
    refine ix_row hs' hat ?_
    refine ⟨_, rfl, av, zs, 0, _, rfl, rfl, hsv, atI_nat (j := 0) h0, by show 2 ≤ sizeLine; decide, fun p np => ⟨p, (["return", "fail"] : List Str).map V.str, rfl, .inr (.inl (.inl upd_same)), rfl, rfl, ?_⟩⟩
    rw [in_strs]
    have s1 := same_upd (o := .tup ((["return", "fail"] : List Str).map V.str)) np
    refine ⟨_, rfl, ?_⟩
    show (if (["return", "fail"] : List Str).contains y = true then _ else _)
    cases h1 : (["return", "fail"] : List Str).contains y with
    | true =>
      rw [h1] at q
      exact iteT (q _ s1)
    | false =>
      rw [h1, Bool.false_or] at q
      obtain ⟨av', zs', eav, hsv', h0'⟩ := st_word (Dx.mono s1 hde)
      cases eav
      refine iteF ⟨_, rfl, av, zs', 0, _, rfl, rfl, hsv', atI_nat (j := 0) h0', rfl, _, rfl, ?_⟩
      rw [dstr]
      cases h2 : decide (y = "loop") with
      | false =>
        rw [h2] at q
        exact iteF (q _ s1)
      | true =>
        rw [h2] at q
        have hy : y = "loop" := of_decide_eq_true h2
        have hrl : r.length = 1 := stmt_len hsz (by rw [hy]; rfl)
        match r, hrl with
        | [b0], _ =>
          have q : ∀ H', Same H H' → Q (.bl (true && !ownBreak n b0)) H' := q
          obtain ⟨a2, z0, z1, e2, hav, _, hz1⟩ := pair_at (Dx.mono s1 hde)
          cases e2
          have hb0 : bodyOk n b0 := hbs b0 (by
            unfold bodiesD
            rw [show wordOf (.tuple [.str y, b0]) = "loop" from hy, if_neg (by decide), if_pos (by decide)]
            exact List.mem_singleton.mpr rfl)
          have hf0 : fit b0 = true := fitAll_at (i := 1) (fit_items hfe) rfl
          refine iteT ⟨_, rfl, av, _, 1, _, rfl, rfl, .inl (.inl hav), atI_nat (j := 1) rfl, z1, b0, rfl, hz1, hf0, hb0, fun H2 s2 => ⟨_, rfl, q H2 (s1.trans s2)⟩⟩
end
end Lm

/-! heaps in which some instances and dicts were written, and objects were made -/
namespace Lm
open PySem PySem.Spec PyProof.Rows L2
open C8 (fnScope_by pe_gc pss_cut tCut Cal pe_c)
def InsAt (H : Hp) (b : Addr) : Prop := ∃ x y z, H b = some (.ins x y z)
def DkAt (H : Hp) (b : Addr) : Prop := ∃ k, H b = some (.dK k)
def Wr (L : List Addr) (H H' : Hp) : Prop := (∀ b o, b ∉ L → H b = some o → H' b = some o) ∧ ∀ b ∈ L, (InsAt H b ∧ InsAt H' b) ∨ (DkAt H b ∧ DkAt H' b)
section
variable {K : PySem.W.Frag} {L L' : List Addr} {H H' H1 H2 H3 : Hp}
theorem Wr.trans (x : Wr L H1 H2) (y : Wr L H2 H3) : Wr L H1 H3 := by
  refine ⟨fun b o n e => y.1 b o n (x.1 b o n e), fun b hb => ?_⟩
  rcases x.2 b hb with ⟨p, q⟩ | ⟨p, q⟩
  · rcases y.2 b hb with ⟨p', q'⟩ | ⟨⟨k, p'⟩, q'⟩
    · exact .inl ⟨p, q'⟩
    · obtain ⟨_, _, _, z⟩ := q
      rw [z] at p'
      cases p'
  · rcases y.2 b hb with ⟨⟨_, _, _, p'⟩, q'⟩ | ⟨p', q'⟩
    · obtain ⟨_, z⟩ := q
      rw [z] at p'
      cases p'
    · exact .inr ⟨p, q'⟩
def Ok (L : List Addr) (H : Hp) : Prop := ∀ b ∈ L, InsAt H b ∨ DkAt H b
theorem Wr.ok (x : Wr L H H') : Ok L H := fun b hb => (x.2 b hb).imp (·.1) (·.1)
theorem Wr.same (s : Same H H') (k : Ok L H) : Wr L H H' := ⟨fun b o _ e => s b o e, fun b hb => (k b hb).elim (fun ⟨x, y, z, e⟩ => .inl ⟨⟨x, y, z, e⟩, ⟨x, y, z, s _ _ e⟩⟩) (fun ⟨q, e⟩ => .inr ⟨⟨q, e⟩, ⟨q, s _ _ e⟩⟩)⟩
theorem Ok.mono (x : Wr L' H H') (k : Ok L H) : Ok L H' := fun b hb => by
  by_cases h : b ∈ L'
  · exact (x.2 b h).imp (·.2) (·.2)
  · rcases k b hb with ⟨p, q, r, e⟩ | ⟨q, e⟩
    · exact .inl ⟨p, q, r, x.1 _ _ h e⟩
    · exact .inr ⟨q, x.1 _ _ h e⟩
/-- to more that may be written -/
theorem Wr.weak (x : Wr L H H') (hs : ∀ b ∈ L, b ∈ L') (k : Ok L' H) : Wr L' H H' := by
  refine ⟨fun b o n e => x.1 b o (fun h => n (hs b h)) e, fun b hb => ?_⟩
  by_cases h : b ∈ L
  · exact x.2 b h
  · rcases k b hb with ⟨p, q, r, e⟩ | ⟨q, e⟩
    · exact .inl ⟨⟨p, q, r, e⟩, ⟨p, q, r, x.1 _ _ h e⟩⟩
    · exact .inr ⟨⟨q, e⟩, ⟨q, x.1 _ _ h e⟩⟩
/-- what was written besides is new -/
theorem Wr.fresh (s : Same H H1) (x : Wr L' H1 H2) (hn : ∀ b ∈ L', b ∈ L ∨ H b = none) (k : Ok L H) : Wr L H H2 := by
  refine ⟨fun b o n e => x.1 b o (fun h => (hn b h).elim n (fun z => by rw [z] at e; cases e)) (s _ _ e), fun b hb => ?_⟩
  by_cases h : b ∈ L'
  · rcases x.2 b h with ⟨p, q⟩ | ⟨⟨kk, p⟩, q⟩
    · rcases k b hb with p' | ⟨kk, e⟩
      · exact .inl ⟨p', q⟩
      · obtain ⟨_, _, _, z⟩ := p
        rw [s _ _ e] at z
        cases z
    · rcases k b hb with ⟨_, _, _, e⟩ | p'
      · rw [s _ _ e] at p
        cases p
      · exact .inr ⟨p', q⟩
  · rcases k b hb with ⟨p, q, r, e⟩ | ⟨q, e⟩
    · exact .inl ⟨⟨p, q, r, e⟩, ⟨p, q, r, x.1 _ _ h (s _ _ e)⟩⟩
    · exact .inr ⟨⟨q, e⟩, ⟨q, x.1 _ _ h (s _ _ e)⟩⟩
theorem Wr.putI {a x y x' y' : Addr} {z z' : List (Str × V)} (h : H a = some (.ins x y z)) (ha : a ∈ L) (k : Ok L H) : Wr L H (upd H a (.ins x' y' z')) := by
  refine ⟨fun b o n e => by rw [upd_ne (show b ≠ a from fun q => n (by rw [q]; exact ha))]; exact e, fun b hb => ?_⟩
  by_cases q : b = a
  · subst q
    exact .inl ⟨⟨_, _, _, h⟩, ⟨_, _, _, upd_same⟩⟩
  · rcases k b hb with ⟨p, q', r, e⟩ | ⟨q', e⟩
    · exact .inl ⟨⟨p, q', r, e⟩, ⟨p, q', r, by rw [upd_ne q]; exact e⟩⟩
    · exact .inr ⟨⟨q', e⟩, ⟨q', by rw [upd_ne q]; exact e⟩⟩
theorem Wr.putD {a : Addr} {z z' : List (Key × V)} (h : H a = some (.dK z)) (ha : a ∈ L) (k : Ok L H) : Wr L H (upd H a (.dK z')) := by
  refine ⟨fun b o n e => by rw [upd_ne (show b ≠ a from fun q => n (by rw [q]; exact ha))]; exact e, fun b hb => ?_⟩
  by_cases q : b = a
  · subst q
    exact .inr ⟨⟨_, h⟩, ⟨_, upd_same⟩⟩
  · rcases k b hb with ⟨p, q', r, e⟩ | ⟨q', e⟩
    · exact .inl ⟨⟨p, q', r, e⟩, ⟨p, q', r, by rw [upd_ne q]; exact e⟩⟩
    · exact .inr ⟨⟨q', e⟩, ⟨q', by rw [upd_ne q]; exact e⟩⟩
theorem Wr.ofX {dd : Addr} (x : SameX dd H H') (hd : dd ∈ L) (k : Ok L H) : Wr L H H' := by
  refine ⟨fun b o n e => x.1 b o (fun q => n (by rw [q]; exact hd)) e, fun b hb => ?_⟩
  by_cases q : b = dd
  · subst q
    obtain ⟨_, k1, k2, z1, z2⟩ := x
    exact .inr ⟨⟨_, z1⟩, ⟨_, z2⟩⟩
  · rcases k b hb with ⟨p, q', r, e⟩ | ⟨q', e⟩
    · exact .inl ⟨⟨p, q', r, e⟩, ⟨p, q', r, x.1 _ _ q e⟩⟩
    · exact .inr ⟨⟨q', e⟩, ⟨q', x.1 _ _ q e⟩⟩
/-- what is neither an instance nor a dict of texts stays -/
theorem Wr.keep (x : Wr L H H') {b : Addr} {o : HO} (h : H b = some o) (n1 : ∀ p q r, o ≠ .ins p q r) (n2 : ∀ k, o ≠ .dK k) : H' b = some o := by
  refine x.1 b o (fun hb => ?_) h
  rcases x.2 b hb with ⟨⟨p, q, r, e⟩, _⟩ | ⟨⟨k, e⟩, _⟩
  · rw [e] at h
    cases h
    exact n1 _ _ _ rfl
  · rw [e] at h
    cases h
    exact n2 _ rfl
theorem Wr.lst (x : Wr L H H') {b : Addr} {zs : List V} (h : H b = some (.lst zs)) : H' b = some (.lst zs) := x.keep h (fun _ _ _ e => by cases e) (fun _ e => by cases e)
theorem Wr.tup (x : Wr L H H') {b : Addr} {zs : List V} (h : H b = some (.tup zs)) : H' b = some (.tup zs) := x.keep h (fun _ _ _ e => by cases e) (fun _ e => by cases e)
theorem Wr.dT (x : Wr L H H') {b : Addr} {zs : List (List Key × V)} (h : H b = some (.dT zs)) : H' b = some (.dT zs) := x.keep h (fun _ _ _ e => by cases e) (fun _ e => by cases e)
mutual
theorem Dx.monoW (e : Wr L H H') : ∀ {v : V} {d : PyData}, Dx K H v d → Dx K H' v d
  | _, _, .non => .non
  | _, _, .bl b => .bl b
  | _, _, .int i => .int i
  | _, _, .str x => .str x
  | _, _, .lst h a => .lst (e.lst h) (DxAll.monoW e a)
  | _, _, .tup h a => .tup (e.tup h) (DxAll.monoW e a)
  | _, _, .dic (a := a) (kvs := kvs) h => by
    by_cases q : a ∈ L
    · rcases e.2 a q with ⟨⟨_, _, _, z⟩, _⟩ | ⟨_, ⟨k, z⟩⟩
      · rw [z] at h
        cases h
      · exact .dic z
    · exact .dic (e.1 _ _ q h)
theorem DxAll.monoW (e : Wr L H H') : ∀ {vs : List V} {ds : List PyData}, DxAll K H vs ds → DxAll K H' vs ds
  | _, _, .nil => .nil
  | _, _, .cons h a => .cons (Dx.monoW e h) (DxAll.monoW e a)
end
theorem SrtAt.monoW (e : Wr L H H') {a : Addr} {srt : Srt} (n : a ∉ L) (h : SrtAt K H a srt) : SrtAt K H' a srt := by
  obtain ⟨kvs, h1, h2⟩ := h
  refine ⟨kvs, e.1 _ _ n h1, paired_imp (fun kv s z => ?_) h2⟩
  obtain ⟨z1, t, vp, z2, z3, z4⟩ := z
  exact ⟨z1, t, vp, z2, e.tup z3, Dx.monoW e z4⟩
theorem HeadAt.monoW (e : Wr L H H') {a : Addr} {hs : Heads} (h : HeadAt K H a hs) : HeadAt K H' a hs := by
  obtain ⟨kvs, h1, h2⟩ := h
  refine ⟨kvs, e.dT h1, paired_imp (fun kv s z => ?_) h2⟩
  obtain ⟨z1, t, vp, z2, z3, z4⟩ := z
  exact ⟨z1, t, vp, z2, e.tup z3, Dx.monoW e z4⟩
theorem FcParts.monoW (e : Wr L H H') {s h w c d d' : Addr} {st st' : Fc} (ns : s ∉ L) (nc : c ∉ L) (p : FcParts K H s h w c d st) (e1 : st'.srt = st.srt) (e2 : st'.heads = st.heads) (e3 : st'.whr = st.whr) (hd : VarAt H' d' st'.decl) : FcParts K H' s h w c d' st' :=
  ⟨by rw [e1]; exact p.srt.monoW e ns, by rw [e1]; exact p.ok, by rw [e2]; exact p.heads.monoW e, by rw [e3]; exact e.tup p.whr, e.1 _ _ nc p.cases, hd⟩
end
end Lm

/-! the checks of a body, as a Lean function -/
namespace Lm
open PySem PySem.Spec PyProof.Rows L2
open C8 (fnScope_by pe_gc pss_cut tCut Cal pe_c)
abbrev Chk := Except (Nat × Str) Fc
def letSc (sc : Sc) (e : PyData) : Sc := if wordOf e = "let" then ⟨vPut sc.vars (strOf (at1 e)) (strOf (at2 e)), sc.depth, sc.looped⟩ else sc
def passFc (st : Fc) (e : PyData) : Fc := ⟨st.srt, st.heads, st.whr, st.result, declD st.srt st.decl e, st.passed + 1⟩
def innerSc (sc : Sc) (l : Bool) : Sc := ⟨sc.vars, sc.depth + 1, sc.looped || l⟩
def armSc (st : Fc) (sc : Sc) (x : PyData) : Sc := if isNoneD x = true then innerSc sc false else ⟨vPut sc.vars (strOf x) ((st.decl.lookup (strOf x)).getD ""), sc.depth + 1, sc.looped || false⟩
def eachB (cb : Fc → Sc → PyData → Chk) (sc : Sc) : Fc → List PyData → Chk
  | st, [] => .ok st
  | st, b :: r => match cb st sc b with
    | .error x => .error x
    | .ok st' => eachB cb sc st' r
def eachA (cb : Fc → Sc → PyData → Chk) (sc : Sc) : Fc → List PyData → Chk
  | st, [] => .ok st
  | st, e :: r => match cb st (armSc st sc (at0 e)) (at1 e) with
    | .error x => .error x
    | .ok st' => eachA cb sc st' r
def chkIn (cb : Fc → Sc → PyData → Chk) (st : Fc) (sc : Sc) (e : PyData) : Chk := if wordOf e = "match" then eachA cb sc st (items (at2 e)) else eachB cb (innerSc sc (decide (wordOf e = "loop"))) st (bodiesD e)
def chkRow (cb : Fc → Sc → PyData → Chk) : Fc → Sc → List PyData → Chk
  | st, _, [] => .ok st
  | st, sc, e :: r => match reasonD st sc r.isEmpty e with
    | some y => .error (st.passed, y)
    | none => match chkIn cb (passFc st e) (letSc sc e) e with
      | .error x => .error x
      | .ok st' => chkRow cb st' (letSc sc e) r
def chkBody : Nat → Fc → Sc → PyData → Chk
  | 0, st, _, _ => .ok st
  | n + 1, st, sc, d => if isRow d = true then chkRow (chkBody n) st sc (items d) else .error (st.passed, "row")
/-! ### variables -/
def Sub (vs ws : Vars) : Prop := ∀ x k, vs.lookup x = some k → ws.lookup x = some k
theorem Sub.refl (vs : Vars) : Sub vs vs := fun _ _ h => h
theorem Sub.trans {a b c : Vars} (x : Sub a b) (y : Sub b c) : Sub a c := fun n k h => y n k (x n k h)
theorem lk_cons (p : Str × Str) (r : Vars) (y : Str) : (p :: r).lookup y = if y = p.1 then some p.2 else r.lookup y := by
  obtain ⟨a, b⟩ := p
  by_cases h : y = a
  · subst h
    simp [List.lookup]
  · have e : (y == a) = false := by simpa using h
    rw [if_neg h]
    simp [List.lookup, e]
theorem lk_map (x k : Str) : ∀ (vs : Vars) (y : Str), (vs.map fun p => if p.1 = x then (p.1, k) else p).lookup y = if y = x then (vs.lookup y).map (fun _ => k) else vs.lookup y
  | [], y => by
    by_cases h : y = x
    · rw [if_pos h]; rfl
    · rw [if_neg h]; rfl
  | p :: r, y => by
    rw [List.map_cons, lk_cons, lk_cons, lk_map x k r y]
    by_cases h1 : p.1 = x
    · rw [if_pos h1]
      by_cases h2 : y = p.1
      · rw [if_pos h2, if_pos h2, if_pos (h2.trans h1)]
        rfl
      · rw [if_neg h2, if_neg h2]
    · rw [if_neg h1]
      by_cases h2 : y = p.1
      · rw [if_pos h2, if_pos h2, if_neg (fun q => h1 (h2.symm.trans q))]
      · rw [if_neg h2, if_neg h2]
theorem lk_none {vs : Vars} {x : Str} (h : (vs.any fun p => decide (p.1 = x)) = false) : vs.lookup x = none := by
  induction vs with
  | nil => rfl
  | cons p r ih =>
    rw [List.any_cons, Bool.or_eq_false_iff] at h
    rw [lk_cons, if_neg (fun q => (of_decide_eq_false h.1) q.symm)]
    exact ih h.2
theorem lk_some {vs : Vars} {x : Str} (h : (vs.any fun p => decide (p.1 = x)) = true) : ∃ k, vs.lookup x = some k := by
  induction vs with
  | nil => cases h
  | cons p r ih =>
    rw [lk_cons]
    by_cases q : x = p.1
    · exact ⟨p.2, if_pos q⟩
    · rw [if_neg q]
      refine ih ?_
      rw [List.any_cons, Bool.or_eq_true] at h
      exact h.resolve_left (fun z => q (of_decide_eq_true z).symm)
theorem lk_append {vs : Vars} {x k : Str} (y : Str) : (vs ++ [(x, k)]).lookup y = (vs.lookup y).or (if y = x then some k else none) := by
  induction vs with
  | nil =>
    rw [List.nil_append, lk_cons]
    rfl
  | cons p r ih =>
    rw [List.cons_append, lk_cons, lk_cons, ih]
    by_cases q : y = p.1
    · rw [if_pos q, if_pos q]; rfl
    · rw [if_neg q, if_neg q]
theorem lk_put (vs : Vars) (x k y : Str) : (vPut vs x k).lookup y = if y = x then some k else vs.lookup y := by
  unfold vPut
  cases h : (vs.any fun p => decide (p.1 = x)) with
  | true =>
    rw [if_pos rfl, lk_map]
    by_cases q : y = x
    · rw [if_pos q, if_pos q]
      obtain ⟨z, e⟩ := lk_some h
      rw [q, e]
      rfl
    · rw [if_neg q, if_neg q]
  | false =>
    rw [if_neg Bool.false_ne_true, lk_append]
    by_cases q : y = x
    · rw [if_pos q, if_pos q, q, lk_none h]
      rfl
    · rw [if_neg q, if_neg q]
      cases vs.lookup y <;> rfl
theorem varsOk_put {vs : Vars} {x k : Str} (h : VarsOk vs) (hk : fit (.str k) = true) : VarsOk (vPut vs x k) := by
  unfold vPut
  split
  · intro p hp
    obtain ⟨q, hq, rfl⟩ := List.mem_map.mp hp
    split
    · exact hk
    · exact h q hq
  · intro p hp
    rcases List.mem_append.mp hp with hp | hp
    · exact h p hp
    · rw [List.mem_singleton.mp hp]
      exact hk
theorem new_none {decl : Vars} {d : PyData} (h : isNew decl d = true) : decl.lookup (strOf d) = none := by
  unfold isNew at h
  rw [Bool.and_eq_true, Bool.not_eq_true'] at h
  refine lk_none ?_
  rw [List.any_eq_false]
  intro p hp q
  have e := of_decide_eq_true q
  have : (decl.map (·.1)).contains (strOf d) = true := List.contains_iff_mem.mpr (List.mem_map.mpr ⟨p, hp, e⟩)
  rw [h.2] at this
  cases this
theorem lookup_mem' {vs : Vars} {x k : Str} (h : vs.lookup x = some k) : (x, k) ∈ vs := lookup_mem h
/-! ### the arms' variables -/
theorem go_old (y : Str) : ∀ (es ps : List PyData) (vs : Vars), (∀ e ∈ es, isNoneD (at0 e) = false → strOf (at0 e) ≠ y) → (declGo vs es ps).lookup y = vs.lookup y
  | [], _, _, _ => by unfold declGo; rfl
  | _ :: _, [], _, _ => by unfold declGo; rfl
  | e :: r, p :: s, vs, h => by
    unfold declGo
    rw [go_old y r s _ (fun e' he' => h e' (List.mem_cons_of_mem _ he'))]
    cases hn : isNoneD (at0 e) with
    | true => rw [if_pos rfl]
    | false =>
      rw [if_neg Bool.false_ne_true, lk_put, if_neg (fun q => h e (List.mem_cons_self ..) hn q.symm)]
theorem go_stay (y : Str) : ∀ (es ps : List PyData) (vs : Vars), (vs.lookup y).isSome = true → ((declGo vs es ps).lookup y).isSome = true
  | [], _, _, h => by unfold declGo; exact h
  | _ :: _, [], _, h => by unfold declGo; exact h
  | e :: r, p :: s, vs, h => by
    unfold declGo
    refine go_stay y r s _ ?_
    split
    · exact h
    · rw [lk_put]
      split
      · rfl
      · exact h
theorem go_has : ∀ (es ps : List PyData) (vs : Vars), es.length ≤ ps.length → ∀ e ∈ es, isNoneD (at0 e) = false → ((declGo vs es ps).lookup (strOf (at0 e))).isSome = true
  | [], _, _, _, e, he, _ => by cases he
  | _ :: _, [], _, hl, _, _, _ => by cases hl
  | x :: r, p :: s, vs, hl, e, he, hn => by
    unfold declGo
    rcases List.mem_cons.mp he with rfl | he
    · refine go_stay _ r s _ ?_
      rw [hn, if_neg Bool.false_ne_true, lk_put, if_pos rfl]
      rfl
    · exact go_has r s _ (Nat.le_of_succ_le_succ hl) e he hn
theorem go_ok : ∀ (es ps : List PyData) (vs : Vars), VarsOk vs → (∀ p ∈ ps, fit (.str (strOf (at1 p))) = true) → VarsOk (declGo vs es ps)
  | [], _, _, h, _ => by unfold declGo; exact h
  | _ :: _, [], _, h, _ => by unfold declGo; exact h
  | e :: r, p :: s, vs, h, hp => by
    unfold declGo
    refine go_ok r s _ ?_ (fun p' hp' => hp p' (List.mem_cons_of_mem _ hp'))
    split
    · exact h
    · exact varsOk_put h (hp p (List.mem_cons_self ..))
theorem arm_new {decl : Vars} : ∀ {es : List PyData} {ns : List Str}, armNames decl ns es = true → ∀ e ∈ es, isTupN e 2 = true → isNoneD (at0 e) = false → isNew decl (at0 e) = true
  | [], _, _, e, he, _, _ => by cases he
  | x :: r, ns, h, e, he, ht, hn => by
    unfold armNames at h
    rcases List.mem_cons.mp he with rfl | he
    · rw [if_pos (by rw [ht, hn]; rfl), Bool.and_eq_true] at h
      exact h.1
    · split at h
      · rw [Bool.and_eq_true, Bool.and_eq_true] at h
        exact arm_new h.2.2 e he ht hn
      · exact arm_new h e he ht hn
theorem fit_strOf {d : PyData} (h : fit d = true) : fit (.str (strOf d)) = true := by
  cases d with
  | str x => exact h
  | _ =>
    show fit (.str "") = true
    decide +kernel
end Lm

namespace Lm
open PySem PySem.Spec PyProof.Rows L2
open C8 (fnScope_by pe_gc pss_cut tCut Cal pe_c)
/-- what holds between two statements -/
structure Inv0 (st : Fc) (sc : Sc) : Prop where
  ok : SrtOk st.srt
  tu : SrtTup st.srt
  hd : HeadsOk st.heads
  vd : VarsOk st.decl
  vs : VarsOk sc.vars
  sub : Sub sc.vars st.decl
  pass : st.passed ≤ 40
  len : sc.vars.length ≤ 1100 + st.passed + sc.depth
/-- what holds of a statement at which nothing is found -/
structure Good (st : Fc) (sc : Sc) (e : PyData) : Prop where
  form : stOk e
  decl : declOk st.srt st.decl e
  dlen : st.decl.length ≤ 8
  depth : sc.depth ≤ 6
  sub : Sub st.decl (declD st.srt st.decl e)
  inv : Inv0 (passFc st e) (letSc sc e)
  arms : wordOf e = "match" → ∀ x ∈ items (at2 e), isNoneD (at0 x) = false → isStr (at0 x) = true ∧ ((declD st.srt st.decl e).lookup (strOf (at0 x))).isSome = true
theorem place_sub {srt : Srt} {vs ws : Vars} (h : Sub vs ws) {d : PyData} {k : Str} (e : placeKind srt vs d = some k) : placeKind srt ws d = some k := by
  unfold placeKind at e ⊢
  split at e
  · rename_i x fs
    cases hl : vs.lookup x with
    | none =>
      rw [hl, fold_none] at e
      cases e
    | some k0 =>
      rw [hl] at e
      show fs.foldl (fieldKind srt) (ws.lookup x) = some k
      rw [h x k0 hl]
      exact e
  · cases e
theorem arms_sub {srt : Srt} {vs ws : Vars} (h : Sub vs ws) {d1 d2 : PyData} (e : armsFit srt vs d1 d2 = true) : armsFit srt ws d1 d2 = true := by
  unfold armsFit at e ⊢
  cases hp : placeKind srt vs d1 with
  | none =>
    rw [hp] at e
    cases e
  | some k =>
    rw [hp] at e
    rw [place_sub h hp]
    exact e
theorem arms_at {srt : Srt} {vs : Vars} {d1 d2 : PyData} (e : armsFit srt vs d1 d2 = true) : ∃ k z p, placeKind srt vs d1 = some k ∧ srt.lookup k = some (z, p) ∧ (items d2).length = (items p).length := by
  unfold armsFit at e
  split at e
  · cases e
  · rename_i k hk
    split at e
    · cases e
    · rename_i z p hl
      rw [Bool.and_eq_true, Bool.and_eq_true, decide_eq_true_eq] at e
      exact ⟨k, z, p, hk, hl, e.2.1⟩
theorem vPut_new {vs : Vars} {x k : Str} (h : vs.lookup x = none) : Sub vs (vPut vs x k) := fun y z e => by
  rw [lk_put]
  split
  · rename_i q
    rw [q, h] at e
    cases e
  · exact e
theorem vPut_both {vs ws : Vars} {x k : Str} (h : Sub vs ws) : Sub (vPut vs x k) (vPut ws x k) := fun y z e => by
  rw [lk_put] at e ⊢
  split
  · rename_i q
    rw [if_pos q] at e
    exact e
  · rename_i q
    rw [if_neg q] at e
    exact h _ _ e
theorem fit_at1 {e : PyData} (h : fit e = true) : fit (at1 e) = true := by
  unfold at1
  have hi := fit_items h
  match items e, hi with
  | [], _ => rfl
  | [_], _ => rfl
  | a :: b :: r, hi => exact fitAll_at (i := 1) hi rfl
theorem fit_at2 {e : PyData} (h : fit e = true) : fit (at2 e) = true := by
  unfold at2
  have hi := fit_items h
  match items e, hi with
  | [], _ => rfl
  | [_], _ => rfl
  | [_, _], _ => rfl
  | a :: b :: c :: r, hi => exact fitAll_at (i := 2) hi rfl
theorem good_of {st : Fc} {sc : Sc} {t : Bool} {e : PyData} (I : Inv0 st sc) (hf : fit e = true) (h : reasonD st sc t e = none) : Good st sc e := by
  unfold reasonD at h
  split at h
  · cases h
  rename_i n1
  split at h
  · cases h
  rename_i n2
  split at h
  · cases h
  rename_i n3
  split at h
  · cases h
  rename_i n4
  split at h
  · cases h
  rename_i n5
  split at h
  · cases h
  rename_i n6
  split at h
  · cases h
  rename_i n7
  split at h
  · cases h
  rename_i n8
  clear h
  have hst : isStmt e = true := Bool.not_eq_false _ ▸ n2
  have hnm : namesFit st e = true := Bool.not_eq_false _ ▸ n3
  have hdl : st.decl.length ≤ 8 := by omega
  have hdp : sc.depth ≤ 6 := by omega
  by_cases w1 : wordOf e = "let"
  · have hk : isKindD st.srt (at2 e) = true := by
      cases q : isKindD st.srt (at2 e) with
      | true => rfl
      | false => exact absurd ⟨w1, q⟩ n4
    have hn : isNew st.decl (at1 e) = true := by
      unfold namesFit at hnm
      rw [if_pos w1] at hnm
      exact hnm
    have nm : wordOf e ≠ "match" := by rw [w1]; decide
    have hs2 : isStr (at2 e) = true := by
      unfold isKindD at hk
      rw [Bool.and_eq_true] at hk
      exact hk.1
    have hs1 : isStr (at1 e) = true := by
      have hn' := hn
      unfold isNew at hn'
      rw [Bool.and_eq_true] at hn'
      rw [isName_str hn'.1]
      rfl
    have eD : declD st.srt st.decl e = vPut st.decl (strOf (at1 e)) (strOf (at2 e)) := by unfold declD; rw [if_pos w1]
    have eS : letSc sc e = ⟨vPut sc.vars (strOf (at1 e)) (strOf (at2 e)), sc.depth, sc.looped⟩ := by unfold letSc; rw [if_pos w1]
    have f2 := fit_strOf (fit_at2 hf)
    refine ⟨⟨hst, fun q => absurd q nm⟩, ⟨fun _ => ⟨hs1, hs2⟩, fun q => absurd q nm⟩, hdl, hdp, ?_, ?_, fun q => absurd q nm⟩
    · rw [eD]
      exact vPut_new (new_none hn)
    · rw [eS]
      unfold passFc
      rw [eD]
      refine ⟨I.ok, I.tu, I.hd, varsOk_put I.vd f2, varsOk_put I.vs f2, vPut_both I.sub, by have := I.pass; show st.passed + 1 ≤ 40; omega, ?_⟩
      have h1 := vPut_len sc.vars (strOf (at1 e)) (strOf (at2 e))
      have h2 := I.len
      show (vPut sc.vars _ _).length ≤ 1100 + (st.passed + 1) + sc.depth
      omega
  · have eS : letSc sc e = sc := by unfold letSc; rw [if_neg w1]
    by_cases w2 : wordOf e = "match"
    · have ha : armsFit st.srt sc.vars (at1 e) (at2 e) = true := by
        cases q : armsFit st.srt sc.vars (at1 e) (at2 e) with
        | true => rfl
        | false => exact absurd ⟨w2, q⟩ n6
      have hpairs := arms_pairs ha
      have ha2 := arms_sub I.sub ha
      obtain ⟨k, z, p, hpk, hlk, hlen⟩ := arms_at ha2
      have hnames : armNames st.decl [] (items (at2 e)) = true := by
        unfold namesFit at hnm
        rw [if_neg w1, if_neg (by rw [w2]; decide), if_neg (by rw [w2]; decide), w2] at hnm
        have hnm : armNamesFit st.decl (at2 e) = true := hnm
        unfold armNamesFit at hnm
        rw [hpairs.1] at hnm
        exact hnm
      have hnew : ∀ x ∈ items (at2 e), isNoneD (at0 x) = false → isNew st.decl (at0 x) = true := fun x hx hn => arm_new hnames x hx (hpairs.2 x hx) hn
      have hstr : ∀ x ∈ items (at2 e), isNoneD (at0 x) = false → isStr (at0 x) = true := fun x hx hn => by
        have hn' := hnew x hx hn
        unfold isNew at hn'
        rw [Bool.and_eq_true] at hn'
        rw [isName_str hn'.1]
        rfl
      have eD : declD st.srt st.decl e = declGo st.decl (items (at2 e)) (items p) := by
        unfold declD
        rw [if_neg w1, if_pos w2, hpk]
        dsimp only
        rw [hlk]
      have hsub : Sub st.decl (declD st.srt st.decl e) := fun y kk hy => by
        rw [eD, go_old y]
        · exact hy
        · intro x hx hn q
          have := new_none (hnew x hx hn)
          rw [q, hy] at this
          cases this
      obtain ⟨_, hpf, _⟩ := I.ok _ (lookup_mem hlk)
      have hpf : fit p = true := hpf
      refine ⟨⟨hst, fun _ => hpairs⟩, ⟨fun q => absurd q w1, fun _ => ⟨⟨k, z, p, hpk, hlk⟩, ha2, hstr⟩⟩, hdl, hdp, hsub, ?_, fun _ x hx hn => ⟨hstr x hx hn, ?_⟩⟩
      · rw [eS]
        unfold passFc
        refine ⟨I.ok, I.tu, I.hd, ?_, I.vs, I.sub.trans hsub, by have := I.pass; show st.passed + 1 ≤ 40; omega, by have := I.len; show sc.vars.length ≤ 1100 + (st.passed + 1) + sc.depth; omega⟩
        show VarsOk (declD st.srt st.decl e)
        rw [eD]
        exact go_ok _ _ _ I.vd (fun q hq => fit_strOf (fit_at1 (fitAll_mem (fit_items hpf) hq)))
      · rw [eD]
        exact go_has _ _ _ (Nat.le_of_eq hlen) x hx hn
    · have eD : declD st.srt st.decl e = st.decl := by unfold declD; rw [if_neg w1, if_neg w2]
      refine ⟨⟨hst, fun q => absurd q w2⟩, ⟨fun q => absurd q w1, fun q => absurd q w2⟩, hdl, hdp, by rw [eD]; exact Sub.refl _, ?_, fun q => absurd q w2⟩
      rw [eS]
      unfold passFc
      rw [eD]
      exact ⟨I.ok, I.tu, I.hd, I.vd, I.vs, I.sub, by have := I.pass; show st.passed + 1 ≤ 40; omega, by have := I.len; show sc.vars.length ≤ 1100 + (st.passed + 1) + sc.depth; omega⟩
end Lm

namespace Lm
open PySem PySem.Spec PyProof.Rows L2
open C8 (fnScope_by pe_gc pss_cut tCut Cal pe_c)
/-- what a right body leaves -/
structure Stay (st st' : Fc) : Prop where
  srt : st'.srt = st.srt
  heads : st'.heads = st.heads
  whr : st'.whr = st.whr
  result : st'.result = st.result
  vd : VarsOk st'.decl
  sub : Sub st.decl st'.decl
  pass : st'.passed ≤ 40
  more : st.passed ≤ st'.passed
theorem Stay.refl {st : Fc} {sc : Sc} (I : Inv0 st sc) : Stay st st := ⟨rfl, rfl, rfl, rfl, I.vd, Sub.refl _, I.pass, Nat.le_refl _⟩
theorem Stay.trans {a b c : Fc} (x : Stay a b) (y : Stay b c) : Stay a c := ⟨y.srt.trans x.srt, y.heads.trans x.heads, y.whr.trans x.whr, y.result.trans x.result, y.vd, x.sub.trans y.sub, y.pass, Nat.le_trans x.more y.more⟩
theorem Inv0.stay {st st' : Fc} {sc : Sc} (I : Inv0 st sc) (x : Stay st st') : Inv0 st' sc := ⟨by rw [x.srt]; exact I.ok, by rw [x.srt]; exact I.tu, by rw [x.heads]; exact I.hd, x.vd, I.vs, I.sub.trans x.sub, x.pass, by have := I.len; have := x.more; omega⟩
theorem stay_pass {st : Fc} {sc : Sc} {e : PyData} (g : Good st sc e) : Stay st (passFc st e) := ⟨rfl, rfl, rfl, rfl, g.inv.vd, g.sub, g.inv.pass, Nat.le_succ _⟩
theorem Inv0.inner {st : Fc} {sc : Sc} (I : Inv0 st sc) (l : Bool) : Inv0 st (innerSc sc l) := ⟨I.ok, I.tu, I.hd, I.vd, I.vs, I.sub, I.pass, by have := I.len; show sc.vars.length ≤ 1100 + st.passed + (sc.depth + 1); omega⟩
theorem Inv0.arm {st : Fc} {sc : Sc} (I : Inv0 st sc) (x : PyData) (h : isNoneD x = false → (st.decl.lookup (strOf x)).isSome = true) : Inv0 st (armSc st sc x) := by
  unfold armSc
  cases hn : isNoneD x with
  | true => rw [if_pos rfl]; exact I.inner false
  | false =>
    rw [if_neg Bool.false_ne_true]
    obtain ⟨k, hk⟩ := Option.isSome_iff_exists.mp (h hn)
    rw [hk]
    have hp := vPut_len sc.vars (strOf x) k
    refine ⟨I.ok, I.tu, I.hd, I.vd, varsOk_put I.vs (I.vd _ (lookup_mem hk)), fun y z e => ?_, I.pass, ?_⟩
    · have e : (vPut sc.vars (strOf x) k).lookup y = some z := e
      rw [lk_put] at e
      by_cases q : y = strOf x
      · rw [if_pos q] at e
        cases e
        rw [q]
        exact hk
      · rw [if_neg q] at e
        exact I.sub _ _ e
    · have := I.len
      show (vPut sc.vars (strOf x) k).length ≤ 1100 + st.passed + (sc.depth + 1)
      omega
/-- what is asked of the check of inner bodies -/
def Cbs (cb : Fc → Sc → PyData → Chk) : Prop := ∀ st sc d st', Inv0 st sc → fit d = true → cb st sc d = .ok st' → Stay st st'
theorem eachB_stay {cb : Fc → Sc → PyData → Chk} (C : Cbs cb) {sc : Sc} : ∀ (bs : List PyData) (st st' : Fc), Inv0 st sc → (∀ b ∈ bs, fit b = true) → eachB cb sc st bs = .ok st' → Stay st st'
  | [], st, st', I, _, h => by
    unfold eachB at h
    cases h
    exact Stay.refl I
  | b :: r, st, st', I, hf, h => by
    unfold eachB at h
    cases hc : cb st sc b with
    | error x => rw [hc] at h; cases h
    | ok s1 =>
      rw [hc] at h
      have x := C _ _ _ _ I (hf b (List.mem_cons_self ..)) hc
      exact x.trans (eachB_stay C r s1 st' (I.stay x) (fun b' hb => hf b' (List.mem_cons_of_mem _ hb)) h)
/-- the arms' variables are declared -/
def ArmsIn (st : Fc) (es : List PyData) : Prop := ∀ x ∈ es, isNoneD (at0 x) = false → isStr (at0 x) = true ∧ (st.decl.lookup (strOf (at0 x))).isSome = true
theorem ArmsIn.stay {st st' : Fc} {es : List PyData} (h : ArmsIn st es) (x : Stay st st') : ArmsIn st' es := fun y hy hn => ⟨(h y hy hn).1, by
  obtain ⟨k, hk⟩ := Option.isSome_iff_exists.mp (h y hy hn).2
  rw [x.sub _ _ hk]
  rfl⟩
theorem eachA_stay {cb : Fc → Sc → PyData → Chk} (C : Cbs cb) {sc : Sc} : ∀ (es : List PyData) (st st' : Fc), Inv0 st sc → (∀ e ∈ es, fit (at1 e) = true) → ArmsIn st es → eachA cb sc st es = .ok st' → Stay st st'
  | [], st, st', I, _, _, h => by
    unfold eachA at h
    cases h
    exact Stay.refl I
  | e :: r, st, st', I, hf, ha, h => by
    unfold eachA at h
    cases hc : cb st (armSc st sc (at0 e)) (at1 e) with
    | error x => rw [hc] at h; cases h
    | ok s1 =>
      rw [hc] at h
      have x := C _ _ _ _ (I.arm (at0 e) (fun hn => (ha e (List.mem_cons_self ..) hn).2)) (hf e (List.mem_cons_self ..)) hc
      exact x.trans (eachA_stay C r s1 st' (I.stay x) (fun b' hb => hf b' (List.mem_cons_of_mem _ hb)) (fun y hy => (ha.stay x) y (List.mem_cons_of_mem _ hy)) h)
theorem chkIn_stay {cb : Fc → Sc → PyData → Chk} (C : Cbs cb) {st st' : Fc} {sc : Sc} {e : PyData} (I : Inv0 st sc) (hf : fit e = true) (hs : stOk e) (ha : wordOf e = "match" → ArmsIn st (items (at2 e))) (h : chkIn cb st sc e = .ok st') : Stay st st' := by
  unfold chkIn at h
  split at h
  · rename_i w
    exact eachA_stay C _ _ _ I (fun x hx => fit_at1 (fitAll_mem (fit_items (fit_at2 hf)) hx)) (ha w) h
  · exact eachB_stay C _ _ _ (I.inner _) (bodies_fit hs hf) h
theorem Good.armsIn {st : Fc} {sc : Sc} {e : PyData} (g : Good st sc e) : wordOf e = "match" → ArmsIn (passFc st e) (items (at2 e)) := g.arms
theorem chkRow_stay {cb : Fc → Sc → PyData → Chk} (C : Cbs cb) : ∀ (es : List PyData) (st st' : Fc) (sc : Sc), Inv0 st sc → (∀ e ∈ es, fit e = true) → chkRow cb st sc es = .ok st' → Stay st st'
  | [], st, st', sc, I, _, h => by
    unfold chkRow at h
    cases h
    exact Stay.refl I
  | e :: r, st, st', sc, I, hf, h => by
    unfold chkRow at h
    cases hr : reasonD st sc r.isEmpty e with
    | some y => rw [hr] at h; cases h
    | none =>
      rw [hr] at h
      dsimp only at h
      have fe := hf e (List.mem_cons_self ..)
      have g := good_of I fe hr
      cases hc : chkIn cb (passFc st e) (letSc sc e) e with
      | error x => rw [hc] at h; cases h
      | ok s1 =>
        rw [hc] at h
        have x := chkIn_stay C g.inv fe g.form g.armsIn hc
        exact (stay_pass g).trans (x.trans (chkRow_stay C r s1 st' _ (g.inv.stay x) (fun b' hb => hf b' (List.mem_cons_of_mem _ hb)) h))
theorem chkBody_stay : ∀ n : Nat, Cbs (chkBody n)
  | 0, st, sc, d, st', I, _, h => by
    unfold chkBody at h
    cases h
    exact Stay.refl I
  | n + 1, st, sc, d, st', I, hf, h => by
    unfold chkBody at h
    split at h
    · exact chkRow_stay (chkBody_stay n) _ _ _ _ I (fun e he => fitAll_mem (fit_items hf) he) h
    · cases h
end Lm

namespace Lm
open PySem PySem.Spec PyProof.Rows L2
open C8 (fnScope_by pe_gc pss_cut tCut Cal pe_c)
/-- a checker at a, a scope at b -/
structure CbAt (K : PySem.W.Frag) (C S : Addr) (H : Hp) (a b s h t c dd dx dxs vv : Addr) (st : Fc) (sc : Sc) : Prop where
  fc : H a = some (.ins C dx (fcF s h t c dd (okV st.result) st.passed))
  parts : FcParts K H s h t c dd st
  scp : H b = some (.ins S dxs (scF vv sc.depth sc.looped))
  vars : VarAt H vv sc.vars
  n1 : s ≠ dd
  n2 : s ≠ vv
  n3 : c ≠ dd
  n4 : c ≠ vv
  n5 : dd ≠ vv
  inv : Inv0 st sc
/-- what is wanted of NoProgram(where, n, y), where the checker's; what stands at L may have been written -/
def NpX (CN : Addr) (L : List Addr) (H : Hp) (E : XK) (t : Addr) (n : Nat) (y : Str) : Prop := ∀ (d : Addr) (H' : Hp), Wr L H H' → H d = none → H' d = some (xdN (.ref t) (n : Int) y) → E (.ref CN) (some d) H'
def CbRes (C CN : Addr) (L : List Addr) (H : Hp) (a s h t c dd dx : Addr) (r : Chk) (Q : VK) (E : XK) : Prop :=
  (∀ st', r = .ok st' → ∀ H', Wr L H H' → H' a = some (.ins C dx (fcF s h t c dd (okV st'.result) st'.passed)) → VarAt H' dd st'.decl → Q .non H') ∧ (∀ n y, r = .error (n, y) → NpX CN L H E t n y)
section
variable {P : Program} {w : World} {K : PySem.W.Frag} {mg : Str → Option Value} {base : Heap} {C S CN : Addr}
theorem CbAt.ab {H : Hp} {a b s h t c dd dx dxs vv : Addr} {st : Fc} {sc : Sc} (x : CbAt K C S H a b s h t c dd dx dxs vv st sc) : a ≠ b := fun z => by
  have h1 := x.fc
  have h2 := x.scp
  rw [z, h2] at h1
  have := HO.ins.inj (Option.some.inj h1)
  have := congrArg List.length this.2.2
  cases this
theorem CbAt.ad {H : Hp} {a b s h t c dd dx dxs vv : Addr} {st : Fc} {sc : Sc} (x : CbAt K C S H a b s h t c dd dx dxs vv st sc) : a ≠ dd := fun z => by
  have h1 := x.fc
  have h2 : H dd = some (.dK (vsV st.decl)) := x.parts.decl
  rw [z, h2] at h1
  cases h1
theorem CbAt.av {H : Hp} {a b s h t c dd dx dxs vv : Addr} {st : Fc} {sc : Sc} (x : CbAt K C S H a b s h t c dd dx dxs vv st sc) : a ≠ vv := fun z => by
  have h1 := x.fc
  have h2 : H vv = some (.dK (vsV sc.vars)) := x.vars
  rw [z, h2] at h1
  cases h1
theorem CbAt.bd {H : Hp} {a b s h t c dd dx dxs vv : Addr} {st : Fc} {sc : Sc} (x : CbAt K C S H a b s h t c dd dx dxs vv st sc) : b ≠ dd := fun z => by
  have h1 := x.scp
  have h2 : H dd = some (.dK (vsV st.decl)) := x.parts.decl
  rw [z, h2] at h1
  cases h1
theorem CbAt.bv {H : Hp} {a b s h t c dd dx dxs vv : Addr} {st : Fc} {sc : Sc} (x : CbAt K C S H a b s h t c dd dx dxs vv st sc) : b ≠ vv := fun z => by
  have h1 := x.scp
  have h2 : H vv = some (.dK (vsV sc.vars)) := x.vars
  rw [z, h2] at h1
  cases h1
theorem CbAt.sa {H : Hp} {a b s h t c dd dx dxs vv : Addr} {st : Fc} {sc : Sc} (x : CbAt K C S H a b s h t c dd dx dxs vv st sc) : s ≠ a := fun z => by
  have h1 := x.fc
  obtain ⟨k, h2, _⟩ := x.parts.srt
  rw [z, h1] at h2
  cases h2
theorem CbAt.ca {H : Hp} {a b s h t c dd dx dxs vv : Addr} {st : Fc} {sc : Sc} (x : CbAt K C S H a b s h t c dd dx dxs vv st sc) : c ≠ a := fun z => by
  have h1 := x.fc
  have h2 := x.parts.cases
  rw [z, h1] at h2
  cases h2
theorem CbAt.ok3 {H : Hp} {a b s h t c dd dx dxs vv : Addr} {st : Fc} {sc : Sc} (x : CbAt K C S H a b s h t c dd dx dxs vv st sc) : Ok [a, dd, vv] H := fun z hz => by
  rcases List.mem_cons.mp hz with rfl | hz
  · exact .inl ⟨_, _, _, x.fc⟩
  rcases List.mem_cons.mp hz with rfl | hz
  · exact .inr ⟨_, x.parts.decl⟩
  rw [List.mem_singleton.mp hz]
  exact .inr ⟨_, x.vars⟩
theorem CbAt.ok2 {H : Hp} {a b s h t c dd dx dxs vv : Addr} {st : Fc} {sc : Sc} (x : CbAt K C S H a b s h t c dd dx dxs vv st sc) : Ok [a, dd] H := fun z hz => by
  rcases List.mem_cons.mp hz with rfl | hz
  · exact .inl ⟨_, _, _, x.fc⟩
  rw [List.mem_singleton.mp hz]
  exact .inr ⟨_, x.parts.decl⟩
/-- behind a right piece: the scope's own variables unchanged -/
theorem CbAt.on2 {H H' : Hp} {a b s h t c dd dx dxs vv : Addr} {st st' : Fc} {sc : Sc} (x : CbAt K C S H a b s h t c dd dx dxs vv st sc) (wr : Wr [a, dd] H H') (ha : H' a = some (.ins C dx (fcF s h t c dd (okV st'.result) st'.passed))) (hd : VarAt H' dd st'.decl) (y : Stay st st') :
    CbAt K C S H' a b s h t c dd dx dxs vv st' sc := by
  have nn : ∀ z, z ≠ a → z ≠ dd → z ∉ [a, dd] := fun z h1 h2 hz => (List.mem_cons.mp hz).elim h1 (fun q => h2 (List.mem_singleton.mp q))
  refine ⟨ha, x.parts.monoW wr (nn _ x.sa x.n1) (nn _ x.ca x.n3) y.srt y.heads y.whr hd, ?_, ?_, x.n1, x.n2, x.n3, x.n4, x.n5, x.inv.stay y⟩
  · exact wr.1 _ _ (nn _ (Ne.symm x.ab) x.bd) x.scp
  · exact wr.1 _ _ (nn _ (Ne.symm x.av) (Ne.symm x.n5)) x.vars
theorem CbAt.same {H H' : Hp} {a b s h t c dd dx dxs vv : Addr} {st : Fc} {sc : Sc} (x : CbAt K C S H a b s h t c dd dx dxs vv st sc) (e : Same H H') : CbAt K C S H' a b s h t c dd dx dxs vv st sc :=
  ⟨e _ _ x.fc, x.parts.mono e, e _ _ x.scp, e _ _ x.vars, x.n1, x.n2, x.n3, x.n4, x.n5, x.inv⟩
/-- with another scope -/
theorem CbAt.sco {H : Hp} {a b b' s h t c dd dx dxs dxs' vv vv' : Addr} {st : Fc} {sc sc' : Sc} (x : CbAt K C S H a b s h t c dd dx dxs vv st sc) (h1 : H b' = some (.ins S dxs' (scF vv' sc'.depth sc'.looped))) (h2 : VarAt H vv' sc'.vars) (n1 : s ≠ vv') (n2 : c ≠ vv') (n3 : dd ≠ vv') (i : Inv0 st sc') :
    CbAt K C S H a b' s h t c dd dx dxs' vv' st sc' := ⟨x.fc, x.parts, h1, h2, x.n1, n1, x.n3, n2, n3, i⟩
theorem Wr.none {L : List Addr} {H H' : Hp} (x : Wr L H H') {d : Addr} (h : H' d = none) : H d = none := by
  by_cases q : d ∈ L
  · rcases x.2 d q with ⟨_, ⟨_, _, _, e⟩⟩ | ⟨_, ⟨_, e⟩⟩ <;> (rw [e] at h; cases h)
  · cases e : H d with
    | none => rfl
    | some o => rw [x.1 _ _ q e] at h; cases h
theorem for_rowW {K : PySem.W.Frag} {H : Hp} {σ : L2.St} {t : TE} {R : It → Hp → Prop} {a : Addr} {xs : List V} (e : H a = some (.lst xs) ∨ H a = some (.tup xs)) (ht : ∀ k : VK, k (.ref a) H → t σ H k)
    (go : ∀ (J : It) (G : Hp → Prop), (∀ H', H' a = H a → G H') → Walk J xs.length G (YAt xs) → R J H) : iList K t σ H R ∨ iTup K t σ H R := by
  rcases e with e | e
  · exact .inl (ht _ ⟨a, rfl, ⟨xs, .inl (.inl e)⟩, go _ _ (fun H' s => .inl (.inl (s.trans e))) walk_list⟩)
  · exact .inr (ht _ ⟨a, rfl, ⟨xs, .inl (.inl e)⟩, go _ _ (fun H' s => .inl (.inl (s.trans e))) walk_tup⟩)
theorem Wr.row {L : List Addr} {H H' : Hp} (x : Wr L H H') {a : Addr} {xs : List V} (e : H a = some (.lst xs) ∨ H a = some (.tup xs)) : H' a = H a := by
  rcases e with e | e
  · rw [e, x.lst e]
  · rw [e, x.tup e]
theorem eachB_ok {cb : Fc → Sc → PyData → Chk} {sc : Sc} {st st' : Fc} {b : PyData} {r : List PyData} (h : cb st sc b = .ok st') : eachB cb sc st (b :: r) = eachB cb sc st' r := by rw [eachB, h]
theorem eachB_err {cb : Fc → Sc → PyData → Chk} {sc : Sc} {st : Fc} {b : PyData} {r : List PyData} {x : Nat × Str} (h : cb st sc b = .error x) : eachB cb sc st (b :: r) = .error x := by rw [eachB, h]
theorem eachA_ok {cb : Fc → Sc → PyData → Chk} {sc : Sc} {st st' : Fc} {b : PyData} {r : List PyData} (h : cb st (armSc st sc (at0 b)) (at1 b) = .ok st') : eachA cb sc st (b :: r) = eachA cb sc st' r := by rw [eachA, h]
theorem eachA_err {cb : Fc → Sc → PyData → Chk} {sc : Sc} {st : Fc} {b : PyData} {r : List PyData} {x : Nat × Str} (h : cb st (armSc st sc (at0 b)) (at1 b) = .error x) : eachA cb sc st (b :: r) = .error x := by rw [eachA, h]
theorem same_none {H H' : Hp} (x : Same H H') {d : Addr} (h : H' d = none) : H d = none := by
  cases e : H d with
  | none => rfl
  | some o => rw [x _ _ e] at h; cases h
theorem vs_val (vs : Vars) (x : Str) : valV (vsV vs) (Sum.inr x) = (vs.lookup x).map V.str := by
  induction vs with
  | nil => rfl
  | cons p r ih =>
    rw [lk_cons]
    show valV ((Sum.inr p.1, V.str p.2) :: vsV r) (Sum.inr x) = _
    by_cases h : x = p.1
    · rw [if_pos h, valV_pos (by rw [h])]
      rfl
    · rw [if_neg h, valV_neg (fun q => h (Sum.inr.inj q).symm), ih]
def spCB (K : PySem.W.Frag) (C S CN : Addr) (n : Nat) : Sp := fun vs H Q E => ∃ (a b s h t c dd dx dxs vv : Addr) (v : V) (d : PyData) (st : Fc) (sc : Sc), vs = [.ref a, v, .ref b] ∧ CbAt K C S H a b s h t c dd dx dxs vv st sc ∧ Dx K H v d ∧ fit d = true ∧ sc.depth + n = 8 ∧ 1 ≤ n ∧
  CbRes C CN [a, dd, vv] H a s h t c dd dx (chkBody n st sc d) Q E
def spCI (K : PySem.W.Frag) (C S CN : Addr) (n : Nat) : Sp := fun vs H Q E => ∃ (a b s h t c dd dx dxs vv : Addr) (v : V) (d : PyData) (st : Fc) (sc : Sc), vs = [.ref a, v, .ref b] ∧ CbAt K C S H a b s h t c dd dx dxs vv st sc ∧ Dx K H v d ∧ fit d = true ∧ stOk d ∧ (wordOf d = "match" → ArmsIn st (items (at2 d))) ∧ sc.depth + 1 + n = 8 ∧ 1 ≤ n ∧
  CbRes C CN [a, dd] H a s h t c dd dx (chkIn (chkBody n) st sc d) Q E
def MCalX (P : Program) (w : World) (K : PySem.W.Frag) (mg : Str → Option Value) (base : Heap) (C : Addr) (k : Nat) (m : Str) (sp : Sp) : Prop := ∃ f fd ps, FnOk P w K mg base (L2.CX P w) k f fd ps sp ∧ Meth K C m f ∧ Binds K fd ps []
abbrev nsCI : List Str := ["self", "statement", "scope", "word", "body", "variable", "inner"]
theorem scCI : FnScope nsCI ["self", "statement", "scope"] (defScope mCheckInside) := fnScope_by (by decide +kernel)
theorem kCI {n : Nat} {f : Addr} {fd : FuncData} (F : Fun K "check_inside" "FunctionCheck.check_inside" mCheckInside f fd) (B : Bt mg) (k : FcC K C) (ks : ScC K S) (c1 : Cal P w K mg base 1 "bodies_of" (spBodies K) []) (mI : MCal P w K mg base S 3 "inner" (spInner S)) (mB : MCalX P w K mg base C (8 + 2 * n) "check_body" (spCB K C S CN n)) :
    FnOk P w K mg base (L2.CX P w) (8 + 2 * n + 1) f fd ["self", "statement", "scope"] (spCI K C S CN n) := by
  obtain ⟨fI, fdI, psI, FI, MI, BI⟩ := mI
  obtain ⟨fB, fdB, psB, FB, MB, BB⟩ := mB
  refine F.okX (k := 8 + 2 * n) scCI (fun vs H Q E h => ?_) (fun cdv A outer s H vs Q E hr h => ?_)
  · obtain ⟨a, b, s, h, t, c, dd, dx, dxs, vv, v, d, st, sc, rfl, _⟩ := h
    rfl
  obtain ⟨a, b, s, h, t, c, dd, dx, dxs, vv, v, e, st, sc, rfl, hA, hd, hf, hst, har, hdep, hn1, qok, qer⟩ := h
  have hu := hu_of hr
  have hr3 : Room 3 _ := hr.mono (by omega)
  refine ⟨_, pss_cons (ps_set (i := 3) scCI.nd rfl (.inl rfl) (pe_ix ix_tup (pv 1) pe_int (fun _ _ => rfl)))
    (pss_cons (ps_if (pt_cmpR op_ne (pv 3) pe_str (nomark _))
      (pss_cons (ps_for (passes_of rfl) rfl (pi_list (pe_c c1 hr (by omega) (by rfl) (pa_cons (pv 1) pa_nil))) (pg_name (i := 4) scCI.nd rfl (Or.inl rfl))
        (pss_one (ps_expr (pe_meth (pv 0) k.cl MB FB hr BB .nil (passes_call (takes_of rfl rfl rfl rfl) (fun _ _ _ _ h => h)) (pa_cons (pv 4) (pa_cons (pe_meth (pv 2) ks.cl MI FI hr3 BI .nil pass0 (pa_cons (pe_cmpR op_eq (pv 3) pe_str (nomark _)) pa_nil)) pa_nil))))))
      (pss_one ps_retN)) pss_nil)
    (pss_one (ps_for (passes_of rfl) rfl (pi_row (pe_ix ix_tup (pv 1) pe_int (fun _ _ => rfl))) (pg_tupk K rfl (n := 2) rfl (pgs_cons (pg_name (i := 5) scCI.nd rfl (Or.inl rfl)) (pgs_cons (pg_name (i := 4) scCI.nd rfl (Or.inl rfl)) pgs_nil)))
      (pss_cons (ps_set (i := 6) scCI.nd rfl (.inl rfl) (pe_meth (pv 2) ks.cl MI FI hr3 BI .nil pass0 (pa_cons pe_bl pa_nil)))
      (pss_cons (ps_if (pt_cmp (pc_notN (pv 5)) (by rfl)) (pss_one (ps_dput hu (pe_fld (pv 6) rfl) (pv 5) (pe_dget hu (pe_fld (pv 0) rfl) (pv 5) (fun _ _ => rfl)) rfl)) pss_nil)
      (pss_one (ps_expr (pe_meth (pv 0) k.cl MB FB hr BB .nil (passes_call (takes_of rfl rfl rfl rfl) (fun _ _ _ _ h => h)) (pa_cons (pv 4) (pa_cons (pv 6) pa_nil)))))))))), ?_⟩
  obtain ⟨y, r, rfl, hsz⟩ := stmt_form hst.1
  obtain ⟨av, zs, rfl, hsv, h0⟩ := st_word hd
  have ew : wordOf (.tuple (.str y :: r)) = y := rfl
  have m2 : ∀ z, z ∈ [a, dd] → z ∈ [a, dd] := fun _ h => h
  refine ⟨_, rfl, av, zs, 0, _, rfl, rfl, hsv, atI_nat (j := 0) h0, ?_⟩
  refine ⟨_, rfl, rfl, _, rfl, ?_⟩
  rw [dstr]
  by_cases w1 : y = "match"
  · rw [decide_eq_true w1]
    refine iteF ?_
    obtain ⟨hrow, hpp⟩ := hst.2 w1
    have har := har w1
    have hl : r.length = 2 := stmt_len hsz (by rw [w1]; rfl)
    match r, hl with
    | [d1, d2], _ =>
      have hrow : isRow d2 = true := hrow
      have hpp : ∀ e ∈ items d2, isTupN e 2 = true := hpp
      have har : ArmsIn st (items d2) := har
      have eC : chkIn (chkBody n) st sc (.tuple [.str y, d1, d2]) = eachA (chkBody n) sc st (items d2) := by
        unfold chkIn
        rw [if_pos (show wordOf (.tuple [.str y, d1, d2]) = "match" from w1)]
        rfl
      rw [eC] at qok qer
      obtain ⟨av', v0, v1, v2, e', hav, _, hv1, hv2⟩ := trip_at hd
      cases e'
      have f2 : fit d2 = true := fitAll_at (i := 2) (fit_items hf) rfl
      obtain ⟨ar, ws, rfl, hraw, hax⟩ := row_raw hv2 hrow
      have hs2 : SqL K H ar ws ∨ SqT K H ar ws := hraw.imp (fun h => .inl (.inl h)) (fun h => .inl (.inl h))
      have hlx := hax.len
      refine for_rowW (a := ar) (xs := ws) hraw (fun kk hk => ⟨_, rfl, av, _, 2, _, rfl, rfl, .inl (.inl hav), atI_nat (j := 2) rfl, hk⟩) fun J G gs wk => for_it wk
        (fun i σ H' => ∃ (y4 y5 y6 : Option V) (si : Fc), σ = [some (.ref a), some (.ref av), some (.ref b), some (.str y), y4, y5, y6] ∧ eachA (chkBody n) sc st (items d2) = eachA (chkBody n) sc si ((items d2).drop i) ∧ Stay st si ∧ Wr [a, dd] H H' ∧
          H' a = some (.ins C dx (fcF s h t c dd (okV si.result) si.passed)) ∧ VarAt H' dd si.decl)
        ⟨none, none, none, st, rfl, rfl, Stay.refl hA.inv, Wr.same (Same.refl H) hA.ok2, hA.fc, hA.parts.decl⟩ ?_ ?_ ?_
      · rintro i σ H' hi ⟨y4, y5, y6, si, rfl, g1, g2, g3, g5, g6⟩
        exact gs _ (g3.row hraw)
      · rintro i x σ H2 H3 hi ⟨y4, y5, y6, si, rfl, g1, g2, g3, g5, g6⟩ ⟨rfl, hx⟩
        obtain ⟨e0, he0, hde⟩ := hax.get hx
        have hme := List.mem_of_getElem? he0
        have X2 := hA.on2 g3 g5 g6 g2
        have hdrop : (items d2).drop i = e0 :: (items d2).drop (i + 1) := List.drop_eq_getElem_cons (List.getElem?_eq_some_iff.mp he0).1 |>.trans (by rw [(List.getElem?_eq_some_iff.mp he0).2])
        rw [hdrop] at g1
        have fe0 : fit e0 = true := fitAll_mem (fit_items f2) hme
        have hin := (har.stay g2) e0 hme
        obtain ⟨x0, b0, rfl⟩ := pair_of (hpp e0 hme)
        have hin : isNoneD x0 = false → isStr x0 = true ∧ (si.decl.lookup (strOf x0)).isSome = true := hin
        have fb0 : fit b0 = true := fitAll_at (i := 1) (fit_items fe0) rfl
        obtain ⟨ae, u0, u1, rfl, hae, hu0, hu1⟩ := pair_at (Dx.monoW g3 hde)
        refine ⟨ae, _, rfl, .inl (.inl hae), rfl, _, _, rfl, _, _, rfl, rfl, ?_⟩
        refine ⟨_, rfl, b, dxs, _, rfl, X2.scp, by rfl, b, false, sc, rfl, ⟨dxs, vv, X2.scp, X2.vars⟩, fun x' v' dx' H4 s4 nx nv hx' hv' => ?_⟩
        have s_ne : ∀ {z : Addr} {o : HO}, _ := fun {z} {o} (e : H3 z = some o) => ne_of_none e nv
        have ns : s ≠ v' := by
          obtain ⟨kk, e, _⟩ := X2.parts.srt
          exact s_ne e
        have nc := s_ne X2.parts.cases
        have nd : dd ≠ v' := s_ne (o := .dK (vsV si.decl)) X2.parts.decl
        have na : a ≠ v' := s_ne X2.fc
        have fresh : ∀ {H5 : Hp}, Wr [a, dd, v'] H4 H5 → Wr [a, dd] H3 H5 := fun {H5} wr => Wr.fresh s4 wr (fun z hz => by
          rcases List.mem_cons.mp hz with rfl | hz
          · exact .inl (List.mem_cons_self ..)
          rcases List.mem_cons.mp hz with rfl | hz
          · exact .inl (List.mem_cons_of_mem _ (List.mem_cons_self ..))
          rw [List.mem_singleton.mp hz]
          exact .inr nv) X2.ok2
        -- the inner body, from any heap in which the scope is the arm's
        have go : ∀ (H5 : Hp) (sa : Sc), sa = armSc si sc x0 → Wr [a, dd, v'] H4 H5 → CbAt K C S H5 a x' s h t c dd dx dx' v' si sa → CbRes C CN [a, dd, v'] H5 a s h t c dd dx (chkBody n si sa b0)
            (fun _ H6 => ∃ (y4 y5 y6 : Option V) (sj : Fc), ([some (V.ref a), some (V.ref av), some (V.ref b), some (V.str y), some u1, some u0, some (V.ref x')] : L2.St) = [some (.ref a), some (.ref av), some (.ref b), some (.str y), y4, y5, y6] ∧ eachA (chkBody n) sc st (items d2) = eachA (chkBody n) sc sj ((items d2).drop (i + 1)) ∧ Stay st sj ∧ Wr [a, dd] H H6 ∧
              H6 a = some (.ins C dx (fcF s h t c dd (okV sj.result) sj.passed)) ∧ VarAt H6 dd sj.decl) E := by
          intro H5 sa esa w45 X5
          subst esa
          refine ⟨fun st' e5 H6 wr6 ha6 hd6 => ?_, fun m z e5 dd2 H6 wr6 nd6 hd6 => ?_⟩
          · have st5 := chkBody_stay n _ _ _ _ X5.inv fb0 e5
            have w36 := fresh (w45.trans wr6)
            exact ⟨_, _, _, st', rfl, by rw [g1]; exact eachA_ok e5, g2.trans st5, g3.trans w36, ha6, hd6⟩
          · have w36 := fresh (w45.trans wr6)
            exact qer m z (by rw [g1]; exact eachA_err e5) dd2 H6 (g3.trans w36) (g3.none (same_none s4 (w45.none nd6))) hd6
        refine ⟨_, rfl, _, rfl, ?_⟩
        rw [dx_isNone hu0]
        have hu1' := Dx.mono s4 hu1
        cases hn : isNoneD x0 with
        | true =>
          have eA : innerSc sc false = armSc si sc x0 := by unfold armSc; rw [hn, if_pos rfl]
          have X4 := (X2.same s4).sco (sc' := innerSc sc false) hx' hv' ns nc nd (X2.inv.inner _)
          refine iteF ⟨_, rfl, a, dx, _, rfl, X4.fc, by rfl, _, rfl, _, rfl, ?_⟩
          exact ⟨a, x', s, h, t, c, dd, dx, dx', v', u1, b0, si, innerSc sc false, rfl, X4, hu1', fb0, by show sc.depth + 1 + n = 8; exact hdep, hn1, go H4 _ eA (Wr.same (Same.refl H4) X4.ok3) X4⟩
        | false =>
          obtain ⟨hs0, hlk⟩ := hin hn
          obtain ⟨kd, hkd⟩ := Option.isSome_iff_exists.mp hlk
          have eA : armSc si sc x0 = ⟨vPut sc.vars (strOf x0) kd, sc.depth + 1, sc.looped || false⟩ := by unfold armSc; rw [hn, if_neg Bool.false_ne_true, hkd]; rfl
          rw [isStr_of hs0] at hu0
          obtain rfl := hu0.strOf
          have X4 := (X2.same s4).sco (sc' := innerSc sc false) hx' hv' ns nc nd (X2.inv.inner _)
          have hdd : H4 dd = some (.dK (vsV si.decl)) := X4.parts.decl
          have gD := DGet.k (k := Sum.inr (strOf x0)) hdd
          rw [vs_val, hkd] at gD
          have hvv : H4 v' = some (.dK (vsV sc.vars)) := hv'
          have hlen : (vsV sc.vars).length < sizeLine := line2000 (by unfold vsV; rw [List.length_map]; have := X2.inv.len; have := X2.inv.pass; omega)
          refine iteT ⟨_, rfl, a, C, dx, _, _, rfl, X4.fc, k.cl, k.declared, by rfl, _, rfl, dd, _, rfl, gD, _, rfl, x', S, dx', _, _, rfl, hx', ks.cl, ks.variables, by rfl, _, rfl, v', _, rfl, DPut.k (k := Sum.inr (strOf x0)) hvv hlen, ?_⟩
          have nxv : x' ≠ v' := fun z => by rw [z, hvv] at hx'; cases hx'
          have w45 := Wr.putD (z' := putK (vsV sc.vars) (Sum.inr (strOf x0)) (V.str kd)) (L := [a, dd, v']) hvv (by simp) X4.ok3
          have wv := Wr.putD (z' := putK (vsV sc.vars) (Sum.inr (strOf x0)) (V.str kd)) (L := [v']) hvv (by simp) (fun z hz => by rw [List.mem_singleton.mp hz]; exact .inr ⟨_, hvv⟩)
          have nn : ∀ z, z ≠ v' → z ∉ [v'] := fun z h1 hz => h1 (List.mem_singleton.mp hz)
          have X5 : CbAt K C S (upd H4 v' (.dK (putK (vsV sc.vars) (Sum.inr (strOf x0)) (V.str kd)))) a x' s h t c dd dx dx' v' si (armSc si sc x0) := by
            rw [eA]
            refine ⟨wv.1 _ _ (nn _ na) X4.fc, X4.parts.monoW wv (nn _ ns) (nn _ nc) rfl rfl rfl (wv.1 _ _ (nn _ nd) hdd), wv.1 _ _ (nn _ nxv) hx', ?_, X4.n1, ns, X4.n3, nc, nd, ?_⟩
            · show upd H4 v' _ v' = _
              rw [upd_same, putK_vs]
            · rw [← eA]
              exact X2.inv.arm x0 (fun _ => hlk)
          have hu1'' := Dx.monoW w45 hu1'
          refine ⟨_, rfl, a, dx, _, rfl, X5.fc, by rfl, _, rfl, _, rfl, ?_⟩
          exact ⟨a, x', s, h, t, c, dd, dx, dx', v', u1, b0, si, armSc si sc x0, rfl, X5, hu1'', fb0, by rw [eA]; exact hdep, hn1, go _ _ rfl w45 X5⟩
      · rintro σ H' ⟨y4, y5, y6, si, rfl, g1, g2, g3, g5, g6⟩
        rw [hlx, List.drop_length] at g1
        exact qok si g1 H' g3 g5 g6
  · rw [decide_eq_false w1]
    have eC : chkIn (chkBody n) st sc (.tuple (.str y :: r)) = eachB (chkBody n) (innerSc sc (decide (y = "loop"))) st (bodiesD (.tuple (.str y :: r))) := by
      unfold chkIn
      rw [if_neg (show ¬ wordOf (.tuple (.str y :: r)) = "match" from w1)]
      rfl
    rw [eC] at qok qer
    have hbf := bodies_fit hst hf
    refine iteT ⟨_, rfl, _, _, rfl, hd, hf, hst.1, hst.2, fun p H1 ys s1 np hp hys => ⟨p, rfl, ⟨_, .inl (.inl hp)⟩, ?_⟩⟩
    have hly := hys.len
    generalize bodiesD (.tuple (.str y :: r)) = bs at *
    refine for_it (walk_list (K := K) (a := p) (xs := ys))
      (fun i σ H' => ∃ (y4 : Option V) (si : Fc), σ = [some (.ref a), some (.ref av), some (.ref b), some (.str y), y4, none, none] ∧ eachB (chkBody n) (innerSc sc (decide (y = "loop"))) st bs = eachB (chkBody n) (innerSc sc (decide (y = "loop"))) si (bs.drop i) ∧ Stay st si ∧ Wr [a, dd] H H' ∧ Wr [a, dd] H1 H' ∧
        H' a = some (.ins C dx (fcF s h t c dd (okV si.result) si.passed)) ∧ VarAt H' dd si.decl)
      ⟨none, st, rfl, rfl, Stay.refl hA.inv, Wr.same s1 hA.ok2, Wr.same (Same.refl H1) (hA.same s1).ok2, s1 _ _ hA.fc, s1 _ _ hA.parts.decl⟩ ?_ ?_ ?_
    · rintro i σ H' hi ⟨y4, si, rfl, g1, g2, g3, g4, g5, g6⟩
      exact .inl (.inl (g4.lst hp))
    · rintro i x σ H2 H3 hi ⟨y4, si, rfl, g1, g2, g3, g4, g5, g6⟩ ⟨rfl, hx⟩
      obtain ⟨b0, hb0, hdb⟩ := hys.get hx
      have hmb := List.mem_of_getElem? hb0
      have X2 := hA.on2 g3 g5 g6 g2
      have hdrop : bs.drop i = b0 :: bs.drop (i + 1) := List.drop_eq_getElem_cons (List.getElem?_eq_some_iff.mp hb0).1 |>.trans (by rw [(List.getElem?_eq_some_iff.mp hb0).2])
      rw [hdrop] at g1
      refine ⟨_, rfl, a, dx, _, rfl, X2.fc, by rfl, _, rfl, _, rfl, b, dxs, _, rfl, X2.scp, by rfl, _, rfl, rfl, b, _, sc, rfl, ⟨dxs, vv, X2.scp, X2.vars⟩, fun x' v' dx' H4 s4 nx nv hx' hv' => ?_⟩
      rw [dstr] at hx'
      have s_ne : ∀ {z : Addr} {o : HO}, _ := fun {z} {o} (e : H3 z = some o) => ne_of_none e nv
      have ns : s ≠ v' := by
        obtain ⟨kk, e, _⟩ := X2.parts.srt
        exact s_ne e
      have X4 := (X2.same s4).sco (sc' := innerSc sc (decide (y = "loop"))) hx' hv' ns (s_ne X2.parts.cases) (s_ne (o := .dK (vsV si.decl)) X2.parts.decl) (X2.inv.inner _)
      have fresh : ∀ {H5 : Hp}, Wr [a, dd, v'] H4 H5 → Wr [a, dd] H3 H5 := fun {H5} wr => Wr.fresh s4 wr (fun z hz => by
        rcases List.mem_cons.mp hz with rfl | hz
        · exact .inl (List.mem_cons_self ..)
        rcases List.mem_cons.mp hz with rfl | hz
        · exact .inl (List.mem_cons_of_mem _ (List.mem_cons_self ..))
        rw [List.mem_singleton.mp hz]
        exact .inr nv) X2.ok2
      refine ⟨a, x', s, h, t, c, dd, dx, dx', v', x, b0, si, innerSc sc (decide (y = "loop")), rfl, X4, Dx.mono s4 (Dx.monoW g3 hdb), hbf b0 hmb, by show sc.depth + 1 + n = 8; exact hdep, hn1, ?_, ?_⟩
      · intro st' e5 H5 wr5 ha5 hd5
        have st5 := chkBody_stay n _ _ _ _ X4.inv (hbf b0 hmb) e5
        have w35 := fresh wr5
        refine ⟨_, st', rfl, ?_, g2.trans st5, g3.trans w35, g4.trans w35, ha5, hd5⟩
        rw [g1]
        exact eachB_ok e5
      · intro m z e5 dd2 H5 wr5 nd hd5
        have w35 := fresh wr5
        refine qer m z ?_ dd2 H5 (g3.trans w35) (g3.none (same_none s4 nd)) hd5
        rw [g1]
        exact eachB_err e5
    · rintro σ H' ⟨y4, si, rfl, g1, g2, g3, g4, g5, g6⟩
      rw [hly, List.drop_length] at g1
      exact qok si g1 H' g3 g5 g6
end
end Lm

namespace Lm
open PySem PySem.Spec PyProof.Rows L2
open C8 (fnScope_by pe_gc pss_cut tCut Cal pe_c)
theorem enum_rowW {K : PySem.W.Frag} {H : Hp} {σ : L2.St} {ta : TA} {R : It → Hp → Prop} {a : Addr} {xs : List V} (e : H a = some (.lst xs) ∨ H a = some (.tup xs)) (ht : ∀ k : List V → Hp → Prop, k [.ref a] H → ta σ H k)
    (go : ∀ (J : It) (G : Hp → Prop), (∀ H', H' a = H a → G H') → Walk J xs.length G (YPair (fun i => some (.int (i : Nat))) (fun i => xs[i]?)) → R J H) : iEnum K ta σ H R ∨ iEnumT K ta σ H R := by
  rcases e with e | e
  · exact .inl (ht _ ⟨a, xs, rfl, .inl (.inl e), go _ _ (fun H' s => .inl (.inl (s.trans e))) walk_enum⟩)
  · exact .inr (ht _ ⟨a, xs, rfl, .inl (.inl e), go _ _ (fun H' s => .inl (.inl (s.trans e))) walk_enumT⟩)
theorem chkRow_no {cb : Fc → Sc → PyData → Chk} {st : Fc} {sc : Sc} {e : PyData} {r : List PyData} {y : Str} (h : reasonD st sc r.isEmpty e = some y) : chkRow cb st sc (e :: r) = .error (st.passed, y) := by rw [chkRow, h]
theorem chkRow_ok {cb : Fc → Sc → PyData → Chk} {st st' : Fc} {sc : Sc} {e : PyData} {r : List PyData} (h : reasonD st sc r.isEmpty e = none) (h2 : chkIn cb (passFc st e) (letSc sc e) e = .ok st') : chkRow cb st sc (e :: r) = chkRow cb st' (letSc sc e) r := by
  rw [chkRow, h]
  dsimp only
  rw [h2]
theorem chkRow_err {cb : Fc → Sc → PyData → Chk} {st : Fc} {sc : Sc} {e : PyData} {r : List PyData} {x : Nat × Str} (h : reasonD st sc r.isEmpty e = none) (h2 : chkIn cb (passFc st e) (letSc sc e) e = .error x) : chkRow cb st sc (e :: r) = .error x := by
  rw [chkRow, h]
  dsimp only
  rw [h2]
section
variable {P : Program} {w : World} {K : PySem.W.Frag} {mg : Str → Option Value} {base : Heap} {C S CN : Addr}
abbrev nsCB : List Str := ["self", "body", "scope", "at", "statement", "why"]
theorem scCB : FnScope nsCB ["self", "body", "scope"] (defScope mCheckBody) := fnScope_by (by decide +kernel)
theorem let_depth (sc : Sc) (e : PyData) : (letSc sc e).depth = sc.depth := by unfold letSc; split <;> rfl
theorem let_loop (sc : Sc) (e : PyData) : (letSc sc e).looped = sc.looped := by unfold letSc; split <;> rfl
theorem kCB {n : Nat} {f : Addr} {fd : FuncData} (F : Fun K "check_body" "FunctionCheck.check_body" mCheckBody f fd) (B : Bt mg) (N : Np P w K mg base CN) (k : FcC K C) (ks : ScC K S) (c1 : Cal P w K mg base 1 "is_row" (spB1 K isRow) []) (c2 : Cal P w K mg base 4 "declare" (spDecl K) [])
    (mR : MCal P w K mg base C 7 "reason" (spReason K C S)) (mI : MCalX P w K mg base C (8 + 2 * n + 1) "check_inside" (spCI K C S CN n)) :
    FnOk P w K mg base (L2.CX P w) (8 + 2 * (n + 1)) f fd ["self", "body", "scope"] (spCB K C S CN (n + 1)) := by
  obtain ⟨fR, fdR, psR, FR, MR, BR⟩ := mR
  obtain ⟨fI, fdI, psI, FI, MI, BI⟩ := mI
  refine F.okX (k := 8 + 2 * n + 1) scCB (fun vs H Q E h => ?_) (fun cdv A outer s H vs Q E hr h => ?_)
  · obtain ⟨a, b, s, h, t, c, dd, dx, dxs, vv, v, d, st, sc, rfl, _⟩ := h
    rfl
  obtain ⟨a, b, s, h, t, c, dd, dx, dxs, vv, v, d, st, sc, rfl, hA, hd, hf, hdep, _, qok, qer⟩ := h
  have hu := hu_of hr
  have hr7 : Room 7 _ := hr.mono (by omega)
  refine ⟨_, pss_cons (ps_if (pt_not (pt_val (pe_c c1 hr (by omega) (by rfl) (pa_cons (pv 1) pa_nil)))) (pss_one (ps_np N rfl (takes_of rfl rfl rfl rfl) hr (by omega) (pa_cons (pe_fld (pv 0) rfl) (pa_cons (pe_fld (pv 0) rfl) (pa_cons pe_str pa_nil))))) pss_nil)
    (pss_one (ps_for (passes_of rfl) rfl (pi_enumR (by rfl) B.enu (pa_cons (pv 1) pa_nil)) (pg_tupk K rfl (n := 2) rfl (pgs_cons (pg_name (i := 3) scCB.nd rfl (Or.inl rfl)) (pgs_cons (pg_name (i := 4) scCB.nd rfl (Or.inl rfl)) pgs_nil)))
      (pss_cons (ps_set (i := 5) scCB.nd rfl (.inl rfl) (pe_meth (pv 0) k.cl MR FR hr7 BR .nil pass0 (pa_cons (pv 4) (pa_cons (pv 2) (pa_cons (pe_cmpR op_eq (pv 3) (pe_op op_sub (pe_callB call_len_seq (by rfl) B.len boot_len (pa_cons (pv 1) pa_nil)) pe_int) (nomark _)) pa_nil)))))
      (pss_cons (ps_if (pt_cmp (pc_notN (pv 5)) (by rfl)) (pss_one (ps_np N rfl (takes_of rfl rfl rfl rfl) hr (by omega) (pa_cons (pe_fld (pv 0) rfl) (pa_cons (pe_fld (pv 0) rfl) (pa_cons (pv 5) pa_nil))))) pss_nil)
      (pss_cons (ps_fldaug (pv 0) pe_int in_add)
      (pss_cons (ps_expr (pe_c c2 hr (by omega) (by rfl) (pa_cons (pe_fld (pv 0) rfl) (pa_cons (pv 4) (pa_cons (pe_fld (pv 0) rfl) pa_nil)))))
      (pss_cons (ps_if (pt_cmpR op_eq (pe_ix ix_tup (pv 4) pe_int (fun _ _ => rfl)) pe_str (nomark _)) (pss_one (ps_dput hu (pe_fld (pv 2) rfl) (pe_ix ix_tup (pv 4) pe_int (fun _ _ => rfl)) (pe_ix ix_tup (pv 4) pe_int (fun _ _ => rfl)) rfl)) pss_nil)
      (pss_one (ps_expr (pe_meth (pv 0) k.cl MI FI hr BI .nil (passes_call (takes_of rfl rfl rfl rfl) (fun _ _ _ _ h => h)) (pa_cons (pv 4) (pa_cons (pv 2) pa_nil)))))))))))), ?_⟩
  have npx : ∀ (m : Nat) (y : Str), chkBody (n + 1) st sc d = .error (m, y) → ∀ H1, Wr [a, dd, vv] H H1 → ∀ (d2 : Addr) (H2 : Hp), Same H1 H2 → H1 d2 = none → H2 d2 = some (xdN (.ref t) (m : Nat) y) → E (.ref CN) (some d2) H2 := fun m y e H1 w1 d2 H2 s2 nd hh =>
    qer m y e d2 H2 (w1.trans (Wr.same s2 (hA.ok3.mono w1))) (w1.none nd) hh
  refine ⟨_, rfl, v, d, rfl, hd, hf, fun H1 s1 => ⟨_, rfl, ?_⟩⟩
  have A1 := hA.same s1
  have w01 : Wr [a, dd, vv] H H1 := Wr.same s1 hA.ok3
  cases hrow : isRow d with
  | false =>
    refine iteT ⟨_, rfl, a, C, dx, _, _, rfl, A1.fc, k.cl, k.whr, by rfl, _, rfl, a, C, dx, _, _, rfl, A1.fc, k.cl, k.passed, by rfl, .ref t, (st.passed : Nat), "row", rfl, fun d2 H2 s2 nd hh => ?_⟩
    exact npx st.passed "row" (by rw [chkBody, hrow]; rfl) H1 w01 d2 H2 s2 nd hh
  | true =>
    refine iteF ?_
    have eC : chkBody (n + 1) st sc d = chkRow (chkBody n) st sc (items d) := by rw [chkBody, hrow, if_pos rfl]
    rw [eC] at qok qer npx
    obtain ⟨ar, xs, rfl, hraw, hax⟩ := row_raw (Dx.mono s1 hd) hrow
    have hlx := hax.len
    have hl1 := fit_len hf
    refine enum_rowW hraw (fun kk hk => ⟨_, rfl, hk⟩) fun J G gs wk => for_it wk
      (fun i σ H' => ∃ (y3 y4 y5 : Option V) (si : Fc) (ci : Sc), σ = [some (.ref a), some (.ref ar), some (.ref b), y3, y4, y5] ∧ chkRow (chkBody n) st sc (items d) = chkRow (chkBody n) si ci ((items d).drop i) ∧ Stay st si ∧ ci.depth = sc.depth ∧ Wr [a, dd, vv] H H' ∧ Wr [a, dd, vv] H1 H' ∧
        CbAt K C S H' a b s h t c dd dx dxs vv si ci)
      ⟨none, none, none, st, sc, rfl, rfl, Stay.refl hA.inv, rfl, w01, Wr.same (Same.refl H1) A1.ok3, A1⟩ ?_ ?_ ?_
    · rintro i σ H' hi ⟨y3, y4, y5, si, ci, rfl, g1, g2, gd, g3, g4, g5⟩
      exact gs _ (g4.row hraw)
    · rintro i x σ H2 H3 hi ⟨y3, y4, y5, si, ci, rfl, g1, g2, gd, g3, g4, g5⟩ ⟨T, ti, te, rfl, nT, rfl, ht, hx⟩
      cases ht
      have sT := same_upd (o := .tup [V.int (i : Nat), te]) nT
      obtain ⟨e, he, hde⟩ := hax.get hx
      have hfe : fit e = true := fitAll_at (fit_items hf) he
      have hdrop : (items d).drop i = e :: (items d).drop (i + 1) := List.drop_eq_getElem_cons (List.getElem?_eq_some_iff.mp he).1 |>.trans (by rw [(List.getElem?_eq_some_iff.mp he).2])
      rw [hdrop] at g1
      have X3 := g5.same sT
      have hd3 := Dx.mono sT (Dx.monoW g4 hde)
      have hr3 : H2 ar = H1 ar := g4.row hraw
      have hraw3 : (upd H2 T (.tup [V.int (i : Nat), te])) ar = some (.lst xs) ∨ (upd H2 T (.tup [V.int (i : Nat), te])) ar = some (.tup xs) := hraw.imp (fun z => sT _ _ (hr3.trans z)) (fun z => sT _ _ (hr3.trans z))
      have hsq : SqL K (upd H2 T (.tup [V.int (i : Nat), te])) ar xs ∨ SqT K (upd H2 T (.tup [V.int (i : Nat), te])) ar xs := hraw3.imp (fun z => .inl (.inl z)) (fun z => .inl (.inl z))
      have elast : decide (V.int ((i : Nat) : Int) = V.int ((xs.length : Int) - 1)) = ((items d).drop (i + 1)).isEmpty := by
        have hil : i < (items d).length := (List.getElem?_eq_some_iff.mp he).1
        by_cases q : i + 1 = (items d).length
        · rw [decide_eq_true (congrArg V.int (by omega)), List.drop_eq_nil_of_le (by omega)]
          rfl
        · rw [decide_eq_false (fun z => by have := V.int.inj z; omega)]
          cases hz : (items d).drop (i + 1) with
          | nil =>
            have := List.drop_eq_nil_iff.mp hz
            omega
          | cons p q => rfl
      refine ⟨T, _, rfl, .inl (.inl upd_same), rfl, _, _, rfl, _, _, rfl, rfl, ?_⟩
      refine ⟨_, rfl, a, dx, _, rfl, X3.fc, by rfl, _, rfl, _, rfl, _, rfl, _, rfl, ar, xs, rfl, hsq, _, _, rfl, rfl, rfl, a, b, te, e, si, ci, _, rfl, ⟨dx, s, h, t, c, dd, X3.fc, X3.parts⟩, ⟨dxs, vv, X3.scp, X3.vars⟩, X3.inv.tu, X3.inv.vs, X3.inv.hd, hd3, hfe, fun H4 s4 => ?_⟩
      rw [elast]
      have X4 := X3.same s4
      have sT4 := sT.trans s4
      have w34 : Wr [a, dd, vv] H2 H4 := Wr.same sT4 g5.ok3
      have w04 := g3.trans w34
      have w14 := g4.trans w34
      have hd4 := Dx.mono s4 hd3
      refine ⟨_, rfl, _, rfl, ?_⟩
      cases hrs : reasonD si ci ((items d).drop (i + 1)).isEmpty e with
      | some y =>
        refine iteT ⟨_, rfl, a, C, dx, _, _, rfl, X4.fc, k.cl, k.whr, by rfl, _, rfl, a, C, dx, _, _, rfl, X4.fc, k.cl, k.passed, by rfl, _, rfl, .ref t, (si.passed : Nat), y, rfl, fun d2 H5 s5 nd hh => ?_⟩
        exact npx si.passed y (by rw [g1]; exact chkRow_no hrs) H4 w04 d2 H5 s5 nd hh
      | none =>
        refine iteF ?_
        have G := good_of X4.inv hfe hrs
        have ep : putF "passed" (.int (((si.passed : Nat) : Int) + 1)) (fcF s h t c dd (okV si.result) si.passed) = fcF s h t c dd (okV si.result) (si.passed + 1) := rfl
        refine ⟨_, rfl, a, C, dx, _, _, rfl, X4.fc, k.cl, k.passed, by rfl, _, _, rfl, rfl, _, _, X4.fc, by show 7 < 1000; decide, ?_⟩
        rw [ep]
        have w45 := Wr.putI (x' := C) (y' := dx) (z' := fcF s h t c dd (okV si.result) (si.passed + 1)) (L := [a]) X4.fc (by simp) (fun z hz => by rw [List.mem_singleton.mp hz]; exact .inl ⟨_, _, _, X4.fc⟩)
        have nn : ∀ z, z ≠ a → z ∉ [a] := fun z h1 hz => h1 (List.mem_singleton.mp hz)
        have hdd5 := w45.1 _ _ (nn _ (Ne.symm X4.ad)) X4.parts.decl
        have hvv5 := w45.1 _ _ (nn _ (Ne.symm X4.av)) X4.vars
        have hb5 := w45.1 _ _ (nn _ (Ne.symm X4.ab)) X4.scp
        have hs5 := X4.parts.srt.monoW w45 (nn _ X4.sa)
        have w35 : Wr [a, dd, vv] H4 _ := w45.weak (fun z hz => by rw [List.mem_singleton.mp hz]; simp) X4.ok3
        have hd5 := Dx.monoW w45 hd4
        refine ⟨_, rfl, a, C, dx, _, _, rfl, upd_same, k.cl, k.sorts, by rfl, _, rfl, _, rfl, a, C, dx, _, _, rfl, upd_same, k.cl, k.declared, by rfl, s, dd, te, e, si.srt, si.decl, rfl, X4.n1, hs5, X4.inv.ok, X4.inv.tu, hdd5, Nat.le_trans G.dlen (by decide), hd5, hfe, G.form.1, G.decl, fun H6 sx hd6 => ?_⟩
        have ok5 := X4.ok3.mono w35
        have w56 : Wr [a, dd, vv] _ H6 := Wr.ofX sx (by simp) ok5
        have nd6 : ∀ z, z ≠ dd → z ∉ [dd] := fun z h1 hz => h1 (List.mem_singleton.mp hz)
        have w56d : Wr [dd] _ H6 := Wr.ofX sx (by simp) (fun z hz => by rw [List.mem_singleton.mp hz]; exact .inr ⟨_, hdd5⟩)
        have ha6 : H6 a = some (.ins C dx (fcF s h t c dd (okV si.result) (si.passed + 1))) := sx.1 _ _ X4.ad upd_same
        have hb6 := sx.1 _ _ X4.bd hb5
        have hvv6 := sx.1 _ _ (Ne.symm X4.n5) hvv5
        have hp6 : FcParts K H6 s h t c dd (passFc si e) := (X4.parts.monoW (st' := si) w45 (nn _ X4.sa) (nn _ X4.ca) rfl rfl rfl hdd5).monoW w56d (nd6 _ X4.n1) (nd6 _ X4.n3) rfl rfl rfl hd6
        have hde6 := Dx.monoW w56 hd5
        have w06 : Wr [a, dd, vv] H4 H6 := w35.trans w56
        have hel : letSc ci e = letSc ci e := rfl
        obtain ⟨y, r, rfl, hsz⟩ := stmt_form G.form.1
        obtain ⟨av, zs, rfl, hsv, h0⟩ := st_word hde6
        -- the rest, from any heap in which the scope is as it must be
        have fin : ∀ H7, Wr [a, dd, vv] H4 H7 → CbAt K C S H7 a b s h t c dd dx dxs vv (passFc si (.tuple (.str y :: r))) (letSc ci (.tuple (.str y :: r))) → CbRes C CN [a, dd] H7 a s h t c dd dx (chkIn (chkBody n) (passFc si (.tuple (.str y :: r))) (letSc ci (.tuple (.str y :: r))) (.tuple (.str y :: r)))
            (fun _ H8 => ∃ (y3 y4 y5 : Option V) (sj : Fc) (cj : Sc), ([some (V.ref a), some (V.ref ar), some (V.ref b), some (V.int ((i : Nat) : Int)), some (V.ref av), some V.non] : L2.St) = [some (.ref a), some (.ref ar), some (.ref b), y3, y4, y5] ∧ chkRow (chkBody n) st sc (items d) = chkRow (chkBody n) sj cj ((items d).drop (i + 1)) ∧ Stay st sj ∧ cj.depth = sc.depth ∧ Wr [a, dd, vv] H H8 ∧ Wr [a, dd, vv] H1 H8 ∧
              CbAt K C S H8 a b s h t c dd dx dxs vv sj cj) E := by
          intro H7 w47 X7
          have up : ∀ {H8}, Wr [a, dd] H7 H8 → Wr [a, dd, vv] H7 H8 := fun {H8} w => w.weak (fun z hz => by
            rcases List.mem_cons.mp hz with rfl | hz
            · simp
            · rw [List.mem_singleton.mp hz]; simp) X7.ok3
          refine ⟨fun st' e8 H8 wr8 ha8 hd8 => ?_, fun m z e8 d2 H8 wr8 nd8 hd8 => ?_⟩
          · have st8 := chkIn_stay (chkBody_stay n) X7.inv hfe G.form G.armsIn e8
            exact ⟨_, _, _, st', letSc ci (.tuple (.str y :: r)), rfl, by rw [g1]; exact chkRow_ok hrs e8, g2.trans ((stay_pass G).trans st8), (let_depth _ _).trans gd, w04.trans (w47.trans (up wr8)), w14.trans (w47.trans (up wr8)), X7.on2 wr8 ha8 hd8 st8⟩
          · exact qer m z (by rw [g1]; exact chkRow_err hrs e8) d2 H8 (w04.trans (w47.trans (up wr8))) (w04.none (w47.none nd8)) hd8
        have hn1 : 1 ≤ n := by have := G.depth; omega
        have hdp : ∀ e, (letSc ci e).depth + 1 + n = 8 := fun e => by rw [let_depth, gd]; omega
        refine ⟨_, rfl, av, zs, 0, _, rfl, rfl, hsv, atI_nat (j := 0) h0, rfl, _, rfl, ?_⟩
        rw [dstr]
        by_cases w1 : y = "let"
        · rw [decide_eq_true w1]
          have hl : r.length = 2 := stmt_len hsz (by rw [w1]; rfl)
          obtain ⟨i1, i2⟩ := G.decl.1 w1
          match r, hl with
          | [d1, d2], _ =>
            have i1 : isStr d1 = true := i1
            have i2 : isStr d2 = true := i2
            obtain ⟨a2, v0, v1, v2, e2, hav, hv0, hv1, hv2⟩ := trip_at hde6
            cases e2
            rw [isStr_of i1] at hv1
            rw [isStr_of i2] at hv2
            obtain rfl := hv1.strOf
            obtain rfl := hv2.strOf
            have hlen : (vsV ci.vars).length < sizeLine := line2000 (by unfold vsV; rw [List.length_map]; have := X4.inv.len; have := X4.inv.pass; have := G.depth; omega)
            refine iteT ⟨_, rfl, av, _, 2, _, rfl, rfl, .inl (.inl hav), atI_nat (j := 2) rfl, _, rfl, b, S, dxs, _, _, rfl, hb6, ks.cl, ks.variables, by rfl, _, rfl, av, _, 1, _, rfl, rfl, .inl (.inl hav), atI_nat (j := 1) rfl, vv, _, rfl, DPut.k (k := Sum.inr (strOf d1)) hvv6 hlen, ?_⟩
            have w67 := Wr.putD (z' := putK (vsV ci.vars) (Sum.inr (strOf d1)) (V.str (strOf d2))) (L := [vv]) hvv6 (by simp) (fun z hz => by rw [List.mem_singleton.mp hz]; exact .inr ⟨_, hvv6⟩)
            have w67' := w67.weak (L' := [a, dd, vv]) (fun z hz => by rw [List.mem_singleton.mp hz]; simp) (ok5.mono w56)
            have nv : ∀ z, z ≠ vv → z ∉ [vv] := fun z h1 hz => h1 (List.mem_singleton.mp hz)
            have eS : letSc ci (.tuple [.str y, d1, d2]) = ⟨vPut ci.vars (strOf d1) (strOf d2), ci.depth, ci.looped⟩ := by
              unfold letSc
              rw [if_pos (show wordOf (.tuple [.str y, d1, d2]) = "let" from w1)]
              rfl
            have X7 : CbAt K C S (upd H6 vv (.dK (putK (vsV ci.vars) (Sum.inr (strOf d1)) (V.str (strOf d2))))) a b s h t c dd dx dxs vv (passFc si (.tuple [.str y, d1, d2])) (letSc ci (.tuple [.str y, d1, d2])) := by
              refine ⟨w67.1 _ _ (nv _ X4.av) ha6, hp6.monoW w67 (nv _ X4.n2) (nv _ X4.n4) rfl rfl rfl (w67.1 _ _ (nv _ X4.n5) hd6), ?_, ?_, X4.n1, X4.n2, X4.n3, X4.n4, X4.n5, G.inv⟩
              · rw [let_depth, let_loop]
                exact w67.1 _ _ (nv _ X4.bv) hb6
              · rw [eS]
                show upd H6 vv _ vv = _
                rw [upd_same, putK_vs]
            refine ⟨_, rfl, a, dx, _, rfl, X7.fc, by rfl, _, rfl, _, rfl, ?_⟩
            exact ⟨a, b, s, h, t, c, dd, dx, dxs, vv, _, _, _, _, rfl, X7, Dx.monoW w67 hde6, hfe, G.form, G.armsIn, hdp _, hn1, fin _ (w06.trans w67') X7⟩
        · rw [decide_eq_false w1]
          have eS : letSc ci (.tuple (.str y :: r)) = ci := by
            unfold letSc
            rw [if_neg (show ¬ wordOf (.tuple (.str y :: r)) = "let" from w1)]
          have X7 : CbAt K C S H6 a b s h t c dd dx dxs vv (passFc si (.tuple (.str y :: r))) (letSc ci (.tuple (.str y :: r))) := by
            refine ⟨ha6, hp6, ?_, ?_, X4.n1, X4.n2, X4.n3, X4.n4, X4.n5, G.inv⟩
            · rw [let_depth, let_loop]
              exact hb6
            · rw [eS]
              exact hvv6
          refine iteF ⟨_, rfl, a, dx, _, rfl, X7.fc, by rfl, _, rfl, _, rfl, ?_⟩
          exact ⟨a, b, s, h, t, c, dd, dx, dxs, vv, _, _, _, _, rfl, X7, hde6, hfe, G.form, G.armsIn, hdp _, hn1, fin _ w06 X7⟩
    · rintro σ H' ⟨y3, y4, y5, si, ci, rfl, g1, g2, gd, g3, g4, g5⟩
      rw [hlx, List.drop_length] at g1
      exact qok si g1 H' g3 g5.fc g5.parts.decl
end
end Lm

namespace Lm
open PySem PySem.Spec PyProof.Rows L2
open C8 (fnScope_by pe_gc pss_cut tCut Cal pe_c)
section
variable {P : Program} {w : World} {K : PySem.W.Frag} {mg : Str → Option Value} {base : Heap} {C S CN : Addr}
theorem kCBn {fB fI : Addr} {fdB fdI : FuncData} (FB : Fun K "check_body" "FunctionCheck.check_body" mCheckBody fB fdB) (FI : Fun K "check_inside" "FunctionCheck.check_inside" mCheckInside fI fdI) (B : Bt mg) (N : Np P w K mg base CN) (k : FcC K C) (ks : ScC K S)
    (MB : Meth K C "check_body" fB) (BB : Binds K fdB ["self", "body", "scope"] []) (MI : Meth K C "check_inside" fI) (BI : Binds K fdI ["self", "statement", "scope"] [])
    (c1 : Cal P w K mg base 1 "is_row" (spB1 K isRow) []) (c2 : Cal P w K mg base 4 "declare" (spDecl K) []) (c3 : Cal P w K mg base 1 "bodies_of" (spBodies K) []) (mR : MCal P w K mg base C 7 "reason" (spReason K C S)) (mI : MCal P w K mg base S 3 "inner" (spInner S)) :
    ∀ n : Nat, FnOk P w K mg base (L2.CX P w) (8 + 2 * n) fB fdB ["self", "body", "scope"] (spCB K C S CN n)
  | 0 => FB.okX (k := 7) scCB (fun vs H Q E h => by obtain ⟨a, b, s, h, t, c, dd, dx, dxs, vv, v, d, st, sc, rfl, _⟩ := h; rfl) (fun _ _ _ _ _ _ _ _ _ h => by
    obtain ⟨a, b, s, h, t, c, dd, dx, dxs, vv, v, d, st, sc, _, _, _, _, _, z, _⟩ := h
    exact absurd z (by decide))
  | n + 1 => kCB FB B N k ks c1 c2 mR ⟨fI, fdI, _, kCI FI B k ks c3 mI ⟨fB, fdB, _, kCBn FB FI B N k ks MB BB MI BI c1 c2 c3 mR mI n, MB, BB⟩, MI, BI⟩
def sc0 (st : Fc) : Sc := ⟨st.decl, 1, false⟩
/-- a new checker at a -/
structure FcNew (K : PySem.W.Frag) (C : Addr) (H : Hp) (a s h t c dd dx : Addr) (st : Fc) : Prop where
  fc : H a = some (.ins C dx (fcF s h t c dd (okV st.result) st.passed))
  parts : FcParts K H s h t c dd st
  n1 : s ≠ dd
  n3 : c ≠ dd
  inv : Inv0 st (sc0 st)
def spCA (K : PySem.W.Frag) (C CN : Addr) : Sp := fun vs H Q E => ∃ (a s h t c dd dx : Addr) (v : V) (d : PyData) (st : Fc), vs = [.ref a, v] ∧ FcNew K C H a s h t c dd dx st ∧ Dx K H v d ∧ fit d = true ∧
  CbRes C CN [a, dd] H a s h t c dd dx (chkBody 7 st (sc0 st) d) Q E
theorem scCA : FnScope ["self", "body"] ["self", "body"] (defScope mCheckAll) := fnScope_by (by decide +kernel)
theorem kCA {f fi : Addr} {fd fdi : FuncData} (F : Fun K "check_all" "FunctionCheck.check_all" mCheckAll f fd) (B : Bt mg) (k : FcC K C) (ks : ScC K S) (M : Mk K S fi) (gS : mg "Scope" = some (.ref S)) (Fi : FnOk P w K mg base CX0 1 fi fdi ["self", "variables", "depth", "looped"] (spScI S))
    (bi : Binds K fdi ["self", "variables", "depth", "looped"] []) (mB : MCalX P w K mg base C 22 "check_body" (spCB K C S CN 7)) : FnOk P w K mg base (L2.CX P w) 23 f fd ["self", "body"] (spCA K C CN) := by
  obtain ⟨fB, fdB, psB, FB, MB, BB⟩ := mB
  refine F.okX (k := 22) scCA (fun vs H Q E h => ?_) (fun cdv A outer s H vs Q E hr h => ?_)
  · obtain ⟨a, s, h, t, c, dd, dx, v, d, st, rfl, _⟩ := h
    rfl
  obtain ⟨a, s, h, t, c, dd, dx, v, d, st, rfl, hA, hd, hf, qok, qer⟩ := h
  have hr2 : Room 2 _ := hr.mono (by decide)
  refine ⟨_, pss_one (ps_expr (pe_meth (pv 0) k.cl MB FB hr BB .nil (passes_call (takes_of rfl rfl rfl rfl) (fun _ _ _ _ h => h)) (pa_cons (pv 1) (pa_cons (pe_make M Fi hr2 (by rfl) gS bi .nil pass0 (pa_cons (pe_callTy call_dictD (by rfl) B.dct boot_dict (pa_cons (pe_fld (pv 0) rfl) pa_nil)) (pa_cons pe_int (pa_cons pe_bl pa_nil)))) pa_nil)))), ?_⟩
  refine ⟨_, rfl, a, dx, _, rfl, hA.fc, by rfl, _, rfl, _, rfl, a, C, dx, _, _, rfl, hA.fc, k.cl, k.declared, by rfl, dd, _, rfl, .inl hA.parts.decl, fun p np => ?_⟩
  have sp := same_upd (o := .dK (vsV st.decl)) np
  refine fun x dx' nx ndx hne => ⟨x, dx', p, 1, false, rfl, upd_same, rfl, ?_⟩
  have s2 := same_upd (o := .own x) ndx
  have nx2 : (upd (upd H p (.dK (vsV st.decl))) dx' (.own x)) x = none := by rw [upd_ne (Ne.symm hne)]; exact nx
  have s3 := same_upd (o := .ins S dx' (scF p 1 false)) nx2
  have sA := sp.trans (s2.trans s3)
  rw [upd_upd]
  have pn : ∀ {z : Addr} {o : HO}, H z = some o → z ≠ p := fun e => ne_of_none e np
  obtain ⟨kk, es, _⟩ := id hA.parts.srt
  have X : CbAt K C S (upd (upd (upd H p (.dK (vsV st.decl))) dx' (.own x)) x (.ins S dx' (scF p 1 false))) a x s h t c dd dx dx' p st (sc0 st) :=
    ⟨sA _ _ hA.fc, hA.parts.mono sA, upd_same, s3 _ _ (s2 _ _ upd_same), hA.n1, pn es, hA.n3, pn hA.parts.cases, pn (o := .dK (vsV st.decl)) hA.parts.decl, hA.inv⟩
  have ok2 : Ok [a, dd] H := fun z hz => by
    rcases List.mem_cons.mp hz with rfl | hz
    · exact .inl ⟨_, _, _, hA.fc⟩
    rw [List.mem_singleton.mp hz]
    exact .inr ⟨_, hA.parts.decl⟩
  have fresh : ∀ {H5 : Hp}, Wr [a, dd, p] _ H5 → Wr [a, dd] H H5 := fun {H5} wr => Wr.fresh sA wr (fun z hz => by
    rcases List.mem_cons.mp hz with rfl | hz
    · exact .inl (List.mem_cons_self ..)
    rcases List.mem_cons.mp hz with rfl | hz
    · exact .inl (List.mem_cons_of_mem _ (List.mem_cons_self ..))
    rw [List.mem_singleton.mp hz]
    exact .inr np) ok2
  refine ⟨a, x, s, h, t, c, dd, dx, dx', p, v, d, st, sc0 st, rfl, X, Dx.mono sA hd, hf, rfl, by decide, fun st' e5 H5 w5 ha5 hd5 => qok st' e5 H5 (fresh w5) ha5 hd5, fun m y e5 d2 H5 w5 nd hh => qer m y e5 d2 H5 (fresh w5) (same_none sA nd) hh⟩
end
end Lm

namespace Lm
open PySem PySem.Spec PyProof.Rows L2
open C8 (fnScope_by pe_gc pss_cut tCut Cal pe_c)
/-! ### what a checked body is -/
theorem eachB_all {cb : Fc → Sc → PyData → Chk} (C : Cbs cb) {sc : Sc} {R : PyData → Prop} (h : ∀ st b st', Inv0 st sc → fit b = true → cb st sc b = .ok st' → R b) : ∀ (bs : List PyData) (st st' : Fc), Inv0 st sc → (∀ b ∈ bs, fit b = true) → eachB cb sc st bs = .ok st' → ∀ b ∈ bs, R b
  | [], _, _, _, _, _, b, hb => by cases hb
  | x :: r, st, st', I, hf, e, b, hb => by
    unfold eachB at e
    cases hc : cb st sc x with
    | error z => rw [hc] at e; cases e
    | ok s1 =>
      rw [hc] at e
      have fx := hf x (List.mem_cons_self ..)
      rcases List.mem_cons.mp hb with rfl | hb
      · exact h st b s1 I fx hc
      · exact eachB_all C h r s1 st' (I.stay (C _ _ _ _ I fx hc)) (fun b' hb' => hf b' (List.mem_cons_of_mem _ hb')) e b hb
theorem eachA_all {cb : Fc → Sc → PyData → Chk} (C : Cbs cb) {sc : Sc} {R : PyData → Prop} (h : ∀ st sc' b st', sc'.depth = sc.depth + 1 → Inv0 st sc' → fit b = true → cb st sc' b = .ok st' → R b) : ∀ (es : List PyData) (st st' : Fc), Inv0 st sc → (∀ e ∈ es, fit (at1 e) = true) → ArmsIn st es → eachA cb sc st es = .ok st' → ∀ e ∈ es, R (at1 e)
  | [], _, _, _, _, _, _, b, hb => by cases hb
  | x :: r, st, st', I, hf, ha, e, b, hb => by
    unfold eachA at e
    cases hc : cb st (armSc st sc (at0 x)) (at1 x) with
    | error z => rw [hc] at e; cases e
    | ok s1 =>
      rw [hc] at e
      have fx := hf x (List.mem_cons_self ..)
      have Ia := I.arm (at0 x) (fun hn => (ha x (List.mem_cons_self ..) hn).2)
      have hd : (armSc st sc (at0 x)).depth = sc.depth + 1 := by unfold armSc; split <;> rfl
      have y := C _ _ _ _ Ia fx hc
      rcases List.mem_cons.mp hb with rfl | hb
      · exact h st _ (at1 b) s1 hd Ia fx hc
      · exact eachA_all C h r s1 st' (I.stay y) (fun b' hb' => hf b' (List.mem_cons_of_mem _ hb')) (fun z hz => (ha.stay y) z (List.mem_cons_of_mem _ hz)) e b hb
theorem chkRow_all {n : Nat} (h : ∀ st sc b st', sc.depth + n = 8 → 1 ≤ n → Inv0 st sc → fit b = true → chkBody n st sc b = .ok st' → bodyOk n b) : ∀ (es : List PyData) (st st' : Fc) (sc : Sc), sc.depth + (n + 1) = 8 → Inv0 st sc → (∀ e ∈ es, fit e = true) → chkRow (chkBody n) st sc es = .ok st' → ∀ e ∈ es, stOk e ∧ ∀ b ∈ bodiesD e, bodyOk n b
  | [], _, _, _, _, _, _, _, e, he => by cases he
  | x :: r, st, st', sc, hd, I, hf, e, y, hy => by
    unfold chkRow at e
    cases hr : reasonD st sc r.isEmpty x with
    | some z => rw [hr] at e; cases e
    | none =>
      rw [hr] at e
      dsimp only at e
      have fx := hf x (List.mem_cons_self ..)
      have G := good_of I fx hr
      have hn1 : 1 ≤ n := by have := G.depth; omega
      cases hc : chkIn (chkBody n) (passFc st x) (letSc sc x) x with
      | error z => rw [hc] at e; cases e
      | ok s1 =>
        rw [hc] at e
        rcases List.mem_cons.mp hy with rfl | hy
        · refine ⟨G.form, ?_⟩
          unfold chkIn at hc
          split at hc
          · rename_i wm
            have all := eachA_all (chkBody_stay n) (R := bodyOk n) (fun st1 sc1 b1 st2 hd1 I1 f1 e1 => h st1 sc1 b1 st2 (by rw [hd1, let_depth]; omega) hn1 I1 f1 e1) _ _ _ G.inv (fun z hz => fit_at1 (fitAll_mem (fit_items (fit_at2 fx)) hz)) (G.armsIn wm) hc
            intro b hb
            unfold bodiesD at hb
            rw [if_pos wm] at hb
            obtain ⟨z, hz, rfl⟩ := List.mem_map.mp hb
            exact all z hz
          · exact eachB_all (chkBody_stay n) (R := bodyOk n) (fun st1 b1 st2 I1 f1 e1 => h st1 _ b1 st2 (by show (letSc sc y).depth + 1 + n = 8; rw [let_depth]; omega) hn1 I1 f1 e1) _ _ _ (G.inv.inner _) (bodies_fit G.form fx) hc
        · have x2 := chkIn_stay (chkBody_stay n) G.inv fx G.form G.armsIn hc
          exact chkRow_all h r s1 st' _ (by rw [let_depth]; exact hd) (G.inv.stay x2) (fun b' hb' => hf b' (List.mem_cons_of_mem _ hb')) e y hy
theorem chkBody_form : ∀ (n : Nat) (st : Fc) (sc : Sc) (d : PyData) (st' : Fc), sc.depth + n = 8 → 1 ≤ n → Inv0 st sc → fit d = true → chkBody n st sc d = .ok st' → bodyOk n d
  | 0, _, _, _, _, _, h, _, _, _ => absurd h (by decide)
  | n + 1, st, sc, d, st', hd, _, I, hf, e => by
    unfold chkBody at e
    split at e
    · rename_i hr
      exact ⟨hr, chkRow_all (chkBody_form n) _ _ _ _ hd I (fun e he => fitAll_mem (fit_items hf) he) e⟩
    · cases e
/-! ### the kinds -/
theorem kinds_nodup : ∀ (any : List Str) (ds : List PyData) (sz : List (Str × Nat)) (ns : List Str), kindsGo any sz ns ds = true → (ds.map fun e => strOf (at0 e)).Nodup ∧ ∀ x ∈ ds.map (fun e => strOf (at0 e)), x ∉ ns
  | any, [], _, _, _ => ⟨List.nodup_nil, fun x hx => by cases hx⟩
  | any, e :: r, sz, ns, h => by
    unfold kindsGo at h
    simp only [Bool.and_eq_true, Bool.not_eq_true'] at h
    obtain ⟨_, h2, _, h4⟩ := h
    obtain ⟨i1, i2⟩ := kinds_nodup any r _ _ h4
    have hn : strOf (at0 e) ∉ ns := fun q => by rw [List.contains_iff_mem.mpr q] at h2; cases h2
    rw [List.map_cons]
    refine ⟨List.nodup_cons.mpr ⟨fun q => i2 _ q (List.mem_append.mpr (.inr (List.mem_singleton.mpr rfl))), i1⟩, fun x hx => ?_⟩
    rcases List.mem_cons.mp hx with rfl | hx
    · exact hn
    · exact fun q => i2 x hx (List.mem_append.mpr (.inl q))
theorem kinds_each : ∀ (any : List Str) (ds : List PyData) (sz : List (Str × Nat)) (ns : List Str), kindsGo any sz ns ds = true → ∀ e ∈ ds, isHeaded e = true ∧ ∃ sz', partsFit e sz' any = true
  | any, [], _, _, _, e, he => by cases he
  | any, x :: r, sz, ns, h, e, he => by
    unfold kindsGo at h
    simp only [Bool.and_eq_true, Bool.not_eq_true'] at h
    obtain ⟨h1, _, h3, h4⟩ := h
    rcases List.mem_cons.mp he with rfl | he
    · exact ⟨h1, _, h3⟩
    · exact kinds_each any r _ _ h4 e he
theorem kinds_row {e : PyData} (h : isHeaded e = true) : kindRow e := by
  obtain ⟨x, z, d, rfl, _⟩ := trip_of h
  exact ⟨x, z, d, rfl⟩
theorem srt_ok {ds : List PyData} (hf : fitAll ds = true) (h : ∀ e ∈ ds, isHeaded e = true ∧ ∃ sz any, partsFit e sz any = true) : SrtOk (srtOf ds) := by
  intro s hs
  unfold srtOf at hs
  obtain ⟨e, he, rfl⟩ := List.mem_map.mp hs
  obtain ⟨hh, sz, any, hp⟩ := h e he
  obtain ⟨x, z, d, rfl, hx, hz⟩ := trip_of hh
  have fe := fitAll_mem hf he
  have fd : fit d = true := fitAll_at (i := 2) (fit_items fe) rfl
  have hp' : (isNamedRow d 2 1 4 && (if z = "choice" then (items d).all (anyOk any) else (items d).all (fun p => isOneOf (at1 p) (sz.map (·.1))) && decide (psum sz (items d) ≤ 8))) = true := hp
  rw [Bool.and_eq_true] at hp'
  obtain ⟨p1, p2⟩ := hp'
  obtain ⟨hrow, hps, _⟩ := named_row p1
  refine ⟨hrow, fd, fun q hq => ?_⟩
  obtain ⟨t1, t2⟩ := hps q hq
  obtain ⟨d0, d1, rfl⟩ := pair_of t1
  have t2 : isName d0 = true := t2
  refine ⟨strOf d0, d1, by rw [← isName_str t2], ?_, fun nz => ?_⟩
  · by_cases hc : z = "choice"
    · rw [if_pos hc] at p2
      have := List.all_eq_true.mp p2 _ hq
      have this : (isNoneD d1 || isOneOf d1 any) = true := this
      rcases Bool.or_eq_true _ _ ▸ this with q1 | q1
      · left
        cases d1 with
        | none => rfl
        | _ => cases q1
      · right
        unfold isOneOf at q1
        rw [Bool.and_eq_true] at q1
        exact q1.1
    · rw [if_neg hc, Bool.and_eq_true] at p2
      have := List.all_eq_true.mp p2.1 _ hq
      have this : isOneOf d1 (sz.map (·.1)) = true := this
      right
      unfold isOneOf at this
      rw [Bool.and_eq_true] at this
      exact this.1
  · have nz : z ≠ "choice" := nz
    rw [if_neg nz, Bool.and_eq_true] at p2
    have := List.all_eq_true.mp p2.1 _ hq
    have this : isOneOf d1 (sz.map (·.1)) = true := this
    unfold isOneOf at this
    rw [Bool.and_eq_true] at this
    exact this.1
end Lm

namespace Lm
open PySem PySem.Spec PyProof.Rows L2
open C8 (fnScope_by pe_gc pss_cut tCut Cal pe_c)
/-! ### the heads of the functions -/
def resOf (d : PyData) : Option Str := if isNoneD d = true then none else some (strOf d)
def hPut (hs : Heads) (m f : Str) (p : PyData) (r : Option Str) : Heads := if (hs.any fun s => decide (s.1 = (m, f))) = true then hs.map (fun s => if s.1 = (m, f) then (s.1, p, r) else s) else hs ++ [((m, f), p, r)]
def headIn (m : Str) (hs : Heads) (e : PyData) : Heads := hPut hs m (strOf (at0 e)) (at1 e) (resOf (at2 e))
def headsIn (hs : Heads) (m : PyData) : Heads := (items (at1 m)).foldl (headIn (strOf (at0 m))) hs
def headsOf (ms : List PyData) : Heads := ms.foldl headsIn []
theorem hg_cons (s : (Str × Str) × PyData × Option Str) (r : Heads) (m f : Str) : headGet (s :: r) m f = if s.1 = (m, f) then some s.2 else headGet r m f := by
  obtain ⟨⟨a, b⟩, c⟩ := s
  show (if a = m ∧ b = f then some c else headGet r m f) = _
  by_cases h : a = m ∧ b = f
  · rw [if_pos h, if_pos (by rw [h.1, h.2])]
  · rw [if_neg h, if_neg (fun q => h ⟨congrArg Prod.fst q, congrArg Prod.snd q⟩)]
theorem hg_map (m f : Str) (p : PyData) (r : Option Str) : ∀ (hs : Heads) (m' f' : Str), headGet (hs.map fun s => if s.1 = (m, f) then (s.1, p, r) else s) m' f' = if (m', f') = (m, f) then (headGet hs m' f').map (fun _ => (p, r)) else headGet hs m' f'
  | [], m', f' => by
    by_cases h : (m', f') = (m, f)
    · rw [if_pos h]; rfl
    · rw [if_neg h]; rfl
  | s :: l, m', f' => by
    rw [List.map_cons, hg_cons, hg_cons, hg_map m f p r l m' f']
    by_cases h1 : s.1 = (m, f)
    · rw [if_pos h1]
      by_cases h2 : s.1 = (m', f')
      · rw [if_pos h2, if_pos h2, if_pos (h2.symm.trans h1)]
        rfl
      · rw [if_neg h2, if_neg h2]
    · rw [if_neg h1]
      by_cases h2 : s.1 = (m', f')
      · rw [if_pos h2, if_pos h2, if_neg (fun q => h1 (h2.trans q))]
      · rw [if_neg h2, if_neg h2]
theorem hg_some {hs : Heads} {m f : Str} (h : (hs.any fun s => decide (s.1 = (m, f))) = true) : ∃ x, headGet hs m f = some x := by
  induction hs with
  | nil => cases h
  | cons s l ih =>
    rw [hg_cons]
    by_cases q : s.1 = (m, f)
    · exact ⟨_, if_pos q⟩
    · rw [if_neg q]
      refine ih ?_
      rw [List.any_cons, Bool.or_eq_true] at h
      exact h.resolve_left (fun z => q (of_decide_eq_true z))
theorem hg_none {hs : Heads} {m f : Str} (h : (hs.any fun s => decide (s.1 = (m, f))) = false) : headGet hs m f = none := by
  induction hs with
  | nil => rfl
  | cons s l ih =>
    rw [List.any_cons, Bool.or_eq_false_iff] at h
    rw [hg_cons, if_neg (of_decide_eq_false h.1)]
    exact ih h.2
theorem hg_append {hs : Heads} {m f : Str} {x : PyData × Option Str} (m' f' : Str) : headGet (hs ++ [((m, f), x)]) m' f' = (headGet hs m' f').or (if (m', f') = (m, f) then some x else none) := by
  induction hs with
  | nil =>
    rw [List.nil_append, hg_cons]
    by_cases q : (m', f') = (m, f)
    · rw [if_pos q.symm, if_pos q]; rfl
    · rw [if_neg (fun z => q z.symm), if_neg q]; rfl
  | cons s l ih =>
    rw [List.cons_append, hg_cons, hg_cons, ih]
    by_cases q : s.1 = (m', f')
    · rw [if_pos q, if_pos q]; rfl
    · rw [if_neg q, if_neg q]
theorem hg_put (hs : Heads) (m f : Str) (p : PyData) (r : Option Str) (m' f' : Str) : headGet (hPut hs m f p r) m' f' = if (m', f') = (m, f) then some (p, r) else headGet hs m' f' := by
  unfold hPut
  cases h : (hs.any fun s => decide (s.1 = (m, f))) with
  | true =>
    rw [if_pos rfl, hg_map]
    by_cases q : (m', f') = (m, f)
    · rw [if_pos q, if_pos q]
      obtain ⟨z, e⟩ := hg_some h
      obtain ⟨rfl, rfl⟩ := Prod.mk.inj q
      rw [e]
      rfl
    · rw [if_neg q, if_neg q]
  | false =>
    rw [if_neg Bool.false_ne_true, hg_append]
    by_cases q : (m', f') = (m, f)
    · rw [if_pos q, if_pos q]
      obtain ⟨rfl, rfl⟩ := Prod.mk.inj q
      rw [hg_none h]
      rfl
    · rw [if_neg q, if_neg q]
      cases headGet hs m' f' <;> rfl
theorem hPut_len (hs : Heads) (m f : Str) (p : PyData) (r : Option Str) : (hPut hs m f p r).length ≤ hs.length + 1 := by
  unfold hPut
  split
  · rw [List.length_map]; omega
  · rw [List.length_append]; exact Nat.le_refl _
/-- a head whose parameters are right -/
def headP (p : PyData) : Prop := isRow p = true ∧ fit p = true ∧ ∀ e ∈ items p, ∃ n k, e = PyData.tuple [.str n, .str k]
theorem headsOk_put {hs : Heads} {m f : Str} {p : PyData} {r : Option Str} (h : HeadsOk hs) (hp : headP p) : HeadsOk (hPut hs m f p r) := by
  unfold hPut
  split
  · intro s hs'
    obtain ⟨q, hq, rfl⟩ := List.mem_map.mp hs'
    split
    · exact hp
    · exact h q hq
  · intro s hs'
    rcases List.mem_append.mp hs' with hs' | hs'
    · exact h s hs'
    · rw [List.mem_singleton.mp hs']
      exact hp
theorem headP_of {srt : Srt} {p r : PyData} (f : fit p = true) (h : headFits srt p r = true) : headP p := by
  unfold headFits at h
  rw [Bool.and_eq_true, Bool.and_eq_true] at h
  obtain ⟨h1, h2, _⟩ := h
  obtain ⟨hrow, hps, _⟩ := named_row h1
  refine ⟨hrow, f, fun e he => ?_⟩
  obtain ⟨t1, t2⟩ := hps e he
  obtain ⟨d0, d1, rfl⟩ := pair_of t1
  have t2 : isName d0 = true := t2
  have k := List.all_eq_true.mp h2 _ he
  have k : isKindD srt d1 = true := k
  unfold isKindD at k
  rw [Bool.and_eq_true] at k
  exact ⟨strOf d0, strOf d1, by rw [← isName_str t2, ← isStr_of k.1]⟩
/-- a row of functions: the heads are right -/
def fnOk (srt : Srt) (e : PyData) : Prop := ∃ x p r b, e = .tuple [.str x, p, r, b] ∧ isNameS x = true ∧ headFits srt p r = true
def mdOk (srt : Srt) (m : PyData) : Prop := ∃ x d, m = .tuple [.str x, d] ∧ isRow d = true ∧ (items d).length ≤ 8 ∧ ∀ e ∈ items d, fnOk srt e
theorem mdOk_of {srt : Srt} {m : PyData} (h : isModule srt m = true) : mdOk srt m := by
  unfold isModule at h
  rw [Bool.and_eq_true, Bool.and_eq_true, Bool.and_eq_true] at h
  obtain ⟨h1, h2, h3, h4⟩ := h
  obtain ⟨d0, d1, rfl⟩ := pair_of h1
  have h2 : isName d0 = true := h2
  obtain ⟨hrow, hps, _, hl⟩ := named_row h3
  refine ⟨strOf d0, d1, by rw [← isName_str h2], hrow, by have : ((items d1).length : Int) ≤ 8 := hl; omega, fun e he => ?_⟩
  obtain ⟨t1, t2⟩ := hps e he
  obtain ⟨m0, m1, m2, m3, rfl⟩ := quad_of t1
  have t2 : isName m0 = true := t2
  have k : headFits srt m1 m2 = true := List.all_eq_true.mp h4 _ he
  refine ⟨strOf m0, m1, m2, m3, by rw [← isName_str t2], ?_, k⟩
  rw [isName_str t2] at t2
  exact t2
theorem fnRow_of {srt : Srt} {e : PyData} (h : fnOk srt e) : fnRow e := by
  obtain ⟨x, p, r, b, rfl, _, hh⟩ := h
  refine ⟨x, p, r, b, rfl, ?_⟩
  unfold headFits at hh
  rw [Bool.and_eq_true] at hh
  exact (named_row hh.1).1
theorem modGo_all {srt : Srt} : ∀ (ds : List PyData) (ns : List Str) (i : Nat), modGo srt ns i ds = none → ∀ m ∈ ds, mdOk srt m
  | [], _, _, _, m, hm => by cases hm
  | e :: r, ns, i, h, m, hm => by
    unfold modGo at h
    split at h
    · rename_i q
      rw [Bool.and_eq_true] at q
      rcases List.mem_cons.mp hm with rfl | hm
      · exact mdOk_of q.1
      · exact modGo_all r _ _ h m hm
    · cases h
theorem mods_ok {srt : Srt} {d : PyData} (h : modFault srt d = none) : isRow d = true ∧ 1 ≤ (items d).length ∧ (items d).length ≤ 6 ∧ ∀ m ∈ items d, mdOk srt m := by
  unfold modFault at h
  split at h
  · rename_i q
    rw [Bool.and_eq_true, Bool.and_eq_true, decide_eq_true_eq, decide_eq_true_eq] at q
    exact ⟨q.1, q.2.1, q.2.2, modGo_all _ _ _ h⟩
  · cases h
/-! ### the first fault -/
def fc0 (srt : Srt) (hs : Heads) (m f : Str) (p : PyData) (r : Option Str) : Fc := ⟨srt, hs, (m, f), r, varsOf (items p), 0⟩
def fnFault (srt : Srt) (hs : Heads) (m : Str) (e : PyData) : Option (Int × Str) := match headGet hs m (strOf (at0 e)) with
  | none => none
  | some (p, r) => match chkBody 7 (fc0 srt hs m (strOf (at0 e)) p r) (sc0 (fc0 srt hs m (strOf (at0 e)) p r)) (at3 e) with
    | .error x => some ((x.1 : Nat), x.2)
    | .ok st => if (!isNoneD (at2 e) && !endsD 6 (at3 e)) = true then some ((st.passed : Nat), "end") else none
def fnsFault (srt : Srt) (hs : Heads) (m : Str) : List PyData → Option ((Str × Str) × Int × Str)
  | [] => none
  | e :: r => match fnFault srt hs m e with
    | some x => some ((m, strOf (at0 e)), x)
    | none => fnsFault srt hs m r
def modsFault (srt : Srt) (hs : Heads) : List PyData → Option ((Str × Str) × Int × Str)
  | [] => none
  | m :: r => match fnsFault srt hs (strOf (at0 m)) (items (at1 m)) with
    | some x => some x
    | none => modsFault srt hs r
def progFault (ks ms : PyData) : Option (PyData × Int × Str) := match modFault (srtOf (items ks)) ms with
  | some n => some (.none, n, "modules")
  | none => if hasMain (at1 (at0 ms)) = true then (match modsFault (srtOf (items ks)) (headsOf (items ms)) (items ms) with
      | some x => some (.tuple [.str x.1.1, .str x.1.2], x.2)
      | none => none) else some (.none, -1, "main")
theorem varsGo_ok : ∀ (ds : List PyData) (vs : Vars), VarsOk vs → (∀ e ∈ ds, fit (.str (strOf (at1 e))) = true) → VarsOk (ds.foldl varPut vs)
  | [], _, h, _ => h
  | e :: r, vs, h, hf => varsGo_ok r _ (varsOk_put h (hf e (List.mem_cons_self ..))) (fun e' he' => hf e' (List.mem_cons_of_mem _ he'))
theorem inv_fc0 {srt : Srt} {hs : Heads} {m f : Str} {p : PyData} {r : Option Str} (h1 : SrtOk srt) (h2 : SrtTup srt) (h3 : HeadsOk hs) (hp : headP p) : Inv0 (fc0 srt hs m f p r) (sc0 (fc0 srt hs m f p r)) := by
  have hv : VarsOk (varsOf (items p)) := varsGo_ok _ _ (fun _ h => by cases h) (fun e he => fit_strOf (fit_at1 (fitAll_mem (fit_items hp.2.1) he)))
  refine ⟨h1, h2, h3, hv, hv, Sub.refl _, Nat.zero_le _, ?_⟩
  have l1 := varsOf_len (items p)
  have l2 := fit_len hp.2.1
  show (varsOf (items p)).length ≤ 1100 + 0 + 1
  omega
/-! ### the heads, as they are gathered -/
theorem stay_in (m : Str) (m' f' : Str) : ∀ (es : List PyData) (hs : Heads), (headGet hs m' f').isSome = true → (headGet (es.foldl (headIn m) hs) m' f').isSome = true
  | [], _, h => h
  | e :: r, hs, h => stay_in m m' f' r _ (by
    unfold headIn
    rw [hg_put]
    split
    · rfl
    · exact h)
theorem has_in (m : Str) : ∀ (es : List PyData) (hs : Heads), ∀ e ∈ es, (headGet (es.foldl (headIn m) hs) m (strOf (at0 e))).isSome = true
  | [], _, e, he => by cases he
  | x :: r, hs, e, he => by
    rcases List.mem_cons.mp he with rfl | he
    · refine stay_in m m _ r _ ?_
      unfold headIn
      rw [hg_put, if_pos rfl]
      rfl
    · exact has_in m r _ e he
theorem stay_of (m' f' : Str) : ∀ (ms : List PyData) (hs : Heads), (headGet hs m' f').isSome = true → (headGet (ms.foldl headsIn hs) m' f').isSome = true
  | [], _, h => h
  | m :: r, hs, h => stay_of m' f' r _ (stay_in _ _ _ _ _ h)
theorem has_of : ∀ (ms : List PyData) (hs : Heads), ∀ m ∈ ms, ∀ e ∈ items (at1 m), (headGet (ms.foldl headsIn hs) (strOf (at0 m)) (strOf (at0 e))).isSome = true
  | [], _, m, hm, _, _ => by cases hm
  | x :: r, hs, m, hm, e, he => by
    rcases List.mem_cons.mp hm with rfl | hm
    · exact stay_of _ _ r _ (has_in _ _ _ e he)
    · exact has_of r _ m hm e he
end Lm

namespace Lm
open PySem PySem.Spec PyProof.Rows L2
open C8 (fnScope_by pe_gc pss_cut tCut Cal pe_c)
/-! ### a heap in which one dict of tuples was written -/
def SameT (dd : Addr) (H H' : Hp) : Prop := (∀ b o, b ≠ dd → H b = some o → H' b = some o) ∧ ∃ k1 k2, H dd = some (.dT k1) ∧ H' dd = some (.dT k2)
theorem SameT.trans {dd : Addr} {H1 H2 H3 : Hp} (a : SameT dd H1 H2) (b : SameT dd H2 H3) : SameT dd H1 H3 := by
  obtain ⟨a1, k1, _, a2, _⟩ := a
  obtain ⟨b1, _, k2, _, b2⟩ := b
  exact ⟨fun x o n e => b1 x o n (a1 x o n e), k1, k2, a2, b2⟩
theorem SameT.of {dd : Addr} {H H' : Hp} {k : List (List Key × V)} (s : Same H H') (h : H dd = some (.dT k)) : SameT dd H H' := ⟨fun b o _ e => s b o e, k, k, h, s _ _ h⟩
theorem SameT.put {dd : Addr} {H : Hp} {k k' : List (List Key × V)} (h : H dd = some (.dT k)) : SameT dd H (upd H dd (.dT k')) := ⟨fun b o n e => by rw [upd_ne n]; exact e, k, k', h, upd_same⟩
section
variable {K : PySem.W.Frag} {dd : Addr} {H H' : Hp}
theorem SameT.keep (e : SameT dd H H') {b : Addr} {o : HO} (h : H b = some o) (n : ∀ k, o ≠ .dT k) : H' b = some o := e.1 _ _ (fun q => by
  obtain ⟨_, k1, _, z, _⟩ := e
  rw [q, z] at h
  cases h
  exact n _ rfl) h
theorem SameT.lst (x : SameT dd H H') {b : Addr} {zs : List V} (h : H b = some (.lst zs)) : H' b = some (.lst zs) := x.keep h (fun _ e => by cases e)
theorem SameT.tup (x : SameT dd H H') {b : Addr} {zs : List V} (h : H b = some (.tup zs)) : H' b = some (.tup zs) := x.keep h (fun _ e => by cases e)
theorem SameT.dK (x : SameT dd H H') {b : Addr} {zs : List (Key × V)} (h : H b = some (.dK zs)) : H' b = some (.dK zs) := x.keep h (fun _ e => by cases e)
mutual
theorem Dx.monoT (e : SameT dd H H') : ∀ {v : V} {d : PyData}, Dx K H v d → Dx K H' v d
  | _, _, .non => .non
  | _, _, .bl b => .bl b
  | _, _, .int i => .int i
  | _, _, .str x => .str x
  | _, _, .lst h a => .lst (e.lst h) (DxAll.monoT e a)
  | _, _, .tup h a => .tup (e.tup h) (DxAll.monoT e a)
  | _, _, .dic h => .dic (e.dK h)
theorem DxAll.monoT (e : SameT dd H H') : ∀ {vs : List V} {ds : List PyData}, DxAll K H vs ds → DxAll K H' vs ds
  | _, _, .nil => .nil
  | _, _, .cons h a => .cons (Dx.monoT e h) (DxAll.monoT e a)
end
theorem SrtAt.monoT (e : SameT dd H H') {a : Addr} {srt : Srt} (h : SrtAt K H a srt) : SrtAt K H' a srt := by
  obtain ⟨kvs, h1, h2⟩ := h
  refine ⟨kvs, e.dK h1, paired_imp (fun kv s z => ?_) h2⟩
  obtain ⟨z1, t, vp, z2, z3, z4⟩ := z
  exact ⟨z1, t, vp, z2, e.tup z3, Dx.monoT e z4⟩
theorem HeadRow.monoT (e : SameT dd H H') {kv : List Key × V} {s : (Str × Str) × PyData × Option Str} (h : HeadRow K H kv s) : HeadRow K H' kv s := by
  obtain ⟨h1, t, vp, h2, h3, h4⟩ := h
  exact ⟨h1, t, vp, h2, e.tup h3, Dx.monoT e h4⟩
theorem SameT.row (x : SameT dd H H') {a : Addr} {xs : List V} (e : H a = some (.lst xs) ∨ H a = some (.tup xs)) : H' a = H a := by
  rcases e with e | e
  · rw [e, x.lst e]
  · rw [e, x.tup e]
theorem SameT.same {H0 : Hp} (s : Same H0 H) (x : SameT dd H H') (n : H0 dd = none) : Same H0 H' := fun b o e => x.1 b o (ne_of_none e n) (s b o e)
/-- a head is put -/
theorem head_put {m f : Str} {t : Addr} {vp : V} {p : PyData} {r : Option Str} (ht : H t = some (.tup [vp, okV r])) (hp : Dx K H vp p) : ∀ {kvs : List (List Key × V)} {hs : Heads}, Paired (HeadRow K H) kvs hs → Paired (HeadRow K H) (putK kvs [Sum.inr m, Sum.inr f] (V.ref t)) (hPut hs m f p r) := by
  intro kvs hs h
  have key : ∀ {kv : List Key × V} {s : (Str × Str) × PyData × Option Str}, HeadRow K H kv s → (kv.1 = [Sum.inr m, Sum.inr f] ↔ s.1 = (m, f)) := fun {kv s} z => by
    obtain ⟨⟨a, b⟩, c⟩ := s
    rw [z.1]
    refine ⟨fun q => ?_, fun q => ?_⟩
    · injection q with q1 q2
      injection q2 with q2 _
      exact Prod.ext (Sum.inr.inj q1) (Sum.inr.inj q2)
    · have q : (a, b) = (m, f) := q
      obtain ⟨rfl, rfl⟩ := Prod.mk.inj q
      rfl
  have eany : ∀ {kvs : List (List Key × V)} {hs : Heads}, Paired (HeadRow K H) kvs hs → (kvs.any fun kv => decide (kv.1 = [Sum.inr m, Sum.inr f])) = hs.any fun s => decide (s.1 = (m, f)) := by
    intro kvs hs h
    induction h with
    | nil => rfl
    | cons a _ ih => rw [List.any_cons, List.any_cons, ih, decide_eq_decide.mpr (key a)]
  have new : HeadRow K H ([Sum.inr m, Sum.inr f], V.ref t) ((m, f), p, r) := ⟨rfl, t, vp, rfl, ht, hp⟩
  have emap : ∀ {kvs : List (List Key × V)} {hs : Heads}, Paired (HeadRow K H) kvs hs → Paired (HeadRow K H) (kvs.map fun kv => if kv.1 = [Sum.inr m, Sum.inr f] then (kv.1, V.ref t) else kv) (hs.map fun s => if s.1 = (m, f) then (s.1, p, r) else s) := by
    intro kvs hs h
    induction h with
    | nil => exact .nil
    | @cons kv s kvs hs a _ ih =>
      rw [List.map_cons, List.map_cons]
      refine .cons ?_ ih
      by_cases q : s.1 = (m, f)
      · rw [if_pos ((key a).mpr q), if_pos q]
        exact ⟨by rw [(key a).mpr q, q], t, vp, rfl, ht, hp⟩
      · rw [if_neg (fun z => q ((key a).mp z)), if_neg q]
        exact a
  unfold putK hPut
  rw [eany h]
  split
  · exact emap h
  · exact Paired.snoc h new
end
end Lm

namespace Lm
open PySem PySem.Spec PyProof.Rows L2
open C8 (fnScope_by pe_gc pss_cut tCut Cal pe_c)
/-- a def that may raise, under its name -/
def CalX (P : Program) (w : World) (K : PySem.W.Frag) (mg : Str → Option Value) (base : Heap) (k : Nat) (x : Str) (sp : Sp) : Prop := ∃ f fd ps, FnOk P w K mg base (L2.CX P w) k f fd ps sp ∧ mg x = some (.ref f) ∧ PySem.W.keepIn K (.ref f) = true ∧ Binds K fd ps []
section
variable {P : Program} {w : World} {K : PySem.W.Frag} {mg : Str → Option Value} {base : Heap} {C CN : Addr}
theorem res_val {H : Hp} {v : V} {d : PyData} {srt : Srt} (h : Dx K H v d) (k : (isNoneD d || isKindD srt d) = true) : v = okV (resOf d) := by
  unfold resOf
  cases hn : isNoneD d with
  | true =>
    rw [if_pos rfl]
    cases d with
    | none => cases h; rfl
    | _ => cases hn
  | false =>
    rw [hn, Bool.false_or] at k
    unfold isKindD at k
    rw [Bool.and_eq_true] at k
    rw [if_neg Bool.false_ne_true]
    rw [isStr_of k.1] at h
    exact h.strOf
theorem head_res {srt : Srt} {p r : PyData} (h : headFits srt p r = true) : (isNoneD r || isKindD srt r) = true := by
  unfold headFits at h
  rw [Bool.and_eq_true, Bool.and_eq_true] at h
  exact h.2.2
theorem fns_some {srt : Srt} {hs : Heads} {m : Str} {e : PyData} {r : List PyData} {z : Int × Str} (h : fnFault srt hs m e = some z) : fnsFault srt hs m (e :: r) = some ((m, strOf (at0 e)), z) := by rw [fnsFault, h]
theorem fns_none {srt : Srt} {hs : Heads} {m : Str} {e : PyData} {r : List PyData} (h : fnFault srt hs m e = none) : fnsFault srt hs m (e :: r) = fnsFault srt hs m r := by rw [fnsFault, h]
theorem mods_some {srt : Srt} {hs : Heads} {m : PyData} {r : List PyData} {z : (Str × Str) × Int × Str} (h : fnsFault srt hs (strOf (at0 m)) (items (at1 m)) = some z) : modsFault srt hs (m :: r) = some z := by rw [modsFault, h]
theorem mods_none {srt : Srt} {hs : Heads} {m : PyData} {r : List PyData} (h : fnsFault srt hs (strOf (at0 m)) (items (at1 m)) = none) : modsFault srt hs (m :: r) = modsFault srt hs r := by rw [modsFault, h]
theorem fn_err {srt : Srt} {hs : Heads} {m : Str} {e p : PyData} {r : Option Str} {n : Nat} {y : Str} (h : headGet hs m (strOf (at0 e)) = some (p, r)) (c : chkBody 7 (fc0 srt hs m (strOf (at0 e)) p r) (sc0 (fc0 srt hs m (strOf (at0 e)) p r)) (at3 e) = .error (n, y)) : fnFault srt hs m e = some ((n : Int), y) := by
  unfold fnFault
  rw [h]
  dsimp only
  rw [c]
theorem fn_ok {srt : Srt} {hs : Heads} {m : Str} {e p : PyData} {r : Option Str} {st : Fc} (h : headGet hs m (strOf (at0 e)) = some (p, r)) (c : chkBody 7 (fc0 srt hs m (strOf (at0 e)) p r) (sc0 (fc0 srt hs m (strOf (at0 e)) p r)) (at3 e) = .ok st) : fnFault srt hs m e = if (!isNoneD (at2 e) && !endsD 6 (at3 e)) = true then some ((st.passed : Int), ("end" : Str)) else none := by
  unfold fnFault
  rw [h]
  dsimp only
  rw [c]
theorem Wr.nil {H H' : Hp} (x : Wr [] H H') : Same H H' := fun b o e => x.1 b o (fun h => by cases h) e
def spCP (K : PySem.W.Frag) (CN : Addr) : Sp := fun vs H Q E => ∃ (v u : V) (c : Addr) (ks ms : PyData), vs = [v, u, .ref c] ∧ Dx K H v ks ∧ fit ks = true ∧ (∃ ds, ks = .list ds) ∧ kindsOk ks = true ∧ SrtTup (srtOf (items ks)) ∧ Dx K H u ms ∧ fit ms = true ∧ H c = some (.dT []) ∧
  (progFault ks ms = none → ∀ H', Same H H' → Q .non H') ∧ (∀ wd n y, progFault ks ms = some (wd, n, y) → NpW K CN H E wd n y)
abbrev nsCP : List Str := ["kinds", "modules", "cases", "sorts", "heads", "module", "functions", "name", "parameters", "result", "_", "body", "where", "check"]
theorem scCP : FnScope nsCP ["kinds", "modules", "cases"] (defScope sCheckProgram) := fnScope_by (by decide +kernel)
theorem kCP {f fi : Addr} {fd fdi : FuncData} (F : Fun K "check_program" "check_program" sCheckProgram f fd) (B : Bt mg) (N : Np P w K mg base CN) (k : FcC K C) (cK : Cal P w K mg base 4 "check_kinds" (spCK K) []) (cS : Cal P w K mg base 1 "sorts_of" (spSO K) [])
    (cM : CalX P w K mg base 5 "check_modules" (spCMo K CN)) (cN : CalX P w K mg base 3 "check_main" (spCM K CN)) (M : Mk K C fi) (gF : mg "FunctionCheck" = some (.ref C)) (Fi : FnOk P w K mg base CX0 1 fi fdi ["self", "sorts", "heads", "where", "cases"] (spFcI K C))
    (bi : Binds K fdi ["self", "sorts", "heads", "where", "cases"] []) (mA : MCalX P w K mg base C 23 "check_all" (spCA K C CN)) (cE : Cal P w K mg base 8 "ends_itself" (spEI K 6) []) : FnOk P w K mg base (L2.CX P w) 24 f fd ["kinds", "modules", "cases"] (spCP K CN) := by
  obtain ⟨fM, fdM, psM, FM, gM, kM, bM⟩ := cM
  obtain ⟨fN, fdN, psN, FN, gN, kN, bN⟩ := cN
  obtain ⟨fA, fdA, psA, FA, MA, BA⟩ := mA
  refine F.okX (k := 23) scCP (fun vs H Q E h => ?_) (fun cdv A outer s H vs Q E hr h => ?_)
  · obtain ⟨v, u, c, ks, ms, rfl, _⟩ := h
    rfl
  obtain ⟨v, u, c, ks, ms, rfl, hdk, hfk, hlk, hko, htu, hdm, hfm, hc, q, qe⟩ := h
  have hu := hu_of hr
  have hr2 : Room 2 _ := hr.mono (by decide)
  have hr3 : Room 3 _ := hr.mono (by decide)
  have hr5 : Room 5 _ := hr.mono (by decide)
  refine ⟨_, pss_cons (ps_expr (pe_c cK hr (by decide) (by rfl) (pa_cons (pv 0) pa_nil)))
    (pss_cons (ps_set (i := 3) scCP.nd rfl (.inl rfl) (pe_c cS hr (by decide) (by rfl) (pa_cons (pv 0) pa_nil)))
    (pss_cons (ps_expr (pe_call FM hr5 rfl gM kM bM .nil (passes_call (takes_of rfl rfl rfl rfl) (fun _ _ _ _ h => h)) (pa_cons (pv 3) (pa_cons (pv 1) pa_nil))))
    (pss_cons (ps_expr (pe_call FN hr3 rfl gN kN bN .nil (passes_call (takes_of rfl rfl rfl rfl) (fun _ _ _ _ h => h)) (pa_cons (pe_ix ix_tup (pe_ix (ix_list.or ix_tup) (pv 1) pe_int (fun _ _ => rfl)) pe_int (fun _ _ => rfl)) pa_nil)))
    (pss_cons (ps_set (i := 4) scCP.nd rfl (.inl rfl) pe_dnewT)
    (pss_cons (ps_for (passes_of rfl) rfl (pi_row (pv 1)) (pg_tupk K rfl (n := 2) rfl (pgs_cons (pg_name (i := 5) scCP.nd rfl (Or.inl rfl)) (pgs_cons (pg_name (i := 6) scCP.nd rfl (Or.inl rfl)) pgs_nil)))
      (pss_one (ps_for (passes_of rfl) rfl (pi_row (pv 6)) (pg_tupk K rfl (n := 4) rfl (pgs_cons (pg_name (i := 7) scCP.nd rfl (Or.inl rfl)) (pgs_cons (pg_name (i := 8) scCP.nd rfl (Or.inl rfl)) (pgs_cons (pg_name (i := 9) scCP.nd rfl (Or.inl rfl)) (pgs_cons (pg_name (i := 10) scCP.nd rfl (Or.inl rfl)) pgs_nil)))))
        (pss_one (ps_dput hu (pv 4) (pe_tup (pa_cons (pv 5) (pa_cons (pv 7) pa_nil))) (pe_tup (pa_cons (pv 8) (pa_cons (pv 9) pa_nil))) rfl)))))
    (pss_one (ps_for (passes_of rfl) rfl (pi_row (pv 1)) (pg_tupk K rfl (n := 2) rfl (pgs_cons (pg_name (i := 5) scCP.nd rfl (Or.inl rfl)) (pgs_cons (pg_name (i := 6) scCP.nd rfl (Or.inl rfl)) pgs_nil)))
      (pss_one (ps_for (passes_of rfl) rfl (pi_row (pv 6)) (pg_tupk K rfl (n := 4) rfl (pgs_cons (pg_name (i := 7) scCP.nd rfl (Or.inl rfl)) (pgs_cons (pg_name (i := 10) scCP.nd rfl (Or.inl rfl)) (pgs_cons (pg_name (i := 9) scCP.nd rfl (Or.inl rfl)) (pgs_cons (pg_name (i := 11) scCP.nd rfl (Or.inl rfl)) pgs_nil)))))
        (pss_cons (ps_set (i := 12) scCP.nd rfl (.inl rfl) (pe_tup (pa_cons (pv 5) (pa_cons (pv 7) pa_nil))))
        (pss_cons (ps_set (i := 13) scCP.nd rfl (.inl rfl) (pe_make M Fi hr2 (by rfl) gF bi .nil pass0 (pa_cons (pv 3) (pa_cons (pv 4) (pa_cons (pv 12) (pa_cons (pe_dget2 hu (pv 2) (pv 12) pe_dnewK ⟨rfl, by rfl, rfl, rfl⟩) pa_nil))))))
        (pss_cons (ps_expr (pe_meth (pv 13) k.cl MA FA hr BA .nil (passes_call (takes_of rfl rfl rfl rfl) (fun _ _ _ _ h => h)) (pa_cons (pv 11) pa_nil)))
        (pss_one (ps_if (PW.pt (pw_and (pt_cmp (pc_notN (pv 9)) (by rfl)) (pw_and1 (pt_not (pt_val (pe_c cE hr (by decide) (by rfl) (pa_cons (pv 11) pa_nil)))))))
          (pss_one (ps_np N rfl (takes_of rfl rfl rfl rfl) hr (by decide) (pa_cons (pv 12) (pa_cons (pe_fld (pv 13) rfl) (pa_cons pe_str pa_nil))))) pss_nil)))))))))))))), ?_⟩
  obtain ⟨ds, rfl⟩ := hlk
  have hko' : (decide ((items (.list ds)).length ≤ 8) && kindsGo (anyOf ds) (ones ("item" :: namesOf "choice" ds)) [] ds) = true := hko
  rw [Bool.and_eq_true] at hko'
  have hkn := kinds_nodup _ _ _ _ hko'.2
  have hke := kinds_each _ _ _ _ hko'.2
  have hso : SrtOk (srtOf ds) := srt_ok (fit_items hfk) (fun e he => by
    obtain ⟨a1, sz, b1⟩ := hke e he
    exact ⟨a1, sz, _, b1⟩)
  have htu : SrtTup (srtOf ds) := htu
  have ePF : progFault (.list ds) ms = (match modFault (srtOf ds) ms with
    | some n => some (.none, n, "modules")
    | none => if hasMain (at1 (at0 ms)) = true then (match modsFault (srtOf ds) (headsOf (items ms)) (items ms) with
        | some x => some (.tuple [.str x.1.1, .str x.1.2], x.2)
        | none => none) else some (.none, -1, "main")) := rfl
  refine ⟨_, rfl, v, .list ds, rfl, hdk, hfk, ⟨ds, rfl⟩, hko, fun H1 s1 => ?_⟩
  refine ⟨_, rfl, v, .list ds, rfl, Dx.mono s1 hdk, hfk, rfl, fun e he => kinds_row (hke e he).1, hkn.1, fun H2 p2 s2 np2 hsrt => ?_⟩
  have s02 := s1.trans s2
  refine ⟨_, rfl, _, rfl, p2, u, ms, srtOf ds, rfl, hsrt, Dx.mono s02 hdm, hfm, fun hmf H3 s3 => ?_, fun n hmf => (qe .none n "modules" (by rw [ePF, hmf])).mono s02⟩
  obtain ⟨hrow, hlo, hhi, hall⟩ := mods_ok hmf
  rw [hmf] at ePF
  dsimp only at ePF
  have s03 := s02.trans s3
  obtain ⟨ar, xs, rfl, hraw, hax⟩ := row_raw (Dx.mono s03 hdm) hrow
  have hsq : SqL K H3 ar xs ∨ SqT K H3 ar xs := hraw.imp (fun z => .inl (.inl z)) (fun z => .inl (.inl z))
  have hlx := hax.len
  obtain ⟨m0, hm0⟩ : ∃ m0, (items ms)[0]? = some m0 := ⟨(items ms)[0], List.getElem?_eq_getElem (by omega)⟩
  have ea0 : at0 ms = m0 := by
    unfold at0
    rw [List.getD_eq_getElem?_getD, hm0]
    rfl
  rw [ea0] at ePF
  obtain ⟨w0, hw0, hdw0⟩ := hax.at hm0
  have hmo := hall m0 (List.mem_of_getElem? hm0)
  obtain ⟨x0, f0, rfl, hrf0, _, hfn0⟩ := hmo
  have ePF : progFault (.list ds) ms = if hasMain f0 = true then (match modsFault (srtOf ds) (headsOf (items ms)) (items ms) with
        | some x => some (.tuple [.str x.1.1, .str x.1.2], x.2)
        | none => none) else some (.none, -1, "main") := ePF
  obtain ⟨am, u0, u1, rfl, ham, _, hu1⟩ := pair_at hdw0
  refine ⟨_, rfl, ?_⟩
  refine ix_row hsq (atI_nat (j := 0) hw0) ?_
  refine ⟨am, _, 1, _, rfl, rfl, .inl (.inl ham), atI_nat (j := 1) rfl, u1, f0, rfl, hu1, hrf0, fun e he => fnRow_of (hfn0 e he), fun hmn => ?_, fun hmn => (qe .none (-1) "main" (by rw [ePF, hmn, if_neg Bool.false_ne_true])).mono s03⟩
  rw [hmn, if_pos rfl] at ePF
  refine fun ph nph => ?_
  have sph := same_upd (o := .dT []) nph
  have nphH : H ph = none := same_none s03 nph
  generalize hH4 : upd H3 ph (.dT []) = H4 at *
  have hph4 : H4 ph = some (.dT []) := by rw [← hH4]; exact upd_same
  have hraw4 : H4 ar = some (.lst xs) ∨ H4 ar = some (.tup xs) := hraw.imp (fun z => sph _ _ z) (fun z => sph _ _ z)
  have hax4 := DxAll.mono sph hax
  have s04 := s03.trans sph
  refine for_rowW (a := ar) (xs := xs) hraw4 (fun kk hk => ⟨_, rfl, hk⟩) fun J G gs wk => for_it wk
    (fun i σ H' => ∃ (y5 y6 y7 y8 y9 y10 : Option V), σ = [some v, some (.ref ar), some (.ref c), some (.ref p2), some (.ref ph), y5, y6, y7, y8, y9, y10, none, none, none] ∧ SameT ph H4 H' ∧ HeadAt K H' ph (((items ms).take i).foldl headsIn []) ∧ (((items ms).take i).foldl headsIn []).length ≤ i * 8 ∧ HeadsOk (((items ms).take i).foldl headsIn []))
    ⟨none, none, none, none, none, none, rfl, SameT.of (Same.refl H4) hph4, ⟨[], hph4, .nil⟩, Nat.zero_le _, fun _ h => by cases h⟩ ?_ ?_ ?_
  · rintro i σ H' hi ⟨y5, y6, y7, y8, y9, y10, rfl, g1, g2, g3, g4⟩
    exact gs _ (g1.row hraw4)
  · rintro i x σ H5 H6 hi ⟨y5, y6, y7, y8, y9, y10, rfl, g1, g2, g3, g4⟩ ⟨rfl, hx⟩
    obtain ⟨m, hm, hdm4⟩ := hax4.get hx
    have hmm := List.mem_of_getElem? hm
    have fm : fit m = true := fitAll_mem (fit_items hfm) hmm
    obtain ⟨xm, fd, rfl, hrf, hlf, hfn⟩ := hall m hmm
    have ffd : fit fd = true := fitAll_at (i := 1) (fit_items fm) rfl
    have etk : ((items ms).take (i + 1)).foldl headsIn [] = (items fd).foldl (headIn xm) (((items ms).take i).foldl headsIn []) := by
      rw [List.take_add_one, hm, List.foldl_append]
      rfl
    obtain ⟨ae, v0, v1, rfl, hae, hv0, hv1⟩ := pair_at (Dx.monoT g1 hdm4)
    obtain rfl := hv0.strOf
    refine ⟨ae, _, rfl, .inl (.inl hae), rfl, _, _, rfl, _, _, rfl, rfl, ?_⟩
    obtain ⟨af, zs, rfl, hrawf, haf⟩ := row_raw hv1 hrf
    have hlf2 := haf.len
    rw [etk]
    generalize ((items ms).take i).foldl headsIn [] = hs0 at *
    refine for_rowW (a := af) (xs := zs) hrawf (fun kk hk => ⟨_, rfl, hk⟩) fun J2 G2 gs2 wk2 => for_it wk2
      (fun j σ H' => ∃ (y7 y8 y9 y10 : Option V), σ = [some v, some (.ref ar), some (.ref c), some (.ref p2), some (.ref ph), some (.str xm), some (.ref af), y7, y8, y9, y10, none, none, none] ∧ SameT ph H4 H' ∧ SameT ph H6 H' ∧ HeadAt K H' ph (((items fd).take j).foldl (headIn xm) hs0) ∧ (((items fd).take j).foldl (headIn xm) hs0).length ≤ i * 8 + j ∧ HeadsOk (((items fd).take j).foldl (headIn xm) hs0))
      ⟨_, _, _, _, rfl, g1, (by obtain ⟨kk, z, _⟩ := g2; exact SameT.of (Same.refl _) z), g2, g3, g4⟩ ?_ ?_ ?_
    · rintro j σ H' hj ⟨y7, y8, y9, y10, rfl, k1, k2, k3, k4, k5⟩
      exact gs2 _ (k2.row hrawf)
    · rintro j y σ H7 H8 hj ⟨y7, y8, y9, y10, rfl, k1, k2, k3, k4, k5⟩ ⟨rfl, hy⟩
      obtain ⟨e, he, hde⟩ := haf.get hy
      have hme := List.mem_of_getElem? he
      have fe : fit e = true := fitAll_mem (fit_items ffd) hme
      obtain ⟨x, p, r, b, rfl, _, hh⟩ := hfn e hme
      have fp : fit p = true := fitAll_at (i := 1) (fit_items fe) rfl
      obtain ⟨aq, q0, q1, q2, q3, rfl, haq, hq0, hq1, hq2, _⟩ := quad_at (Dx.monoT k2 hde)
      obtain rfl := hq0.strOf
      obtain rfl := res_val hq2 (head_res hh)
      have ejk : ((items fd).take (j + 1)).foldl (headIn xm) hs0 = hPut (((items fd).take j).foldl (headIn xm) hs0) xm x p (resOf r) := by
        rw [List.take_add_one, he, List.foldl_append]
        rfl
      refine ⟨aq, _, rfl, .inl (.inl haq), rfl, _, _, rfl, _, _, rfl, _, _, rfl, _, _, rfl, rfl, ?_⟩
      refine ⟨_, rfl, _, rfl, by show 2 ≤ sizeLine; decide, fun t nt => ⟨_, rfl, _, rfl, _, rfl, by show 2 ≤ sizeLine; decide, fun kt nkt => ?_⟩⟩
      obtain ⟨kvs, z1, z2⟩ := k3
      have st := same_upd (o := .tup [q1, okV (resOf r)]) nt
      have skt := same_upd (o := .tup [V.str xm, V.str x]) nkt
      have sT := st.trans skt
      have z1' := sT _ _ z1
      have hl : kvs.length ≤ i * 8 + j := by rw [paired_len z2]; exact k4
      have h6 : i < 6 := by omega
      have h8 : j < 8 := by omega
      refine ⟨ph, _, rfl, DPut.t (k := [Sum.inr xm, Sum.inr x]) z1' upd_same (line2000 (by omega)), ?_⟩
      have sput := SameT.put (k' := putK kvs [Sum.inr xm, Sum.inr x] (V.ref t)) z1'
      have w1 := (SameT.of sT z1).trans sput
      rw [ejk]
      refine ⟨_, _, _, _, rfl, k1.trans w1, k2.trans w1, ⟨_, upd_same, paired_imp (fun _ _ z => HeadRow.monoT sput z) (head_put (skt _ _ upd_same) (Dx.mono sT hq1) (paired_imp (fun _ _ z => z.mono sT) z2))⟩, ?_, headsOk_put k5 (headP_of fp hh)⟩
      have := hPut_len (((items fd).take j).foldl (headIn xm) hs0) xm x p (resOf r)
      omega
    · rintro σ H' ⟨y7, y8, y9, y10, rfl, k1, k2, k3, k4, k5⟩
      rw [hlf2, List.take_length] at k3 k4 k5
      exact ⟨_, _, _, _, _, _, rfl, k1, k3, by omega, k5⟩
  · rintro σ H' ⟨y5, y6, y7, y8, y9, y10, rfl, g1, g2, g3, g4⟩
    rw [hlx, List.take_length] at g2 g3 g4
    have g2 : HeadAt K H' ph (headsOf (items ms)) := g2
    have g4 : HeadsOk (headsOf (items ms)) := g4
    have hgs : ∀ m ∈ items ms, ∀ e ∈ items (at1 m), ∃ x, headGet (headsOf (items ms)) (strOf (at0 m)) (strOf (at0 e)) = some x := fun m hm e he => Option.isSome_iff_exists.mp (has_of (items ms) [] m hm e he)
    have s0B : Same H H' := SameT.same s04 g1 nphH
    have hrawB : H' ar = some (.lst xs) ∨ H' ar = some (.tup xs) := hraw4.imp (fun z => (g1.row hraw4).trans z) (fun z => (g1.row hraw4).trans z)
    have haxB := DxAll.monoT g1 hax4
    have hsrtB := (hsrt.mono (s3.trans sph)).monoT g1
    generalize headsOf (items ms) = hs at *
    generalize H' = HB at *
    -- a fault is told
    have tell : ∀ (xm x : Str) (n : Int) (y : Str), modsFault (srtOf ds) hs (items ms) = some ((xm, x), n, y) → ∀ (H5 : Hp) (T : Addr), Same H H5 → H5 T = some (.tup [.str xm, .str x]) → ∀ (d2 : Addr) (H6 : Hp), Same H5 H6 → H5 d2 = none → H6 d2 = some (xdN (.ref T) n y) → E (.ref CN) (some d2) H6 := fun xm x n y e H5 T s5 hT d2 H6 s6 nd hh =>
      (qe (.tuple [.str xm, .str x]) n y (by rw [ePF, e])).mono s5 d2 (.ref T) H6 s6 nd hh (.tup (s6 _ _ hT) (.cons (.str _) (.cons (.str _) .nil)))
    refine for_rowW (a := ar) (xs := xs) hrawB (fun kk hk => ⟨_, rfl, hk⟩) fun J G gs wk => for_it wk
      (fun i σ H' => ∃ (y5 y6 y7 y8 y9 y10 y11 y12 y13 : Option V), σ = [some v, some (.ref ar), some (.ref c), some (.ref p2), some (.ref ph), y5, y6, y7, y8, y9, y10, y11, y12, y13] ∧ Same HB H' ∧ modsFault (srtOf ds) hs (items ms) = modsFault (srtOf ds) hs ((items ms).drop i))
      ⟨_, _, _, _, _, _, _, _, _, rfl, Same.refl HB, rfl⟩ ?_ ?_ ?_
    · rintro i σ H' hi ⟨y5, y6, y7, y8, y9, y10, y11, y12, y13, rfl, k1, k2⟩
      exact gs _ (by rcases hrawB with z | z <;> rw [k1 _ _ z, z])
    · rintro i x σ H5 H6 hi ⟨y5, y6, y7, y8, y9, y10, y11, y12, y13, rfl, k1, k2⟩ ⟨rfl, hx⟩
      obtain ⟨m, hm, hdm4⟩ := haxB.get hx
      have hmm := List.mem_of_getElem? hm
      have fm : fit m = true := fitAll_mem (fit_items hfm) hmm
      have hdrop : (items ms).drop i = m :: (items ms).drop (i + 1) := List.drop_eq_getElem_cons (List.getElem?_eq_some_iff.mp hm).1 |>.trans (by rw [(List.getElem?_eq_some_iff.mp hm).2])
      rw [hdrop] at k2
      have hgm := hgs m hmm
      obtain ⟨xm, fd, rfl, hrf, hlf, hfn⟩ := hall m hmm
      have hgm : ∀ e ∈ items fd, ∃ x, headGet hs xm (strOf (at0 e)) = some x := hgm
      have ffd : fit fd = true := fitAll_at (i := 1) (fit_items fm) rfl
      obtain ⟨ae, v0, v1, rfl, hae, hv0, hv1⟩ := pair_at (Dx.mono k1 hdm4)
      obtain rfl := hv0.strOf
      refine ⟨ae, _, rfl, .inl (.inl hae), rfl, _, _, rfl, _, _, rfl, rfl, ?_⟩
      obtain ⟨af, zs, rfl, hrawf, haf⟩ := row_raw hv1 hrf
      have hlf2 := haf.len
      refine for_rowW (a := af) (xs := zs) hrawf (fun kk hk => ⟨_, rfl, hk⟩) fun J2 G2 gs2 wk2 => for_it wk2
        (fun j σ H' => ∃ (y7 y8 y9 y10 y11 y12 y13 : Option V), σ = [some v, some (.ref ar), some (.ref c), some (.ref p2), some (.ref ph), some (.str xm), some (.ref af), y7, y8, y9, y10, y11, y12, y13] ∧ Same HB H' ∧ Same H6 H' ∧ fnsFault (srtOf ds) hs xm (items fd) = fnsFault (srtOf ds) hs xm ((items fd).drop j))
        ⟨_, _, _, _, _, _, _, rfl, k1, Same.refl _, rfl⟩ ?_ ?_ ?_
      · rintro j σ H' hj ⟨y7, y8, y9, y10, y11, y12, y13, rfl, l1, l2, l3⟩
        exact gs2 _ (by rcases hrawf with z | z <;> rw [l2 _ _ z, z])
      · rintro j y σ H7 H8 hj ⟨y7, y8, y9, y10, y11, y12, y13, rfl, l1, l2, l3⟩ ⟨rfl, hy⟩
        obtain ⟨e, he, hde⟩ := haf.get hy
        have hme := List.mem_of_getElem? he
        have fe : fit e = true := fitAll_mem (fit_items ffd) hme
        obtain ⟨⟨pp, rr⟩, hg⟩ := hgm e hme
        have hdrop2 : (items fd).drop j = e :: (items fd).drop (j + 1) := List.drop_eq_getElem_cons (List.getElem?_eq_some_iff.mp he).1 |>.trans (by rw [(List.getElem?_eq_some_iff.mp he).2])
        rw [hdrop2] at l3
        obtain ⟨x, p, r, b, rfl, _, hh⟩ := hfn e hme
        have hg : headGet hs xm x = some (pp, rr) := hg
        have fb : fit b = true := fitAll_at (i := 3) (fit_items fe) rfl
        obtain ⟨sx, hsx, esx⟩ := head_mem hg
        have hpp : headP pp := by
          have z := g4 sx hsx
          rw [esx] at z
          exact z
        have inv := inv_fc0 (m := xm) (f := x) (r := rr) hso htu g4 hpp
        obtain ⟨aq, q0, q1, q2, q3, rfl, haq, hq0, hq1, hq2, hq3⟩ := quad_at (Dx.mono l2 hde)
        obtain rfl := hq0.strOf
        refine ⟨aq, _, rfl, .inl (.inl haq), rfl, _, _, rfl, _, _, rfl, _, _, rfl, _, _, rfl, rfl, ?_⟩
        refine ⟨_, rfl, _, rfl, by show 2 ≤ sizeLine; decide, fun T nT => ?_⟩
        have sT := same_upd (o := .tup [V.str xm, V.str x]) nT
        have l1T := l1.trans sT
        have hcT := l1T _ _ (s0B _ _ hc)
        refine ⟨_, rfl, _, rfl, _, rfl, _, rfl, c, rfl, .inr ⟨[], .inl hcT⟩, _, rfl, fun pd npd => ⟨_, DGet.t (k := [Sum.inr xm, Sum.inr x]) (same_upd npd _ _ hcT) (same_upd npd _ _ upd_same), ?_⟩⟩
        have spd := same_upd (o := .dK []) npd
        have sTp := sT.trans spd
        refine fun x' dx' nx ndx hne => ?_
        have s2' := same_upd (o := .own x') ndx
        have nx2 : (upd (upd (upd H8 T (.tup [V.str xm, V.str x])) pd (.dK [])) dx' (.own x')) x' = none := by rw [upd_ne (Ne.symm hne)]; exact nx
        have s3' := same_upd (o := .ins C dx' []) nx2
        have sI := sTp.trans (s2'.trans s3')
        have sCI := s2'.trans s3'
        refine ⟨x', dx', p2, ph, T, pd, hs, xm, x, pp, rr, rfl, upd_same, (g2.mono (l1.trans sI)), g4, sCI _ _ (spd _ _ upd_same), hg, fun H9 d9 hsame nd9 hfc hvar => ⟨rfl, ?_⟩⟩
        have sC9 : Same _ H9 := fun b o e => hsame b o (ne_of_none e nx) (sCI _ _ e)
        have nd9C := same_none sCI nd9
        have s89 := sTp.trans sC9
        have sB9 := l1.trans s89
        have hsrt9 := hsrtB.mono sB9
        have n1 : p2 ≠ d9 := by
          obtain ⟨kk, z, _⟩ := hsrtB.mono (l1.trans sTp)
          exact ne_of_none z nd9C
        have n3 : pd ≠ d9 := ne_of_none (o := .dK []) upd_same nd9C
        have hT9 : H9 T = some (.tup [V.str xm, V.str x]) := sC9 _ _ (spd _ _ upd_same)
        have new : FcNew K C H9 x' p2 ph T pd d9 dx' (fc0 (srtOf ds) hs xm x pp rr) := ⟨hfc, ⟨hsrt9, hso, g2.mono sB9, hT9, sC9 _ _ upd_same, hvar⟩, n1, n3, inv⟩
        have freshT : ∀ {H5 : Hp}, Wr [x', d9] H9 H5 → Same (upd H8 T (.tup [V.str xm, V.str x])) H5 := fun {H5} wr => spd.trans (Wr.nil (Wr.fresh (L := []) sC9 wr (fun z hz => by
          rcases List.mem_cons.mp hz with rfl | hz
          · exact .inr nx
          rw [List.mem_singleton.mp hz]
          exact .inr nd9C) (fun z hz => by cases hz)))
        have fresh : ∀ {H5 : Hp}, Wr [x', d9] H9 H5 → Same H8 H5 := fun {H5} wr => sT.trans (freshT wr)
        have hT' : ∀ {H5 : Hp}, Wr [x', d9] H9 H5 → H5 T = some (.tup [V.str xm, V.str x]) := fun wr => wr.tup hT9
        have hq3' := Dx.mono s89 hq3
        refine ⟨_, rfl, x', dx', _, rfl, hfc, by rfl, _, rfl, x', p2, ph, T, pd, d9, dx', q3, b, fc0 (srtOf ds) hs xm x pp rr, rfl, new, hq3', fb, fun st' e5 H10 w10 ha10 hd10 => ?_, fun n yy e5 d2 H10 w10 nd hh => ?_⟩
        · have efn := fn_ok (e := .tuple [.str x, p, r, b]) hg e5
          have hbo := chkBody_form 7 _ _ b st' rfl (by decide) inv fb e5
          have s8 := fresh w10
          have hq2' := Dx.mono s8 hq2
          have hq3'' := Dx.mono s8 hq3
          refine ⟨_, rfl, _, rfl, ?_⟩
          rw [dx_isNone hq2']
          have efn : fnFault (srtOf ds) hs xm (.tuple [.str x, p, r, b]) = if (!isNoneD r && !endsD 6 b) = true then some ((st'.passed : Int), ("end" : Str)) else none := efn
          cases hn : isNoneD r with
          | true =>
            rw [hn] at efn
            exact iteF (iteF ⟨_, _, _, _, _, _, _, rfl, l1.trans s8, l2.trans s8, by rw [l3]; exact fns_none efn⟩)
          | false =>
            rw [hn] at efn
            refine iteT ⟨_, rfl, q3, b, rfl, hq3'', fb, hbo, fun H11 s11 => ⟨_, rfl, ?_⟩⟩
            cases hE : endsD 6 b with
            | true =>
              rw [hE] at efn
              exact iteF ⟨_, _, _, _, _, _, _, rfl, (l1.trans s8).trans s11, (l2.trans s8).trans s11, by rw [l3]; exact fns_none efn⟩
            | false =>
              rw [hE] at efn
              have efn : fnFault (srtOf ds) hs xm (.tuple [.str x, p, r, b]) = some ((st'.passed : Int), ("end" : Str)) := efn
              refine iteT ⟨_, rfl, _, rfl, x', C, dx', _, _, rfl, s11 _ _ ha10, k.cl, k.passed, by rfl, .ref T, (st'.passed : Nat), "end", rfl, fun d2 H12 s12 nd hh => ?_⟩
              exact tell xm x _ _ (by rw [k2]; exact mods_some (by rw [show fnsFault (srtOf ds) hs (strOf (at0 (.tuple [.str xm, fd]))) (items (at1 (.tuple [.str xm, fd]))) = fnsFault (srtOf ds) hs xm (items fd) from rfl, l3]; exact fns_some efn)) H11 T (((s0B.trans l1).trans s8).trans s11) (s11 _ _ (hT' w10)) d2 H12 s12 nd hh
        · have efn := fn_err (e := .tuple [.str x, p, r, b]) hg e5
          exact tell xm x _ _ (by rw [k2]; exact mods_some (by rw [show fnsFault (srtOf ds) hs (strOf (at0 (.tuple [.str xm, fd]))) (items (at1 (.tuple [.str xm, fd]))) = fnsFault (srtOf ds) hs xm (items fd) from rfl, l3]; exact fns_some efn)) _ T (s0B.trans l1T) upd_same d2 H10 (freshT w10) (same_none (spd.trans sC9) nd) hh
      · rintro σ H' ⟨y7, y8, y9, y10, y11, y12, y13, rfl, l1, l2, l3⟩
        rw [hlf2, List.drop_length] at l3
        have l3 : fnsFault (srtOf ds) hs xm (items fd) = none := l3
        exact ⟨_, _, _, _, _, _, _, _, _, rfl, l1, by rw [k2]; exact mods_none l3⟩
    · rintro σ H' ⟨y5, y6, y7, y8, y9, y10, y11, y12, y13, rfl, k1, k2⟩
      rw [hlx, List.drop_length] at k2
      have k2 : modsFault (srtOf ds) hs (items ms) = none := k2
      exact q (by rw [ePF, k2]) H' (s0B.trans k1)
end
end Lm

namespace Lm
open PySem PySem.Spec PyProof.Rows L2
open C8 (fnScope_by pe_gc pss_cut tCut Cal pe_c)
/-! ### Program.__init__ -/
mutual
theorem fit_nest : ∀ {d : PyData}, fit d = true → fit (nestD d) = true
  | .list xs, h => by
    have h : (decide (xs.length ≤ 1000) && fitAll xs) = true := h
    rw [Bool.and_eq_true, decide_eq_true_eq] at h
    rw [nestD]
    show (decide ((nestAll xs).length ≤ 1000) && fitAll (nestAll xs)) = true
    rw [nestAll_map, List.length_map, decide_eq_true h.1, Bool.true_and, ← nestAll_map]
    exact fit_nestAll h.2
  | .tuple xs, h => by
    have h : (decide (xs.length ≤ 1000) && fitAll xs) = true := h
    rw [Bool.and_eq_true, decide_eq_true_eq] at h
    rw [nestD]
    show (decide ((nestAll xs).length ≤ 1000) && fitAll (nestAll xs)) = true
    rw [nestAll_map, List.length_map, decide_eq_true h.1, Bool.true_and, ← nestAll_map]
    exact fit_nestAll h.2
  | .none, h => by rw [nest_no rfl]; exact h
  | .bool _, h => by rw [nest_no rfl]; exact h
  | .int _, h => by rw [nest_no rfl]; exact h
  | .str _, h => by rw [nest_no rfl]; exact h
  | .dict _, h => by rw [nest_no rfl]; exact h
theorem fit_nestAll : ∀ {ds : List PyData}, fitAll ds = true → fitAll (nestAll ds) = true
  | [], _ => rfl
  | x :: r, h => by
    have h : (fit x && fitAll r) = true := h
    rw [Bool.and_eq_true] at h
    rw [nestAll]
    show (fit (nestD x) && fitAll (nestAll r)) = true
    rw [fit_nest h.1, fit_nestAll h.2]
    rfl
end
theorem nest_str (x : Str) : nestD (.str x) = .str x := nest_no rfl
theorem nest_row_row {d : PyData} (h : isRow d = true) : isRow (nestD d) = true := by rw [nest_row h]; rfl
theorem nest_items {d : PyData} (h : isRow d = true) : items (nestD d) = (items d).map nestD := by rw [nest_row h]; rfl
structure PgC (K : PySem.W.Frag) (CP : Addr) : Prop where
  cl : Cls K CP
  kinds : NoAttr K CP "kinds"
  modules : NoAttr K CP "modules"
  sorts : NoAttr K CP "_sorts"
  parts : NoAttr K CP "_parts"
def pgF (kv mv : V) (s p : Addr) : List (Str × V) := [("kinds", kv), ("modules", mv), ("_sorts", .ref s), ("_parts", .ref p)]
theorem putK_le {κ : Type} [DecidableEq κ] (kvs : List (κ × V)) (k : κ) (v : V) : (putK kvs k v).length ≤ kvs.length + 1 := by
  unfold putK
  split
  · rw [List.length_map]; omega
  · rw [List.length_append]; exact Nat.le_refl _
section
variable {P : Program} {w : World} {K : PySem.W.Frag} {mg : Str → Option Value} {base : Heap} {CP CN : Addr}
/-- a program that was made -/
def PgAt (K : PySem.W.Frag) (CP : Addr) (H : Hp) (a : Addr) (ks ms : PyData) : Prop := ∃ dx kv mv s p, H a = some (.ins CP dx (pgF kv mv s p)) ∧ Dx K H kv (nestD ks) ∧ Dx K H mv (nestD ms) ∧ SrtAt K H s (srtOf (items (nestD ks))) ∧ ∃ kvs, H p = some (.dT kvs)
/-- what may be given to Program -/
structure PgArg (K : PySem.W.Frag) (H : Hp) (v u : V) (ks ms : PyData) : Prop where
  k : Dx K H v ks
  kf : fit ks = true
  kl : ∃ ds, ks = .list ds
  ko : kindsOk ks = true
  kt : SrtTup (srtOf (items ks))
  kd : ks.depth ≤ 60
  m : Dx K H u ms
  mf : fit ms = true
  md : ms.depth ≤ 60
theorem PgArg.mono {H H' : Hp} {v u : V} {ks ms : PyData} (s : Same H H') (x : PgArg K H v u ks ms) : PgArg K H' v u ks ms := ⟨Dx.mono s x.k, x.kf, x.kl, x.ko, x.kt, x.kd, Dx.mono s x.m, x.mf, x.md⟩
def spPI (K : PySem.W.Frag) (CP CN : Addr) : Sp := fun vs H Q E => ∃ (a dx : Addr) (v u : V) (ks ms : PyData), vs = [.ref a, v, u] ∧ H a = some (.ins CP dx []) ∧ PgArg K H v u ks ms ∧
  (progFault ks ms = none → ∀ H', (∀ b o, b ≠ a → H b = some o → H' b = some o) → PgAt K CP H' a ks ms → Q .non H') ∧ (∀ wd n y, progFault ks ms = some (wd, n, y) → NpW K CN H E wd n y)
abbrev nsPI : List Str := ["self", "kinds", "modules", "module", "functions", "name", "parameters", "result", "body"]
theorem scPI : FnScope nsPI ["self", "kinds", "modules"] (defScope mPgInit) := fnScope_by (by decide +kernel)
theorem kPI {f : Addr} {fd : FuncData} (F : Fun K "__init__" "Program.__init__" mPgInit f fd) (k : PgC K CP) (cC : CalX P w K mg base 24 "check_program" (spCP K CN)) (cN : Cal P w K mg base 62 "nested" (spNest K 60) []) (cS : Cal P w K mg base 1 "sorts_of" (spSO K) []) :
    FnOk P w K mg base (L2.CX P w) 63 f fd ["self", "kinds", "modules"] (spPI K CP CN) := by
  obtain ⟨fC, fdC, psC, FC, gC, kC, bC⟩ := cC
  refine F.okX (k := 62) scPI (fun vs H Q E h => ?_) (fun cdv A outer s H vs Q E hr h => ?_)
  · obtain ⟨a, dx, v, u, ks, ms, rfl, _⟩ := h
    rfl
  obtain ⟨a, dx, v, u, ks, ms, rfl, hi, arg, q, qe⟩ := h
  have hu := hu_of hr
  have hr24 : Room 24 _ := hr.mono (by decide)
  refine ⟨_, pss_cons (ps_expr (pe_call FC hr24 (by rfl) gC kC bC .nil (passes_call (takes_of rfl rfl rfl rfl) (fun _ _ _ _ h => h)) (pa_cons (pv 1) (pa_cons (pv 2) (pa_cons pe_dnewT pa_nil)))))
    (pss_cons (ps_fld (pv 0) (pe_c cN hr (by decide) (by rfl) (pa_cons (pv 1) pa_nil)) rfl)
    (pss_cons (ps_fld (pv 0) (pe_c cN hr (by decide) (by rfl) (pa_cons (pv 2) pa_nil)) rfl)
    (pss_cons (ps_fld (pv 0) (pe_c cS hr (by decide) (by rfl) (pa_cons (pe_fld (pv 0) rfl) pa_nil)) rfl)
    (pss_cons (ps_fld (pv 0) pe_dnewT rfl)
    (pss_one (ps_for (passes_of rfl) rfl (pi_row (pe_fld (pv 0) rfl)) (pg_tupk K rfl (n := 2) rfl (pgs_cons (pg_name (i := 3) scPI.nd rfl (Or.inl rfl)) (pgs_cons (pg_name (i := 4) scPI.nd rfl (Or.inl rfl)) pgs_nil)))
      (pss_one (ps_for (passes_of rfl) rfl (pi_row (pv 4)) (pg_tupk K rfl (n := 4) rfl (pgs_cons (pg_name (i := 5) scPI.nd rfl (Or.inl rfl)) (pgs_cons (pg_name (i := 6) scPI.nd rfl (Or.inl rfl)) (pgs_cons (pg_name (i := 7) scPI.nd rfl (Or.inl rfl)) (pgs_cons (pg_name (i := 8) scPI.nd rfl (Or.inl rfl)) pgs_nil)))))
        (pss_one (ps_dput hu (pe_fld (pv 0) rfl) (pe_tup (pa_cons (pv 3) (pa_cons (pv 5) pa_nil))) (pe_tup (pa_cons (pv 6) (pa_cons (pv 7) (pa_cons (pv 8) pa_nil)))) rfl)))))))))), ?_⟩
  obtain ⟨ds, eds⟩ := arg.kl
  have hko' := arg.ko
  unfold kindsOk at hko'
  rw [Bool.and_eq_true, Bool.and_eq_true] at hko'
  have hkn := kinds_nodup _ _ _ _ hko'.2.2
  have hke := kinds_each _ _ _ _ hko'.2.2
  have hrk : isRow ks = true := hko'.1
  refine ⟨_, rfl, _, rfl, fun c nc => ⟨v, u, c, ks, ms, rfl, Dx.mono (same_upd nc) arg.k, arg.kf, arg.kl, arg.ko, arg.kt, Dx.mono (same_upd nc) arg.m, arg.mf, upd_same, fun hpf H1 s1 => ?_, fun wd n y e => (qe wd n y e).mono (same_upd nc)⟩⟩
  have s01 := (same_upd (o := .dT []) nc).trans s1
  have hmf : modFault (srtOf (items ks)) ms = none := by
    cases z : modFault (srtOf (items ks)) ms with
    | none => rfl
    | some n =>
      have e : progFault ks ms = some (PyData.none, n, ("modules" : Str)) := by unfold progFault; rw [z]
      rw [e] at hpf
      cases hpf
  obtain ⟨hrow, hlo, hhi, hall⟩ := mods_ok hmf
  have hi1 := s01 _ _ hi
  refine ⟨_, rfl, v, ks, rfl, Dx.mono s01 arg.k, arg.kf, arg.kd, fun kv H2 s2 hkv => ?_⟩
  have hi2 := s2 _ _ hi1
  refine ⟨_, rfl, a, CP, dx, _, rfl, hi2, k.cl, k.kinds, by decide, ?_⟩
  have w2 := SameI.put (C' := CP) (dx' := dx) (fs' := putF "kinds" kv []) hi2
  have hm2 := Dx.monoI w2 (Dx.mono (s01.trans s2) arg.m)
  have hkv2 := Dx.monoI w2 hkv
  refine ⟨_, rfl, u, ms, rfl, hm2, arg.mf, arg.md, fun mv H3 s3 hmv => ?_⟩
  have hi3 := s3 _ _ upd_same
  refine ⟨_, rfl, a, CP, dx, _, rfl, hi3, k.cl, k.modules, by show 1 < 1000; decide, ?_⟩
  have w3 := SameI.put (C' := CP) (dx' := dx) (fs' := putF "modules" mv (putF "kinds" kv [])) hi3
  have hkv3 := Dx.monoI w3 (Dx.mono s3 hkv2)
  have hmv3 := Dx.monoI w3 hmv
  refine ⟨_, rfl, a, CP, dx, _, _, rfl, upd_same, k.cl, k.kinds, by rfl, kv, nestD ks, rfl, hkv3, fit_nest arg.kf, nest_row_row hrk, ?_, ?_, fun H4 p4 s4 np4 hs4 => ?_⟩
  · intro e he
    rw [nest_items hrk] at he
    obtain ⟨e0, he0, rfl⟩ := List.mem_map.mp he
    obtain ⟨x, z, p, rfl⟩ := kinds_row (hke e0 he0).1
    exact ⟨x, z, nestD p, by rw [nest_row rfl]; show PyData.tuple [nestD (.str x), nestD (.str z), nestD p] = _; rw [nest_str, nest_str]⟩
  · rw [nest_items hrk, List.map_map]
    have e : (items ks).map ((fun e => strOf (at0 e)) ∘ nestD) = (items ks).map fun e => strOf (at0 e) := List.map_congr_left fun e0 he0 => by
      obtain ⟨x, z, p, rfl⟩ := kinds_row (hke e0 he0).1
      show strOf (at0 (nestD (.tuple [.str x, .str z, p]))) = _
      rw [nest_row rfl]
      show strOf (nestD (.str x)) = x
      rw [nest_str]
      rfl
    rw [e]
    exact hkn.1
  have hi4 := s4 _ _ upd_same
  refine ⟨_, rfl, a, CP, dx, _, rfl, hi4, k.cl, k.sorts, by show 2 < 1000; decide, ?_⟩
  have w4 := SameI.put (C' := CP) (dx' := dx) (fs' := putF "_sorts" (.ref p4) (putF "modules" mv (putF "kinds" kv []))) hi4
  have hkv4 := Dx.monoI w4 (Dx.mono s4 hkv3)
  have hmv4 := Dx.monoI w4 (Dx.mono s4 hmv3)
  have hs4' := SrtAt.monoI w4 hs4
  refine fun pp npp => ?_
  have spp := same_upd (o := .dT []) npp
  have hi5 := spp _ _ upd_same
  refine ⟨_, rfl, a, CP, dx, _, rfl, hi5, k.cl, k.parts, by show 3 < 1000; decide, ?_⟩
  have w5 := SameI.put (C' := CP) (dx' := dx) (fs' := putF "_parts" (.ref pp) (putF "_sorts" (.ref p4) (putF "modules" mv (putF "kinds" kv [])))) hi5
  have epf : putF "_parts" (.ref pp) (putF "_sorts" (.ref p4) (putF "modules" mv (putF "kinds" kv []))) = pgF kv mv p4 pp := rfl
  rw [epf] at w5 ⊢
  have hkv5 := Dx.monoI w5 (Dx.mono spp hkv4)
  have hmv5 := Dx.monoI w5 (Dx.mono spp hmv4)
  have hs5 := SrtAt.monoI w5 (hs4'.mono spp)
  have npa : pp ≠ a := fun z => by rw [z, upd_same] at npp; cases npp
  have hpp5 := w5.1 _ _ npa upd_same
  have keep5 : ∀ b o, b ≠ a → H b = some o → _ := fun b o nb e => w5.1 _ _ nb (spp _ _ (w4.1 _ _ nb (s4 _ _ (w3.1 _ _ nb (s3 _ _ (w2.1 _ _ nb (s2 _ _ (s01 _ _ e))))))))
  have ha5 : (upd (upd (upd H4 a (.ins CP dx (putF "_sorts" (.ref p4) (putF "modules" mv (putF "kinds" kv []))))) pp (.dT [])) a (.ins CP dx (pgF kv mv p4 pp))) a = some (.ins CP dx (pgF kv mv p4 pp)) := upd_same
  have hppH : H pp = none := by
    cases e : H pp with
    | none => rfl
    | some o => 
      have z := w4.1 _ _ npa (s4 _ _ (w3.1 _ _ npa (s3 _ _ (w2.1 _ _ npa (s2 _ _ (s01 _ _ e))))))
      rw [z] at npp
      cases npp
  generalize upd (upd (upd H4 a (.ins CP dx (putF "_sorts" (.ref p4) (putF "modules" mv (putF "kinds" kv []))))) pp (.dT [])) a (.ins CP dx (pgF kv mv p4 pp)) = H5 at *
  obtain ⟨ar, xs, rfl, hraw, hax⟩ := row_raw hmv5 (nest_row_row hrow)
  rw [nest_items hrow] at hax
  have hlx := hax.len
  rw [List.length_map] at hlx
  have nar : ar ≠ pp := fun z => by rcases hraw with h | h <;> (rw [z, hpp5] at h; cases h)
  refine for_rowW (a := ar) (xs := xs) hraw (fun kk hk => ⟨_, rfl, a, CP, dx, _, _, rfl, ha5, k.cl, k.modules, by rfl, hk⟩) fun J G gs wk => for_it wk
    (fun i σ H' => ∃ (y3 y4 y5 y6 y7 y8 : Option V), σ = [some (.ref a), some v, some u, y3, y4, y5, y6, y7, y8] ∧ SameT pp H5 H' ∧ ∃ kvs, H' pp = some (.dT kvs) ∧ kvs.length ≤ i * 8)
    ⟨none, none, none, none, none, none, rfl, SameT.of (Same.refl H5) hpp5, [], hpp5, Nat.zero_le _⟩ ?_ ?_ ?_
  · rintro i σ H' hi ⟨y3, y4, y5, y6, y7, y8, rfl, g1, g2⟩
    exact gs _ (g1.row hraw)
  · rintro i x σ H6 H7 hi ⟨y3, y4, y5, y6, y7, y8, rfl, g1, kvs0, g2, g3⟩ ⟨rfl, hx⟩
    obtain ⟨m', hm', hdm'⟩ := hax.get hx
    rw [List.getElem?_map] at hm'
    obtain ⟨m, hm, rfl⟩ := Option.map_eq_some_iff.mp hm'
    have hmm := List.mem_of_getElem? hm
    have fm : fit m = true := fitAll_mem (fit_items arg.mf) hmm
    obtain ⟨xm, fd, rfl, hrf, hlf, hfn⟩ := hall m hmm
    rw [nest_row rfl] at hdm'
    have hdm' : Dx K H5 x (.tuple [nestD (.str xm), nestD fd]) := hdm'
    rw [nest_str] at hdm'
    obtain ⟨ae, v0, v1, rfl, hae, hv0, hv1⟩ := pair_at (Dx.monoT g1 hdm')
    obtain rfl := hv0.strOf
    refine ⟨ae, _, rfl, .inl (.inl hae), rfl, _, _, rfl, _, _, rfl, rfl, ?_⟩
    obtain ⟨af, zs, rfl, hrawf, haf⟩ := row_raw hv1 (nest_row_row hrf)
    rw [nest_items hrf] at haf
    have hlf2 := haf.len
    rw [List.length_map] at hlf2
    refine for_rowW (a := af) (xs := zs) hrawf (fun kk hk => ⟨_, rfl, hk⟩) fun J2 G2 gs2 wk2 => for_it wk2
      (fun j σ H' => ∃ (y5 y6 y7 y8 : Option V), σ = [some (.ref a), some v, some u, some (.str xm), some (.ref af), y5, y6, y7, y8] ∧ SameT pp H5 H' ∧ SameT pp H7 H' ∧ ∃ kvs, H' pp = some (.dT kvs) ∧ kvs.length ≤ i * 8 + j)
      ⟨_, _, _, _, rfl, g1, SameT.of (Same.refl _) g2, kvs0, g2, g3⟩ ?_ ?_ ?_
    · rintro j σ H' hj ⟨y5, y6, y7, y8, rfl, k1, k2, k3⟩
      exact gs2 _ (k2.row hrawf)
    · rintro j y σ H8 H9 hj ⟨y5, y6, y7, y8, rfl, k1, k2, kvs, k3, k4⟩ ⟨rfl, hy⟩
      obtain ⟨e', he', hde'⟩ := haf.get hy
      rw [List.getElem?_map] at he'
      obtain ⟨e, he, rfl⟩ := Option.map_eq_some_iff.mp he'
      have hme := List.mem_of_getElem? he
      obtain ⟨x, p, r, b, rfl, _, hh⟩ := hfn e hme
      rw [nest_row rfl] at hde'
      have hde' : Dx K _ y (.tuple [nestD (.str x), nestD p, nestD r, nestD b]) := hde'
      rw [nest_str] at hde'
      obtain ⟨aq, q0, q1, q2, q3, rfl, haq, hq0, hq1, hq2, hq3⟩ := quad_at (Dx.monoT k2 hde')
      obtain rfl := hq0.strOf
      refine ⟨aq, _, rfl, .inl (.inl haq), rfl, _, _, rfl, _, _, rfl, _, _, rfl, _, _, rfl, rfl, ?_⟩
      refine ⟨_, rfl, _, rfl, _, rfl, by show 3 ≤ sizeLine; decide, fun t nt => ⟨_, rfl, a, CP, dx, _, _, rfl, same_upd nt _ _ (k1.1 _ _ (Ne.symm npa) ha5), k.cl, k.parts, by rfl, _, rfl, _, rfl, by show 2 ≤ sizeLine; decide, fun kt nkt => ?_⟩⟩
      have st := same_upd (o := .tup [q1, q2, q3]) nt
      have skt := same_upd (o := .tup [V.str xm, V.str x]) nkt
      have sT := st.trans skt
      have z1' := sT _ _ k3
      have h6 : i < 6 := by omega
      have h8 : j < 8 := by omega
      refine ⟨pp, _, rfl, DPut.t (k := [Sum.inr xm, Sum.inr x]) z1' upd_same (line2000 (by omega)), ?_⟩
      have w1 := (SameT.of sT k3).trans (SameT.put (k' := putK kvs [Sum.inr xm, Sum.inr x] (V.ref t)) z1')
      refine ⟨_, _, _, _, rfl, k1.trans w1, k2.trans w1, _, upd_same, ?_⟩
      have := putK_le kvs [Sum.inr xm, Sum.inr x] (V.ref t)
      omega
    · rintro σ H' ⟨y5, y6, y7, y8, rfl, k1, k2, kvs, k3, k4⟩
      exact ⟨_, _, _, _, _, _, rfl, k1, kvs, k3, by omega⟩
  · rintro σ H' ⟨y3, y4, y5, y6, y7, y8, rfl, g1, kvs, g2, g3⟩
    refine q hpf H' (fun b o nb e => g1.1 _ _ (ne_of_none e hppH) (keep5 b o nb e)) ⟨dx, kv, .ref ar, p4, pp, g1.1 _ _ (Ne.symm npa) ha5, Dx.monoT g1 hkv5, Dx.monoT g1 hmv5, SrtAt.monoT g1 hs5, kvs, g2⟩
end
end Lm

/-! Draws: what a source of drawn numbers hands out, by promise. -/
namespace Lm
open PySem PySem.Spec PyProof.Rows L2
/-- all but one place is as it was -/
def But (a : Addr) (H H' : Hp) : Prop := ∀ b o, b ≠ a → H b = some o → H' b = some o
theorem But.upd (a : Addr) (H : Hp) (o : HO) : But a H (upd H a o) := fun b x hb e => by rw [upd_ne hb]; exact e
section
variable {P : Program} {w : World} {K : PySem.W.Frag} {mg : Str → Option Value} {base : Heap}
/-! ### _law_next -/
/-- a source at a: a list of three ints -/
def SrcAt (H : Hp) (a : Addr) : Prop := ∃ x y z : Int, H a = some (.lst [.int x, .int y, .int z])
def spNext : Sp := fun vs H Q _ => ∃ (a : Addr) (m : Int), vs = [.ref a, .int m] ∧ SrcAt H a ∧ 0 < m ∧ m < 1073741824 ∧
  ∀ (r x y z : Int), 0 ≤ r → r < m → Q (.int r) (upd H a (.lst [.int x, .int y, .int z]))
theorem scNext : FnScope ["_law_source", "_law_many", "_law_found", "_law_prime", "_law_number"] ["_law_source", "_law_many"] (defScope sNext) := ⟨rfl, rfl, rfl, by decide +kernel, rfl, by decide +kernel, by decide +kernel⟩

theorem atThree {x y z : V} : (atI [x, y, z] 0 = some x) ∧ (atI [x, y, z] 1 = some y) ∧ (atI [x, y, z] 2 = some z) := ⟨rfl, rfl, rfl⟩
theorem okNext {f : Addr} {fd : FuncData} {k : Nat} (F : Fun K "_law_next" "_law_next" sNext f fd) (mi : mg "int" = none) : FnOk P w K mg base CX0 (k + 1) f fd ["_law_source", "_law_many"] spNext := by
  refine F.ok scNext (fun vs H Q E h => ?_) (fun cdv A outer s H vs Q E hr h => ?_)
  · obtain ⟨a, m, rfl, _⟩ := h
    rfl
  · obtain ⟨a, m, rfl, ⟨x, y, z, hs⟩, m0, m1, q⟩ := h
    refine ⟨_, pss_cons (ps_if (pt_cmpR op_gt (pe_ix ix_list (pv 0) pe_int (fun _ _ => rfl)) pe_int (nomark _))
        (pss_cons (ps_set (i := 2) scNext.nd rfl (.inl rfl) (pe_op op_mod (pe_callTy call_int1 (by rfl) mi boot_int (pa_cons (pe_ix ix_list (pv 0) pe_int (fun _ _ => rfl)) pa_nil)) (pv 1)))
        (pss_cons (ps_asg (pe_op op_fdiv (pe_ix ix_list (pv 0) pe_int (fun _ _ => rfl)) (pv 1)) (pg_sub (pv 0) pe_int set_list))
        (pss_one (ps_ret (pv 2))))) pss_nil)
      (pss_cons (ps_asg (pe_op op_add (pe_ix ix_list (pv 0) pe_int (fun _ _ => rfl)) pe_int) (pg_sub (pv 0) pe_int set_list))
      (pss_cons (ps_set (i := 3) scNext.nd rfl (.inl rfl) pe_int)
      (pss_cons (ps_set (i := 4) scNext.nd rfl (.inl rfl) (pe_op op_mod (pe_callTy call_int1 (by rfl) mi boot_int (pa_cons (pe_op op_add (pe_op op_add (pe_ix ix_list (pv 0) pe_int (fun _ _ => rfl)) (pe_op op_mul pe_int (pe_ix ix_list (pv 0) pe_int (fun _ _ => rfl)))) pe_int) pa_nil)) (pv 3)))
      (pss_cons (ps_set (i := 4) scNext.nd rfl (.inl rfl) (pe_op op_mod (pe_callTy call_int1 (by rfl) mi boot_int (pa_cons (pe_op op_mul (pv 4) pe_int) pa_nil)) (pv 3)))
      (pss_cons (ps_set (i := 4) scNext.nd rfl (.inl rfl) (pe_op op_mod (pe_callTy call_int1 (by rfl) mi boot_int (pa_cons (pe_op op_mul (pv 4) (pe_op op_add (pe_op op_fdiv (pv 4) pe_int) pe_int)) pa_nil)) (pv 3)))
      (pss_cons (ps_set (i := 4) scNext.nd rfl (.inl rfl) (pe_op op_mod (pe_callTy call_int1 (by rfl) mi boot_int (pa_cons (pe_op op_mul (pv 4) (pe_op op_add (pe_op op_fdiv (pv 4) pe_int) pe_int)) pa_nil)) pe_int))
      (pss_one (ps_ret (pe_op op_mod (pe_callTy call_int1 (by rfl) mi boot_int (pa_cons (pe_op op_fdiv (pv 4) pe_int) pa_nil)) (pv 1)))))))))), ?_⟩
    have L : ∀ {H' : Hp} {l : List V}, H' a = some (.lst l) → SqL K H' a l := fun h => SqL.of h
    refine ⟨_, rfl, a, _, 0, _, rfl, rfl, L hs, rfl, _, _, rfl, rfl, _, rfl, ?_⟩
    refine ite2 (fun _ => ?_) (fun _ => ?_)
    · refine ⟨_, rfl, a, _, 0, _, rfl, rfl, L hs, rfl, .inl ⟨_, rfl, _, rfl, _, _, rfl, rfl, m0, ?_⟩⟩
      refine ⟨_, rfl, a, _, 0, _, rfl, rfl, L hs, rfl, _, rfl, _, _, rfl, rfl, ⟨m0, m1⟩, _, rfl, a, _, 0, 0, rfl, rfl, hs, rfl, ?_⟩
      refine ⟨_, rfl, ?_⟩
      exact q _ _ _ _ (Int.emod_nonneg _ (by omega)) (Int.emod_lt_of_pos _ m0)
    · refine ⟨_, rfl, a, _, 2, _, rfl, rfl, L hs, rfl, _, _, rfl, rfl, _, rfl, a, _, 2, 2, rfl, rfl, hs, rfl, ?_⟩
      have hs2 : (upd H a (.lst (([.int x, .int y, .int z] : List V).set 2 (.int (z + 1))))) a = some (.lst [.int x, .int y, .int (z + 1)]) := upd_same
      refine ⟨_, rfl, a, _, 1, _, rfl, rfl, L hs2, rfl, _, rfl, a, _, 2, _, rfl, rfl, L hs2, rfl, _, _, rfl, rfl, .inl ⟨by decide, by decide⟩, _, _, rfl, rfl, _, _, rfl, rfl, .inl ⟨_, rfl, _, rfl, _, _, rfl, rfl, (by show (0 : Int) < 2147483647; decide), ?_⟩⟩
      have p0 : (0 : Int) < 2147483647 := by decide
      have b1 : ∀ i : Int, -(2 ^ 64) < i % 2147483647 ∧ i % 2147483647 < 2 ^ 64 := fun i => by
        have := Int.emod_nonneg i (show (2147483647 : Int) ≠ 0 by decide)
        have := Int.emod_lt_of_pos i p0
        omega
      refine ⟨_, rfl, _, _, rfl, rfl, .inl (b1 _), .inl ⟨_, rfl, _, rfl, _, _, rfl, rfl, p0, ?_⟩⟩
      refine ⟨_, rfl, _, rfl, _, _, rfl, rfl, ⟨by decide, by decide⟩, _, _, rfl, rfl, _, _, rfl, rfl, .inl (b1 _), .inl ⟨_, rfl, _, rfl, _, _, rfl, rfl, p0, ?_⟩⟩
      refine ⟨_, rfl, _, rfl, _, _, rfl, rfl, ⟨by decide, by decide⟩, _, _, rfl, rfl, _, _, rfl, rfl, .inl (b1 _), .inl ⟨_, rfl, _, _, rfl, rfl, (by show (0 : Int) < 2147483399; decide), ?_⟩⟩
      refine ⟨_, rfl, _, _, rfl, rfl, ⟨by decide, by decide⟩, .inl ⟨_, rfl, _, rfl, _, _, rfl, rfl, m0, ?_⟩⟩
      exact q _ x y (z + 1) (Int.emod_nonneg _ (by omega)) (Int.emod_lt_of_pos _ m0)

/-! ### _law_source_of, _law_cell_at, _law_one, _law_mixed -/
theorem scSrc : FnScope ["_law_cell"] ["_law_cell"] (defScope sSrc) := ⟨rfl, rfl, rfl, by decide +kernel, rfl, by decide +kernel, by decide +kernel⟩
def spSrc : Sp := fun vs H Q _ => ∃ c : Int, vs = [.int c] ∧ ∀ (x y z : Int) (p : Addr), H p = none → Q (.ref p) (upd H p (.lst [.int x, .int y, .int z]))
theorem okSrc {f : Addr} {fd : FuncData} {k : Nat} (F : Fun K "_law_source_of" "_law_source_of" sSrc f fd) (mi : mg "int" = none) : FnOk P w K mg base CX0 (k + 1) f fd ["_law_cell"] spSrc := by
  refine F.ok scSrc (fun vs H Q E h => ?_) (fun cdv A outer s H vs Q E hr h => ?_)
  · obtain ⟨c, rfl, _⟩ := h
    rfl
  · obtain ⟨c, rfl, q⟩ := h
    refine ⟨_, pss_cons (ps_set (i := 0) scSrc.nd rfl (.inl rfl) (pe_ifExp (pt_cmpR op_ge (pv 0) pe_int (nomark _)) (pv 0) (pe_op op_sub (pe_op op_sub pe_int (pe_op op_mul pe_int (pv 0))) pe_int)))
      (pss_one (ps_ret (pe_lst (pa_cons (pe_op op_mul (pv 0) (pe_callTy call_int1 (by rfl) mi boot_int (pa_cons (pe_cmpR op_ge (pv 0) (pe_op op_pow pe_int pe_int) (nomark _)) pa_nil)))
        (pa_cons (pe_op op_mod (pe_callTy call_int1 (by rfl) mi boot_int (pa_cons (pv 0) pa_nil)) pe_int) (pa_cons pe_int pa_nil)))))), ?_⟩
    refine ⟨_, rfl, _, _, rfl, rfl, _, rfl, ?_⟩
    have rest : ∀ c : Int, ∀ t : TS, (t = tRet (tLst (tCons (tOp (rI CMul fun i j => V.int (i * j)) (tVar 0) (tCB (fun xs H Q => (∃ i, xs = [.int i] ∧ Q (.int i) H) ∨ ∃ k, xs = [.bl k] ∧ Q (.int (if k then 1 else 0)) H) (tCons (tOp (rI0 fun i j => V.bl (decide (j ≤ i))) (tVar 0) (tOp (rI CPow fun i j => V.int (i ^ j.toNat)) (tC (.int 10)) (tC (.int 18)))) tNil)))
      (tCons (tOp (rI (fun _ j => 0 < j) fun i j => V.int (i % j)) (tCB (fun xs H Q => (∃ i, xs = [.int i] ∧ Q (.int i) H) ∨ ∃ k, xs = [.bl k] ∧ Q (.int (if k then 1 else 0)) H) (tCons (tVar 0) tNil)) (tC (.int 2147483647))) (tCons (tC (.int 0)) tNil))))) → t { nx := fun _ H' => Q .non H', rt := Q } [some (.int c)] H := by
      rintro c t rfl
      refine ⟨_, rfl, _, rfl, _, _, rfl, rfl, ⟨by decide, by decide, by decide⟩, _, _, rfl, rfl, .inr ⟨_, rfl, _, _, rfl, rfl, .inr ?_, _, rfl, .inl ⟨_, rfl, _, _, rfl, rfl, (by show (0 : Int) < 2147483647; decide), ?_⟩⟩⟩
      · by_cases h : (10 : Int) ^ (18 : Int).toNat ≤ c
        · rw [decide_eq_true h]
          decide
        · rw [decide_eq_false h]
          decide
      · exact ⟨(by show 3 ≤ sizeLine; decide), fun p hp => q _ _ _ p hp⟩
    refine ite2 (fun _ => ?_) (fun _ => ?_)
    · exact ⟨_, rfl, rest _ _ rfl⟩
    · exact ⟨_, rfl, _, _, rfl, rfl, .inl ⟨by decide, by decide⟩, _, _, rfl, rfl, _, _, rfl, rfl, rest _ _ rfl⟩

theorem scCell : FnScope ["_law_script", "_law_k"] ["_law_script", "_law_k"] (defScope sCell) := ⟨rfl, rfl, rfl, by decide +kernel, rfl, by decide +kernel, by decide +kernel⟩
def spCellAt (K : PySem.W.Frag) : Sp := fun vs H Q _ => ∃ (a : Addr) (ns : List Int) (k : Nat), vs = [.ref a, .int k] ∧ SqL K H a (ns.map V.int) ∧ Q (.int (ns.getD k 0)) H
theorem okCell {f : Addr} {fd : FuncData} {k : Nat} (F : Fun K "_law_cell_at" "_law_cell_at" sCell f fd) (ml : mg "len" = none) : FnOk P w K mg base CX0 (k + 1) f fd ["_law_script", "_law_k"] (spCellAt K) := by
  refine F.ok scCell (fun vs H Q E h => ?_) (fun cdv A outer s H vs Q E hr h => ?_)
  · obtain ⟨a, ns, k, rfl, _⟩ := h
    rfl
  · obtain ⟨a, ns, k, rfl, hS, q⟩ := h
    refine ⟨_, pss_cons (ps_if (pt_cmpR op_lt (pv 1) (pe_callB call_len_seq (by rfl) ml boot_len (pa_cons (pv 0) pa_nil)) (nomark _)) (pss_one (ps_ret (pe_ix ix_list (pv 0) (pv 1) (fun _ _ => rfl)))) pss_nil)
      (pss_one (ps_ret pe_int)), ?_⟩
    refine ⟨_, rfl, _, rfl, a, _, rfl, .inl hS, _, _, rfl, rfl, _, rfl, ?_⟩
    refine ite2 (fun h => ?_) (fun h => ?_)
    · have h1 : k < ns.length := by
        have := of_decide_eq_true h
        rw [List.length_map] at this
        omega
      refine ⟨_, rfl, _, rfl, a, _, k, .int ns[k], rfl, rfl, hS, atI_nat ?_, ?_⟩
      · rw [List.getElem?_map, List.getElem?_eq_getElem h1]
        rfl
      · have e : ns.getD k 0 = ns[k] := by rw [List.getD_eq_getElem?_getD, List.getElem?_eq_getElem h1]; rfl
        rw [e] at q
        exact q
    · have h1 : ¬ k < ns.length := fun z => h (decide_eq_true (by rw [List.length_map]; omega))
      have e : ns.getD k 0 = 0 := by rw [List.getD_eq_getElem?_getD, List.getElem?_eq_none (by omega)]; rfl
      rw [e] at q
      exact q
theorem scOne : FnScope ["_law_source", "_law_some"] ["_law_source", "_law_some"] (defScope sOne) := ⟨rfl, rfl, rfl, by decide +kernel, rfl, by decide +kernel, by decide +kernel⟩
def spOne (K : PySem.W.Frag) : Sp := fun vs H Q _ => ∃ (a b : Addr) (xs : List V), vs = [.ref a, .ref b] ∧ SrcAt H a ∧ SqL K H b xs ∧ b ≠ a ∧ xs ≠ [] ∧ xs.length < 1073741824 ∧
  ∀ (r : Nat) (v : V) (x y z : Int), xs[r]? = some v → Q v (upd H a (.lst [.int x, .int y, .int z]))
theorem SqL.upd {H : Hp} {a b : Addr} {o : HO} {xs : List V} (h : SqL K H b xs) (ne : b ≠ a) : SqL K (upd H a o) b xs := by
  rcases h with (h | ⟨u, h⟩) | h
  · exact .inl (.inl (by rw [upd_ne ne]; exact h))
  · exact .inl (.inr ⟨u, by rw [upd_ne ne]; exact h⟩)
  · exact .inr h
theorem okOne {f fN : Addr} {fd fdN : FuncData} {k : Nat} (F : Fun K "_law_one" "_law_one" sOne f fd) (FN : Fun K "_law_next" "_law_next" sNext fN fdN) (bN : Binds K fdN ["_law_source", "_law_many"] []) (gN : mg "_law_next" = some (.ref fN)) (mi : mg "int" = none) (ml : mg "len" = none) :
    FnOk P w K mg base CX0 (k + 2) f fd ["_law_source", "_law_some"] (spOne K) := by
  have GN : FnOk P w K mg base CX0 (k + 1) fN fdN ["_law_source", "_law_many"] spNext := okNext FN mi
  refine F.ok scOne (fun vs H Q E h => ?_) (fun cdv A outer s H vs Q E hr h => ?_)
  · obtain ⟨a, b, xs, rfl, _⟩ := h
    rfl
  · obtain ⟨a, b, xs, rfl, hs, hb, ne, nn, hl, q⟩ := h
    refine ⟨_, pss_one (ps_ret (pe_ix ix_list (pv 1) (pe_call GN hr rfl gN FN.kp bN .nil pass0 (pa_cons (pv 0) (pa_cons (pe_callB call_len_seq (by rfl) ml boot_len (pa_cons (pv 1) pa_nil)) pa_nil))) (fun _ _ => rfl))), ?_⟩
    have pos : 0 < xs.length := List.length_pos_iff.mpr nn
    refine ⟨_, rfl, _, rfl, _, rfl, b, xs, rfl, .inl hb, a, _, rfl, hs, by omega, by omega, fun r x y z r0 r1 => ?_⟩
    have hlt : r.toNat < xs.length := by omega
    refine ⟨b, xs, r, xs[r.toNat], rfl, rfl, SqL.upd hb ne, ?_, q r.toNat _ x y z (List.getElem?_eq_getElem hlt)⟩
    have e : r = (r.toNat : Int) := by omega
    exact at_of e (List.getElem?_eq_getElem hlt)
/-! ### data -/
theorem Dp.all_of {H : Hp} : ∀ {xs : List V}, (∀ x ∈ xs, ∃ d, Dp K H x d ∧ d.canLay0 = true ∧ d.depth ≤ 60) → ∃ ds : List PyData, DpAll K H xs ds ∧ PyData.canLayAll0 ds = true ∧ PyData.depthAll ds ≤ 60 ∧ ds.length = xs.length
  | [], _ => ⟨[], .nil, rfl, by decide, rfl⟩
  | x :: xs, h => by
    obtain ⟨d, h1, h2, h3⟩ := h x (List.mem_cons_self ..)
    obtain ⟨ds, g1, g2, g3, g4⟩ := Dp.all_of (xs := xs) fun y hy => h y (List.mem_cons_of_mem _ hy)
    refine ⟨d :: ds, .cons h1 g1, ?_, ?_, by rw [List.length_cons, List.length_cons, g4]⟩
    · show (d.canLay0 && PyData.canLayAll0 ds) = true
      rw [h2, g2]
      rfl
    · show max d.depth (PyData.depthAll ds) ≤ 60
      omega
theorem scMix : FnScope ["_law_source", "_law_some", "_law_left", "_law_found"] ["_law_source", "_law_some"] (defScope sMix) := ⟨rfl, rfl, rfl, by decide +kernel, rfl, by decide +kernel, by decide +kernel⟩
/-- the items are data, whatever becomes of the source -/
def ItemsOk (K : PySem.W.Frag) (a : Addr) (H : Hp) (xs : List V) : Prop := ∀ x ∈ xs, ∀ H', But a H H' → ∃ d, Dp K H' x d ∧ d.canLay0 = true ∧ d.depth ≤ 60
def spMix (K : PySem.W.Frag) : Sp := fun vs H Q _ => ∃ (a b : Addr) (xs : List V), vs = [.ref a, .ref b] ∧ SrcAt H a ∧ (SqL K H b xs ∨ SqT K H b xs) ∧ xs.length < 1000 ∧ ItemsOk K a H xs ∧
  ∀ (H' : Hp) (p : Addr) (ys : List V), ys.Perm xs → But a H H' → SrcAt H' a → H p = none → H' p = some (.lst ys) → Q (.ref p) H'

theorem ItemsOk.sub {a : Addr} {H H1 : Hp} {xs ys : List V} (h : ItemsOk K a H xs) (b : But a H H1) (m : ∀ y ∈ ys, y ∈ xs) : ItemsOk K a H1 ys := fun y hy H' hb => h y (m y hy) H' fun c o n e => hb c o n (b c o n e)
theorem perm_erase {xs : List V} {j : Nat} {y : V} (h : xs[j]? = some y) : (y :: xs.eraseIdx j).Perm xs := by
  induction xs generalizing j with
  | nil => simp at h
  | cons x r ih =>
    cases j with
    | zero =>
      have e : x = y := Option.some.inj h
      rw [e]
      exact List.Perm.refl _
    | succ j =>
      have h' : r[j]? = some y := h
      exact (List.Perm.swap x y (r.eraseIdx j)).trans (List.Perm.cons x (ih h'))
theorem okMix {f fN : Addr} {fd fdN : FuncData} {k : Nat} (F : Fun K "_law_mixed" "_law_mixed" sMix f fd) (FN : Fun K "_law_next" "_law_next" sNext fN fdN) (bN : Binds K fdN ["_law_source", "_law_many"] []) (gN : mg "_law_next" = some (.ref fN)) (mi : mg "int" = none) (ml : mg "len" = none) (mls : mg "list" = none) :
    FnOk P w K mg base CX0 (k + 2) f fd ["_law_source", "_law_some"] (spMix K) := by
  have GN : FnOk P w K mg base CX0 (k + 1) fN fdN ["_law_source", "_law_many"] spNext := okNext FN mi
  refine F.ok scMix (fun vs H Q E h => ?_) (fun cdv A outer s H vs Q E hr h => ?_)
  · obtain ⟨a, b, xs, rfl, _⟩ := h
    rfl
  · obtain ⟨a, b, xs, rfl, hs, hb, hl, hi, q⟩ := h
    have hu : (A.deeper (envOfC "_law_mixed" (defScope sMix) s.heap.objs.size f cdv)).units + 64 < cLine := hr.units
    refine ⟨_, pss_cons (ps_set (i := 2) scMix.nd rfl (.inl rfl) (pe_callTy call_list_of (by rfl) mls boot_list (pa_cons (pv 1) pa_nil)))
      (pss_cons (ps_set (i := 3) scMix.nd rfl (.inl rfl) (pe_lst pa_nil))
      (pss_cons (ps_while PassesOwn.never (pt_cmpR (op_neD hu) (pv 2) (pe_lst pa_nil) (nomark _))
        (pss_one (ps_expr (pe_bm PySem.F.plainAttrs_list PySem.F.slot_list_append PySem.F.type_list_append mt_append (pv 3)
          (pa_cons (pe_bm PySem.F.plainAttrs_list PySem.F.slot_list_pop PySem.F.type_list_pop mt_popAt (pv 2) (pa_cons (pe_call GN hr rfl gN FN.kp bN .nil pass0 (pa_cons (pv 0) (pa_cons (pe_callB call_len_seq (by rfl) ml boot_len (pa_cons (pv 2) pa_nil)) pa_nil))) pa_nil)) pa_nil)))))
      (pss_one (ps_ret (pv 3))))), ?_⟩
    refine ⟨_, rfl, b, xs, rfl, hb, fun l nl => ⟨by show 0 ≤ sizeLine; exact Nat.zero_le _, fun p np => ?_⟩⟩
    have nlp : l ≠ p := fun e => by
      rw [← e, upd_same] at np
      cases np
    have np0 : H p = none := by
      rw [upd_ne nlp.symm] at np
      exact np
    obtain ⟨x0, y0, z0, hsrc⟩ := id hs
    have nal : a ≠ l := ne_of_none hsrc nl
    have nap : a ≠ p := ne_of_none hsrc np0
    refine while_by (fun σ H1 => ∃ ls fs, σ = [some (.ref a), some (.ref b), some (.ref l), some (.ref p)] ∧ H1 l = some (.lst ls) ∧ H1 p = some (.lst fs) ∧ (fs ++ ls).Perm xs ∧ SrcAt H1 a ∧ But a H H1)
      (fun _ H1 => match H1 l with | some (.lst xs) => xs.length | _ => 0) ⟨xs, [], rfl, by rw [upd_ne nlp, upd_same], upd_same, List.Perm.refl _, ⟨x0, y0, z0, by rw [upd_ne nap, upd_ne nal]; exact hsrc⟩, fun c o _ e => by rw [upd_ne (ne_of_none e np0), upd_ne (ne_of_none e nl)]; exact e⟩ ?_
      (fun σ H Q Q' hq h => by
        obtain ⟨v, e, z, h⟩ := h
        exact ⟨v, e, z, fun p np => let ⟨d, e', h1, h2, h3, h4, k, h5, h6⟩ := h p np; ⟨d, e', h1, h2, h3, h4, k, h5, hq _ _ h6⟩⟩)
    rintro σ H1 ⟨ls, fs, rfl, el, ep, pm, ⟨x1, y1, z1, es⟩, bt⟩
    have mem : ∀ y ∈ ls, y ∈ xs := fun y hy => pm.mem_iff.mp (List.mem_append_right _ hy)
    refine ⟨_, rfl, Nat.zero_le _, fun q1 nq => ?_⟩
    have btq : But a H (upd H1 q1 (.lst [])) := fun c o n e => by
      have e1 := bt c o n e
      rw [upd_ne (ne_of_none e1 nq)]
      exact e1
    obtain ⟨ds, hd, hc, hdp, hdl⟩ := Dp.all_of (K := K) (H := upd H1 q1 (.lst [])) (xs := ls) fun y hy => hi y (mem y hy) _ btq
    have el' : (upd H1 q1 (.lst [])) l = some (.lst ls) := by
      rw [upd_ne (ne_of_none el nq)]
      exact el
    have ep' : (upd H1 q1 (.lst [])) p = some (.lst fs) := by
      rw [upd_ne (ne_of_none ep nq)]
      exact ep
    have es' : (upd H1 q1 (.lst [])) a = some (.lst [.int x1, .int y1, .int z1]) := by
      rw [upd_ne (ne_of_none es nq)]
      exact es
    have sh : SeqAt.shaped (.list ds) = true := by
      show (PyData.canLayAll0 ds && decide (PyData.depthAll ds + 1 ≤ 64)) = true
      rw [hc, decide_eq_true (by omega)]
      rfl
    refine ⟨.list ds, .list [], .lst (.inl (.inl el')) hd, .lst (.inl (.inl upd_same)) .nil, sh, by decide, _, rfl, ?_⟩
    have hcase : PyData.eqv (.list ds) (.list []) = ds.isEmpty := by
      cases ds <;> rfl
    rw [hcase]
    have hlen : (fs ++ ls).length = xs.length := pm.length_eq
    rw [List.length_append] at hlen
    cases ls with
    | nil =>
      have e0 : ds = [] := List.eq_nil_of_length_eq_zero hdl
      subst e0
      refine ⟨_, rfl, q _ p fs ?_ btq ⟨_, _, _, es'⟩ np0 ep'⟩
      rw [List.append_nil] at pm
      exact pm
    | cons y0 r0 =>
      have e0 : ds.isEmpty = false := by
        cases ds with
        | nil => simp at hdl
        | cons _ _ => rfl
      rw [e0]
      have hn : (y0 :: r0).length ≤ xs.length := by omega
      refine ⟨_, rfl, .inl ⟨rfl, fs, .inl (.inl ep')⟩, _, rfl, .inl ⟨rfl, _, .inl (.inl el')⟩, _, rfl, _, rfl, l, _, rfl, .inl (.inl (.inl el')), a, _, rfl, ⟨_, _, _, es'⟩, by simp, by omega, fun r x2 y2 z2 g0 g1 => ?_⟩
      have hlt : r.toNat < (y0 :: r0).length := by omega
      have nla : l ≠ a := nal.symm
      have npa : p ≠ a := nap.symm
      refine ⟨l, y0 :: r0, r, r.toNat, (y0 :: r0)[r.toNat], rfl, rfl, by rw [upd_ne nla]; exact el', by omega, by omega, seqIndex_of g0 g1, List.getElem?_eq_getElem hlt, ?_⟩
      refine ⟨p, fs, _, rfl, rfl, by rw [upd_ne nlp.symm, upd_ne npa]; exact ep', Nat.lt_of_le_of_lt (by omega : fs.length ≤ 1000) (by decide), ⟨(y0 :: r0).eraseIdx r.toNat, fs ++ [(y0 :: r0)[r.toNat]], rfl, by rw [upd_ne nlp, upd_same], upd_same, ?_, ⟨x2, y2, z2, by rw [upd_ne nap, upd_ne nal, upd_same]⟩, fun c o n e => ?_⟩, ?_⟩
      · rw [List.append_assoc]
        exact (List.Perm.append_left fs (perm_erase (List.getElem?_eq_getElem hlt))).trans pm
      · have e1 := btq c o n e
        have c1 : c ≠ l := ne_of_none e nl
        have c2 : c ≠ p := ne_of_none e np0
        rw [upd_ne c2, upd_ne c1, upd_ne n]
        exact e1
      · rw [el]
        rw [upd_ne nlp, upd_same]
        show ((y0 :: r0).eraseIdx r.toNat).length < (y0 :: r0).length
        rw [List.length_eraseIdx_of_lt hlt]
        simp
end
end Lm

/-! The checks, told of a scene of names. -/
namespace Lm
open PySem PySem.Spec PyProof.Rows L2
structure Nm where
  r : Str
  c : Str
  k : Str
  f : Str
  g : Str
  h : Str
  u : Str
  v : Str
  w : Str
  t : Str
  o : Str
  p : Str
  q : Str
structure Nm.Ok (N : Nm) : Prop where
  nr : isNameS N.r = true
  nc : isNameS N.c = true
  nk : isNameS N.k = true
  nf : isNameS N.f = true
  ng : isNameS N.g = true
  nh : isNameS N.h = true
  nu : isNameS N.u = true
  nv : isNameS N.v = true
  nw : isNameS N.w = true
  nt : isNameS N.t = true
  no : isNameS N.o = true
  np : isNameS N.p = true
  nq : isNameS N.q = true
  rc : N.r ≠ N.c
  rk : N.r ≠ N.k
  cr : N.c ≠ N.r
  ck : N.c ≠ N.k
  kr : N.k ≠ N.r
  kc : N.k ≠ N.c
  fg : N.f ≠ N.g
  fh : N.f ≠ N.h
  gf : N.g ≠ N.f
  gh : N.g ≠ N.h
  hf : N.h ≠ N.f
  hg : N.h ≠ N.g
  uv : N.u ≠ N.v
  uw : N.u ≠ N.w
  ut : N.u ≠ N.t
  uo : N.u ≠ N.o
  up : N.u ≠ N.p
  uq : N.u ≠ N.q
  vu : N.v ≠ N.u
  vw : N.v ≠ N.w
  vt : N.v ≠ N.t
  vo : N.v ≠ N.o
  vp : N.v ≠ N.p
  vq : N.v ≠ N.q
  wu : N.w ≠ N.u
  wv : N.w ≠ N.v
  wt : N.w ≠ N.t
  wo : N.w ≠ N.o
  wp : N.w ≠ N.p
  wq : N.w ≠ N.q
  tu : N.t ≠ N.u
  tv : N.t ≠ N.v
  tw : N.t ≠ N.w
  to : N.t ≠ N.o
  tp : N.t ≠ N.p
  tq : N.t ≠ N.q
  ou : N.o ≠ N.u
  ov : N.o ≠ N.v
  ow : N.o ≠ N.w
  ot : N.o ≠ N.t
  op : N.o ≠ N.p
  oq : N.o ≠ N.q
  pu : N.p ≠ N.u
  pv : N.p ≠ N.v
  pw : N.p ≠ N.w
  pt : N.p ≠ N.t
  po : N.p ≠ N.o
  pq : N.p ≠ N.q
  qu : N.q ≠ N.u
  qv : N.q ≠ N.v
  qw : N.q ≠ N.w
  qt : N.q ≠ N.t
  qo : N.q ≠ N.o
  qp : N.q ≠ N.p
  rI : N.r ≠ "item"
  Ir : "item" ≠ N.r
  cI : N.c ≠ "item"
  Ic : "item" ≠ N.c
  kI : N.k ≠ "item"
  Ik : "item" ≠ N.k
@[reducible] def S (x : Str) : PyData := .str x
@[reducible] def T (xs : List PyData) : PyData := .tuple xs
@[reducible] def L (xs : List PyData) : PyData := .list xs
def kindsD (N : Nm) : PyData := L [T [S N.r, S "record", T [T [S N.f, S "item"], T [S N.g, S "item"]]], T [S N.c, S "choice", T [T [S N.f, .none], T [S N.g, S "item"], T [S N.h, S N.r]]], T [S N.k, S "record", T [T [S N.f, S N.r], T [S N.g, S N.c]]]]
def helpD (N : Nm) : PyData := T [S "help", T [T [S "p", S N.r], T [S "q", S "item"]], S "item", T [T [S "return", T [S "q"]]]]
def plainD : PyData := T [S "plain", T [], .none, T []]
def modsD (N : Nm) (b : PyData) : PyData := L [T [S "first", L [T [S "main", T [], .none, b]]], T [S "other", L [helpD N, plainD]]]
def letsD (N : Nm) : List PyData := [T [S "let", S N.u, S N.r], T [S "let", S N.v, S "item"], T [S "let", S N.w, S N.c], T [S "let", S N.t, S N.k]]
def srtN (N : Nm) : Srt := [(N.r, "record", T [T [S N.f, S "item"], T [S N.g, S "item"]]), (N.c, "choice", T [T [S N.f, .none], T [S N.g, S "item"], T [S N.h, S N.r]]), (N.k, "record", T [T [S N.f, S N.r], T [S N.g, S N.c]])]
def hdsN (N : Nm) : Heads := [(("first", "main"), T [], none), (("other", "help"), T [T [S "p", S N.r], T [S "q", S "item"]], some "item"), (("other", "plain"), T [], none)]
def decl4 (N : Nm) : Vars := [(N.u, N.r), (N.v, "item"), (N.w, N.c), (N.t, N.k)]
def stM (N : Nm) (d : Vars) (n : Nat) : Fc := ⟨srtN N, hdsN N, ("first", "main"), none, d, n⟩
theorem srt_N (N : Nm) : srtOf (items (kindsD N)) = srtN N := rfl
theorem heads_N (N : Nm) (b : PyData) : headsOf (items (modsD N b)) = hdsN N := rfl
theorem main_N (N : Nm) (b : PyData) : hasMain (at1 (at0 (modsD N b))) = true := rfl
theorem lk_str (x : Str) (y : Str) {α : Type} (z : α) (r : List (Str × α)) : ((y, z) :: r).lookup x = if x = y then some z else r.lookup x := L2.lk_cons _ _ _ _
section
variable {N : Nm}
theorem kinds_N (h : N.Ok) : kindsOk (kindsD N) = true := by
  simp (decide := true) [kindsOk, kindsD, kindsGo, anyOf, ones, namesOf, szPut, psum, partsFit, anyOk, isNamedRow, namedGo, isHeaded, isOneOf, items, at0, at1, at2, strOf, isNoneD, isRow, isTup, isStr, isTupN, isName, lk_str, h.nr, h.nc, h.nk, h.nf, h.ng, h.nh, h.nu, h.nv, h.nw, h.nt, h.no, h.np, h.nq, h.rc, h.rk, h.cr, h.ck, h.kr, h.kc, h.fg, h.fh, h.gf, h.gh, h.hf, h.hg, h.uv, h.uw, h.ut, h.uo, h.up, h.uq, h.vu, h.vw, h.vt, h.vo, h.vp, h.vq, h.wu, h.wv, h.wt, h.wo, h.wp, h.wq, h.tu, h.tv, h.tw, h.to, h.tp, h.tq, h.ou, h.ov, h.ow, h.ot, h.op, h.oq, h.pu, h.pv, h.pw, h.pt, h.po, h.pq, h.qu, h.qv, h.qw, h.qt, h.qo, h.qp, h.rI, h.Ir, h.cI, h.Ic, h.kI, h.Ik]
theorem tup_N (N : Nm) : SrtTup (srtN N) := by
  intro s hs
  rcases List.mem_cons.mp hs with rfl | hs
  · rfl
  rcases List.mem_cons.mp hs with rfl | hs
  · rfl
  rw [List.mem_singleton.mp hs]
  rfl
theorem mod_N (h : N.Ok) (b : PyData) : modFault (srtN N) (modsD N b) = none := by
  simp (decide := true) [modFault, modGo, isModule, headFits, isKindD, modsD, helpD, plainD, srtN, isNamedRow, namedGo, items, at0, at1, at2, strOf, isNoneD, isRow, isTup, isStr, isTupN, isName, lk_str, h.nr, h.nc, h.nk, h.nf, h.ng, h.nh, h.nu, h.nv, h.nw, h.nt, h.no, h.np, h.nq, h.rc, h.rk, h.cr, h.ck, h.kr, h.kc, h.fg, h.fh, h.gf, h.gh, h.hf, h.hg, h.uv, h.uw, h.ut, h.uo, h.up, h.uq, h.vu, h.vw, h.vt, h.vo, h.vp, h.vq, h.wu, h.wv, h.wt, h.wo, h.wp, h.wq, h.tu, h.tv, h.tw, h.to, h.tp, h.tq, h.ou, h.ov, h.ow, h.ot, h.op, h.oq, h.pu, h.pv, h.pw, h.pt, h.po, h.pq, h.qu, h.qv, h.qw, h.qt, h.qo, h.qp, h.rI, h.Ir, h.cI, h.Ic, h.kI, h.Ik]
end
end Lm

/-! The checks of main's body, told of a scene of names. -/
namespace Lm
open PySem PySem.Spec PyProof.Rows L2
section
variable {N : Nm}
theorem help_N (h : N.Ok) : fnFault (srtN N) (hdsN N) "other" (helpD N) = none := by
  simp (decide := true) [fnFault, helpD, hdsN, headGet, srtN, fc0, sc0, varsOf, varPut, vPut, chkBody, chkRow, chkIn, eachB, bodiesD, bodyWords, reasonD, isStmt, sizesL, namesFit, placesFit, takesD, placeKind, standsRight, addedD, passFc, letSc, innerSc, declD, endsD, wordOf, items, at0, at1, at2, at3, strOf, isNoneD, isRow, isTup, isStr, isTupN, isName, lk_str, h.nr, h.nc, h.nk, h.nf, h.ng, h.nh, h.nu, h.nv, h.nw, h.nt, h.no, h.np, h.nq, h.rc, h.rk, h.cr, h.ck, h.kr, h.kc, h.fg, h.fh, h.gf, h.gh, h.hf, h.hg, h.uv, h.uw, h.ut, h.uo, h.up, h.uq, h.vu, h.vw, h.vt, h.vo, h.vp, h.vq, h.wu, h.wv, h.wt, h.wo, h.wp, h.wq, h.tu, h.tv, h.tw, h.to, h.tp, h.tq, h.ou, h.ov, h.ow, h.ot, h.op, h.oq, h.pu, h.pv, h.pw, h.pt, h.po, h.pq, h.qu, h.qv, h.qw, h.qt, h.qo, h.qp, h.rI, h.Ir, h.cI, h.Ic, h.kI, h.Ik]
theorem plain_N : fnFault (srtN N) (hdsN N) "other" plainD = none := by
  simp (decide := true) [fnFault, plainD, hdsN, headGet, srtN, fc0, sc0, varsOf, varPut, vPut, chkBody, chkRow, isNoneD, items, at0, at1, at2, at3, strOf, isRow]
def told (x : Chk) : Option (PyData × Int × Str) := match x with
  | .error y => some (.tuple [.str "first", .str "main"], (y.1 : Nat), y.2)
  | .ok _ => none
theorem prog_N (h : N.Ok) (b : PyData) : progFault (kindsD N) (modsD N b) = told (chkBody 7 (stM N [] 0) ⟨[], 1, false⟩ b) := by
  have e1 : fnFault (srtN N) (hdsN N) "first" (T [S "main", T [], .none, b]) = (match chkBody 7 (stM N [] 0) ⟨[], 1, false⟩ b with
    | .error x => some ((x.1 : Nat), x.2)
    | .ok _ => none) := by
    show (match chkBody 7 (stM N [] 0) ⟨[], 1, false⟩ b with
      | .error x => some (((x.1 : Nat) : Int), x.2)
      | .ok st => if (!isNoneD .none && !endsD 6 b) = true then some ((st.passed : Nat), "end") else none) = _
    cases chkBody 7 (stM N [] 0) ⟨[], 1, false⟩ b <;> rfl
  have e2 : fnsFault (srtN N) (hdsN N) "other" [helpD N, plainD] = none := by
    unfold fnsFault
    rw [help_N h]
    unfold fnsFault
    rw [plain_N]
    rfl
  unfold progFault
  rw [srt_N, mod_N h, heads_N]
  show (match modsFault (srtN N) (hdsN N) [T [S "first", L [T [S "main", T [], .none, b]]], T [S "other", L [helpD N, plainD]]] with
      | some x => some (PyData.tuple [.str x.1.1, .str x.1.2], x.2)
      | none => none) = _
  have e3 : modsFault (srtN N) (hdsN N) [T [S "first", L [T [S "main", T [], .none, b]]], T [S "other", L [helpD N, plainD]]] = (match chkBody 7 (stM N [] 0) ⟨[], 1, false⟩ b with
    | .error x => some (("first", "main"), (x.1 : Nat), x.2)
    | .ok _ => none) := by
    unfold modsFault
    show (match fnsFault (srtN N) (hdsN N) "first" [T [S "main", T [], .none, b]] with | some x => some x | none => modsFault (srtN N) (hdsN N) [T [S "other", L [helpD N, plainD]]]) = _
    unfold fnsFault
    rw [e1]
    cases chkBody 7 (stM N [] 0) ⟨[], 1, false⟩ b with
    | error x => rfl
    | ok st =>
      show modsFault (srtN N) (hdsN N) [T [S "other", L [helpD N, plainD]]] = none
      unfold modsFault
      show (match fnsFault (srtN N) (hdsN N) "other" [helpD N, plainD] with | some x => some x | none => modsFault (srtN N) (hdsN N) []) = none
      rw [e2]
      rfl
  rw [e3]
  cases chkBody 7 (stM N [] 0) ⟨[], 1, false⟩ b <;> rfl
theorem let_N (cb : Fc → Sc → PyData → Chk) (st : Fc) (sc : Sc) (x y : Str) (r : List PyData) (h : reasonD st sc r.isEmpty (T [S "let", S x, S y]) = none) : chkRow cb st sc (T [S "let", S x, S y] :: r) = chkRow cb ⟨st.srt, st.heads, st.whr, st.result, vPut st.decl x y, st.passed + 1⟩ ⟨vPut sc.vars x y, sc.depth, sc.looped⟩ r := by
  conv => lhs; unfold chkRow
  rw [h]
  rfl
theorem lets_N (h : N.Ok) (b : List PyData) : chkBody 7 (stM N [] 0) ⟨[], 1, false⟩ (L (letsD N ++ b)) = chkRow (chkBody 6) (stM N (decl4 N) 4) ⟨decl4 N, 1, false⟩ b := by
  show chkRow (chkBody 6) (stM N [] 0) ⟨[], 1, false⟩ (letsD N ++ b) = _
  unfold letsD
  have v1 : vPut [] N.u N.r = [(N.u, N.r)] := rfl
  have v2 : vPut [(N.u, N.r)] N.v "item" = [(N.u, N.r), (N.v, "item")] := by simp (decide := true) [vPut, h.nr, h.nc, h.nk, h.nf, h.ng, h.nh, h.nu, h.nv, h.nw, h.nt, h.no, h.np, h.nq, h.rc, h.rk, h.cr, h.ck, h.kr, h.kc, h.fg, h.fh, h.gf, h.gh, h.hf, h.hg, h.uv, h.uw, h.ut, h.uo, h.up, h.uq, h.vu, h.vw, h.vt, h.vo, h.vp, h.vq, h.wu, h.wv, h.wt, h.wo, h.wp, h.wq, h.tu, h.tv, h.tw, h.to, h.tp, h.tq, h.ou, h.ov, h.ow, h.ot, h.op, h.oq, h.pu, h.pv, h.pw, h.pt, h.po, h.pq, h.qu, h.qv, h.qw, h.qt, h.qo, h.qp, h.rI, h.Ir, h.cI, h.Ic, h.kI, h.Ik]
  have v3 : vPut [(N.u, N.r), (N.v, "item")] N.w N.c = [(N.u, N.r), (N.v, "item"), (N.w, N.c)] := by simp (decide := true) [vPut, h.nr, h.nc, h.nk, h.nf, h.ng, h.nh, h.nu, h.nv, h.nw, h.nt, h.no, h.np, h.nq, h.rc, h.rk, h.cr, h.ck, h.kr, h.kc, h.fg, h.fh, h.gf, h.gh, h.hf, h.hg, h.uv, h.uw, h.ut, h.uo, h.up, h.uq, h.vu, h.vw, h.vt, h.vo, h.vp, h.vq, h.wu, h.wv, h.wt, h.wo, h.wp, h.wq, h.tu, h.tv, h.tw, h.to, h.tp, h.tq, h.ou, h.ov, h.ow, h.ot, h.op, h.oq, h.pu, h.pv, h.pw, h.pt, h.po, h.pq, h.qu, h.qv, h.qw, h.qt, h.qo, h.qp, h.rI, h.Ir, h.cI, h.Ic, h.kI, h.Ik]
  have v4 : vPut [(N.u, N.r), (N.v, "item"), (N.w, N.c)] N.t N.k = decl4 N := by simp (decide := true) [vPut, decl4, h.nr, h.nc, h.nk, h.nf, h.ng, h.nh, h.nu, h.nv, h.nw, h.nt, h.no, h.np, h.nq, h.rc, h.rk, h.cr, h.ck, h.kr, h.kc, h.fg, h.fh, h.gf, h.gh, h.hf, h.hg, h.uv, h.uw, h.ut, h.uo, h.up, h.uq, h.vu, h.vw, h.vt, h.vo, h.vp, h.vq, h.wu, h.wv, h.wt, h.wo, h.wp, h.wq, h.tu, h.tv, h.tw, h.to, h.tp, h.tq, h.ou, h.ov, h.ow, h.ot, h.op, h.oq, h.pu, h.pv, h.pw, h.pt, h.po, h.pq, h.qu, h.qv, h.qw, h.qt, h.qo, h.qp, h.rI, h.Ir, h.cI, h.Ic, h.kI, h.Ik]
  rw [List.cons_append, let_N _ _ _ _ _ _ (by simp (decide := true) [reasonD, stM, srtN, isStmt, sizesL, namesFit, isNew, isKindD, placesFit, takesD, placeKind, standsRight, addedD, wordOf, items, at0, at1, at2, at3, strOf, isNoneD, isRow, isTup, isStr, isTupN, isName, lk_str, h.nr, h.nc, h.nk, h.nf, h.ng, h.nh, h.nu, h.nv, h.nw, h.nt, h.no, h.np, h.nq, h.rc, h.rk, h.cr, h.ck, h.kr, h.kc, h.fg, h.fh, h.gf, h.gh, h.hf, h.hg, h.uv, h.uw, h.ut, h.uo, h.up, h.uq, h.vu, h.vw, h.vt, h.vo, h.vp, h.vq, h.wu, h.wv, h.wt, h.wo, h.wp, h.wq, h.tu, h.tv, h.tw, h.to, h.tp, h.tq, h.ou, h.ov, h.ow, h.ot, h.op, h.oq, h.pu, h.pv, h.pw, h.pt, h.po, h.pq, h.qu, h.qv, h.qw, h.qt, h.qo, h.qp, h.rI, h.Ir, h.cI, h.Ic, h.kI, h.Ik])]
  show chkRow (chkBody 6) (stM N (vPut [] N.u N.r) 1) ⟨vPut [] N.u N.r, 1, false⟩ _ = _
  rw [v1, List.cons_append, let_N _ _ _ _ _ _ (by simp (decide := true) [reasonD, stM, srtN, isStmt, sizesL, namesFit, isNew, isKindD, placesFit, takesD, placeKind, standsRight, addedD, wordOf, items, at0, at1, at2, at3, strOf, isNoneD, isRow, isTup, isStr, isTupN, isName, lk_str, h.nr, h.nc, h.nk, h.nf, h.ng, h.nh, h.nu, h.nv, h.nw, h.nt, h.no, h.np, h.nq, h.rc, h.rk, h.cr, h.ck, h.kr, h.kc, h.fg, h.fh, h.gf, h.gh, h.hf, h.hg, h.uv, h.uw, h.ut, h.uo, h.up, h.uq, h.vu, h.vw, h.vt, h.vo, h.vp, h.vq, h.wu, h.wv, h.wt, h.wo, h.wp, h.wq, h.tu, h.tv, h.tw, h.to, h.tp, h.tq, h.ou, h.ov, h.ow, h.ot, h.op, h.oq, h.pu, h.pv, h.pw, h.pt, h.po, h.pq, h.qu, h.qv, h.qw, h.qt, h.qo, h.qp, h.rI, h.Ir, h.cI, h.Ic, h.kI, h.Ik])]
  show chkRow (chkBody 6) (stM N (vPut [(N.u, N.r)] N.v "item") 2) ⟨vPut [(N.u, N.r)] N.v "item", 1, false⟩ _ = _
  rw [v2, List.cons_append, let_N _ _ _ _ _ _ (by simp (decide := true) [reasonD, stM, srtN, isStmt, sizesL, namesFit, isNew, isKindD, placesFit, takesD, placeKind, standsRight, addedD, wordOf, items, at0, at1, at2, at3, strOf, isNoneD, isRow, isTup, isStr, isTupN, isName, lk_str, h.nr, h.nc, h.nk, h.nf, h.ng, h.nh, h.nu, h.nv, h.nw, h.nt, h.no, h.np, h.nq, h.rc, h.rk, h.cr, h.ck, h.kr, h.kc, h.fg, h.fh, h.gf, h.gh, h.hf, h.hg, h.uv, h.uw, h.ut, h.uo, h.up, h.uq, h.vu, h.vw, h.vt, h.vo, h.vp, h.vq, h.wu, h.wv, h.wt, h.wo, h.wp, h.wq, h.tu, h.tv, h.tw, h.to, h.tp, h.tq, h.ou, h.ov, h.ow, h.ot, h.op, h.oq, h.pu, h.pv, h.pw, h.pt, h.po, h.pq, h.qu, h.qv, h.qw, h.qt, h.qo, h.qp, h.rI, h.Ir, h.cI, h.Ic, h.kI, h.Ik])]
  show chkRow (chkBody 6) (stM N (vPut [(N.u, N.r), (N.v, "item")] N.w N.c) 3) ⟨vPut [(N.u, N.r), (N.v, "item")] N.w N.c, 1, false⟩ _ = _
  rw [v3, List.cons_append, let_N _ _ _ _ _ _ (by simp (decide := true) [reasonD, stM, srtN, isStmt, sizesL, namesFit, isNew, isKindD, placesFit, takesD, placeKind, standsRight, addedD, wordOf, items, at0, at1, at2, at3, strOf, isNoneD, isRow, isTup, isStr, isTupN, isName, lk_str, h.nr, h.nc, h.nk, h.nf, h.ng, h.nh, h.nu, h.nv, h.nw, h.nt, h.no, h.np, h.nq, h.rc, h.rk, h.cr, h.ck, h.kr, h.kc, h.fg, h.fh, h.gf, h.gh, h.hf, h.hg, h.uv, h.uw, h.ut, h.uo, h.up, h.uq, h.vu, h.vw, h.vt, h.vo, h.vp, h.vq, h.wu, h.wv, h.wt, h.wo, h.wp, h.wq, h.tu, h.tv, h.tw, h.to, h.tp, h.tq, h.ou, h.ov, h.ow, h.ot, h.op, h.oq, h.pu, h.pv, h.pw, h.pt, h.po, h.pq, h.qu, h.qv, h.qw, h.qt, h.qo, h.qp, h.rI, h.Ir, h.cI, h.Ic, h.kI, h.Ik])]
  show chkRow (chkBody 6) (stM N (vPut [(N.u, N.r), (N.v, "item"), (N.w, N.c)] N.t N.k) 4) ⟨vPut [(N.u, N.r), (N.v, "item"), (N.w, N.c)] N.t N.k, 1, false⟩ _ = _
  rw [v4]
  rfl
end
end Lm

/-! The rows of a match: what is due. -/
namespace Lm
open PySem PySem.Spec PyProof.Rows L2
def dueN (n : Int) (y : Str) : Option (PyData × Int × Str) := some (.tuple [.str "first", .str "main"], n, y)
def mainD (N : Nm) (b : List PyData) : Option (PyData × Int × Str) := told (chkRow (chkBody 6) (stM N (decl4 N) 4) ⟨decl4 N, 1, false⟩ b)
theorem main_D {N : Nm} (h : N.Ok) (b : List PyData) : progFault (kindsD N) (modsD N (L (letsD N ++ b))) = mainD N b := by
  rw [prog_N h, lets_N h]
  rfl
section
variable {N : Nm}
theorem row_0 (h : N.Ok) : mainD N [T [S "match", T [S N.w], L [T [.none, T []], T [S N.o, T []], T [S N.p, L []]]]] = none := by
  simp (decide := true) [told, mainD, chkRow, chkIn, chkBody, eachA, eachB, bodiesD, bodyWords, armSc, passFc, letSc, innerSc, declD, declGo, vPut, reasonD, stM, srtN, decl4, isStmt, sizesL, namesFit, armNamesFit, armNames, isNew, isKindD, isChoiceD, okD, placesFit, armsFit, armsGo, takesD, placeKind, fieldKind, partOf, standsRight, addedD, wordOf, items, at0, at1, at2, at3, strOf, isNoneD, isRow, isTup, isStr, isTupN, isName, lk_str, dueN, h.nr, h.nc, h.nk, h.nf, h.ng, h.nh, h.nu, h.nv, h.nw, h.nt, h.no, h.np, h.nq, h.rc, h.rk, h.cr, h.ck, h.kr, h.kc, h.fg, h.fh, h.gf, h.gh, h.hf, h.hg, h.uv, h.uw, h.ut, h.uo, h.up, h.uq, h.vu, h.vw, h.vt, h.vo, h.vp, h.vq, h.wu, h.wv, h.wt, h.wo, h.wp, h.wq, h.tu, h.tv, h.tw, h.to, h.tp, h.tq, h.ou, h.ov, h.ow, h.ot, h.op, h.oq, h.pu, h.pv, h.pw, h.pt, h.po, h.pq, h.qu, h.qv, h.qw, h.qt, h.qo, h.qp, h.rI, h.Ir, h.cI, h.Ic, h.kI, h.Ik]
theorem row_1 (h : N.Ok) : mainD N [T [S "match", T [S N.w], T [T [.none, T []], T [S N.o, T []], T [S N.p, L []]]]] = none := by
  simp (decide := true) [told, mainD, chkRow, chkIn, chkBody, eachA, eachB, bodiesD, bodyWords, armSc, passFc, letSc, innerSc, declD, declGo, vPut, reasonD, stM, srtN, decl4, isStmt, sizesL, namesFit, armNamesFit, armNames, isNew, isKindD, isChoiceD, okD, placesFit, armsFit, armsGo, takesD, placeKind, fieldKind, partOf, standsRight, addedD, wordOf, items, at0, at1, at2, at3, strOf, isNoneD, isRow, isTup, isStr, isTupN, isName, lk_str, dueN, h.nr, h.nc, h.nk, h.nf, h.ng, h.nh, h.nu, h.nv, h.nw, h.nt, h.no, h.np, h.nq, h.rc, h.rk, h.cr, h.ck, h.kr, h.kc, h.fg, h.fh, h.gf, h.gh, h.hf, h.hg, h.uv, h.uw, h.ut, h.uo, h.up, h.uq, h.vu, h.vw, h.vt, h.vo, h.vp, h.vq, h.wu, h.wv, h.wt, h.wo, h.wp, h.wq, h.tu, h.tv, h.tw, h.to, h.tp, h.tq, h.ou, h.ov, h.ow, h.ot, h.op, h.oq, h.pu, h.pv, h.pw, h.pt, h.po, h.pq, h.qu, h.qv, h.qw, h.qt, h.qo, h.qp, h.rI, h.Ir, h.cI, h.Ic, h.kI, h.Ik]
theorem row_2 (h : N.Ok) : mainD N [T [S "match", T [S N.t, S N.g], L [T [.none, T []], T [S N.o, T []], T [S N.p, L []]]]] = none := by
  simp (decide := true) [told, mainD, chkRow, chkIn, chkBody, eachA, eachB, bodiesD, bodyWords, armSc, passFc, letSc, innerSc, declD, declGo, vPut, reasonD, stM, srtN, decl4, isStmt, sizesL, namesFit, armNamesFit, armNames, isNew, isKindD, isChoiceD, okD, placesFit, armsFit, armsGo, takesD, placeKind, fieldKind, partOf, standsRight, addedD, wordOf, items, at0, at1, at2, at3, strOf, isNoneD, isRow, isTup, isStr, isTupN, isName, lk_str, dueN, h.nr, h.nc, h.nk, h.nf, h.ng, h.nh, h.nu, h.nv, h.nw, h.nt, h.no, h.np, h.nq, h.rc, h.rk, h.cr, h.ck, h.kr, h.kc, h.fg, h.fh, h.gf, h.gh, h.hf, h.hg, h.uv, h.uw, h.ut, h.uo, h.up, h.uq, h.vu, h.vw, h.vt, h.vo, h.vp, h.vq, h.wu, h.wv, h.wt, h.wo, h.wp, h.wq, h.tu, h.tv, h.tw, h.to, h.tp, h.tq, h.ou, h.ov, h.ow, h.ot, h.op, h.oq, h.pu, h.pv, h.pw, h.pt, h.po, h.pq, h.qu, h.qv, h.qw, h.qt, h.qo, h.qp, h.rI, h.Ir, h.cI, h.Ic, h.kI, h.Ik]
theorem row_3 (h : N.Ok) : mainD N [T [S "match", T [S N.t, S N.f], L [T [.none, T []], T [S N.o, T []], T [S N.p, L []]]]] = dueN 4 "place" := by
  simp (decide := true) [told, mainD, chkRow, chkIn, chkBody, eachA, eachB, bodiesD, bodyWords, armSc, passFc, letSc, innerSc, declD, declGo, vPut, reasonD, stM, srtN, decl4, isStmt, sizesL, namesFit, armNamesFit, armNames, isNew, isKindD, isChoiceD, okD, placesFit, armsFit, armsGo, takesD, placeKind, fieldKind, partOf, standsRight, addedD, wordOf, items, at0, at1, at2, at3, strOf, isNoneD, isRow, isTup, isStr, isTupN, isName, lk_str, dueN, h.nr, h.nc, h.nk, h.nf, h.ng, h.nh, h.nu, h.nv, h.nw, h.nt, h.no, h.np, h.nq, h.rc, h.rk, h.cr, h.ck, h.kr, h.kc, h.fg, h.fh, h.gf, h.gh, h.hf, h.hg, h.uv, h.uw, h.ut, h.uo, h.up, h.uq, h.vu, h.vw, h.vt, h.vo, h.vp, h.vq, h.wu, h.wv, h.wt, h.wo, h.wp, h.wq, h.tu, h.tv, h.tw, h.to, h.tp, h.tq, h.ou, h.ov, h.ow, h.ot, h.op, h.oq, h.pu, h.pv, h.pw, h.pt, h.po, h.pq, h.qu, h.qv, h.qw, h.qt, h.qo, h.qp, h.rI, h.Ir, h.cI, h.Ic, h.kI, h.Ik]
theorem row_4 (h : N.Ok) : mainD N [T [S "match", T [S N.u], L [T [.none, T []], T [S N.o, T []], T [S N.p, L []]]]] = dueN 4 "place" := by
  simp (decide := true) [told, mainD, chkRow, chkIn, chkBody, eachA, eachB, bodiesD, bodyWords, armSc, passFc, letSc, innerSc, declD, declGo, vPut, reasonD, stM, srtN, decl4, isStmt, sizesL, namesFit, armNamesFit, armNames, isNew, isKindD, isChoiceD, okD, placesFit, armsFit, armsGo, takesD, placeKind, fieldKind, partOf, standsRight, addedD, wordOf, items, at0, at1, at2, at3, strOf, isNoneD, isRow, isTup, isStr, isTupN, isName, lk_str, dueN, h.nr, h.nc, h.nk, h.nf, h.ng, h.nh, h.nu, h.nv, h.nw, h.nt, h.no, h.np, h.nq, h.rc, h.rk, h.cr, h.ck, h.kr, h.kc, h.fg, h.fh, h.gf, h.gh, h.hf, h.hg, h.uv, h.uw, h.ut, h.uo, h.up, h.uq, h.vu, h.vw, h.vt, h.vo, h.vp, h.vq, h.wu, h.wv, h.wt, h.wo, h.wp, h.wq, h.tu, h.tv, h.tw, h.to, h.tp, h.tq, h.ou, h.ov, h.ow, h.ot, h.op, h.oq, h.pu, h.pv, h.pw, h.pt, h.po, h.pq, h.qu, h.qv, h.qw, h.qt, h.qo, h.qp, h.rI, h.Ir, h.cI, h.Ic, h.kI, h.Ik]
theorem row_5 (h : N.Ok) : mainD N [T [S "match", T [S N.o], L [T [.none, T []], T [S N.o, T []], T [S N.p, L []]]]] = dueN 4 "place" := by
  simp (decide := true) [told, mainD, chkRow, chkIn, chkBody, eachA, eachB, bodiesD, bodyWords, armSc, passFc, letSc, innerSc, declD, declGo, vPut, reasonD, stM, srtN, decl4, isStmt, sizesL, namesFit, armNamesFit, armNames, isNew, isKindD, isChoiceD, okD, placesFit, armsFit, armsGo, takesD, placeKind, fieldKind, partOf, standsRight, addedD, wordOf, items, at0, at1, at2, at3, strOf, isNoneD, isRow, isTup, isStr, isTupN, isName, lk_str, dueN, h.nr, h.nc, h.nk, h.nf, h.ng, h.nh, h.nu, h.nv, h.nw, h.nt, h.no, h.np, h.nq, h.rc, h.rk, h.cr, h.ck, h.kr, h.kc, h.fg, h.fh, h.gf, h.gh, h.hf, h.hg, h.uv, h.uw, h.ut, h.uo, h.up, h.uq, h.vu, h.vw, h.vt, h.vo, h.vp, h.vq, h.wu, h.wv, h.wt, h.wo, h.wp, h.wq, h.tu, h.tv, h.tw, h.to, h.tp, h.tq, h.ou, h.ov, h.ow, h.ot, h.op, h.oq, h.pu, h.pv, h.pw, h.pt, h.po, h.pq, h.qu, h.qv, h.qw, h.qt, h.qo, h.qp, h.rI, h.Ir, h.cI, h.Ic, h.kI, h.Ik]
theorem row_6 (h : N.Ok) : mainD N [T [S "match", T [S N.w, S N.f], L [T [.none, T []], T [S N.o, T []], T [S N.p, L []]]]] = dueN 4 "place" := by
  simp (decide := true) [told, mainD, chkRow, chkIn, chkBody, eachA, eachB, bodiesD, bodyWords, armSc, passFc, letSc, innerSc, declD, declGo, vPut, reasonD, stM, srtN, decl4, isStmt, sizesL, namesFit, armNamesFit, armNames, isNew, isKindD, isChoiceD, okD, placesFit, armsFit, armsGo, takesD, placeKind, fieldKind, partOf, standsRight, addedD, wordOf, items, at0, at1, at2, at3, strOf, isNoneD, isRow, isTup, isStr, isTupN, isName, lk_str, dueN, h.nr, h.nc, h.nk, h.nf, h.ng, h.nh, h.nu, h.nv, h.nw, h.nt, h.no, h.np, h.nq, h.rc, h.rk, h.cr, h.ck, h.kr, h.kc, h.fg, h.fh, h.gf, h.gh, h.hf, h.hg, h.uv, h.uw, h.ut, h.uo, h.up, h.uq, h.vu, h.vw, h.vt, h.vo, h.vp, h.vq, h.wu, h.wv, h.wt, h.wo, h.wp, h.wq, h.tu, h.tv, h.tw, h.to, h.tp, h.tq, h.ou, h.ov, h.ow, h.ot, h.op, h.oq, h.pu, h.pv, h.pw, h.pt, h.po, h.pq, h.qu, h.qv, h.qw, h.qt, h.qo, h.qp, h.rI, h.Ir, h.cI, h.Ic, h.kI, h.Ik]
theorem row_7 (h : N.Ok) : mainD N [T [S "match", .none, L [T [.none, T []], T [S N.o, T []], T [S N.p, L []]]]] = dueN 4 "place" := by
  simp (decide := true) [told, mainD, chkRow, chkIn, chkBody, eachA, eachB, bodiesD, bodyWords, armSc, passFc, letSc, innerSc, declD, declGo, vPut, reasonD, stM, srtN, decl4, isStmt, sizesL, namesFit, armNamesFit, armNames, isNew, isKindD, isChoiceD, okD, placesFit, armsFit, armsGo, takesD, placeKind, fieldKind, partOf, standsRight, addedD, wordOf, items, at0, at1, at2, at3, strOf, isNoneD, isRow, isTup, isStr, isTupN, isName, lk_str, dueN, h.nr, h.nc, h.nk, h.nf, h.ng, h.nh, h.nu, h.nv, h.nw, h.nt, h.no, h.np, h.nq, h.rc, h.rk, h.cr, h.ck, h.kr, h.kc, h.fg, h.fh, h.gf, h.gh, h.hf, h.hg, h.uv, h.uw, h.ut, h.uo, h.up, h.uq, h.vu, h.vw, h.vt, h.vo, h.vp, h.vq, h.wu, h.wv, h.wt, h.wo, h.wp, h.wq, h.tu, h.tv, h.tw, h.to, h.tp, h.tq, h.ou, h.ov, h.ow, h.ot, h.op, h.oq, h.pu, h.pv, h.pw, h.pt, h.po, h.pq, h.qu, h.qv, h.qw, h.qt, h.qo, h.qp, h.rI, h.Ir, h.cI, h.Ic, h.kI, h.Ik]
theorem row_8 (h : N.Ok) : mainD N [T [S "match", T [S N.t], L [T [.none, T []], T [S N.o, T []], T [S N.p, L []]]]] = dueN 4 "place" := by
  simp (decide := true) [told, mainD, chkRow, chkIn, chkBody, eachA, eachB, bodiesD, bodyWords, armSc, passFc, letSc, innerSc, declD, declGo, vPut, reasonD, stM, srtN, decl4, isStmt, sizesL, namesFit, armNamesFit, armNames, isNew, isKindD, isChoiceD, okD, placesFit, armsFit, armsGo, takesD, placeKind, fieldKind, partOf, standsRight, addedD, wordOf, items, at0, at1, at2, at3, strOf, isNoneD, isRow, isTup, isStr, isTupN, isName, lk_str, dueN, h.nr, h.nc, h.nk, h.nf, h.ng, h.nh, h.nu, h.nv, h.nw, h.nt, h.no, h.np, h.nq, h.rc, h.rk, h.cr, h.ck, h.kr, h.kc, h.fg, h.fh, h.gf, h.gh, h.hf, h.hg, h.uv, h.uw, h.ut, h.uo, h.up, h.uq, h.vu, h.vw, h.vt, h.vo, h.vp, h.vq, h.wu, h.wv, h.wt, h.wo, h.wp, h.wq, h.tu, h.tv, h.tw, h.to, h.tp, h.tq, h.ou, h.ov, h.ow, h.ot, h.op, h.oq, h.pu, h.pv, h.pw, h.pt, h.po, h.pq, h.qu, h.qv, h.qw, h.qt, h.qo, h.qp, h.rI, h.Ir, h.cI, h.Ic, h.kI, h.Ik]
theorem row_9 (h : N.Ok) : mainD N [T [S "match", .int 5, .int 5]] = dueN 4 "place" := by
  simp (decide := true) [told, mainD, chkRow, chkIn, chkBody, eachA, eachB, bodiesD, bodyWords, armSc, passFc, letSc, innerSc, declD, declGo, vPut, reasonD, stM, srtN, decl4, isStmt, sizesL, namesFit, armNamesFit, armNames, isNew, isKindD, isChoiceD, okD, placesFit, armsFit, armsGo, takesD, placeKind, fieldKind, partOf, standsRight, addedD, wordOf, items, at0, at1, at2, at3, strOf, isNoneD, isRow, isTup, isStr, isTupN, isName, lk_str, dueN, h.nr, h.nc, h.nk, h.nf, h.ng, h.nh, h.nu, h.nv, h.nw, h.nt, h.no, h.np, h.nq, h.rc, h.rk, h.cr, h.ck, h.kr, h.kc, h.fg, h.fh, h.gf, h.gh, h.hf, h.hg, h.uv, h.uw, h.ut, h.uo, h.up, h.uq, h.vu, h.vw, h.vt, h.vo, h.vp, h.vq, h.wu, h.wv, h.wt, h.wo, h.wp, h.wq, h.tu, h.tv, h.tw, h.to, h.tp, h.tq, h.ou, h.ov, h.ow, h.ot, h.op, h.oq, h.pu, h.pv, h.pw, h.pt, h.po, h.pq, h.qu, h.qv, h.qw, h.qt, h.qo, h.qp, h.rI, h.Ir, h.cI, h.Ic, h.kI, h.Ik]
theorem row_10 (h : N.Ok) : mainD N [T [S "match", T [S N.t, S N.g, S N.f], L [T [.none, T []], T [S N.o, T []], T [S N.p, L []]]]] = dueN 4 "place" := by
  simp (decide := true) [told, mainD, chkRow, chkIn, chkBody, eachA, eachB, bodiesD, bodyWords, armSc, passFc, letSc, innerSc, declD, declGo, vPut, reasonD, stM, srtN, decl4, isStmt, sizesL, namesFit, armNamesFit, armNames, isNew, isKindD, isChoiceD, okD, placesFit, armsFit, armsGo, takesD, placeKind, fieldKind, partOf, standsRight, addedD, wordOf, items, at0, at1, at2, at3, strOf, isNoneD, isRow, isTup, isStr, isTupN, isName, lk_str, dueN, h.nr, h.nc, h.nk, h.nf, h.ng, h.nh, h.nu, h.nv, h.nw, h.nt, h.no, h.np, h.nq, h.rc, h.rk, h.cr, h.ck, h.kr, h.kc, h.fg, h.fh, h.gf, h.gh, h.hf, h.hg, h.uv, h.uw, h.ut, h.uo, h.up, h.uq, h.vu, h.vw, h.vt, h.vo, h.vp, h.vq, h.wu, h.wv, h.wt, h.wo, h.wp, h.wq, h.tu, h.tv, h.tw, h.to, h.tp, h.tq, h.ou, h.ov, h.ow, h.ot, h.op, h.oq, h.pu, h.pv, h.pw, h.pt, h.po, h.pq, h.qu, h.qv, h.qw, h.qt, h.qo, h.qp, h.rI, h.Ir, h.cI, h.Ic, h.kI, h.Ik]
theorem row_11 (h : N.Ok) : mainD N [T [S "match", L [S N.w], L [T [.none, T []], T [S N.o, T []], T [S N.p, L []]]]] = dueN 4 "place" := by
  simp (decide := true) [told, mainD, chkRow, chkIn, chkBody, eachA, eachB, bodiesD, bodyWords, armSc, passFc, letSc, innerSc, declD, declGo, vPut, reasonD, stM, srtN, decl4, isStmt, sizesL, namesFit, armNamesFit, armNames, isNew, isKindD, isChoiceD, okD, placesFit, armsFit, armsGo, takesD, placeKind, fieldKind, partOf, standsRight, addedD, wordOf, items, at0, at1, at2, at3, strOf, isNoneD, isRow, isTup, isStr, isTupN, isName, lk_str, dueN, h.nr, h.nc, h.nk, h.nf, h.ng, h.nh, h.nu, h.nv, h.nw, h.nt, h.no, h.np, h.nq, h.rc, h.rk, h.cr, h.ck, h.kr, h.kc, h.fg, h.fh, h.gf, h.gh, h.hf, h.hg, h.uv, h.uw, h.ut, h.uo, h.up, h.uq, h.vu, h.vw, h.vt, h.vo, h.vp, h.vq, h.wu, h.wv, h.wt, h.wo, h.wp, h.wq, h.tu, h.tv, h.tw, h.to, h.tp, h.tq, h.ou, h.ov, h.ow, h.ot, h.op, h.oq, h.pu, h.pv, h.pw, h.pt, h.po, h.pq, h.qu, h.qv, h.qw, h.qt, h.qo, h.qp, h.rI, h.Ir, h.cI, h.Ic, h.kI, h.Ik]
theorem row_12 (h : N.Ok) : mainD N [T [S "match", T [S N.w], .none]] = dueN 4 "arms" := by
  simp (decide := true) [told, mainD, chkRow, chkIn, chkBody, eachA, eachB, bodiesD, bodyWords, armSc, passFc, letSc, innerSc, declD, declGo, vPut, reasonD, stM, srtN, decl4, isStmt, sizesL, namesFit, armNamesFit, armNames, isNew, isKindD, isChoiceD, okD, placesFit, armsFit, armsGo, takesD, placeKind, fieldKind, partOf, standsRight, addedD, wordOf, items, at0, at1, at2, at3, strOf, isNoneD, isRow, isTup, isStr, isTupN, isName, lk_str, dueN, h.nr, h.nc, h.nk, h.nf, h.ng, h.nh, h.nu, h.nv, h.nw, h.nt, h.no, h.np, h.nq, h.rc, h.rk, h.cr, h.ck, h.kr, h.kc, h.fg, h.fh, h.gf, h.gh, h.hf, h.hg, h.uv, h.uw, h.ut, h.uo, h.up, h.uq, h.vu, h.vw, h.vt, h.vo, h.vp, h.vq, h.wu, h.wv, h.wt, h.wo, h.wp, h.wq, h.tu, h.tv, h.tw, h.to, h.tp, h.tq, h.ou, h.ov, h.ow, h.ot, h.op, h.oq, h.pu, h.pv, h.pw, h.pt, h.po, h.pq, h.qu, h.qv, h.qw, h.qt, h.qo, h.qp, h.rI, h.Ir, h.cI, h.Ic, h.kI, h.Ik]
theorem row_13 (h : N.Ok) : mainD N [T [S "match", T [S N.w], .int 5]] = dueN 4 "arms" := by
  simp (decide := true) [told, mainD, chkRow, chkIn, chkBody, eachA, eachB, bodiesD, bodyWords, armSc, passFc, letSc, innerSc, declD, declGo, vPut, reasonD, stM, srtN, decl4, isStmt, sizesL, namesFit, armNamesFit, armNames, isNew, isKindD, isChoiceD, okD, placesFit, armsFit, armsGo, takesD, placeKind, fieldKind, partOf, standsRight, addedD, wordOf, items, at0, at1, at2, at3, strOf, isNoneD, isRow, isTup, isStr, isTupN, isName, lk_str, dueN, h.nr, h.nc, h.nk, h.nf, h.ng, h.nh, h.nu, h.nv, h.nw, h.nt, h.no, h.np, h.nq, h.rc, h.rk, h.cr, h.ck, h.kr, h.kc, h.fg, h.fh, h.gf, h.gh, h.hf, h.hg, h.uv, h.uw, h.ut, h.uo, h.up, h.uq, h.vu, h.vw, h.vt, h.vo, h.vp, h.vq, h.wu, h.wv, h.wt, h.wo, h.wp, h.wq, h.tu, h.tv, h.tw, h.to, h.tp, h.tq, h.ou, h.ov, h.ow, h.ot, h.op, h.oq, h.pu, h.pv, h.pw, h.pt, h.po, h.pq, h.qu, h.qv, h.qw, h.qt, h.qo, h.qp, h.rI, h.Ir, h.cI, h.Ic, h.kI, h.Ik]
theorem row_14 (h : N.Ok) : mainD N [T [S "match", T [S N.w], S "arms"]] = dueN 4 "arms" := by
  simp (decide := true) [told, mainD, chkRow, chkIn, chkBody, eachA, eachB, bodiesD, bodyWords, armSc, passFc, letSc, innerSc, declD, declGo, vPut, reasonD, stM, srtN, decl4, isStmt, sizesL, namesFit, armNamesFit, armNames, isNew, isKindD, isChoiceD, okD, placesFit, armsFit, armsGo, takesD, placeKind, fieldKind, partOf, standsRight, addedD, wordOf, items, at0, at1, at2, at3, strOf, isNoneD, isRow, isTup, isStr, isTupN, isName, lk_str, dueN, h.nr, h.nc, h.nk, h.nf, h.ng, h.nh, h.nu, h.nv, h.nw, h.nt, h.no, h.np, h.nq, h.rc, h.rk, h.cr, h.ck, h.kr, h.kc, h.fg, h.fh, h.gf, h.gh, h.hf, h.hg, h.uv, h.uw, h.ut, h.uo, h.up, h.uq, h.vu, h.vw, h.vt, h.vo, h.vp, h.vq, h.wu, h.wv, h.wt, h.wo, h.wp, h.wq, h.tu, h.tv, h.tw, h.to, h.tp, h.tq, h.ou, h.ov, h.ow, h.ot, h.op, h.oq, h.pu, h.pv, h.pw, h.pt, h.po, h.pq, h.qu, h.qv, h.qw, h.qt, h.qo, h.qp, h.rI, h.Ir, h.cI, h.Ic, h.kI, h.Ik]
theorem row_15 (h : N.Ok) : mainD N [T [S "match", T [S N.w], .dict []]] = dueN 4 "arms" := by
  simp (decide := true) [told, mainD, chkRow, chkIn, chkBody, eachA, eachB, bodiesD, bodyWords, armSc, passFc, letSc, innerSc, declD, declGo, vPut, reasonD, stM, srtN, decl4, isStmt, sizesL, namesFit, armNamesFit, armNames, isNew, isKindD, isChoiceD, okD, placesFit, armsFit, armsGo, takesD, placeKind, fieldKind, partOf, standsRight, addedD, wordOf, items, at0, at1, at2, at3, strOf, isNoneD, isRow, isTup, isStr, isTupN, isName, lk_str, dueN, h.nr, h.nc, h.nk, h.nf, h.ng, h.nh, h.nu, h.nv, h.nw, h.nt, h.no, h.np, h.nq, h.rc, h.rk, h.cr, h.ck, h.kr, h.kc, h.fg, h.fh, h.gf, h.gh, h.hf, h.hg, h.uv, h.uw, h.ut, h.uo, h.up, h.uq, h.vu, h.vw, h.vt, h.vo, h.vp, h.vq, h.wu, h.wv, h.wt, h.wo, h.wp, h.wq, h.tu, h.tv, h.tw, h.to, h.tp, h.tq, h.ou, h.ov, h.ow, h.ot, h.op, h.oq, h.pu, h.pv, h.pw, h.pt, h.po, h.pq, h.qu, h.qv, h.qw, h.qt, h.qo, h.qp, h.rI, h.Ir, h.cI, h.Ic, h.kI, h.Ik]
theorem row_16 (h : N.Ok) : mainD N [T [S "match", T [S N.w], L []]] = dueN 4 "arms" := by
  simp (decide := true) [told, mainD, chkRow, chkIn, chkBody, eachA, eachB, bodiesD, bodyWords, armSc, passFc, letSc, innerSc, declD, declGo, vPut, reasonD, stM, srtN, decl4, isStmt, sizesL, namesFit, armNamesFit, armNames, isNew, isKindD, isChoiceD, okD, placesFit, armsFit, armsGo, takesD, placeKind, fieldKind, partOf, standsRight, addedD, wordOf, items, at0, at1, at2, at3, strOf, isNoneD, isRow, isTup, isStr, isTupN, isName, lk_str, dueN, h.nr, h.nc, h.nk, h.nf, h.ng, h.nh, h.nu, h.nv, h.nw, h.nt, h.no, h.np, h.nq, h.rc, h.rk, h.cr, h.ck, h.kr, h.kc, h.fg, h.fh, h.gf, h.gh, h.hf, h.hg, h.uv, h.uw, h.ut, h.uo, h.up, h.uq, h.vu, h.vw, h.vt, h.vo, h.vp, h.vq, h.wu, h.wv, h.wt, h.wo, h.wp, h.wq, h.tu, h.tv, h.tw, h.to, h.tp, h.tq, h.ou, h.ov, h.ow, h.ot, h.op, h.oq, h.pu, h.pv, h.pw, h.pt, h.po, h.pq, h.qu, h.qv, h.qw, h.qt, h.qo, h.qp, h.rI, h.Ir, h.cI, h.Ic, h.kI, h.Ik]
theorem row_17 (h : N.Ok) : mainD N [T [S "match", T [S N.w], L [T [.none, T []], T [S N.o, T []]]]] = dueN 4 "arms" := by
  simp (decide := true) [told, mainD, chkRow, chkIn, chkBody, eachA, eachB, bodiesD, bodyWords, armSc, passFc, letSc, innerSc, declD, declGo, vPut, reasonD, stM, srtN, decl4, isStmt, sizesL, namesFit, armNamesFit, armNames, isNew, isKindD, isChoiceD, okD, placesFit, armsFit, armsGo, takesD, placeKind, fieldKind, partOf, standsRight, addedD, wordOf, items, at0, at1, at2, at3, strOf, isNoneD, isRow, isTup, isStr, isTupN, isName, lk_str, dueN, h.nr, h.nc, h.nk, h.nf, h.ng, h.nh, h.nu, h.nv, h.nw, h.nt, h.no, h.np, h.nq, h.rc, h.rk, h.cr, h.ck, h.kr, h.kc, h.fg, h.fh, h.gf, h.gh, h.hf, h.hg, h.uv, h.uw, h.ut, h.uo, h.up, h.uq, h.vu, h.vw, h.vt, h.vo, h.vp, h.vq, h.wu, h.wv, h.wt, h.wo, h.wp, h.wq, h.tu, h.tv, h.tw, h.to, h.tp, h.tq, h.ou, h.ov, h.ow, h.ot, h.op, h.oq, h.pu, h.pv, h.pw, h.pt, h.po, h.pq, h.qu, h.qv, h.qw, h.qt, h.qo, h.qp, h.rI, h.Ir, h.cI, h.Ic, h.kI, h.Ik]
theorem row_18 (h : N.Ok) : mainD N [T [S "match", T [S N.w], L [T [.none, T []], T [S N.o, T []], T [S N.p, L []], T [S N.q, T []]]]] = dueN 4 "arms" := by
  simp (decide := true) [told, mainD, chkRow, chkIn, chkBody, eachA, eachB, bodiesD, bodyWords, armSc, passFc, letSc, innerSc, declD, declGo, vPut, reasonD, stM, srtN, decl4, isStmt, sizesL, namesFit, armNamesFit, armNames, isNew, isKindD, isChoiceD, okD, placesFit, armsFit, armsGo, takesD, placeKind, fieldKind, partOf, standsRight, addedD, wordOf, items, at0, at1, at2, at3, strOf, isNoneD, isRow, isTup, isStr, isTupN, isName, lk_str, dueN, h.nr, h.nc, h.nk, h.nf, h.ng, h.nh, h.nu, h.nv, h.nw, h.nt, h.no, h.np, h.nq, h.rc, h.rk, h.cr, h.ck, h.kr, h.kc, h.fg, h.fh, h.gf, h.gh, h.hf, h.hg, h.uv, h.uw, h.ut, h.uo, h.up, h.uq, h.vu, h.vw, h.vt, h.vo, h.vp, h.vq, h.wu, h.wv, h.wt, h.wo, h.wp, h.wq, h.tu, h.tv, h.tw, h.to, h.tp, h.tq, h.ou, h.ov, h.ow, h.ot, h.op, h.oq, h.pu, h.pv, h.pw, h.pt, h.po, h.pq, h.qu, h.qv, h.qw, h.qt, h.qo, h.qp, h.rI, h.Ir, h.cI, h.Ic, h.kI, h.Ik]
theorem row_19 (h : N.Ok) : mainD N [T [S "match", T [S N.w], L [T [S N.p, L []], T [S N.o, T []], T [.none, T []]]]] = dueN 4 "arms" := by
  simp (decide := true) [told, mainD, chkRow, chkIn, chkBody, eachA, eachB, bodiesD, bodyWords, armSc, passFc, letSc, innerSc, declD, declGo, vPut, reasonD, stM, srtN, decl4, isStmt, sizesL, namesFit, armNamesFit, armNames, isNew, isKindD, isChoiceD, okD, placesFit, armsFit, armsGo, takesD, placeKind, fieldKind, partOf, standsRight, addedD, wordOf, items, at0, at1, at2, at3, strOf, isNoneD, isRow, isTup, isStr, isTupN, isName, lk_str, dueN, h.nr, h.nc, h.nk, h.nf, h.ng, h.nh, h.nu, h.nv, h.nw, h.nt, h.no, h.np, h.nq, h.rc, h.rk, h.cr, h.ck, h.kr, h.kc, h.fg, h.fh, h.gf, h.gh, h.hf, h.hg, h.uv, h.uw, h.ut, h.uo, h.up, h.uq, h.vu, h.vw, h.vt, h.vo, h.vp, h.vq, h.wu, h.wv, h.wt, h.wo, h.wp, h.wq, h.tu, h.tv, h.tw, h.to, h.tp, h.tq, h.ou, h.ov, h.ow, h.ot, h.op, h.oq, h.pu, h.pv, h.pw, h.pt, h.po, h.pq, h.qu, h.qv, h.qw, h.qt, h.qo, h.qp, h.rI, h.Ir, h.cI, h.Ic, h.kI, h.Ik]
theorem row_20 (h : N.Ok) : mainD N [T [S "match", T [S N.w], L [T [S N.o, T []], T [.none, T []], T [S N.p, L []]]]] = dueN 4 "arms" := by
  simp (decide := true) [told, mainD, chkRow, chkIn, chkBody, eachA, eachB, bodiesD, bodyWords, armSc, passFc, letSc, innerSc, declD, declGo, vPut, reasonD, stM, srtN, decl4, isStmt, sizesL, namesFit, armNamesFit, armNames, isNew, isKindD, isChoiceD, okD, placesFit, armsFit, armsGo, takesD, placeKind, fieldKind, partOf, standsRight, addedD, wordOf, items, at0, at1, at2, at3, strOf, isNoneD, isRow, isTup, isStr, isTupN, isName, lk_str, dueN, h.nr, h.nc, h.nk, h.nf, h.ng, h.nh, h.nu, h.nv, h.nw, h.nt, h.no, h.np, h.nq, h.rc, h.rk, h.cr, h.ck, h.kr, h.kc, h.fg, h.fh, h.gf, h.gh, h.hf, h.hg, h.uv, h.uw, h.ut, h.uo, h.up, h.uq, h.vu, h.vw, h.vt, h.vo, h.vp, h.vq, h.wu, h.wv, h.wt, h.wo, h.wp, h.wq, h.tu, h.tv, h.tw, h.to, h.tp, h.tq, h.ou, h.ov, h.ow, h.ot, h.op, h.oq, h.pu, h.pv, h.pw, h.pt, h.po, h.pq, h.qu, h.qv, h.qw, h.qt, h.qo, h.qp, h.rI, h.Ir, h.cI, h.Ic, h.kI, h.Ik]
theorem row_21 (h : N.Ok) : mainD N [T [S "match", T [S N.w], L [.none, T [S N.o, T []], T [S N.p, L []]]]] = dueN 4 "arms" := by
  simp (decide := true) [told, mainD, chkRow, chkIn, chkBody, eachA, eachB, bodiesD, bodyWords, armSc, passFc, letSc, innerSc, declD, declGo, vPut, reasonD, stM, srtN, decl4, isStmt, sizesL, namesFit, armNamesFit, armNames, isNew, isKindD, isChoiceD, okD, placesFit, armsFit, armsGo, takesD, placeKind, fieldKind, partOf, standsRight, addedD, wordOf, items, at0, at1, at2, at3, strOf, isNoneD, isRow, isTup, isStr, isTupN, isName, lk_str, dueN, h.nr, h.nc, h.nk, h.nf, h.ng, h.nh, h.nu, h.nv, h.nw, h.nt, h.no, h.np, h.nq, h.rc, h.rk, h.cr, h.ck, h.kr, h.kc, h.fg, h.fh, h.gf, h.gh, h.hf, h.hg, h.uv, h.uw, h.ut, h.uo, h.up, h.uq, h.vu, h.vw, h.vt, h.vo, h.vp, h.vq, h.wu, h.wv, h.wt, h.wo, h.wp, h.wq, h.tu, h.tv, h.tw, h.to, h.tp, h.tq, h.ou, h.ov, h.ow, h.ot, h.op, h.oq, h.pu, h.pv, h.pw, h.pt, h.po, h.pq, h.qu, h.qv, h.qw, h.qt, h.qo, h.qp, h.rI, h.Ir, h.cI, h.Ic, h.kI, h.Ik]
theorem row_22 (h : N.Ok) : mainD N [T [S "match", T [S N.w], L [T [.none], T [S N.o, T []], T [S N.p, L []]]]] = dueN 4 "arms" := by
  simp (decide := true) [told, mainD, chkRow, chkIn, chkBody, eachA, eachB, bodiesD, bodyWords, armSc, passFc, letSc, innerSc, declD, declGo, vPut, reasonD, stM, srtN, decl4, isStmt, sizesL, namesFit, armNamesFit, armNames, isNew, isKindD, isChoiceD, okD, placesFit, armsFit, armsGo, takesD, placeKind, fieldKind, partOf, standsRight, addedD, wordOf, items, at0, at1, at2, at3, strOf, isNoneD, isRow, isTup, isStr, isTupN, isName, lk_str, dueN, h.nr, h.nc, h.nk, h.nf, h.ng, h.nh, h.nu, h.nv, h.nw, h.nt, h.no, h.np, h.nq, h.rc, h.rk, h.cr, h.ck, h.kr, h.kc, h.fg, h.fh, h.gf, h.gh, h.hf, h.hg, h.uv, h.uw, h.ut, h.uo, h.up, h.uq, h.vu, h.vw, h.vt, h.vo, h.vp, h.vq, h.wu, h.wv, h.wt, h.wo, h.wp, h.wq, h.tu, h.tv, h.tw, h.to, h.tp, h.tq, h.ou, h.ov, h.ow, h.ot, h.op, h.oq, h.pu, h.pv, h.pw, h.pt, h.po, h.pq, h.qu, h.qv, h.qw, h.qt, h.qo, h.qp, h.rI, h.Ir, h.cI, h.Ic, h.kI, h.Ik]
theorem row_23 (h : N.Ok) : mainD N [T [S "match", T [S N.w], L [L [.none, T []], T [S N.o, T []], T [S N.p, L []]]]] = dueN 4 "arms" := by
  simp (decide := true) [told, mainD, chkRow, chkIn, chkBody, eachA, eachB, bodiesD, bodyWords, armSc, passFc, letSc, innerSc, declD, declGo, vPut, reasonD, stM, srtN, decl4, isStmt, sizesL, namesFit, armNamesFit, armNames, isNew, isKindD, isChoiceD, okD, placesFit, armsFit, armsGo, takesD, placeKind, fieldKind, partOf, standsRight, addedD, wordOf, items, at0, at1, at2, at3, strOf, isNoneD, isRow, isTup, isStr, isTupN, isName, lk_str, dueN, h.nr, h.nc, h.nk, h.nf, h.ng, h.nh, h.nu, h.nv, h.nw, h.nt, h.no, h.np, h.nq, h.rc, h.rk, h.cr, h.ck, h.kr, h.kc, h.fg, h.fh, h.gf, h.gh, h.hf, h.hg, h.uv, h.uw, h.ut, h.uo, h.up, h.uq, h.vu, h.vw, h.vt, h.vo, h.vp, h.vq, h.wu, h.wv, h.wt, h.wo, h.wp, h.wq, h.tu, h.tv, h.tw, h.to, h.tp, h.tq, h.ou, h.ov, h.ow, h.ot, h.op, h.oq, h.pu, h.pv, h.pw, h.pt, h.po, h.pq, h.qu, h.qv, h.qw, h.qt, h.qo, h.qp, h.rI, h.Ir, h.cI, h.Ic, h.kI, h.Ik]
theorem row_24 (h : N.Ok) : mainD N [T [S "match", T [S N.w], L [T [.none, T [], T []], T [S N.o, T []], T [S N.p, L []]]]] = dueN 4 "arms" := by
  simp (decide := true) [told, mainD, chkRow, chkIn, chkBody, eachA, eachB, bodiesD, bodyWords, armSc, passFc, letSc, innerSc, declD, declGo, vPut, reasonD, stM, srtN, decl4, isStmt, sizesL, namesFit, armNamesFit, armNames, isNew, isKindD, isChoiceD, okD, placesFit, armsFit, armsGo, takesD, placeKind, fieldKind, partOf, standsRight, addedD, wordOf, items, at0, at1, at2, at3, strOf, isNoneD, isRow, isTup, isStr, isTupN, isName, lk_str, dueN, h.nr, h.nc, h.nk, h.nf, h.ng, h.nh, h.nu, h.nv, h.nw, h.nt, h.no, h.np, h.nq, h.rc, h.rk, h.cr, h.ck, h.kr, h.kc, h.fg, h.fh, h.gf, h.gh, h.hf, h.hg, h.uv, h.uw, h.ut, h.uo, h.up, h.uq, h.vu, h.vw, h.vt, h.vo, h.vp, h.vq, h.wu, h.wv, h.wt, h.wo, h.wp, h.wq, h.tu, h.tv, h.tw, h.to, h.tp, h.tq, h.ou, h.ov, h.ow, h.ot, h.op, h.oq, h.pu, h.pv, h.pw, h.pt, h.po, h.pq, h.qu, h.qv, h.qw, h.qt, h.qo, h.qp, h.rI, h.Ir, h.cI, h.Ic, h.kI, h.Ik]
theorem row_25 (h : N.Ok) : mainD N [T [S "match", T [S N.w], L [T [S N.q, T []], T [S N.o, T []], T [S N.p, L []]]]] = dueN 4 "arms" := by
  simp (decide := true) [told, mainD, chkRow, chkIn, chkBody, eachA, eachB, bodiesD, bodyWords, armSc, passFc, letSc, innerSc, declD, declGo, vPut, reasonD, stM, srtN, decl4, isStmt, sizesL, namesFit, armNamesFit, armNames, isNew, isKindD, isChoiceD, okD, placesFit, armsFit, armsGo, takesD, placeKind, fieldKind, partOf, standsRight, addedD, wordOf, items, at0, at1, at2, at3, strOf, isNoneD, isRow, isTup, isStr, isTupN, isName, lk_str, dueN, h.nr, h.nc, h.nk, h.nf, h.ng, h.nh, h.nu, h.nv, h.nw, h.nt, h.no, h.np, h.nq, h.rc, h.rk, h.cr, h.ck, h.kr, h.kc, h.fg, h.fh, h.gf, h.gh, h.hf, h.hg, h.uv, h.uw, h.ut, h.uo, h.up, h.uq, h.vu, h.vw, h.vt, h.vo, h.vp, h.vq, h.wu, h.wv, h.wt, h.wo, h.wp, h.wq, h.tu, h.tv, h.tw, h.to, h.tp, h.tq, h.ou, h.ov, h.ow, h.ot, h.op, h.oq, h.pu, h.pv, h.pw, h.pt, h.po, h.pq, h.qu, h.qv, h.qw, h.qt, h.qo, h.qp, h.rI, h.Ir, h.cI, h.Ic, h.kI, h.Ik]
theorem row_26 (h : N.Ok) : mainD N [T [S "match", T [S N.w], L [.int 5, T [S N.o, T []], T [S N.p, L []]]]] = dueN 4 "arms" := by
  simp (decide := true) [told, mainD, chkRow, chkIn, chkBody, eachA, eachB, bodiesD, bodyWords, armSc, passFc, letSc, innerSc, declD, declGo, vPut, reasonD, stM, srtN, decl4, isStmt, sizesL, namesFit, armNamesFit, armNames, isNew, isKindD, isChoiceD, okD, placesFit, armsFit, armsGo, takesD, placeKind, fieldKind, partOf, standsRight, addedD, wordOf, items, at0, at1, at2, at3, strOf, isNoneD, isRow, isTup, isStr, isTupN, isName, lk_str, dueN, h.nr, h.nc, h.nk, h.nf, h.ng, h.nh, h.nu, h.nv, h.nw, h.nt, h.no, h.np, h.nq, h.rc, h.rk, h.cr, h.ck, h.kr, h.kc, h.fg, h.fh, h.gf, h.gh, h.hf, h.hg, h.uv, h.uw, h.ut, h.uo, h.up, h.uq, h.vu, h.vw, h.vt, h.vo, h.vp, h.vq, h.wu, h.wv, h.wt, h.wo, h.wp, h.wq, h.tu, h.tv, h.tw, h.to, h.tp, h.tq, h.ou, h.ov, h.ow, h.ot, h.op, h.oq, h.pu, h.pv, h.pw, h.pt, h.po, h.pq, h.qu, h.qv, h.qw, h.qt, h.qo, h.qp, h.rI, h.Ir, h.cI, h.Ic, h.kI, h.Ik]
theorem row_27 (h : N.Ok) : mainD N [T [S "match", T [S N.w], L [S "ab", T [S N.o, T []], T [S N.p, L []]]]] = dueN 4 "arms" := by
  simp (decide := true) [told, mainD, chkRow, chkIn, chkBody, eachA, eachB, bodiesD, bodyWords, armSc, passFc, letSc, innerSc, declD, declGo, vPut, reasonD, stM, srtN, decl4, isStmt, sizesL, namesFit, armNamesFit, armNames, isNew, isKindD, isChoiceD, okD, placesFit, armsFit, armsGo, takesD, placeKind, fieldKind, partOf, standsRight, addedD, wordOf, items, at0, at1, at2, at3, strOf, isNoneD, isRow, isTup, isStr, isTupN, isName, lk_str, dueN, h.nr, h.nc, h.nk, h.nf, h.ng, h.nh, h.nu, h.nv, h.nw, h.nt, h.no, h.np, h.nq, h.rc, h.rk, h.cr, h.ck, h.kr, h.kc, h.fg, h.fh, h.gf, h.gh, h.hf, h.hg, h.uv, h.uw, h.ut, h.uo, h.up, h.uq, h.vu, h.vw, h.vt, h.vo, h.vp, h.vq, h.wu, h.wv, h.wt, h.wo, h.wp, h.wq, h.tu, h.tv, h.tw, h.to, h.tp, h.tq, h.ou, h.ov, h.ow, h.ot, h.op, h.oq, h.pu, h.pv, h.pw, h.pt, h.po, h.pq, h.qu, h.qv, h.qw, h.qt, h.qo, h.qp, h.rI, h.Ir, h.cI, h.Ic, h.kI, h.Ik]
theorem row_28 (h : N.Ok) : mainD N [T [S "match", T [S N.w], L [T [.none, T []], .none, T [S N.p, L []]]]] = dueN 4 "arms" := by
  simp (decide := true) [told, mainD, chkRow, chkIn, chkBody, eachA, eachB, bodiesD, bodyWords, armSc, passFc, letSc, innerSc, declD, declGo, vPut, reasonD, stM, srtN, decl4, isStmt, sizesL, namesFit, armNamesFit, armNames, isNew, isKindD, isChoiceD, okD, placesFit, armsFit, armsGo, takesD, placeKind, fieldKind, partOf, standsRight, addedD, wordOf, items, at0, at1, at2, at3, strOf, isNoneD, isRow, isTup, isStr, isTupN, isName, lk_str, dueN, h.nr, h.nc, h.nk, h.nf, h.ng, h.nh, h.nu, h.nv, h.nw, h.nt, h.no, h.np, h.nq, h.rc, h.rk, h.cr, h.ck, h.kr, h.kc, h.fg, h.fh, h.gf, h.gh, h.hf, h.hg, h.uv, h.uw, h.ut, h.uo, h.up, h.uq, h.vu, h.vw, h.vt, h.vo, h.vp, h.vq, h.wu, h.wv, h.wt, h.wo, h.wp, h.wq, h.tu, h.tv, h.tw, h.to, h.tp, h.tq, h.ou, h.ov, h.ow, h.ot, h.op, h.oq, h.pu, h.pv, h.pw, h.pt, h.po, h.pq, h.qu, h.qv, h.qw, h.qt, h.qo, h.qp, h.rI, h.Ir, h.cI, h.Ic, h.kI, h.Ik]
theorem row_29 (h : N.Ok) : mainD N [T [S "match", T [S N.w], L [T [.none, T []], T [S N.o], T [S N.p, L []]]]] = dueN 4 "arms" := by
  simp (decide := true) [told, mainD, chkRow, chkIn, chkBody, eachA, eachB, bodiesD, bodyWords, armSc, passFc, letSc, innerSc, declD, declGo, vPut, reasonD, stM, srtN, decl4, isStmt, sizesL, namesFit, armNamesFit, armNames, isNew, isKindD, isChoiceD, okD, placesFit, armsFit, armsGo, takesD, placeKind, fieldKind, partOf, standsRight, addedD, wordOf, items, at0, at1, at2, at3, strOf, isNoneD, isRow, isTup, isStr, isTupN, isName, lk_str, dueN, h.nr, h.nc, h.nk, h.nf, h.ng, h.nh, h.nu, h.nv, h.nw, h.nt, h.no, h.np, h.nq, h.rc, h.rk, h.cr, h.ck, h.kr, h.kc, h.fg, h.fh, h.gf, h.gh, h.hf, h.hg, h.uv, h.uw, h.ut, h.uo, h.up, h.uq, h.vu, h.vw, h.vt, h.vo, h.vp, h.vq, h.wu, h.wv, h.wt, h.wo, h.wp, h.wq, h.tu, h.tv, h.tw, h.to, h.tp, h.tq, h.ou, h.ov, h.ow, h.ot, h.op, h.oq, h.pu, h.pv, h.pw, h.pt, h.po, h.pq, h.qu, h.qv, h.qw, h.qt, h.qo, h.qp, h.rI, h.Ir, h.cI, h.Ic, h.kI, h.Ik]
theorem row_30 (h : N.Ok) : mainD N [T [S "match", T [S N.w], L [T [.none, T []], L [S N.o, T []], T [S N.p, L []]]]] = dueN 4 "arms" := by
  simp (decide := true) [told, mainD, chkRow, chkIn, chkBody, eachA, eachB, bodiesD, bodyWords, armSc, passFc, letSc, innerSc, declD, declGo, vPut, reasonD, stM, srtN, decl4, isStmt, sizesL, namesFit, armNamesFit, armNames, isNew, isKindD, isChoiceD, okD, placesFit, armsFit, armsGo, takesD, placeKind, fieldKind, partOf, standsRight, addedD, wordOf, items, at0, at1, at2, at3, strOf, isNoneD, isRow, isTup, isStr, isTupN, isName, lk_str, dueN, h.nr, h.nc, h.nk, h.nf, h.ng, h.nh, h.nu, h.nv, h.nw, h.nt, h.no, h.np, h.nq, h.rc, h.rk, h.cr, h.ck, h.kr, h.kc, h.fg, h.fh, h.gf, h.gh, h.hf, h.hg, h.uv, h.uw, h.ut, h.uo, h.up, h.uq, h.vu, h.vw, h.vt, h.vo, h.vp, h.vq, h.wu, h.wv, h.wt, h.wo, h.wp, h.wq, h.tu, h.tv, h.tw, h.to, h.tp, h.tq, h.ou, h.ov, h.ow, h.ot, h.op, h.oq, h.pu, h.pv, h.pw, h.pt, h.po, h.pq, h.qu, h.qv, h.qw, h.qt, h.qo, h.qp, h.rI, h.Ir, h.cI, h.Ic, h.kI, h.Ik]
theorem row_31 (h : N.Ok) : mainD N [T [S "match", T [S N.w], L [T [.none, T []], T [S N.o, T [], T []], T [S N.p, L []]]]] = dueN 4 "arms" := by
  simp (decide := true) [told, mainD, chkRow, chkIn, chkBody, eachA, eachB, bodiesD, bodyWords, armSc, passFc, letSc, innerSc, declD, declGo, vPut, reasonD, stM, srtN, decl4, isStmt, sizesL, namesFit, armNamesFit, armNames, isNew, isKindD, isChoiceD, okD, placesFit, armsFit, armsGo, takesD, placeKind, fieldKind, partOf, standsRight, addedD, wordOf, items, at0, at1, at2, at3, strOf, isNoneD, isRow, isTup, isStr, isTupN, isName, lk_str, dueN, h.nr, h.nc, h.nk, h.nf, h.ng, h.nh, h.nu, h.nv, h.nw, h.nt, h.no, h.np, h.nq, h.rc, h.rk, h.cr, h.ck, h.kr, h.kc, h.fg, h.fh, h.gf, h.gh, h.hf, h.hg, h.uv, h.uw, h.ut, h.uo, h.up, h.uq, h.vu, h.vw, h.vt, h.vo, h.vp, h.vq, h.wu, h.wv, h.wt, h.wo, h.wp, h.wq, h.tu, h.tv, h.tw, h.to, h.tp, h.tq, h.ou, h.ov, h.ow, h.ot, h.op, h.oq, h.pu, h.pv, h.pw, h.pt, h.po, h.pq, h.qu, h.qv, h.qw, h.qt, h.qo, h.qp, h.rI, h.Ir, h.cI, h.Ic, h.kI, h.Ik]
theorem row_32 (h : N.Ok) : mainD N [T [S "match", T [S N.w], L [T [.none, T []], T [.none, T []], T [S N.p, L []]]]] = dueN 4 "arms" := by
  simp (decide := true) [told, mainD, chkRow, chkIn, chkBody, eachA, eachB, bodiesD, bodyWords, armSc, passFc, letSc, innerSc, declD, declGo, vPut, reasonD, stM, srtN, decl4, isStmt, sizesL, namesFit, armNamesFit, armNames, isNew, isKindD, isChoiceD, okD, placesFit, armsFit, armsGo, takesD, placeKind, fieldKind, partOf, standsRight, addedD, wordOf, items, at0, at1, at2, at3, strOf, isNoneD, isRow, isTup, isStr, isTupN, isName, lk_str, dueN, h.nr, h.nc, h.nk, h.nf, h.ng, h.nh, h.nu, h.nv, h.nw, h.nt, h.no, h.np, h.nq, h.rc, h.rk, h.cr, h.ck, h.kr, h.kc, h.fg, h.fh, h.gf, h.gh, h.hf, h.hg, h.uv, h.uw, h.ut, h.uo, h.up, h.uq, h.vu, h.vw, h.vt, h.vo, h.vp, h.vq, h.wu, h.wv, h.wt, h.wo, h.wp, h.wq, h.tu, h.tv, h.tw, h.to, h.tp, h.tq, h.ou, h.ov, h.ow, h.ot, h.op, h.oq, h.pu, h.pv, h.pw, h.pt, h.po, h.pq, h.qu, h.qv, h.qw, h.qt, h.qo, h.qp, h.rI, h.Ir, h.cI, h.Ic, h.kI, h.Ik]
theorem row_33 (h : N.Ok) : mainD N [T [S "match", T [S N.w], L [T [.none, T []], .dict [], T [S N.p, L []]]]] = dueN 4 "arms" := by
  simp (decide := true) [told, mainD, chkRow, chkIn, chkBody, eachA, eachB, bodiesD, bodyWords, armSc, passFc, letSc, innerSc, declD, declGo, vPut, reasonD, stM, srtN, decl4, isStmt, sizesL, namesFit, armNamesFit, armNames, isNew, isKindD, isChoiceD, okD, placesFit, armsFit, armsGo, takesD, placeKind, fieldKind, partOf, standsRight, addedD, wordOf, items, at0, at1, at2, at3, strOf, isNoneD, isRow, isTup, isStr, isTupN, isName, lk_str, dueN, h.nr, h.nc, h.nk, h.nf, h.ng, h.nh, h.nu, h.nv, h.nw, h.nt, h.no, h.np, h.nq, h.rc, h.rk, h.cr, h.ck, h.kr, h.kc, h.fg, h.fh, h.gf, h.gh, h.hf, h.hg, h.uv, h.uw, h.ut, h.uo, h.up, h.uq, h.vu, h.vw, h.vt, h.vo, h.vp, h.vq, h.wu, h.wv, h.wt, h.wo, h.wp, h.wq, h.tu, h.tv, h.tw, h.to, h.tp, h.tq, h.ou, h.ov, h.ow, h.ot, h.op, h.oq, h.pu, h.pv, h.pw, h.pt, h.po, h.pq, h.qu, h.qv, h.qw, h.qt, h.qo, h.qp, h.rI, h.Ir, h.cI, h.Ic, h.kI, h.Ik]
theorem row_34 (h : N.Ok) : mainD N [T [S "match", T [S N.w], L [T [.none, T []], T [S N.u, T []], T [S N.p, L []]]]] = dueN 4 "name" := by
  simp (decide := true) [told, mainD, chkRow, chkIn, chkBody, eachA, eachB, bodiesD, bodyWords, armSc, passFc, letSc, innerSc, declD, declGo, vPut, reasonD, stM, srtN, decl4, isStmt, sizesL, namesFit, armNamesFit, armNames, isNew, isKindD, isChoiceD, okD, placesFit, armsFit, armsGo, takesD, placeKind, fieldKind, partOf, standsRight, addedD, wordOf, items, at0, at1, at2, at3, strOf, isNoneD, isRow, isTup, isStr, isTupN, isName, lk_str, dueN, h.nr, h.nc, h.nk, h.nf, h.ng, h.nh, h.nu, h.nv, h.nw, h.nt, h.no, h.np, h.nq, h.rc, h.rk, h.cr, h.ck, h.kr, h.kc, h.fg, h.fh, h.gf, h.gh, h.hf, h.hg, h.uv, h.uw, h.ut, h.uo, h.up, h.uq, h.vu, h.vw, h.vt, h.vo, h.vp, h.vq, h.wu, h.wv, h.wt, h.wo, h.wp, h.wq, h.tu, h.tv, h.tw, h.to, h.tp, h.tq, h.ou, h.ov, h.ow, h.ot, h.op, h.oq, h.pu, h.pv, h.pw, h.pt, h.po, h.pq, h.qu, h.qv, h.qw, h.qt, h.qo, h.qp, h.rI, h.Ir, h.cI, h.Ic, h.kI, h.Ik]
theorem row_35 (h : N.Ok) : mainD N [T [S "match", T [S N.w], L [T [.none, T []], T [S N.w, T []], T [S N.p, L []]]]] = dueN 4 "name" := by
  simp (decide := true) [told, mainD, chkRow, chkIn, chkBody, eachA, eachB, bodiesD, bodyWords, armSc, passFc, letSc, innerSc, declD, declGo, vPut, reasonD, stM, srtN, decl4, isStmt, sizesL, namesFit, armNamesFit, armNames, isNew, isKindD, isChoiceD, okD, placesFit, armsFit, armsGo, takesD, placeKind, fieldKind, partOf, standsRight, addedD, wordOf, items, at0, at1, at2, at3, strOf, isNoneD, isRow, isTup, isStr, isTupN, isName, lk_str, dueN, h.nr, h.nc, h.nk, h.nf, h.ng, h.nh, h.nu, h.nv, h.nw, h.nt, h.no, h.np, h.nq, h.rc, h.rk, h.cr, h.ck, h.kr, h.kc, h.fg, h.fh, h.gf, h.gh, h.hf, h.hg, h.uv, h.uw, h.ut, h.uo, h.up, h.uq, h.vu, h.vw, h.vt, h.vo, h.vp, h.vq, h.wu, h.wv, h.wt, h.wo, h.wp, h.wq, h.tu, h.tv, h.tw, h.to, h.tp, h.tq, h.ou, h.ov, h.ow, h.ot, h.op, h.oq, h.pu, h.pv, h.pw, h.pt, h.po, h.pq, h.qu, h.qv, h.qw, h.qt, h.qo, h.qp, h.rI, h.Ir, h.cI, h.Ic, h.kI, h.Ik]
theorem row_36 (h : N.Ok) : mainD N [T [S "match", T [S N.w], L [T [.none, T []], T [S "A", T []], T [S N.p, L []]]]] = dueN 4 "name" := by
  simp (decide := true) [told, mainD, chkRow, chkIn, chkBody, eachA, eachB, bodiesD, bodyWords, armSc, passFc, letSc, innerSc, declD, declGo, vPut, reasonD, stM, srtN, decl4, isStmt, sizesL, namesFit, armNamesFit, armNames, isNew, isKindD, isChoiceD, okD, placesFit, armsFit, armsGo, takesD, placeKind, fieldKind, partOf, standsRight, addedD, wordOf, items, at0, at1, at2, at3, strOf, isNoneD, isRow, isTup, isStr, isTupN, isName, lk_str, dueN, h.nr, h.nc, h.nk, h.nf, h.ng, h.nh, h.nu, h.nv, h.nw, h.nt, h.no, h.np, h.nq, h.rc, h.rk, h.cr, h.ck, h.kr, h.kc, h.fg, h.fh, h.gf, h.gh, h.hf, h.hg, h.uv, h.uw, h.ut, h.uo, h.up, h.uq, h.vu, h.vw, h.vt, h.vo, h.vp, h.vq, h.wu, h.wv, h.wt, h.wo, h.wp, h.wq, h.tu, h.tv, h.tw, h.to, h.tp, h.tq, h.ou, h.ov, h.ow, h.ot, h.op, h.oq, h.pu, h.pv, h.pw, h.pt, h.po, h.pq, h.qu, h.qv, h.qw, h.qt, h.qo, h.qp, h.rI, h.Ir, h.cI, h.Ic, h.kI, h.Ik]
theorem row_37 (h : N.Ok) : mainD N [T [S "match", T [S N.w], L [T [.none, T []], T [S "", T []], T [S N.p, L []]]]] = dueN 4 "name" := by
  simp (decide := true) [told, mainD, chkRow, chkIn, chkBody, eachA, eachB, bodiesD, bodyWords, armSc, passFc, letSc, innerSc, declD, declGo, vPut, reasonD, stM, srtN, decl4, isStmt, sizesL, namesFit, armNamesFit, armNames, isNew, isKindD, isChoiceD, okD, placesFit, armsFit, armsGo, takesD, placeKind, fieldKind, partOf, standsRight, addedD, wordOf, items, at0, at1, at2, at3, strOf, isNoneD, isRow, isTup, isStr, isTupN, isName, lk_str, dueN, h.nr, h.nc, h.nk, h.nf, h.ng, h.nh, h.nu, h.nv, h.nw, h.nt, h.no, h.np, h.nq, h.rc, h.rk, h.cr, h.ck, h.kr, h.kc, h.fg, h.fh, h.gf, h.gh, h.hf, h.hg, h.uv, h.uw, h.ut, h.uo, h.up, h.uq, h.vu, h.vw, h.vt, h.vo, h.vp, h.vq, h.wu, h.wv, h.wt, h.wo, h.wp, h.wq, h.tu, h.tv, h.tw, h.to, h.tp, h.tq, h.ou, h.ov, h.ow, h.ot, h.op, h.oq, h.pu, h.pv, h.pw, h.pt, h.po, h.pq, h.qu, h.qv, h.qw, h.qt, h.qo, h.qp, h.rI, h.Ir, h.cI, h.Ic, h.kI, h.Ik]
theorem row_38 (h : N.Ok) : mainD N [T [S "match", T [S N.w], L [T [.none, T []], T [S "toolongname", T []], T [S N.p, L []]]]] = dueN 4 "name" := by
  simp (decide := true) [told, mainD, chkRow, chkIn, chkBody, eachA, eachB, bodiesD, bodyWords, armSc, passFc, letSc, innerSc, declD, declGo, vPut, reasonD, stM, srtN, decl4, isStmt, sizesL, namesFit, armNamesFit, armNames, isNew, isKindD, isChoiceD, okD, placesFit, armsFit, armsGo, takesD, placeKind, fieldKind, partOf, standsRight, addedD, wordOf, items, at0, at1, at2, at3, strOf, isNoneD, isRow, isTup, isStr, isTupN, isName, lk_str, dueN, h.nr, h.nc, h.nk, h.nf, h.ng, h.nh, h.nu, h.nv, h.nw, h.nt, h.no, h.np, h.nq, h.rc, h.rk, h.cr, h.ck, h.kr, h.kc, h.fg, h.fh, h.gf, h.gh, h.hf, h.hg, h.uv, h.uw, h.ut, h.uo, h.up, h.uq, h.vu, h.vw, h.vt, h.vo, h.vp, h.vq, h.wu, h.wv, h.wt, h.wo, h.wp, h.wq, h.tu, h.tv, h.tw, h.to, h.tp, h.tq, h.ou, h.ov, h.ow, h.ot, h.op, h.oq, h.pu, h.pv, h.pw, h.pt, h.po, h.pq, h.qu, h.qv, h.qw, h.qt, h.qo, h.qp, h.rI, h.Ir, h.cI, h.Ic, h.kI, h.Ik]
theorem row_39 (h : N.Ok) : mainD N [T [S "match", T [S N.w], L [T [.none, T []], T [S "case1", T []], T [S N.p, L []]]]] = dueN 4 "name" := by
  simp (decide := true) [told, mainD, chkRow, chkIn, chkBody, eachA, eachB, bodiesD, bodyWords, armSc, passFc, letSc, innerSc, declD, declGo, vPut, reasonD, stM, srtN, decl4, isStmt, sizesL, namesFit, armNamesFit, armNames, isNew, isKindD, isChoiceD, okD, placesFit, armsFit, armsGo, takesD, placeKind, fieldKind, partOf, standsRight, addedD, wordOf, items, at0, at1, at2, at3, strOf, isNoneD, isRow, isTup, isStr, isTupN, isName, lk_str, dueN, h.nr, h.nc, h.nk, h.nf, h.ng, h.nh, h.nu, h.nv, h.nw, h.nt, h.no, h.np, h.nq, h.rc, h.rk, h.cr, h.ck, h.kr, h.kc, h.fg, h.fh, h.gf, h.gh, h.hf, h.hg, h.uv, h.uw, h.ut, h.uo, h.up, h.uq, h.vu, h.vw, h.vt, h.vo, h.vp, h.vq, h.wu, h.wv, h.wt, h.wo, h.wp, h.wq, h.tu, h.tv, h.tw, h.to, h.tp, h.tq, h.ou, h.ov, h.ow, h.ot, h.op, h.oq, h.pu, h.pv, h.pw, h.pt, h.po, h.pq, h.qu, h.qv, h.qw, h.qt, h.qo, h.qp, h.rI, h.Ir, h.cI, h.Ic, h.kI, h.Ik]
theorem row_40 (h : N.Ok) : mainD N [T [S "match", T [S N.w], L [T [.none, T []], T [S "match", T []], T [S N.p, L []]]]] = dueN 4 "name" := by
  simp (decide := true) [told, mainD, chkRow, chkIn, chkBody, eachA, eachB, bodiesD, bodyWords, armSc, passFc, letSc, innerSc, declD, declGo, vPut, reasonD, stM, srtN, decl4, isStmt, sizesL, namesFit, armNamesFit, armNames, isNew, isKindD, isChoiceD, okD, placesFit, armsFit, armsGo, takesD, placeKind, fieldKind, partOf, standsRight, addedD, wordOf, items, at0, at1, at2, at3, strOf, isNoneD, isRow, isTup, isStr, isTupN, isName, lk_str, dueN, h.nr, h.nc, h.nk, h.nf, h.ng, h.nh, h.nu, h.nv, h.nw, h.nt, h.no, h.np, h.nq, h.rc, h.rk, h.cr, h.ck, h.kr, h.kc, h.fg, h.fh, h.gf, h.gh, h.hf, h.hg, h.uv, h.uw, h.ut, h.uo, h.up, h.uq, h.vu, h.vw, h.vt, h.vo, h.vp, h.vq, h.wu, h.wv, h.wt, h.wo, h.wp, h.wq, h.tu, h.tv, h.tw, h.to, h.tp, h.tq, h.ou, h.ov, h.ow, h.ot, h.op, h.oq, h.pu, h.pv, h.pw, h.pt, h.po, h.pq, h.qu, h.qv, h.qw, h.qt, h.qo, h.qp, h.rI, h.Ir, h.cI, h.Ic, h.kI, h.Ik]
theorem row_41 (h : N.Ok) : mainD N [T [S "match", T [S N.w], L [T [.none, T []], T [.int 5, T []], T [S N.p, L []]]]] = dueN 4 "name" := by
  simp (decide := true) [told, mainD, chkRow, chkIn, chkBody, eachA, eachB, bodiesD, bodyWords, armSc, passFc, letSc, innerSc, declD, declGo, vPut, reasonD, stM, srtN, decl4, isStmt, sizesL, namesFit, armNamesFit, armNames, isNew, isKindD, isChoiceD, okD, placesFit, armsFit, armsGo, takesD, placeKind, fieldKind, partOf, standsRight, addedD, wordOf, items, at0, at1, at2, at3, strOf, isNoneD, isRow, isTup, isStr, isTupN, isName, lk_str, dueN, h.nr, h.nc, h.nk, h.nf, h.ng, h.nh, h.nu, h.nv, h.nw, h.nt, h.no, h.np, h.nq, h.rc, h.rk, h.cr, h.ck, h.kr, h.kc, h.fg, h.fh, h.gf, h.gh, h.hf, h.hg, h.uv, h.uw, h.ut, h.uo, h.up, h.uq, h.vu, h.vw, h.vt, h.vo, h.vp, h.vq, h.wu, h.wv, h.wt, h.wo, h.wp, h.wq, h.tu, h.tv, h.tw, h.to, h.tp, h.tq, h.ou, h.ov, h.ow, h.ot, h.op, h.oq, h.pu, h.pv, h.pw, h.pt, h.po, h.pq, h.qu, h.qv, h.qw, h.qt, h.qo, h.qp, h.rI, h.Ir, h.cI, h.Ic, h.kI, h.Ik]
theorem row_42 (h : N.Ok) : mainD N [T [S "match", T [S N.w], L [T [.none, T []], T [L [], T []], T [S N.p, L []]]]] = dueN 4 "name" := by
  simp (decide := true) [told, mainD, chkRow, chkIn, chkBody, eachA, eachB, bodiesD, bodyWords, armSc, passFc, letSc, innerSc, declD, declGo, vPut, reasonD, stM, srtN, decl4, isStmt, sizesL, namesFit, armNamesFit, armNames, isNew, isKindD, isChoiceD, okD, placesFit, armsFit, armsGo, takesD, placeKind, fieldKind, partOf, standsRight, addedD, wordOf, items, at0, at1, at2, at3, strOf, isNoneD, isRow, isTup, isStr, isTupN, isName, lk_str, dueN, h.nr, h.nc, h.nk, h.nf, h.ng, h.nh, h.nu, h.nv, h.nw, h.nt, h.no, h.np, h.nq, h.rc, h.rk, h.cr, h.ck, h.kr, h.kc, h.fg, h.fh, h.gf, h.gh, h.hf, h.hg, h.uv, h.uw, h.ut, h.uo, h.up, h.uq, h.vu, h.vw, h.vt, h.vo, h.vp, h.vq, h.wu, h.wv, h.wt, h.wo, h.wp, h.wq, h.tu, h.tv, h.tw, h.to, h.tp, h.tq, h.ou, h.ov, h.ow, h.ot, h.op, h.oq, h.pu, h.pv, h.pw, h.pt, h.po, h.pq, h.qu, h.qv, h.qw, h.qt, h.qo, h.qp, h.rI, h.Ir, h.cI, h.Ic, h.kI, h.Ik]
theorem row_43 (h : N.Ok) : mainD N [T [S "match", T [S N.w], L [T [.none, T []], T [T [S N.o], T []], T [S N.p, L []]]]] = dueN 4 "name" := by
  simp (decide := true) [told, mainD, chkRow, chkIn, chkBody, eachA, eachB, bodiesD, bodyWords, armSc, passFc, letSc, innerSc, declD, declGo, vPut, reasonD, stM, srtN, decl4, isStmt, sizesL, namesFit, armNamesFit, armNames, isNew, isKindD, isChoiceD, okD, placesFit, armsFit, armsGo, takesD, placeKind, fieldKind, partOf, standsRight, addedD, wordOf, items, at0, at1, at2, at3, strOf, isNoneD, isRow, isTup, isStr, isTupN, isName, lk_str, dueN, h.nr, h.nc, h.nk, h.nf, h.ng, h.nh, h.nu, h.nv, h.nw, h.nt, h.no, h.np, h.nq, h.rc, h.rk, h.cr, h.ck, h.kr, h.kc, h.fg, h.fh, h.gf, h.gh, h.hf, h.hg, h.uv, h.uw, h.ut, h.uo, h.up, h.uq, h.vu, h.vw, h.vt, h.vo, h.vp, h.vq, h.wu, h.wv, h.wt, h.wo, h.wp, h.wq, h.tu, h.tv, h.tw, h.to, h.tp, h.tq, h.ou, h.ov, h.ow, h.ot, h.op, h.oq, h.pu, h.pv, h.pw, h.pt, h.po, h.pq, h.qu, h.qv, h.qw, h.qt, h.qo, h.qp, h.rI, h.Ir, h.cI, h.Ic, h.kI, h.Ik]
theorem row_44 (h : N.Ok) : mainD N [T [S "match", T [S N.w], L [T [.none, T []], T [.bool false, T []], T [S N.p, L []]]]] = dueN 4 "name" := by
  simp (decide := true) [told, mainD, chkRow, chkIn, chkBody, eachA, eachB, bodiesD, bodyWords, armSc, passFc, letSc, innerSc, declD, declGo, vPut, reasonD, stM, srtN, decl4, isStmt, sizesL, namesFit, armNamesFit, armNames, isNew, isKindD, isChoiceD, okD, placesFit, armsFit, armsGo, takesD, placeKind, fieldKind, partOf, standsRight, addedD, wordOf, items, at0, at1, at2, at3, strOf, isNoneD, isRow, isTup, isStr, isTupN, isName, lk_str, dueN, h.nr, h.nc, h.nk, h.nf, h.ng, h.nh, h.nu, h.nv, h.nw, h.nt, h.no, h.np, h.nq, h.rc, h.rk, h.cr, h.ck, h.kr, h.kc, h.fg, h.fh, h.gf, h.gh, h.hf, h.hg, h.uv, h.uw, h.ut, h.uo, h.up, h.uq, h.vu, h.vw, h.vt, h.vo, h.vp, h.vq, h.wu, h.wv, h.wt, h.wo, h.wp, h.wq, h.tu, h.tv, h.tw, h.to, h.tp, h.tq, h.ou, h.ov, h.ow, h.ot, h.op, h.oq, h.pu, h.pv, h.pw, h.pt, h.po, h.pq, h.qu, h.qv, h.qw, h.qt, h.qo, h.qp, h.rI, h.Ir, h.cI, h.Ic, h.kI, h.Ik]
theorem row_45 (h : N.Ok) : mainD N [T [S "match", T [S N.w], L [T [.none, T []], T [S N.p, T []], T [S N.p, L []]]]] = dueN 4 "name" := by
  simp (decide := true) [told, mainD, chkRow, chkIn, chkBody, eachA, eachB, bodiesD, bodyWords, armSc, passFc, letSc, innerSc, declD, declGo, vPut, reasonD, stM, srtN, decl4, isStmt, sizesL, namesFit, armNamesFit, armNames, isNew, isKindD, isChoiceD, okD, placesFit, armsFit, armsGo, takesD, placeKind, fieldKind, partOf, standsRight, addedD, wordOf, items, at0, at1, at2, at3, strOf, isNoneD, isRow, isTup, isStr, isTupN, isName, lk_str, dueN, h.nr, h.nc, h.nk, h.nf, h.ng, h.nh, h.nu, h.nv, h.nw, h.nt, h.no, h.np, h.nq, h.rc, h.rk, h.cr, h.ck, h.kr, h.kc, h.fg, h.fh, h.gf, h.gh, h.hf, h.hg, h.uv, h.uw, h.ut, h.uo, h.up, h.uq, h.vu, h.vw, h.vt, h.vo, h.vp, h.vq, h.wu, h.wv, h.wt, h.wo, h.wp, h.wq, h.tu, h.tv, h.tw, h.to, h.tp, h.tq, h.ou, h.ov, h.ow, h.ot, h.op, h.oq, h.pu, h.pv, h.pw, h.pt, h.po, h.pq, h.qu, h.qv, h.qw, h.qt, h.qo, h.qp, h.rI, h.Ir, h.cI, h.Ic, h.kI, h.Ik]
theorem row_46 (h : N.Ok) : mainD N [T [S "match", T [S N.u], L [T [S N.u, T []]]]] = dueN 4 "name" := by
  simp (decide := true) [told, mainD, chkRow, chkIn, chkBody, eachA, eachB, bodiesD, bodyWords, armSc, passFc, letSc, innerSc, declD, declGo, vPut, reasonD, stM, srtN, decl4, isStmt, sizesL, namesFit, armNamesFit, armNames, isNew, isKindD, isChoiceD, okD, placesFit, armsFit, armsGo, takesD, placeKind, fieldKind, partOf, standsRight, addedD, wordOf, items, at0, at1, at2, at3, strOf, isNoneD, isRow, isTup, isStr, isTupN, isName, lk_str, dueN, h.nr, h.nc, h.nk, h.nf, h.ng, h.nh, h.nu, h.nv, h.nw, h.nt, h.no, h.np, h.nq, h.rc, h.rk, h.cr, h.ck, h.kr, h.kc, h.fg, h.fh, h.gf, h.gh, h.hf, h.hg, h.uv, h.uw, h.ut, h.uo, h.up, h.uq, h.vu, h.vw, h.vt, h.vo, h.vp, h.vq, h.wu, h.wv, h.wt, h.wo, h.wp, h.wq, h.tu, h.tv, h.tw, h.to, h.tp, h.tq, h.ou, h.ov, h.ow, h.ot, h.op, h.oq, h.pu, h.pv, h.pw, h.pt, h.po, h.pq, h.qu, h.qv, h.qw, h.qt, h.qo, h.qp, h.rI, h.Ir, h.cI, h.Ic, h.kI, h.Ik]
theorem row_47 (h : N.Ok) : mainD N [T [S "match", .none, L [.none, .int 5, T [S "A", .int 5]]]] = dueN 4 "name" := by
  simp (decide := true) [told, mainD, chkRow, chkIn, chkBody, eachA, eachB, bodiesD, bodyWords, armSc, passFc, letSc, innerSc, declD, declGo, vPut, reasonD, stM, srtN, decl4, isStmt, sizesL, namesFit, armNamesFit, armNames, isNew, isKindD, isChoiceD, okD, placesFit, armsFit, armsGo, takesD, placeKind, fieldKind, partOf, standsRight, addedD, wordOf, items, at0, at1, at2, at3, strOf, isNoneD, isRow, isTup, isStr, isTupN, isName, lk_str, dueN, h.nr, h.nc, h.nk, h.nf, h.ng, h.nh, h.nu, h.nv, h.nw, h.nt, h.no, h.np, h.nq, h.rc, h.rk, h.cr, h.ck, h.kr, h.kc, h.fg, h.fh, h.gf, h.gh, h.hf, h.hg, h.uv, h.uw, h.ut, h.uo, h.up, h.uq, h.vu, h.vw, h.vt, h.vo, h.vp, h.vq, h.wu, h.wv, h.wt, h.wo, h.wp, h.wq, h.tu, h.tv, h.tw, h.to, h.tp, h.tq, h.ou, h.ov, h.ow, h.ot, h.op, h.oq, h.pu, h.pv, h.pw, h.pt, h.po, h.pq, h.qu, h.qv, h.qw, h.qt, h.qo, h.qp, h.rI, h.Ir, h.cI, h.Ic, h.kI, h.Ik]
theorem row_48 (h : N.Ok) : mainD N [T [S "match", T [S N.u], L [T [S "A"], T [.none, T []]]]] = dueN 4 "place" := by
  simp (decide := true) [told, mainD, chkRow, chkIn, chkBody, eachA, eachB, bodiesD, bodyWords, armSc, passFc, letSc, innerSc, declD, declGo, vPut, reasonD, stM, srtN, decl4, isStmt, sizesL, namesFit, armNamesFit, armNames, isNew, isKindD, isChoiceD, okD, placesFit, armsFit, armsGo, takesD, placeKind, fieldKind, partOf, standsRight, addedD, wordOf, items, at0, at1, at2, at3, strOf, isNoneD, isRow, isTup, isStr, isTupN, isName, lk_str, dueN, h.nr, h.nc, h.nk, h.nf, h.ng, h.nh, h.nu, h.nv, h.nw, h.nt, h.no, h.np, h.nq, h.rc, h.rk, h.cr, h.ck, h.kr, h.kc, h.fg, h.fh, h.gf, h.gh, h.hf, h.hg, h.uv, h.uw, h.ut, h.uo, h.up, h.uq, h.vu, h.vw, h.vt, h.vo, h.vp, h.vq, h.wu, h.wv, h.wt, h.wo, h.wp, h.wq, h.tu, h.tv, h.tw, h.to, h.tp, h.tq, h.ou, h.ov, h.ow, h.ot, h.op, h.oq, h.pu, h.pv, h.pw, h.pt, h.po, h.pq, h.qu, h.qv, h.qw, h.qt, h.qo, h.qp, h.rI, h.Ir, h.cI, h.Ic, h.kI, h.Ik]
theorem row_49 (h : N.Ok) : mainD N [T [S "match", T [S N.w], L [T [.none, .int 5], T [S N.o, T []], T [S N.p, L []]]]] = dueN 5 "row" := by
  simp (decide := true) [told, mainD, chkRow, chkIn, chkBody, eachA, eachB, bodiesD, bodyWords, armSc, passFc, letSc, innerSc, declD, declGo, vPut, reasonD, stM, srtN, decl4, isStmt, sizesL, namesFit, armNamesFit, armNames, isNew, isKindD, isChoiceD, okD, placesFit, armsFit, armsGo, takesD, placeKind, fieldKind, partOf, standsRight, addedD, wordOf, items, at0, at1, at2, at3, strOf, isNoneD, isRow, isTup, isStr, isTupN, isName, lk_str, dueN, h.nr, h.nc, h.nk, h.nf, h.ng, h.nh, h.nu, h.nv, h.nw, h.nt, h.no, h.np, h.nq, h.rc, h.rk, h.cr, h.ck, h.kr, h.kc, h.fg, h.fh, h.gf, h.gh, h.hf, h.hg, h.uv, h.uw, h.ut, h.uo, h.up, h.uq, h.vu, h.vw, h.vt, h.vo, h.vp, h.vq, h.wu, h.wv, h.wt, h.wo, h.wp, h.wq, h.tu, h.tv, h.tw, h.to, h.tp, h.tq, h.ou, h.ov, h.ow, h.ot, h.op, h.oq, h.pu, h.pv, h.pw, h.pt, h.po, h.pq, h.qu, h.qv, h.qw, h.qt, h.qo, h.qp, h.rI, h.Ir, h.cI, h.Ic, h.kI, h.Ik]
theorem row_50 (h : N.Ok) : mainD N [T [S "match", T [S N.w], L [T [.none, T []], T [S N.o, .none], T [S N.p, L []]]]] = dueN 5 "row" := by
  simp (decide := true) [told, mainD, chkRow, chkIn, chkBody, eachA, eachB, bodiesD, bodyWords, armSc, passFc, letSc, innerSc, declD, declGo, vPut, reasonD, stM, srtN, decl4, isStmt, sizesL, namesFit, armNamesFit, armNames, isNew, isKindD, isChoiceD, okD, placesFit, armsFit, armsGo, takesD, placeKind, fieldKind, partOf, standsRight, addedD, wordOf, items, at0, at1, at2, at3, strOf, isNoneD, isRow, isTup, isStr, isTupN, isName, lk_str, dueN, h.nr, h.nc, h.nk, h.nf, h.ng, h.nh, h.nu, h.nv, h.nw, h.nt, h.no, h.np, h.nq, h.rc, h.rk, h.cr, h.ck, h.kr, h.kc, h.fg, h.fh, h.gf, h.gh, h.hf, h.hg, h.uv, h.uw, h.ut, h.uo, h.up, h.uq, h.vu, h.vw, h.vt, h.vo, h.vp, h.vq, h.wu, h.wv, h.wt, h.wo, h.wp, h.wq, h.tu, h.tv, h.tw, h.to, h.tp, h.tq, h.ou, h.ov, h.ow, h.ot, h.op, h.oq, h.pu, h.pv, h.pw, h.pt, h.po, h.pq, h.qu, h.qv, h.qw, h.qt, h.qo, h.qp, h.rI, h.Ir, h.cI, h.Ic, h.kI, h.Ik]
theorem row_51 (h : N.Ok) : mainD N [T [S "match", T [S N.w], L [T [.none, L [T [S "fail"]]], T [S N.o, .int 5], T [S N.p, L []]]]] = dueN 6 "row" := by
  simp (decide := true) [told, mainD, chkRow, chkIn, chkBody, eachA, eachB, bodiesD, bodyWords, armSc, passFc, letSc, innerSc, declD, declGo, vPut, reasonD, stM, srtN, decl4, isStmt, sizesL, namesFit, armNamesFit, armNames, isNew, isKindD, isChoiceD, okD, placesFit, armsFit, armsGo, takesD, placeKind, fieldKind, partOf, standsRight, addedD, wordOf, items, at0, at1, at2, at3, strOf, isNoneD, isRow, isTup, isStr, isTupN, isName, lk_str, dueN, h.nr, h.nc, h.nk, h.nf, h.ng, h.nh, h.nu, h.nv, h.nw, h.nt, h.no, h.np, h.nq, h.rc, h.rk, h.cr, h.ck, h.kr, h.kc, h.fg, h.fh, h.gf, h.gh, h.hf, h.hg, h.uv, h.uw, h.ut, h.uo, h.up, h.uq, h.vu, h.vw, h.vt, h.vo, h.vp, h.vq, h.wu, h.wv, h.wt, h.wo, h.wp, h.wq, h.tu, h.tv, h.tw, h.to, h.tp, h.tq, h.ou, h.ov, h.ow, h.ot, h.op, h.oq, h.pu, h.pv, h.pw, h.pt, h.po, h.pq, h.qu, h.qv, h.qw, h.qt, h.qo, h.qp, h.rI, h.Ir, h.cI, h.Ic, h.kI, h.Ik]
theorem row_52 (h : N.Ok) : mainD N [T [S "match", T [S N.w], L [T [.none, T []], T [S N.o, T []], T [S N.p, .dict []]]]] = dueN 5 "row" := by
  simp (decide := true) [told, mainD, chkRow, chkIn, chkBody, eachA, eachB, bodiesD, bodyWords, armSc, passFc, letSc, innerSc, declD, declGo, vPut, reasonD, stM, srtN, decl4, isStmt, sizesL, namesFit, armNamesFit, armNames, isNew, isKindD, isChoiceD, okD, placesFit, armsFit, armsGo, takesD, placeKind, fieldKind, partOf, standsRight, addedD, wordOf, items, at0, at1, at2, at3, strOf, isNoneD, isRow, isTup, isStr, isTupN, isName, lk_str, dueN, h.nr, h.nc, h.nk, h.nf, h.ng, h.nh, h.nu, h.nv, h.nw, h.nt, h.no, h.np, h.nq, h.rc, h.rk, h.cr, h.ck, h.kr, h.kc, h.fg, h.fh, h.gf, h.gh, h.hf, h.hg, h.uv, h.uw, h.ut, h.uo, h.up, h.uq, h.vu, h.vw, h.vt, h.vo, h.vp, h.vq, h.wu, h.wv, h.wt, h.wo, h.wp, h.wq, h.tu, h.tv, h.tw, h.to, h.tp, h.tq, h.ou, h.ov, h.ow, h.ot, h.op, h.oq, h.pu, h.pv, h.pw, h.pt, h.po, h.pq, h.qu, h.qv, h.qw, h.qt, h.qo, h.qp, h.rI, h.Ir, h.cI, h.Ic, h.kI, h.Ik]
end
end Lm

/-! The bodies of the arms: what is due. -/
namespace Lm
open PySem PySem.Spec PyProof.Rows L2
section
variable {N : Nm}
/-- a match with three bodies -/
def arms3 (N : Nm) (x y z : PyData) : List PyData := [T [S "match", T [S N.w], L [T [.none, x], T [S N.o, y], T [S N.p, z]]], T [S "drop", T [S N.w]]]
theorem body_0 (h : N.Ok) : mainD N (arms3 N (L []) (L [T [S "new", T [S N.o]]]) (L [T [S "new", T [S N.p, S N.f]]])) = none := by
  simp (decide := true) [arms3, told, mainD, chkRow, chkIn, chkBody, eachA, eachB, bodiesD, bodyWords, armSc, passFc, letSc, innerSc, declD, declGo, vPut, reasonD, stM, srtN, decl4, isStmt, sizesL, namesFit, armNamesFit, armNames, isNew, isKindD, isChoiceD, okD, placesFit, armsFit, armsGo, takesD, placeKind, fieldKind, partOf, standsRight, addedD, wordOf, items, at0, at1, at2, at3, strOf, isNoneD, isRow, isTup, isStr, isTupN, isName, lk_str, dueN, moveFits, ovl, PyData.eqv, PyData.eqvAll, h.nr, h.nc, h.nk, h.nf, h.ng, h.nh, h.nu, h.nv, h.nw, h.nt, h.no, h.np, h.nq, h.rc, h.rk, h.cr, h.ck, h.kr, h.kc, h.fg, h.fh, h.gf, h.gh, h.hf, h.hg, h.uv, h.uw, h.ut, h.uo, h.up, h.uq, h.vu, h.vw, h.vt, h.vo, h.vp, h.vq, h.wu, h.wv, h.wt, h.wo, h.wp, h.wq, h.tu, h.tv, h.tw, h.to, h.tp, h.tq, h.ou, h.ov, h.ow, h.ot, h.op, h.oq, h.pu, h.pv, h.pw, h.pt, h.po, h.pq, h.qu, h.qv, h.qw, h.qt, h.qo, h.qp, h.rI, h.Ir, h.cI, h.Ic, h.kI, h.Ik]
theorem body_1 (h : N.Ok) : mainD N (arms3 N (L []) (L [T [S "new", T [S N.p, S N.f]]]) (L [])) = dueN 5 "place" := by
  simp (decide := true) [arms3, told, mainD, chkRow, chkIn, chkBody, eachA, eachB, bodiesD, bodyWords, armSc, passFc, letSc, innerSc, declD, declGo, vPut, reasonD, stM, srtN, decl4, isStmt, sizesL, namesFit, armNamesFit, armNames, isNew, isKindD, isChoiceD, okD, placesFit, armsFit, armsGo, takesD, placeKind, fieldKind, partOf, standsRight, addedD, wordOf, items, at0, at1, at2, at3, strOf, isNoneD, isRow, isTup, isStr, isTupN, isName, lk_str, dueN, moveFits, ovl, PyData.eqv, PyData.eqvAll, h.nr, h.nc, h.nk, h.nf, h.ng, h.nh, h.nu, h.nv, h.nw, h.nt, h.no, h.np, h.nq, h.rc, h.rk, h.cr, h.ck, h.kr, h.kc, h.fg, h.fh, h.gf, h.gh, h.hf, h.hg, h.uv, h.uw, h.ut, h.uo, h.up, h.uq, h.vu, h.vw, h.vt, h.vo, h.vp, h.vq, h.wu, h.wv, h.wt, h.wo, h.wp, h.wq, h.tu, h.tv, h.tw, h.to, h.tp, h.tq, h.ou, h.ov, h.ow, h.ot, h.op, h.oq, h.pu, h.pv, h.pw, h.pt, h.po, h.pq, h.qu, h.qv, h.qw, h.qt, h.qo, h.qp, h.rI, h.Ir, h.cI, h.Ic, h.kI, h.Ik]
theorem body_2 (h : N.Ok) : mainD N (arms3 N (L [T [S "new", T [S N.o]]]) (L []) (L [])) = dueN 5 "place" := by
  simp (decide := true) [arms3, told, mainD, chkRow, chkIn, chkBody, eachA, eachB, bodiesD, bodyWords, armSc, passFc, letSc, innerSc, declD, declGo, vPut, reasonD, stM, srtN, decl4, isStmt, sizesL, namesFit, armNamesFit, armNames, isNew, isKindD, isChoiceD, okD, placesFit, armsFit, armsGo, takesD, placeKind, fieldKind, partOf, standsRight, addedD, wordOf, items, at0, at1, at2, at3, strOf, isNoneD, isRow, isTup, isStr, isTupN, isName, lk_str, dueN, moveFits, ovl, PyData.eqv, PyData.eqvAll, h.nr, h.nc, h.nk, h.nf, h.ng, h.nh, h.nu, h.nv, h.nw, h.nt, h.no, h.np, h.nq, h.rc, h.rk, h.cr, h.ck, h.kr, h.kc, h.fg, h.fh, h.gf, h.gh, h.hf, h.hg, h.uv, h.uw, h.ut, h.uo, h.up, h.uq, h.vu, h.vw, h.vt, h.vo, h.vp, h.vq, h.wu, h.wv, h.wt, h.wo, h.wp, h.wq, h.tu, h.tv, h.tw, h.to, h.tp, h.tq, h.ou, h.ov, h.ow, h.ot, h.op, h.oq, h.pu, h.pv, h.pw, h.pt, h.po, h.pq, h.qu, h.qv, h.qw, h.qt, h.qo, h.qp, h.rI, h.Ir, h.cI, h.Ic, h.kI, h.Ik]
theorem body_3 (h : N.Ok) : mainD N (arms3 N (L []) (L [T [S "new", T [S N.o]]]) (L [T [S "new", T [S N.o]]])) = dueN 6 "place" := by
  simp (decide := true) [arms3, told, mainD, chkRow, chkIn, chkBody, eachA, eachB, bodiesD, bodyWords, armSc, passFc, letSc, innerSc, declD, declGo, vPut, reasonD, stM, srtN, decl4, isStmt, sizesL, namesFit, armNamesFit, armNames, isNew, isKindD, isChoiceD, okD, placesFit, armsFit, armsGo, takesD, placeKind, fieldKind, partOf, standsRight, addedD, wordOf, items, at0, at1, at2, at3, strOf, isNoneD, isRow, isTup, isStr, isTupN, isName, lk_str, dueN, moveFits, ovl, PyData.eqv, PyData.eqvAll, h.nr, h.nc, h.nk, h.nf, h.ng, h.nh, h.nu, h.nv, h.nw, h.nt, h.no, h.np, h.nq, h.rc, h.rk, h.cr, h.ck, h.kr, h.kc, h.fg, h.fh, h.gf, h.gh, h.hf, h.hg, h.uv, h.uw, h.ut, h.uo, h.up, h.uq, h.vu, h.vw, h.vt, h.vo, h.vp, h.vq, h.wu, h.wv, h.wt, h.wo, h.wp, h.wq, h.tu, h.tv, h.tw, h.to, h.tp, h.tq, h.ou, h.ov, h.ow, h.ot, h.op, h.oq, h.pu, h.pv, h.pw, h.pt, h.po, h.pq, h.qu, h.qv, h.qw, h.qt, h.qo, h.qp, h.rI, h.Ir, h.cI, h.Ic, h.kI, h.Ik]
theorem body_4 (h : N.Ok) : mainD N (arms3 N (L []) (L []) (L [T [S "new", T [S N.p, S N.g]], T [S "move", T [S N.p], T [S N.p]]])) = dueN 6 "place" := by
  simp (decide := true) [arms3, told, mainD, chkRow, chkIn, chkBody, eachA, eachB, bodiesD, bodyWords, armSc, passFc, letSc, innerSc, declD, declGo, vPut, reasonD, stM, srtN, decl4, isStmt, sizesL, namesFit, armNamesFit, armNames, isNew, isKindD, isChoiceD, okD, placesFit, armsFit, armsGo, takesD, placeKind, fieldKind, partOf, standsRight, addedD, wordOf, items, at0, at1, at2, at3, strOf, isNoneD, isRow, isTup, isStr, isTupN, isName, lk_str, dueN, moveFits, ovl, PyData.eqv, PyData.eqvAll, h.nr, h.nc, h.nk, h.nf, h.ng, h.nh, h.nu, h.nv, h.nw, h.nt, h.no, h.np, h.nq, h.rc, h.rk, h.cr, h.ck, h.kr, h.kc, h.fg, h.fh, h.gf, h.gh, h.hf, h.hg, h.uv, h.uw, h.ut, h.uo, h.up, h.uq, h.vu, h.vw, h.vt, h.vo, h.vp, h.vq, h.wu, h.wv, h.wt, h.wo, h.wp, h.wq, h.tu, h.tv, h.tw, h.to, h.tp, h.tq, h.ou, h.ov, h.ow, h.ot, h.op, h.oq, h.pu, h.pv, h.pw, h.pt, h.po, h.pq, h.qu, h.qv, h.qw, h.qt, h.qo, h.qp, h.rI, h.Ir, h.cI, h.Ic, h.kI, h.Ik]
theorem body_5 (h : N.Ok) : mainD N (arms3 N (L []) (L [T [S "new", T [S N.o, S N.f]]]) (L [])) = dueN 5 "place" := by
  simp (decide := true) [arms3, told, mainD, chkRow, chkIn, chkBody, eachA, eachB, bodiesD, bodyWords, armSc, passFc, letSc, innerSc, declD, declGo, vPut, reasonD, stM, srtN, decl4, isStmt, sizesL, namesFit, armNamesFit, armNames, isNew, isKindD, isChoiceD, okD, placesFit, armsFit, armsGo, takesD, placeKind, fieldKind, partOf, standsRight, addedD, wordOf, items, at0, at1, at2, at3, strOf, isNoneD, isRow, isTup, isStr, isTupN, isName, lk_str, dueN, moveFits, ovl, PyData.eqv, PyData.eqvAll, h.nr, h.nc, h.nk, h.nf, h.ng, h.nh, h.nu, h.nv, h.nw, h.nt, h.no, h.np, h.nq, h.rc, h.rk, h.cr, h.ck, h.kr, h.kc, h.fg, h.fh, h.gf, h.gh, h.hf, h.hg, h.uv, h.uw, h.ut, h.uo, h.up, h.uq, h.vu, h.vw, h.vt, h.vo, h.vp, h.vq, h.wu, h.wv, h.wt, h.wo, h.wp, h.wq, h.tu, h.tv, h.tw, h.to, h.tp, h.tq, h.ou, h.ov, h.ow, h.ot, h.op, h.oq, h.pu, h.pv, h.pw, h.pt, h.po, h.pq, h.qu, h.qv, h.qw, h.qt, h.qo, h.qp, h.rI, h.Ir, h.cI, h.Ic, h.kI, h.Ik]
theorem body_6 (h : N.Ok) : mainD N (arms3 N (L [T [S "let", S N.o, S "item"]]) (L []) (L [])) = dueN 5 "name" := by
  simp (decide := true) [arms3, told, mainD, chkRow, chkIn, chkBody, eachA, eachB, bodiesD, bodyWords, armSc, passFc, letSc, innerSc, declD, declGo, vPut, reasonD, stM, srtN, decl4, isStmt, sizesL, namesFit, armNamesFit, armNames, isNew, isKindD, isChoiceD, okD, placesFit, armsFit, armsGo, takesD, placeKind, fieldKind, partOf, standsRight, addedD, wordOf, items, at0, at1, at2, at3, strOf, isNoneD, isRow, isTup, isStr, isTupN, isName, lk_str, dueN, moveFits, ovl, PyData.eqv, PyData.eqvAll, h.nr, h.nc, h.nk, h.nf, h.ng, h.nh, h.nu, h.nv, h.nw, h.nt, h.no, h.np, h.nq, h.rc, h.rk, h.cr, h.ck, h.kr, h.kc, h.fg, h.fh, h.gf, h.gh, h.hf, h.hg, h.uv, h.uw, h.ut, h.uo, h.up, h.uq, h.vu, h.vw, h.vt, h.vo, h.vp, h.vq, h.wu, h.wv, h.wt, h.wo, h.wp, h.wq, h.tu, h.tv, h.tw, h.to, h.tp, h.tq, h.ou, h.ov, h.ow, h.ot, h.op, h.oq, h.pu, h.pv, h.pw, h.pt, h.po, h.pq, h.qu, h.qv, h.qw, h.qt, h.qo, h.qp, h.rI, h.Ir, h.cI, h.Ic, h.kI, h.Ik]
theorem body_7 (h : N.Ok) : mainD N (arms3 N (L [T [S "fail"]]) (L [T [S "let", S N.p, S "item"]]) (L [.none])) = dueN 6 "name" := by
  simp (decide := true) [arms3, told, mainD, chkRow, chkIn, chkBody, eachA, eachB, bodiesD, bodyWords, armSc, passFc, letSc, innerSc, declD, declGo, vPut, reasonD, stM, srtN, decl4, isStmt, sizesL, namesFit, armNamesFit, armNames, isNew, isKindD, isChoiceD, okD, placesFit, armsFit, armsGo, takesD, placeKind, fieldKind, partOf, standsRight, addedD, wordOf, items, at0, at1, at2, at3, strOf, isNoneD, isRow, isTup, isStr, isTupN, isName, lk_str, dueN, moveFits, ovl, PyData.eqv, PyData.eqvAll, h.nr, h.nc, h.nk, h.nf, h.ng, h.nh, h.nu, h.nv, h.nw, h.nt, h.no, h.np, h.nq, h.rc, h.rk, h.cr, h.ck, h.kr, h.kc, h.fg, h.fh, h.gf, h.gh, h.hf, h.hg, h.uv, h.uw, h.ut, h.uo, h.up, h.uq, h.vu, h.vw, h.vt, h.vo, h.vp, h.vq, h.wu, h.wv, h.wt, h.wo, h.wp, h.wq, h.tu, h.tv, h.tw, h.to, h.tp, h.tq, h.ou, h.ov, h.ow, h.ot, h.op, h.oq, h.pu, h.pv, h.pw, h.pt, h.po, h.pq, h.qu, h.qv, h.qw, h.qt, h.qo, h.qp, h.rI, h.Ir, h.cI, h.Ic, h.kI, h.Ik]
theorem body_8 (h : N.Ok) : mainD N (arms3 N (L []) (L []) (L [T [S "let", S N.o, S "item"]])) = dueN 5 "name" := by
  simp (decide := true) [arms3, told, mainD, chkRow, chkIn, chkBody, eachA, eachB, bodiesD, bodyWords, armSc, passFc, letSc, innerSc, declD, declGo, vPut, reasonD, stM, srtN, decl4, isStmt, sizesL, namesFit, armNamesFit, armNames, isNew, isKindD, isChoiceD, okD, placesFit, armsFit, armsGo, takesD, placeKind, fieldKind, partOf, standsRight, addedD, wordOf, items, at0, at1, at2, at3, strOf, isNoneD, isRow, isTup, isStr, isTupN, isName, lk_str, dueN, moveFits, ovl, PyData.eqv, PyData.eqvAll, h.nr, h.nc, h.nk, h.nf, h.ng, h.nh, h.nu, h.nv, h.nw, h.nt, h.no, h.np, h.nq, h.rc, h.rk, h.cr, h.ck, h.kr, h.kc, h.fg, h.fh, h.gf, h.gh, h.hf, h.hg, h.uv, h.uw, h.ut, h.uo, h.up, h.uq, h.vu, h.vw, h.vt, h.vo, h.vp, h.vq, h.wu, h.wv, h.wt, h.wo, h.wp, h.wq, h.tu, h.tv, h.tw, h.to, h.tp, h.tq, h.ou, h.ov, h.ow, h.ot, h.op, h.oq, h.pu, h.pv, h.pw, h.pt, h.po, h.pq, h.qu, h.qv, h.qw, h.qt, h.qo, h.qp, h.rI, h.Ir, h.cI, h.Ic, h.kI, h.Ik]
theorem body_9 (h : N.Ok) : mainD N (arms3 N (L [T [S "block", T [T [S "fail"]]]]) (L [T [S "new", T [S N.o]], T [S "block", L [T [S "new", T [S N.p, S N.f]]]]]) (L [])) = dueN 9 "place" := by
  simp (decide := true) [arms3, told, mainD, chkRow, chkIn, chkBody, eachA, eachB, bodiesD, bodyWords, armSc, passFc, letSc, innerSc, declD, declGo, vPut, reasonD, stM, srtN, decl4, isStmt, sizesL, namesFit, armNamesFit, armNames, isNew, isKindD, isChoiceD, okD, placesFit, armsFit, armsGo, takesD, placeKind, fieldKind, partOf, standsRight, addedD, wordOf, items, at0, at1, at2, at3, strOf, isNoneD, isRow, isTup, isStr, isTupN, isName, lk_str, dueN, moveFits, ovl, PyData.eqv, PyData.eqvAll, h.nr, h.nc, h.nk, h.nf, h.ng, h.nh, h.nu, h.nv, h.nw, h.nt, h.no, h.np, h.nq, h.rc, h.rk, h.cr, h.ck, h.kr, h.kc, h.fg, h.fh, h.gf, h.gh, h.hf, h.hg, h.uv, h.uw, h.ut, h.uo, h.up, h.uq, h.vu, h.vw, h.vt, h.vo, h.vp, h.vq, h.wu, h.wv, h.wt, h.wo, h.wp, h.wq, h.tu, h.tv, h.tw, h.to, h.tp, h.tq, h.ou, h.ov, h.ow, h.ot, h.op, h.oq, h.pu, h.pv, h.pw, h.pt, h.po, h.pq, h.qu, h.qv, h.qw, h.qt, h.qo, h.qp, h.rI, h.Ir, h.cI, h.Ic, h.kI, h.Ik]
theorem body_10 (h : N.Ok) : mainD N (arms3 N (L []) (L [T [S "break"]]) (L [])) = dueN 5 "last" := by
  simp (decide := true) [arms3, told, mainD, chkRow, chkIn, chkBody, eachA, eachB, bodiesD, bodyWords, armSc, passFc, letSc, innerSc, declD, declGo, vPut, reasonD, stM, srtN, decl4, isStmt, sizesL, namesFit, armNamesFit, armNames, isNew, isKindD, isChoiceD, okD, placesFit, armsFit, armsGo, takesD, placeKind, fieldKind, partOf, standsRight, addedD, wordOf, items, at0, at1, at2, at3, strOf, isNoneD, isRow, isTup, isStr, isTupN, isName, lk_str, dueN, moveFits, ovl, PyData.eqv, PyData.eqvAll, h.nr, h.nc, h.nk, h.nf, h.ng, h.nh, h.nu, h.nv, h.nw, h.nt, h.no, h.np, h.nq, h.rc, h.rk, h.cr, h.ck, h.kr, h.kc, h.fg, h.fh, h.gf, h.gh, h.hf, h.hg, h.uv, h.uw, h.ut, h.uo, h.up, h.uq, h.vu, h.vw, h.vt, h.vo, h.vp, h.vq, h.wu, h.wv, h.wt, h.wo, h.wp, h.wq, h.tu, h.tv, h.tw, h.to, h.tp, h.tq, h.ou, h.ov, h.ow, h.ot, h.op, h.oq, h.pu, h.pv, h.pw, h.pt, h.po, h.pq, h.qu, h.qv, h.qw, h.qt, h.qo, h.qp, h.rI, h.Ir, h.cI, h.Ic, h.kI, h.Ik]
theorem body_11 (h : N.Ok) : mainD N (arms3 N (L [T [S "fail"], .none]) (L []) (L [])) = dueN 5 "last" := by
  simp (decide := true) [arms3, told, mainD, chkRow, chkIn, chkBody, eachA, eachB, bodiesD, bodyWords, armSc, passFc, letSc, innerSc, declD, declGo, vPut, reasonD, stM, srtN, decl4, isStmt, sizesL, namesFit, armNamesFit, armNames, isNew, isKindD, isChoiceD, okD, placesFit, armsFit, armsGo, takesD, placeKind, fieldKind, partOf, standsRight, addedD, wordOf, items, at0, at1, at2, at3, strOf, isNoneD, isRow, isTup, isStr, isTupN, isName, lk_str, dueN, moveFits, ovl, PyData.eqv, PyData.eqvAll, h.nr, h.nc, h.nk, h.nf, h.ng, h.nh, h.nu, h.nv, h.nw, h.nt, h.no, h.np, h.nq, h.rc, h.rk, h.cr, h.ck, h.kr, h.kc, h.fg, h.fh, h.gf, h.gh, h.hf, h.hg, h.uv, h.uw, h.ut, h.uo, h.up, h.uq, h.vu, h.vw, h.vt, h.vo, h.vp, h.vq, h.wu, h.wv, h.wt, h.wo, h.wp, h.wq, h.tu, h.tv, h.tw, h.to, h.tp, h.tq, h.ou, h.ov, h.ow, h.ot, h.op, h.oq, h.pu, h.pv, h.pw, h.pt, h.po, h.pq, h.qu, h.qv, h.qw, h.qt, h.qo, h.qp, h.rI, h.Ir, h.cI, h.Ic, h.kI, h.Ik]
theorem again_0 (h : N.Ok) : mainD N [T [S "match", T [S N.w], L [T [.none, T []], T [S N.o, T []], T [S N.p, T []]]], T [S "new", T [S N.o]]] = dueN 5 "place" := by
  simp (decide := true) [told, mainD, chkRow, chkIn, chkBody, eachA, eachB, bodiesD, bodyWords, armSc, passFc, letSc, innerSc, declD, declGo, vPut, reasonD, stM, srtN, decl4, isStmt, sizesL, namesFit, armNamesFit, armNames, isNew, isKindD, isChoiceD, okD, placesFit, armsFit, armsGo, takesD, placeKind, fieldKind, partOf, standsRight, addedD, wordOf, items, at0, at1, at2, at3, strOf, isNoneD, isRow, isTup, isStr, isTupN, isName, lk_str, dueN, moveFits, ovl, PyData.eqv, PyData.eqvAll, h.nr, h.nc, h.nk, h.nf, h.ng, h.nh, h.nu, h.nv, h.nw, h.nt, h.no, h.np, h.nq, h.rc, h.rk, h.cr, h.ck, h.kr, h.kc, h.fg, h.fh, h.gf, h.gh, h.hf, h.hg, h.uv, h.uw, h.ut, h.uo, h.up, h.uq, h.vu, h.vw, h.vt, h.vo, h.vp, h.vq, h.wu, h.wv, h.wt, h.wo, h.wp, h.wq, h.tu, h.tv, h.tw, h.to, h.tp, h.tq, h.ou, h.ov, h.ow, h.ot, h.op, h.oq, h.pu, h.pv, h.pw, h.pt, h.po, h.pq, h.qu, h.qv, h.qw, h.qt, h.qo, h.qp, h.rI, h.Ir, h.cI, h.Ic, h.kI, h.Ik]
theorem again_1 (h : N.Ok) : mainD N [T [S "match", T [S N.w], L [T [.none, T []], T [S N.o, T []], T [S N.p, T []]]], T [S "let", S N.p, S "item"]] = dueN 5 "name" := by
  simp (decide := true) [told, mainD, chkRow, chkIn, chkBody, eachA, eachB, bodiesD, bodyWords, armSc, passFc, letSc, innerSc, declD, declGo, vPut, reasonD, stM, srtN, decl4, isStmt, sizesL, namesFit, armNamesFit, armNames, isNew, isKindD, isChoiceD, okD, placesFit, armsFit, armsGo, takesD, placeKind, fieldKind, partOf, standsRight, addedD, wordOf, items, at0, at1, at2, at3, strOf, isNoneD, isRow, isTup, isStr, isTupN, isName, lk_str, dueN, moveFits, ovl, PyData.eqv, PyData.eqvAll, h.nr, h.nc, h.nk, h.nf, h.ng, h.nh, h.nu, h.nv, h.nw, h.nt, h.no, h.np, h.nq, h.rc, h.rk, h.cr, h.ck, h.kr, h.kc, h.fg, h.fh, h.gf, h.gh, h.hf, h.hg, h.uv, h.uw, h.ut, h.uo, h.up, h.uq, h.vu, h.vw, h.vt, h.vo, h.vp, h.vq, h.wu, h.wv, h.wt, h.wo, h.wp, h.wq, h.tu, h.tv, h.tw, h.to, h.tp, h.tq, h.ou, h.ov, h.ow, h.ot, h.op, h.oq, h.pu, h.pv, h.pw, h.pt, h.po, h.pq, h.qu, h.qv, h.qw, h.qt, h.qo, h.qp, h.rI, h.Ir, h.cI, h.Ic, h.kI, h.Ik]
end
end Lm

/-! try with several clauses that name what they caught; what was caught is an object of the heap told. -/
namespace L2
open PySem PySem.Spec PyProof.Rows
/-- what was caught, of the class c; d: its dict -/
def exq (a : Addr) (c : Value) (d : Option Addr) : HO := .ext fun g => ∃ (ob : Obj) (ws : Array Value), g.get? a = some ob ∧ Zc c d ob ∧ ob.data = .fields ws
theorem exq_ok {P : Program} {w : World} {H : Hp} {g : Heap} {a : Addr} {c : Value} {d : Option Addr} {ob : Obj} {ws : Array Value} (e : g.get? a = some ob) (z : Zc c d ob) (y : ob.data = .fields ws) : ObjOk P w H g a (exq a c d) :=
  ⟨⟨ob, ws, e, z, y⟩, ⟨ob, e⟩, fun _ _ ⟨o, v, q, r⟩ k => ⟨o, v, k o q, r⟩⟩
theorem exq_at {P : Program} {w : World} {H : Hp} {g : Heap} {a : Addr} {c : Value} {d : Option Addr} (ok : HOk P w H g) (e : H a = some (exq a c d)) : ∃ (ob : Obj) (ws : Array Value), g.get? a = some ob ∧ Zc c d ob ∧ ob.data = .fields ws := by
  have z := ok a _ e
  exact z.1
/-- at the entry of the def nothing stood there -/
def NewAt (X : Cx) (a : Addr) : Prop := ∀ o, X.s_0.heap.get? a = some o → X.H_0 a ≠ none
section
variable {X : Cx} {pins : List (Addr × Obj)} {σ : L2.St} {H : Hp} {s : Shared}
theorem Inv.catch {a : Addr} {c : Value} {d : Option Addr} {ob : Obj} {ws : Array Value} (I : Inv X pins σ H s) (na : H a = none) (nw : NewAt X a) (e : s.heap.get? a = some ob) (z : Zc c d ob) (y : ob.data = .fields ws) (nL : a ≠ X.env.locals) (np : ∀ p ∈ X.pn ++ pins, p.1 ≠ a) :
    Inv (X.suite a X.pn) pins σ (upd H a (exq a c d)) s := by
  have nc : ∀ x k, X.env.cells.lookup x = some k → k ≠ a := fun x k h q => by
    subst q
    obtain ⟨v, o, e1, e2⟩ := I.cell x _ h
    rw [e] at e1
    cases e1
    rw [y] at e2
    cases e2
  have B : Un X.fs X.ex X.H_0 (upd H a (exq a c d)) X.s_0.heap s.heap := {
    keep := I.base.keep
    slot := I.base.slot
    free := fun b o q n hx => by
      have ne : b ≠ a := fun g => by
        subst g
        exact nw o q n
      rw [upd_ne ne]
      exact I.base.free b o q n hx
    there := I.base.there
    tups := fun b xs q => by
      have r := I.base.tups b xs q
      rw [upd_ne (ne_of_none r na)]
      exact r
    frzs := fun b o u q => by
      have r := I.base.frzs b o u q
      rw [upd_ne (ne_of_none r na)]
      exact r
    tbls := fun b ps q => by
      obtain ⟨m, r⟩ := I.base.tbls b ps q
      refine ⟨m, ?_⟩
      rw [upd_ne (ne_of_none r na)]
      exact r }
  refine ⟨I.ok.suite _ _, I.os, I.bare, B, I.loc, I.cell, ?_, fun x k h => ?_, fun p hp => ?_, fun b u q => ?_, I.len⟩
  · show upd H a (exq a c d) X.env.locals = none
    rw [upd_ne nL.symm]
    exact I.free
  · rw [upd_ne (nc x k h)]
    exact I.freeC x k h
  · obtain ⟨h1, h2, h3, h4, h5⟩ := I.pin p hp
    exact ⟨h1, by rw [upd_ne (np p hp)]; exact h2, h3, h4, h5⟩
  · by_cases hb : b = a
    · subst hb
      rw [upd_same] at q
      cases q
      exact exq_ok e z y
    · rw [upd_ne hb] at q
      exact (I.hok b u q).stay (fun _ _ _ r => r) (fun k r => by rw [upd_ne (ne_of_none r na)]; exact r) fun k xs r => by rw [upd_ne (ne_of_none r na)]; exact r
theorem Inv.calmed {a : Addr} (I : Inv (X.suite a X.pn) pins σ H s) (ok : X.Ok) : Inv X pins σ H s :=
  ⟨ok, I.os, I.bare, I.base, I.loc, I.cell, I.free, I.freeC, I.pin, I.hok, I.len⟩
end
/-- a clause: its class, the slot of its name, its suite -/
abbrev Cl := Value × Option Nat × (Addr → Value → Option Addr → TS)
def outD (i : Nat) (D : Ends) : Ends := { nx := fun z H' => D.nx (z.set i none) H', rt := D.rt, bk := fun z H' => D.bk (z.set i none) H', ct := fun z H' => D.ct (z.set i none) H' }
/-- what the clauses wish -/
def wCls (K : PySem.W.Frag) (Wo : WX) (D : Ends) : List Cl → WX
  | [] => Wo
  | (c, none, ts) :: r => fun cls d σ H => ∃ b, PySem.W.exmOne K cls c = some b ∧ (b = true → ∀ a, H a = none → ts a cls d D σ (upd H a (exq a cls d))) ∧ (b = false → wCls K Wo D r cls d σ H)
  | (c, some i, ts) :: r => fun cls d σ H => ∃ b, PySem.W.exmOne K cls c = some b ∧ (b = true → ∀ a, H a = none → ts a cls d (outD i D) (σ.set i (some (.ref a))) (upd H a (exq a cls d))) ∧ (b = false → wCls K Wo D r cls d σ H)
inductive ClsOk (X : Cx) : List ExceptHandler → List Cl → Prop
  | nil : ClsOk X [] []
  | no {x : Str} {c : Value} {ts : Addr → Value → Option Addr → TS} {b0 : Stmt} {su : List Stmt} {p1 p2 : Pos} {hd : List ExceptHandler} {l : List Cl} (n : Names X x c)
      (ok : ∀ (a : Addr) (cls : Value) (d : Option Addr), PSs (X.suite a X.pn) (b0 :: su) (ts a cls d)) (r : ClsOk X hd l) :
      ClsOk X (.ExceptHandler (some (.Name x p1)) none (b0 :: su) p2 :: hd) ((c, none, ts) :: l)
  | named {x n : Str} {i : Nat} {c : Value} {ts : Addr → Value → Option Addr → TS} {b0 : Stmt} {su : List Stmt} {p1 p2 : Pos} {hd : List ExceptHandler} {l : List Cl} (m : Names X x c) (hi : X.N[i]? = some n) (hl : X.env.kindOf n = some .local)
      (ok : ∀ (a : Addr) (cls : Value) (d : Option Addr), PSs (X.suite a X.pn) (b0 :: su) (ts a cls d)) (r : ClsOk X hd l) :
      ClsOk X (.ExceptHandler (some (.Name x p1)) (some n) (b0 :: su) p2 :: hd) ((c, some i, ts) :: l)
section
variable {X : Cx} {body : List Stmt} {h0 : ExceptHandler} {hd : List ExceptHandler} {l : List Cl} {pos : Pos} {tb : WX → TS} {Wo : WX}
theorem ps_try_cls (hs : X.stack = X.env :: X.outer) (hf : X.env.frame = some X.env.locals) (hN : X.N.Nodup) (hx : X.ex = []) (tk : Takes X Wo)
    (hb : ∀ (W : WX) (pn : List (Addr × Obj)) (xe : Value → Shared → Prop), Takes (X.tr pn xe) W → PassesOwn (model X.prog X.w) X.A X.env xe → PSs (X.tr pn xe) body (tb W))
    (hc : ClsOk X (h0 :: hd) l) : PS X (.Try body (h0 :: hd) [] [] pos) (fun D σ H => tb (wCls X.K Wo D l) D σ H) := by
  refine ⟨fun pins s σ H D I h => ?_⟩
  have ok := I.ok
  have fr : X.A.frames = some (X.env :: X.outer) := by rw [ok.frames, hs]
  refine wpAny_Try_except ?_
  refine wpAny_mono ((hb (wCls X.K Wo D l) (X.pn ++ pins) (fun e s1 => wpAny (model X.prog X.w) X.A (noteFrame e X.env) (fun _ s2 => wpAny (model X.prog X.w) X.A (setFlight e none) (fun _ s3 =>
    wpAny (model X.prog X.w) X.A (handleBy e X.env (h0 :: hd)) (SP X pins D) X.xe s3) X.xe s2) X.xe s1) (fun u s' xx => ?_) PassesOwn.looking).run [] s σ H D (I.toTry _) h) (fun f s1 hsp => ?_) (fun e s1 he => he)
  · obtain ⟨a, B, sI, pins', σ1, H1, cls, d, rfl, J0, nb, up, sky, na, os, ag, w⟩ := xx
    have J : Inv X pins σ1 H1 sI := J0.ofTry ok
    have sky1 : Sky B (X.env :: X.outer) a (Zc cls d) X.env.locals s'.heap := by rw [← hs]; exact sky
    show wpAny (model X.prog X.w) X.A (noteFrame (.ref a) X.env) _ _ _
    refine Sky.land Zc.steady fr hf sky1 fun g3 fl3 up3 => ?_
    have J3 : Inv X pins σ1 H1 { s' with heap := g3 } := J.landed nb fl3.1 (up.trans up3) os ag
    obtain ⟨o3, w3, he3, hz3, hd3⟩ := fl3.there
    have aB : B.get? a = none := fl3.2.1
    have nfr : a ∉ frs X.stack := fun hm => by
      rw [hs] at hm
      obtain ⟨_, o', e', hn⟩ := fl3.2.2.1.mem hm
      rw [he3] at e'
      cases e'
      exact hn _ hd3
    have noI : ∀ o, sI.heap.get? a ≠ some o := fun o e => by
      have q := nb a o e nfr
      rw [aB] at q
      cases q
    have nL : a ≠ X.env.locals := fun z => nfr (by rw [hs]; exact List.mem_filterMap.mpr ⟨X.env, List.mem_cons_self, by rw [hf, z]⟩)
    have np : ∀ p ∈ X.pn ++ pins, p.1 ≠ a := fun p hp z => noI p.2 (by rw [← z]; exact (J.pin p hp).1)
    have nw : NewAt X a := fun o e n => by
      obtain ⟨o', q⟩ := J.base.there a o e (by rw [hx]; exact fun z => nomatch z)
      exact noI o' q
    have go : ∀ {hs' : List ExceptHandler} {l' : List Cl}, ClsOk X hs' l' → wCls X.K Wo D l' cls d σ1 H1 → wpAny (model X.prog X.w) X.A (handleBy (.ref a) X.env hs') (SP X pins D) X.xe { s' with heap := g3 } := by
      have J3h := J3.catch na nw he3 hz3 hd3 nL np
      have LT : PySem.W.Looks (model X.prog X.w) g3 (typeOf (.ref a)) cls := fun A Q E s k q => wpAny_typeOf_ref (k _ _ he3) (by rw [hz3.1]; exact q)
      have test : ∀ {x : Str} {c : Value} {np : Pos} {Q E : Value → Shared → Prop}, Names X x c → Q c { s' with heap := g3 } → wpAny (model X.prog X.w) (X.A.mark (some (.ref a))) (eval (.Name x np) X.env) Q E { s' with heap := g3 } := fun {x c np Q E} n q => by
        obtain ⟨hg, hdb, hm | ⟨hm, hv, hnn⟩⟩ := n
        · exact ld_glob (X := X.suite a X.pn) J3h hg hm q hdb
        · exact ld_blt (X := X.suite a X.pn) J3h hg hm hv q hnn hdb
      intro hs' l' hk
      induction hk with
      | nil =>
        intro w
        refine wpAny_handleBy_nil ?_
        obtain ⟨k1, k2, k3, oe, vs, T, oT, ts', he, hz, hd, h1, hr⟩ := id fl3
        unfold PySem.passOn
        refine wpAny_bind (wpAny_field he hd h1 ?_)
        rw [if_neg (show ¬ ((Value.ref T == Value.none) = true) from by simp)]
        have fin : wpAny (model X.prog X.w) X.A (setFlight (.ref a) X.env.frame) (fun _ s4 => wpAny (model X.prog X.w) X.A (throw (.ref a) : Sem Flow) (SP X pins D) X.xe s4) X.xe { s' with heap := g3 } := by
          rw [hf]
          refine HandSPX.setFlight_upZ fl3 fun h4 hh4 up4 => wpAny_throw (tk _ _ ?_)
          exact ⟨a, B, sI, pins, σ1, H1, cls, d, rfl, J, nb, (up.trans up3).trans up4, .inr (.inr (by rw [hs]; exact hh4)), na, os, ag, w⟩
        first
          | exact wpAny_bind (wpAny_pure (wpAny_bind fin))
          | exact wpAny_bind fin
      | no n suok r ih =>
        intro w
        obtain ⟨b, hb1, yes, no⟩ := w
        refine wpAny_handleBy_cons (codeAny_handlers_test ?_) (by intro q; cases q)
        refine test n ((PySem.W.exm_one (M := model X.prog X.w) J3.kIn LT hb1).here ?_)
        cases b with
        | false =>
          show wpAny _ X.A (handleBy (.ref a) X.env _) _ _ _
          exact ih (no rfl)
        | true =>
          refine codeAny_handlers_suite ?_
          refine HandSPX.lands_againZ fl3 fun g4 fl4 up4 => ?_
          have J4 : Inv X pins σ1 H1 { s' with heap := g4 } := J.landed nb fl4.1 ((up.trans up3).trans up4) os ag
          obtain ⟨o4, w4, he4, hz4, hd4⟩ := fl4.there
          have S4 := J4.catch na nw he4 hz4 hd4 nL np
          refine wpAny_mono ((suok a cls d).run pins _ _ _ _ S4 (yes rfl a na)) (fun f s6 hsp => ?_) (fun _ _ z => False.elim z)
          cases f with
          | next =>
            obtain ⟨σ6, H6, S6, q6⟩ := hsp
            exact ⟨_, _, S6.calmed ok, q6⟩
          | brk =>
            obtain ⟨σ6, H6, S6, q6⟩ := hsp
            exact ⟨_, _, S6.calmed ok, q6⟩
          | cont =>
            obtain ⟨σ6, H6, S6, q6⟩ := hsp
            exact ⟨_, _, S6.calmed ok, q6⟩
          | ret u =>
            obtain ⟨v6, σ6, H6, S6, r6, q6⟩ := hsp
            exact ⟨_, _, _, S6.calmed ok, r6, q6⟩
      | @named x nn i c ts b0 su p1 p2 hd2 l2 m hi hl suok r ih =>
        intro w
        obtain ⟨b, hb1, yes, no⟩ := w
        refine wpAny_handleBy_cons (codeAny_handlers_test ?_) (by intro q; cases q)
        refine test m ((PySem.W.exm_one (M := model X.prog X.w) J3.kIn LT hb1).here ?_)
        cases b with
        | false =>
          show wpAny _ X.A (handleBy (.ref a) X.env _) _ _ _
          exact ih (no rfl)
        | true =>
          refine codeAny_handlers_suite_as ?_
          refine HandSPX.lands_againZ fl3 fun g4 fl4 up4 => ?_
          have J4 : Inv X pins σ1 H1 { s' with heap := g4 } := J.landed nb fl4.1 ((up.trans up3).trans up4) os ag
          obtain ⟨o4, w4, he4, hz4, hd4⟩ := fl4.there
          have S4 := J4.catch na nw he4 hz4 hd4 nL np
          refine store_ok (X := X.suite a X.pn) (v := .ref a) S4 hN hi (.inl hl) rfl (fun s5 S5 => ?_) (.inr hl)
          refine wpAny_mono ((suok a cls d).run pins s5 _ _ _ S5 (yes rfl a na)) (fun f s6 hsp => ?_) (fun _ _ z => False.elim z)
          have end_ : ∀ {σ6 : L2.St} {H6 : Hp} {Q : Shared → Prop}, Inv (X.suite a X.pn) pins σ6 H6 s6 → (∀ s7, Inv X pins (σ6.set i none) H6 s7 → Q s7) →
              wpAny (model X.prog X.w) X.A (do bindName X.env nn .none; unbindBehindTheSuite X.env nn p2) (fun _ s7 => Q s7) X.xe s6 := fun {σ6 H6 Q} S6 hq => gone_ok (S6.calmed ok) hN hi hl hq
          cases f with
          | next =>
            obtain ⟨σ6, H6, S6, q6⟩ := hsp
            exact end_ S6 fun s7 J7 => ⟨_, _, J7, q6⟩
          | brk =>
            obtain ⟨σ6, H6, S6, q6⟩ := hsp
            exact end_ S6 fun s7 J7 => ⟨_, _, J7, q6⟩
          | cont =>
            obtain ⟨σ6, H6, S6, q6⟩ := hsp
            exact end_ S6 fun s7 J7 => ⟨_, _, J7, q6⟩
          | ret u =>
            obtain ⟨v6, σ6, H6, S6, r6, q6⟩ := hsp
            exact end_ S6 fun s7 J7 => ⟨_, _, _, J7, r6, q6⟩
    exact go hc w
  · cases f with
    | next =>
      obtain ⟨σ', H', J', q⟩ := hsp
      exact wpAny_execs_nil ⟨σ', H', J'.ofTry ok, q⟩
    | brk =>
      obtain ⟨σ', H', J', q⟩ := hsp
      exact ⟨σ', H', J'.ofTry ok, q⟩
    | cont =>
      obtain ⟨σ', H', J', q⟩ := hsp
      exact ⟨σ', H', J'.ofTry ok, q⟩
    | ret u =>
      obtain ⟨v, σ', H', J', r, q⟩ := hsp
      exact ⟨v, σ', H', J'.ofTry ok, r, q⟩
end
end L2

/-! How many of a list of truth values; defs called in the suite of a clause. -/
namespace L2
open PySem PySem.Spec PyProof.Rows
section
variable {X : Cx}
def rCntB (K : PySem.W.Frag) : V → List V → Hp → VK → Prop := fun x xs H Q => ∃ (p : Addr) (bs : List Bool) (c : Bool), x = .ref p ∧ xs = [.bl c] ∧ SqL K H p (bs.map V.bl) ∧ Q (.int (bs.count c : Nat)) H
theorem reads_bools {h : Heap} : ∀ {bs : List Bool} {us : List Value}, Vals (bs.map V.bl) us → ReadsAll h us (bs.map PyData.bool) []
  | [], us, r => by
    rw [List.map_nil] at r
    cases r
    exact .nil
  | b :: bs, us, r => by
    rw [List.map_cons] at r
    cases r with
    | cons r1 r2 =>
      cases r1
      exact .cons (.bool b) (reads_bools r2)
theorem plain_bools : ∀ bs : List Bool, PyData.plainAll (bs.map PyData.bool) = true
  | [] => rfl
  | b :: bs => by
    show ((PyData.bool b).plain && PyData.plainAll (bs.map PyData.bool)) = true
    rw [plain_bools bs]
    rfl
theorem cnt_bools (c : Bool) : ∀ bs : List Bool, (bs.map PyData.bool).countP (fun y => PyData.eqv y (.bool c)) = bs.count c
  | [] => rfl
  | b :: bs => by
    rw [List.map_cons, List.countP_cons, List.count_cons, cnt_bools c bs]
    cases b <;> cases c <;> rfl
theorem mt_bcount (hu : X.A.units + 2 < cLine) : MtR X "list.count" (rCntB X.K) := by
  intro pins s σ H x xs v us Q I rx rxs h
  obtain ⟨p, bs, c, rfl, rfl, hs, q⟩ := h
  cases rx
  obtain ⟨u, rfl, ru⟩ := rxs.one
  cases ru
  obtain ⟨its, rv, ⟨o, n, ho, hc, _, hd⟩, hlen⟩ := I.list hs
  have hl : s.heap.IsList p its.toArray := ⟨o, ho, hc, n, hd⟩
  refine PySem.SeqAt.count_list_data hl (reads_bools (by simpa using rv)) (.bool c) (plain_bools bs) rfl ?_ ⟨.int (bs.count c : Nat), H, I.tok _, ⟨s.toks, ?_⟩, q⟩
  · have : (PyData.bool c).depth = 0 := by rfl
    rw [this, Nat.min_zero]
    omega
  · rw [cnt_bools]
end
/-! ### calls while an exception is handled: nothing is raised, nothing walked -/
structure FnS (P : Program) (w : World) (K : PySem.W.Frag) (mg : Str → Option Value) (base : Heap) (k : Nat) (f : Addr) (fd : FuncData) (ps : List Str) (sp : Sp) : Prop where
  len : ∀ vs H Q E, sp vs H Q E → vs.length = ps.length
  run : ∀ (A : Around) (outer : List Env) (s : Shared) (H : Hp) (args : Args) (us : List Value) (vs : List V) (Q : VK) (E : XK), L2H.RoomH k A → Env0 P w K mg base A outer s H → BindsTo s fd args (ps.zip us) → Vals vs us → sp vs H Q E →
    codeAny (model P w) A (.call (.ref f) args) (CR CX0 outer P w H s Q E) s
/-- such a def's body -/
def cxS (P : Program) (w : World) (K : PySem.W.Frag) (mg : Str → Option Value) (base : Heap) (N : List Str) (q : Str) (sc : Scope) (f : Addr) (cd : Value) (A : Around) (outer : List Env) (s : Shared) (H : Hp) (E : XK) : Cx :=
  { cxOf CX0 P w K mg base N q sc f cd A outer s H E with calm := false }
theorem FnS.of {P : Program} {w : World} {K : PySem.W.Frag} {mg : Str → Option Value} {base : Heap} {x q : Str} {st : Stmt} {f : Addr} {fd : FuncData} {N ps : List Str} {k : Nat} {sp : Sp} (F : Fun K x q st f fd) (S : FnScope N ps (defScope st)) (len : ∀ vs H Q E, sp vs H Q E → vs.length = ps.length)
    (hb : ∀ (cdv : Value) (A : Around) (outer : List Env) (s : Shared) (H : Hp) (vs : List V) (Q : VK) (E : XK), L2H.RoomH k (A.deeper (envOfC q (defScope st) s.heap.objs.size f cdv)) → sp vs H Q E →
      ∃ t, PSs (cxS P w K mg base N q (defScope st) f cdv A outer s H E) (defBody st) t ∧ t { nx := fun _ H' => Q .non H', rt := Q } (start N vs) H) : FnS P w K mg base (k + 1) f fd ps sp := by
  obtain ⟨oc, od, kV, doc, pm, an, cdv, ct, osl, rfl, lk, hcd⟩ := F.ex
  refine ⟨len, fun A outer s H args us vs Q E hr e0 hbi r hsp => ?_⟩
  have hl := len _ _ _ _ hsp
  have KX : K.In s.heap := e0.mod.kin.keeps fun b o e => (e0.bs b o e).1
  have kind : ∀ y ∈ ps.zip us, (defScope st).names.lookup y.1 = some .local ∨ ((defScope st).names.lookup y.1 = some .cell ∧ ((cellsFrom (s.heap.objs.size + 1) (defScope st).names []).lookup y.1).isSome = true) := fun ⟨n, v⟩ hy =>
    (S.par n (List.of_mem_zip hy).1).imp id fun z => ⟨z, PySem.W.cellsFrom_some _ _ _ (.inl z)⟩
  refine codeAny_call_function hr.depth (KX _ _ lk) rfl S.co S.gen rfl (PySem.W.codeRec_of KX hcd) (hbi _ _ _ _ ?_)
  refine wpAny_newFunctionEnv_cells S.kind kind fun env he s1 y => ?_
  subst he
  refine ⟨(e0.mod.nolimit.keeps fun b o e => (e0.bs b o e).1).keeps y.toInCall.keep, codeAny_func ?_⟩
  obtain ⟨t, ht, hq⟩ := hb cdv A outer s H vs Q E (hr.deeper _) hsp
  have e1 : Env0 P w K mg base ({ A with handled := none } : Around) outer s H := ⟨e0.frames, e0.mod, e0.bs, e0.bsz, e0.funs, e0.frf, e0.hok, e0.bare⟩
  have I0 : Inv (cxOf CX0 P w K mg base N q (defScope st) f cdv ({ A with handled := none } : Around) outer s H E) [] (start N vs) H s1 := inv_start S rfl e1 hl r y
  have I : Inv (cxS P w K mg base N q (defScope st) f cdv A outer s H E) [] (start N vs) H s1 := by
    have k := I0.ok
    exact ⟨⟨k.mod, k.kind, k.glob, k.blt, k.above, k.inj, k.has, k.cab, (fun z => Bool.noConfusion (show false = true from z)), k.frames, k.stk, k.exf, k.bs, k.bsz, k.noex, k.exfs, k.funs, k.frf⟩, I0.os, I0.bare, I0.base, I0.loc, I0.cell, I0.free, I0.freeC, I0.pin, I0.hok, I0.len⟩
  refine wpAny_mono (ht.run [] s1 (start N vs) H _ I hq) (fun fl s' hs => ?_) fun e s' hs => hs
  cases fl with
  | ret u =>
    obtain ⟨v, _, H', J, rv, z⟩ := hs
    exact ⟨v, H', J.os, J.bare, J.base, J.hok, rv, z⟩
  | next =>
    obtain ⟨_, H', J, z⟩ := hs
    exact ⟨V.non, H', J.os, J.bare, J.base, J.hok, rfl, z⟩
  | brk =>
    obtain ⟨_, _, _, z⟩ := hs
    exact z.elim
  | cont =>
    obtain ⟨_, _, _, z⟩ := hs
    exact z.elim
section
variable {X : Cx} {k : Nat} {f : Addr} {fd : FuncData} {ps : List Str} {sp : Sp} {E : XK} {x : Str} {p pos : Pos} {e : Expr} {es : List Expr} {t : TA}
theorem pe_callQ (F : FnS X.prog X.w X.K X.mg X.base k f fd ps sp) (hr : L2H.RoomH k X.A) (hg : Gl X x) (hm : X.mg x = some (.ref f)) (hk : PySem.W.keepIn X.K (.ref f) = true) (hb : Binds X.K fd ps [])
    (ha : PA X (e :: es) t) (hdb : (x == ("__debug__" : Str)) = false := by decide) (he : starEach (e :: es) X.env = (false, eval e X.env) :: starEach es X.env := by rfl) (hpl : (backTo pos (starEach es X.env)).any (·.1) = false := by rfl) :
    PE X (.Call (.Name x p) (e :: es) [] pos) (tCall sp [] E t) := by
  refine ⟨fun pins s σ H Q I h => ?_⟩
  refine wpAny_Call_Name_kw (ld_glob I hg hm ?_ hdb)
  refine PySem.W.callWith_K (h₀ := X.base) I.ok.mod.kin hk (thn (ha.run pos pins s σ H _ I h) fun us s1 ⟨vs, H1, I1, r, q⟩ => ⟨I1.kIn, ?_⟩) he hpl
  have q : sp (vs ++ []) H1 Q E := q
  rw [List.append_nil] at q
  have hl : us.length = ps.length := by rw [← r.length]; exact F.len _ _ _ _ q
  have b := hb s1 us I1.kIn (by rw [List.append_nil]; exact hl)
  rw [List.append_nil] at b
  refine wpAny_call (codeAny_mono (F.run X.A X.stack s1 H1 ⟨us, []⟩ us vs Q E hr I1.env0 b r q) fun r s' hq => ?_)
  cases r with
  | error e => exact hq.elim
  | ok fl =>
    cases fl with
    | ret u => exact I1.after hq
    | next => exact hq.elim
    | brk => exact hq.elim
    | cont => exact hq.elim
end
/-! ### what was caught, asked -/
/-- at a stands what was caught, of the class at C, with these fields -/
def CauAt (H : Hp) (a C : Addr) (fs : List (Str × V)) : Prop := ∃ d, H a = some (exq a (.ref C) (some d)) ∧ H d = some (.xd fs)
section
variable {X : Cx} {e : Expr} {te : TE} {pos : Pos}
theorem cau_inst {pins : List (Addr × Obj)} {σ : L2.St} {H : Hp} {s : Shared} {a C : Addr} {fs : List (Str × V)} (I : Inv X pins σ H s) (h : CauAt H a C fs) :
    ∃ (ox od : Obj) (mA : Str → Option Value), PySem.W.InstAt s.heap a ox C (some od) ∧ (∀ y, PySem.W.lookIn y od = some (mA y)) ∧ ∀ y, RelO (fs.lookup y) (mA y) := by
  obtain ⟨d, h1, h2⟩ := h
  obtain ⟨ob, ws, e1, z, e2⟩ := exq_at I.hok h1
  obtain ⟨mA, hns, hr⟩ := (show ObjOk X.prog X.w H s.heap d (.xd fs) from I.hok d _ h2)
  obtain ⟨od, ho, hl⟩ := lookIn_ns hns
  exact ⟨ob, od, mA, ⟨e1, z.1, by unfold PySem.W.notCls; rw [e2] <;> rfl, by rw [z.2]; exact ho⟩, hl, hr⟩
def rIsC (K : PySem.W.Frag) : List V → Hp → VK → Prop := fun xs H Q => ∃ (a C : Addr) (fs : List (Str × V)) (c : V) (u : Value) (b : Bool), xs = [.ref a, c] ∧ CauAt H a C fs ∧ ExcC K C ∧ ClsV c u ∧ PySem.W.kitOne K (.ref C) u = some b ∧ Q (.bl b) H
theorem call_isC : CallR X (.builtin "isinstance") (rIsC X.K) := by
  intro pins s σ H xs us Q I r h
  obtain ⟨a, D, fs, c, u, b, rfl, ha, T, k, e, q⟩ := h
  obtain ⟨u1, u2, rfl, ra, r2⟩ := vals2 r
  obtain rfl : u1 = Value.ref a := ra
  have e2 := k.eq r2
  subst e2
  obtain ⟨ox, od, _, J, _⟩ := cau_inst I ha
  exact PySem.W.kia_one T.kit I.kIn J e (fun z => nomatch z) fun tk => ⟨.bl b, H, I.tok tk, rfl, q⟩
/-- e.f of what was caught -/
def tCf (K : PySem.W.Frag) (f : Str) (te : TE) : TE := fun σ H Q => te σ H fun x H1 => ∃ (a C : Addr) (fs : List (Str × V)) (v : V), x = .ref a ∧ CauAt H1 a C fs ∧ XfC K C ∧ PySem.W.findIn K (.ref C) f = some none ∧ fs.lookup f = some v ∧ Q v H1
theorem pe_cf {f : Str} (he : PE X e te) (hb : attributeBase e f X.env (eval e X.env) = eval e X.env := by rfl) : PE X (.Attribute e f pos) (tCf X.K f te) := by
  refine ⟨fun pins s σ H Q I h => ?_⟩
  refine attr_of hb (thn (he.run pins s σ H _ I h) fun u s1 hh => ?_)
  obtain ⟨x, H1, I1, rx, a, D, fs, v, ex, ha, T, hno, l, q⟩ := hh
  subst ex
  obtain rfl : u = Value.ref a := rx
  obtain ⟨ox, od, mA, J, hl, hr⟩ := cau_inst I1 ha
  obtain ⟨u, hu, ru⟩ := RelO.some_of (v := v) (o := mA f) (by rw [← l]; exact hr f)
  exact HandSPX.exc_get I1.kIn J T.ga T.gg T.exC (PySem.W.findObj_own T.hdC hno rfl (by rw [hl, hu])) (handed_of ru) ⟨v, H1, I1.tok _, ru, q⟩
end
end L2

/-! What the law says of an error. -/
namespace Lm
open PySem PySem.Spec PyProof.Rows L2
open C8 (fnScope_by pe_gc pss_cut tCut Cal pe_c)
theorem CauAt.mono {H H' : Hp} {a C : Addr} {fs : List (Str × V)} (h : CauAt H a C fs) (s : Same H H') : CauAt H' a C fs := by
  obtain ⟨d, h1, h2⟩ := h
  exact ⟨d, s _ _ h1, s _ _ h2⟩
/-- the classes that the law asks for -/
structure AloF (K : PySem.W.Frag) (mg : Str → Option Value) (cl : Str → Addr) (CN : Addr) : Prop where
  e : ExcC K CN
  c : ∀ x, aloNames.contains x = true → mg x = some (.ref (cl x)) ∧ PySem.W.kitOne K (.ref CN) (.ref (cl x)) = some (decide (x = "NoProgram"))
section
variable {P : Program} {w : World} {K : PySem.W.Frag} {mg : Str → Option Value} {base : Heap} {cl : Str → Addr} {CN : Addr}
def spAlo (CN : Addr) : Sp := fun vs H Q _ => ∃ (e : Addr) (fs : List (Str × V)), vs = [.ref e] ∧ CauAt H e CN fs ∧ ∀ H', Same H H' → Q (.bl true) H'
abbrev nsAl : List Str := ["_law_e", "_law_some"]
theorem scAl : FnScope nsAl ["_law_e"] (defScope sAlone) := fnScope_by (by decide +kernel)
theorem kAlo {f : Addr} {fd : FuncData} (F : Fun K "_law_alone" "_law_alone" sAlone f fd) (A : AloF K mg cl CN) (mi : mg "isinstance" = none) : FnS P w K mg base 1 f fd ["_law_e"] (spAlo CN) := by
  refine FnS.of (k := 0) F scAl (fun vs H Q E h => ?_) (fun cdv A0 outer s H vs Q E hr h => ?_)
  · obtain ⟨e, fs, rfl, _⟩ := h
    rfl
  obtain ⟨e, fs, rfl, hx, q⟩ := h
  have hu := hr.un
  refine ⟨_, pss_cons (ps_set (i := 1) scAl.nd rfl (.inl rfl) (pe_lst (pa_cons (pe_callB call_isC (by rfl) mi boot_isinstance (pa_cons (pv 0) (pa_cons (pe_glob (v := .ref (cl "NoProgram")) (by rfl) (A.c "NoProgram" (by decide)).1 rfl) pa_nil))) (pa_cons (pe_callB call_isC (by rfl) mi boot_isinstance (pa_cons (pv 0) (pa_cons (pe_glob (v := .ref (cl "NoText")) (by rfl) (A.c "NoText" (by decide)).1 rfl) pa_nil))) (pa_cons (pe_callB call_isC (by rfl) mi boot_isinstance (pa_cons (pv 0) (pa_cons (pe_glob (v := .ref (cl "NoFunction")) (by rfl) (A.c "NoFunction" (by decide)).1 rfl) pa_nil))) (pa_cons (pe_callB call_isC (by rfl) mi boot_isinstance (pa_cons (pv 0) (pa_cons (pe_glob (v := .ref (cl "NoPoint")) (by rfl) (A.c "NoPoint" (by decide)).1 rfl) pa_nil))) pa_nil))))))
    (pss_cons (ps_set (i := 1) scAl.nd rfl (.inl rfl) (pe_op op_cat (pv 1) (pe_lst (pa_cons (pe_callB call_isC (by rfl) mi boot_isinstance (pa_cons (pv 0) (pa_cons (pe_glob (v := .ref (cl "NoPlan")) (by rfl) (A.c "NoPlan" (by decide)).1 rfl) pa_nil))) (pa_cons (pe_callB call_isC (by rfl) mi boot_isinstance (pa_cons (pv 0) (pa_cons (pe_glob (v := .ref (cl "HasFaults")) (by rfl) (A.c "HasFaults" (by decide)).1 rfl) pa_nil))) (pa_cons (pe_callB call_isC (by rfl) mi boot_isinstance (pa_cons (pv 0) (pa_cons (pe_glob (v := .ref (cl "NoChoices")) (by rfl) (A.c "NoChoices" (by decide)).1 rfl) pa_nil))) (pa_cons (pe_callB call_isC (by rfl) mi boot_isinstance (pa_cons (pv 0) (pa_cons (pe_glob (v := .ref (cl "NoStops")) (by rfl) (A.c "NoStops" (by decide)).1 rfl) pa_nil))) pa_nil)))))))
    (pss_cons (ps_set (i := 1) scAl.nd rfl (.inl rfl) (pe_op op_cat (pv 1) (pe_lst (pa_cons (pe_callB call_isC (by rfl) mi boot_isinstance (pa_cons (pv 0) (pa_cons (pe_glob (v := .ref (cl "NoLowered")) (by rfl) (A.c "NoLowered" (by decide)).1 rfl) pa_nil))) (pa_cons (pe_callB call_isC (by rfl) mi boot_isinstance (pa_cons (pv 0) (pa_cons (pe_glob (v := .ref (cl "NoWrites")) (by rfl) (A.c "NoWrites" (by decide)).1 rfl) pa_nil))) (pa_cons (pe_callB call_isC (by rfl) mi boot_isinstance (pa_cons (pv 0) (pa_cons (pe_glob (v := .ref (cl "NoSpare")) (by rfl) (A.c "NoSpare" (by decide)).1 rfl) pa_nil))) pa_nil))))))
    (pss_one (ps_ret (pe_cmpR op_eq (pe_bm PySem.F.plainAttrs_list PySem.F.slot_list_count PySem.F.type_list_count (mt_bcount (by show (A0.deeper (envOfC "_law_alone" (defScope sAlone) s.heap.objs.size f cdv)).units + 2 < cLine; omega)) (pe_op op_cat (pv 1) (pe_lst (pa_cons (pe_callB call_isC (by rfl) mi boot_isinstance (pa_cons (pv 0) (pa_cons (pe_glob (v := .ref (cl "NoImage")) (by rfl) (A.c "NoImage" (by decide)).1 rfl) pa_nil))) (pa_cons (pe_callB call_isC (by rfl) mi boot_isinstance (pa_cons (pv 0) (pa_cons (pe_glob (v := .ref (cl "NoModule")) (by rfl) (A.c "NoModule" (by decide)).1 rfl) pa_nil))) pa_nil)))) (pa_cons pe_bl pa_nil)) pe_int (by rfl)))))), ?_⟩
  refine ⟨_, rfl, e, CN, fs, _, _, true, rfl, CauAt.mono hx (Same.refl H), A.e, .own _, (A.c "NoProgram" (by decide)).2, ⟨_, rfl, e, CN, fs, _, _, false, rfl, CauAt.mono hx (Same.refl H), A.e, .own _, (A.c "NoText" (by decide)).2, ⟨_, rfl, e, CN, fs, _, _, false, rfl, CauAt.mono hx (Same.refl H), A.e, .own _, (A.c "NoFunction" (by decide)).2, ⟨_, rfl, e, CN, fs, _, _, false, rfl, CauAt.mono hx (Same.refl H), A.e, .own _, (A.c "NoPoint" (by decide)).2, ⟨(by show 4 ≤ sizeLine; decide), fun l1 n1 => ?_⟩⟩⟩⟩⟩
  have t1 := same_upd (o := .lst [.bl true, .bl false, .bl false, .bl false]) n1
  refine ⟨_, rfl, ⟨_, rfl, e, CN, fs, _, _, false, rfl, CauAt.mono hx (t1), A.e, .own _, (A.c "NoPlan" (by decide)).2, ⟨_, rfl, e, CN, fs, _, _, false, rfl, CauAt.mono hx (t1), A.e, .own _, (A.c "HasFaults" (by decide)).2, ⟨_, rfl, e, CN, fs, _, _, false, rfl, CauAt.mono hx (t1), A.e, .own _, (A.c "NoChoices" (by decide)).2, ⟨_, rfl, e, CN, fs, _, _, false, rfl, CauAt.mono hx (t1), A.e, .own _, (A.c "NoStops" (by decide)).2, ⟨(by show 4 ≤ sizeLine; decide), fun l2 n2 => ?_⟩⟩⟩⟩⟩⟩
  have t2 := t1.trans (same_upd (o := .lst [.bl false, .bl false, .bl false, .bl false]) n2)
  refine ⟨l1, l2, _, _, rfl, rfl, same_upd n2 _ _ upd_same, upd_same, by show 8 ≤ sizeLine; decide, fun l3 n3 => ?_⟩
  have t3 := t2.trans (same_upd (o := .lst ([.bl true, .bl false, .bl false, .bl false] ++ [.bl false, .bl false, .bl false, .bl false])) n3)
  refine ⟨_, rfl, ⟨_, rfl, e, CN, fs, _, _, false, rfl, CauAt.mono hx (t3), A.e, .own _, (A.c "NoLowered" (by decide)).2, ⟨_, rfl, e, CN, fs, _, _, false, rfl, CauAt.mono hx (t3), A.e, .own _, (A.c "NoWrites" (by decide)).2, ⟨_, rfl, e, CN, fs, _, _, false, rfl, CauAt.mono hx (t3), A.e, .own _, (A.c "NoSpare" (by decide)).2, ⟨(by show 3 ≤ sizeLine; decide), fun l4 n4 => ?_⟩⟩⟩⟩⟩
  have t4 := t3.trans (same_upd (o := .lst [.bl false, .bl false, .bl false]) n4)
  refine ⟨l3, l4, _, _, rfl, rfl, same_upd n4 _ _ upd_same, upd_same, by show 11 ≤ sizeLine; decide, fun l5 n5 => ?_⟩
  have t5 := t4.trans (same_upd (o := .lst (([.bl true, .bl false, .bl false, .bl false] ++ [.bl false, .bl false, .bl false, .bl false]) ++ [.bl false, .bl false, .bl false])) n5)
  refine ⟨_, rfl, ⟨_, rfl, e, CN, fs, _, _, false, rfl, CauAt.mono hx (t5), A.e, .own _, (A.c "NoImage" (by decide)).2, ⟨_, rfl, e, CN, fs, _, _, false, rfl, CauAt.mono hx (t5), A.e, .own _, (A.c "NoModule" (by decide)).2, ⟨(by show 2 ≤ sizeLine; decide), fun l6 n6 => ?_⟩⟩⟩⟩
  have t6 := t5.trans (same_upd (o := .lst [.bl false, .bl false]) n6)
  refine ⟨l5, l6, _, _, rfl, rfl, same_upd n6 _ _ upd_same, upd_same, by show 13 ≤ sizeLine; decide, fun l7 n7 => ?_⟩
  have t7 := t6.trans (same_upd (o := .lst ((([.bl true, .bl false, .bl false, .bl false] ++ [.bl false, .bl false, .bl false, .bl false]) ++ [.bl false, .bl false, .bl false]) ++ [.bl false, .bl false])) n7)
  refine ⟨.inl ⟨rfl, _, SqL.of upd_same⟩, l7, [true, false, false, false, false, false, false, false, false, false, false, false, false], true, rfl, rfl, SqL.of upd_same, ?_⟩
  have e1 : decide (V.int ((List.count true [true, false, false, false, false, false, false, false, false, false, false, false, false] : Nat) : Int) = V.int 1) = true := by decide +kernel
  refine ⟨rfl, ?_⟩
  show Q (V.bl (decide (V.int ((List.count true [true, false, false, false, false, false, false, false, false, false, false, false, false] : Nat) : Int) = V.int 1))) _
  rw [e1]
  exact q _ t7
end
end Lm

/-! What the law says of a call. -/
namespace Lm
open PySem PySem.Spec PyProof.Rows L2 LamX
open C8 (fnScope_by pe_gc pss_cut tCut Cal pe_c)
theorem takes_len {X : Cx} {W : WX} (tk : Takes X W) : Takes X (fun cls d σ H => σ.length = X.N.length → W cls d σ H) := fun u s' x => by
  obtain ⟨a, B, sI, pins, σ, H, cls, d, e, I, nb, up, sky, na, os, ag, w⟩ := x
  exact tk u s' ⟨a, B, sI, pins, σ, H, cls, d, e, I, nb, up, sky, na, os, ag, w I.len⟩
theorem pss_false {X : Cx} {b : List Stmt} : PSs X b (fun _ _ _ => False) := ⟨fun _ _ _ _ _ _ h => h.elim⟩
abbrev nsSd : List Str := ["_law_ask", "_law_found", "_law_e"]
theorem scSd : FnScope nsSd ["_law_ask"] (defScope sSaid) := fnScope_by (by decide +kernel)
/-- an error of the class at CN with these three fields is thrown -/
def thrN (CN : Addr) (Q : VK) : XK := fun cls d H' => ∃ (dd : Addr) (v : V) (n : Int) (y : Str), cls = .ref CN ∧ d = some dd ∧ H' dd = some (xdN v n y) ∧ ∀ (p : Addr) (H'' : Hp), Same H' H'' → H'' p = some (.tup [v, .int n, .str y]) → Q (.ref p) H''
def TTsaid (CN : Addr) : (XK → Hp → VK → Prop) → Hp → VK → Prop := fun tl H Q => tl (thrN CN Q) H fun _ H' => ∃ v : V, (some (some (V.str "done")) : Option (Option V)) = some (some v) ∧ Q v H'
/-- what the clauses of the law want -/
structure SdF (K : PySem.W.Frag) (mg : Str → Option Value) (cl : Str → Addr) (CN : Addr) : Prop where
  cn : cl "NoProgram" = CN
  x : XfC K CN
  f : ∀ y, (["where", "at", "why"] : List Str).contains y = true → PySem.W.findIn K (.ref CN) y = some none
  m : PySem.W.exmOne K (.ref CN) (.ref CN) = some true
  g : ∀ y, (["NoText", "NoFunction", "NoModule", "MarkError"] : List Str).contains y = true → mg y = some (.ref (cl y))
section
variable {X : Cx} {cl : Str → Addr} {CN : Addr}
theorem said_gives {g fA : Addr} {cdg : Value} {fd : FuncData} {q : Str} (A : AloF X.K X.mg cl CN) (S : SdF X.K X.mg cl CN) (FA : FnS X.prog X.w X.K X.mg X.base 1 fA fd ["_law_e"] (spAlo CN)) (gA : X.mg "_law_alone" = some (.ref fA)) (kA : PySem.W.keepIn X.K (.ref fA) = true) (bA : Binds X.K fd ["_law_e"] [])
    (hr : Room 4 X.A) : GivesTo X nsSd "_law_said" (defScope sSaid) g cdg (defBody sSaid) "_law_ask" q (TTsaid CN) := by
  intro f c' s H Q tl act hc h
  have hr0 : L2H.RoomH 1 (X.A.deeper (envOfC "_law_said" (defScope sSaid) s.heap.objs.size g cdg)) := (L2H.roomH_of (hr.deeper (envOfC "_law_said" (defScope sSaid) s.heap.objs.size g cdg))).mono (by decide)
  have hrY : ∀ a : Addr, L2H.RoomH 1 ((cxOf C8.CX0 X.prog X.w X.K X.mg X.base nsSd "_law_said" (defScope sSaid) g cdg X.A X.stack s H C8.E0).nox.suite a []).A := fun a => ⟨hr0.dp, hr0.un⟩
  refine ⟨_, pss_cons (ps_set (i := 1) scSd.nd rfl (.inl rfl) pe_str) (pss_cons (ps_try_cls (X := (cxOf C8.CX0 X.prog X.w X.K X.mg X.base nsSd "_law_said" (defScope sSaid) g cdg X.A X.stack s H C8.E0).nox) (Wo := fun _ _ _ _ => False)
      (tb := fun W D σ H => ∃ Ech : XK, (∀ cls d σ' H', Ech cls d H' → σ'.length = nsSd.length → W cls d σ' H') ∧ σ[0]? = some (some (.ref f)) ∧ H c' = some (CodeO c' q) ∧ tl Ech H (fun _ H' => D.nx σ H'))
      rfl rfl scSd.nd rfl L2.takes0 (fun W pn xe tk _ => ?_)
      (.named ⟨rfl, by decide, .inl (A.c "NoProgram" (by decide)).1⟩ (i := 2) rfl rfl (fun a cls d => pss_one (ps_set (i := 1) scSd.nd rfl (.inl rfl) (pe_ifExp (pt_val (pe_callQ (E := E0) FA (hrY a) (by rfl) gA kA bA (pa_cons (pv 2) pa_nil))) (pe_tup (pa_cons (pe_cf (pv 2)) (pa_cons (pe_cf (pv 2)) (pa_cons (pe_cf (pv 2)) pa_nil)))) pe_str)))
      (.named ⟨rfl, by decide, .inl (S.g "NoText" (by decide))⟩ (i := 2) rfl rfl (fun _ _ _ => pss_false)
      (.named ⟨rfl, by decide, .inl (S.g "NoFunction" (by decide))⟩ (i := 2) rfl rfl (fun _ _ _ => pss_false)
      (.named ⟨rfl, by decide, .inl (S.g "NoModule" (by decide))⟩ (i := 2) rfl rfl (fun _ _ _ => pss_false)
      (.no ⟨rfl, by decide, .inl (S.g "MarkError" (by decide))⟩ (fun _ _ _ => pss_false) .nil)))))) (pss_one (ps_ret (pv 1)))), ?_⟩
  · refine pss_one ⟨fun pins s' σ H' D I h' => ?_⟩
    obtain ⟨Ech, hW, h1, h2, h3⟩ := h'
    have hp := fun p1 p2 => act _ pn xe Ech p1 p2 (takes_len tk) hW
    exact (ps_expr (hp _ _)).run pins s' σ H' D I ⟨h1, h2, h3⟩
  · refine ⟨thrN CN Q, fun cls d σ' H1 hE hl => ?_, rfl, hc, h⟩
    obtain ⟨dd, v, n, y, rfl, rfl, hdd, k⟩ := hE
    refine ⟨true, by rw [S.cn]; exact S.m, fun _ a na => ?_, fun z => nomatch z⟩
    match σ', hl with
    | [x0, x1, x2], _ =>
      have hne : dd ≠ a := fun z => by
        subst z
        rw [na] at hdd
        cases hdd
      have hca : CauAt (upd H1 a (exq a (.ref CN) (some dd))) a CN [("why", .str y), ("at", .int n), ("where", v)] := ⟨dd, upd_same, by rw [upd_ne hne]; exact hdd⟩
      refine ⟨_, rfl, a, _, rfl, hca, fun H2 s2 => ⟨true, rfl, ?_⟩⟩
      have hc2 := CauAt.mono hca s2
      refine ⟨_, rfl, a, CN, _, v, rfl, hc2, S.x, S.f "where" (by decide), rfl, ?_⟩
      refine ⟨_, rfl, a, CN, _, .int n, rfl, hc2, S.x, S.f "at" (by decide), rfl, ?_⟩
      refine ⟨_, rfl, a, CN, _, .str y, rfl, hc2, S.x, S.f "why" (by decide), rfl, ?_⟩
      refine ⟨(by show 3 ≤ sizeLine; decide), fun p np => ?_⟩
      refine ⟨_, rfl, k p _ (((same_upd na).trans s2).trans (same_upd np)) upd_same⟩
end
end Lm

/-! How making a program ends: the law's own word for it. -/
namespace Lm
open PySem PySem.Spec PyProof.Rows L2 LamX
open C8 (fnScope_by pe_gc pss_cut tCut Cal pe_c)
/-! ### a heap whose tables grew -/
mutual
theorem Dx.tabs {K : PySem.W.Frag} {H H' : Hp} (e : ExtN H H') : ∀ {v : V} {d : PyData}, Dx K H v d → Dx K H' v d
  | _, _, .non => .non
  | _, _, .bl b => .bl b
  | _, _, .int i => .int i
  | _, _, .str x => .str x
  | _, _, .lst h a => .lst (e _ _ h (fun _ z => nomatch z)) (DxAll.tabs e a)
  | _, _, .tup h a => .tup (e _ _ h (fun _ z => nomatch z)) (DxAll.tabs e a)
  | _, _, .dic h => .dic (e _ _ h (fun _ z => nomatch z))
theorem DxAll.tabs {K : PySem.W.Frag} {H H' : Hp} (e : ExtN H H') : ∀ {vs : List V} {ds : List PyData}, DxAll K H vs ds → DxAll K H' vs ds
  | _, _, .nil => .nil
  | _, _, .cons h a => .cons (Dx.tabs e h) (DxAll.tabs e a)
end
/-! ### names are small -/
theorem fit_nm {x : Str} (h : isNameS x = true) : fit (.str x) = true := by
  unfold isNameS at h
  simp only [Bool.and_eq_true, decide_eq_true_eq] at h
  obtain ⟨⟨⟨_, h1⟩, _⟩, h2⟩ := h
  show (PyData.strOk x && decide (x.length ≤ 1000)) = true
  rw [Bool.and_eq_true, decide_eq_true_eq]
  refine ⟨?_, by omega⟩
  unfold PyData.strOk
  rw [← Array.all_toList]
  refine List.all_eq_true.mpr fun c hc => ?_
  have hm := of_decide_eq_true (List.all_eq_true.mp h2 c hc)
  exact List.all_eq_true.mp (show (letters.cps.toList.all fun c => decide (c < 0x110000)) = true by decide +kernel) c hm
theorem fitL (xs : List PyData) : fit (.list xs) = (decide (xs.length ≤ 1000) && fitAll xs) := rfl
theorem fitT (xs : List PyData) : fit (.tuple xs) = (decide (xs.length ≤ 1000) && fitAll xs) := rfl
theorem fitC (x : PyData) (xs : List PyData) : fitAll (x :: xs) = (fit x && fitAll xs) := rfl
theorem fit0 : fitAll [] = true := rfl
theorem fitN : fit .none = true := rfl
section
variable {N : Nm}
theorem fit_kinds (h : N.Ok) : fit (kindsD N) = true := by
  have e1 : fit (.str "record") = true := by decide +kernel
  have e2 : fit (.str "choice") = true := by decide +kernel
  have e3 : fit (.str "item") = true := by decide +kernel
  simp [kindsD, fitL, fitT, fitC, fit0, fitN, e1, e2, e3, fit_nm h.nr, fit_nm h.nc, fit_nm h.nk, fit_nm h.nf, fit_nm h.ng, fit_nm h.nh]
theorem fit_mods (h : N.Ok) {b : PyData} (hb : fit b = true) : fit (modsD N b) = true := by
  have e1 : fit (.str "first") = true := by decide +kernel
  have e2 : fit (.str "main") = true := by decide +kernel
  have e3 : fit (.str "item") = true := by decide +kernel
  have e4 : fit (.str "other") = true := by decide +kernel
  have e5 : fit (.str "help") = true := by decide +kernel
  have e6 : fit (.str "plain") = true := by decide +kernel
  have e7 : fit (.str "return") = true := by decide +kernel
  have e8 : fit (.str "p") = true := by decide +kernel
  have e9 : fit (.str "q") = true := by decide +kernel
  simp [modsD, helpD, plainD, fitL, fitT, fitC, fit0, fitN, e1, e2, e3, e4, e5, e6, e7, e8, e9, hb, fit_nm h.nr]
theorem dep_kinds (N : Nm) : (kindsD N).depth ≤ 60 := by
  simp [kindsD, PyData.depth, PyData.depthAll]
theorem dep_mods (N : Nm) {b : PyData} (hb : b.depth ≤ 50) : (modsD N b).depth ≤ 60 := by
  simp [modsD, helpD, plainD, PyData.depth, PyData.depthAll]
  omega
end
end Lm

namespace Lm
open PySem PySem.Spec PyProof.Rows L2 LamX
open C8 (fnScope_by pe_gc pss_cut tCut Cal pe_c)
/-- a def whose code object is known -/
structure FunC (K : PySem.W.Frag) (x q : Str) (st : Stmt) (f : Addr) (fd : FuncData) (c : Addr) : Prop where
  ex : ∃ (oc : Value) (od : Option Addr) (kV doc pm : Value) (an : Option Addr) (ct : Value) (osl : Array (Option Value)),
    fd = PySem.W.fnOf x q (defArgs st) (defBody st) (defScope st) .none kV doc pm an (.ref c) ct ∧ K.lookup f = some ⟨oc, od, .func fd, osl⟩ ∧ PySem.W.codeIn K (.ref c) q = true
def sayD : Option (PyData × Int × Str) → PyData
  | none => .str "done"
  | some (wd, n, y) => .tuple [wd, .int n, .str y]
/-- the scene's dict -/
def ScnAt (K : PySem.W.Frag) (H : Hp) (D : Addr) (kvs : List (Key × V)) (f : Str → Option PyData) : Prop := H D = some (.dK kvs) ∧ ∀ x d, f x = some d → ∃ v, valV kvs (Sum.inr x) = some v ∧ Dx K H v d
theorem ScnAt.tabs {K : PySem.W.Frag} {H H' : Hp} {D : Addr} {kvs : List (Key × V)} {f : Str → Option PyData} (h : ScnAt K H D kvs f) (e : ExtN H H') : ScnAt K H' D kvs f :=
  ⟨e _ _ h.1 (fun _ z => nomatch z), fun x d q => by
    obtain ⟨v, h1, h2⟩ := h.2 x d q
    exact ⟨v, h1, Dx.tabs e h2⟩⟩
def spOM (K : PySem.W.Frag) (T : List (Addr × Str)) (N : Nm) : Sp := fun vs H Q _ => ∃ (D : Addr) (v : V) (b : PyData) (kvs : List (Key × V)) (fs : Str → Option PyData), vs = [.ref D, v] ∧ Tabs T H ∧ ScnAt K H D kvs fs ∧ fs "kinds" = some (kindsD N) ∧ fs "other" = some (L [helpD N, plainD]) ∧
  Dx K H v b ∧ fit b = true ∧ b.depth ≤ 50 ∧ ∀ u H', ExtN H H' → Tabs T H' → Dx K H' u (sayD (progFault (kindsD N) (modsD N b))) → Q u H'
abbrev nsOM : List Str := ["_law_scene_here", "_law_body", "_law_modules"]
theorem scOM : FnScope nsOM ["_law_scene_here", "_law_body"] (defScope sOfMain) := fnScope_by (by decide +kernel)
abbrev qOM : Str := ("_law_of_main" : Str) ++ (".<locals>." : Str) ++ ("<lambda>" : Str)
section
variable {P : Program} {w : World} {K : PySem.W.Frag} {mg : Str → Option Value} {base : Heap} {cl : Str → Addr} {CP CN : Addr} {N : Nm}
theorem kOM {f c PT g fA fI : Addr} {fd fdS fdA fdI : FuncData} {T : List (Addr × Str)} (F : FunC K "_law_of_main" "_law_of_main" sOfMain f fd c) (TB : LamX.TabB base mg c PT) (hT : (PT, qOM) ∈ T) (hu : ∀ p ∈ T, p.1 = PT → p.2 = qOM)
    (FS : Fun K "_law_said" "_law_said" sSaid g fdS) (gS : mg "_law_said" = some (.ref g)) (bS : Binds K fdS ["_law_ask"] []) (A : AloF K mg cl CN) (S : SdF K mg cl CN)
    (FA : FnS P w K mg base 1 fA fdA ["_law_e"] (spAlo CN)) (gA : mg "_law_alone" = some (.ref fA)) (kA : PySem.W.keepIn K (.ref fA) = true) (bA : Binds K fdA ["_law_e"] [])
    (M : Mk K CP fI) (FI : FnOk P w K mg base (L2.CX P w) 63 fI fdI ["self", "kinds", "modules"] (spPI K CP CN)) (gP : mg "Program" = some (.ref CP)) (bI : Binds K fdI ["self", "kinds", "modules"] []) (h : N.Ok) :
    FnOk P w K mg base CX0 67 f fd ["_law_scene_here", "_law_body"] (spOM K T N) := by
  obtain ⟨oc, od, kV, doc, pm, an, ct, osl, rfl, lk, hcd⟩ := F.ex
  obtain ⟨ocS, odS, kVS, docS, pmS, anS, cdS, ctS, oslS, rfl, lkS, hcdS⟩ := FS.ex
  refine fn_of lk hcd scOM (fun vs H Q E h => ?_) (fun A0 outer s H vs Q E hr hsp => ?_)
  · obtain ⟨D, v, b, kvs, fs, rfl, _⟩ := h
    rfl
  obtain ⟨D, v, b, kvs, fs, rfl, hTb, hsc, hk, ho, hb, hbf, hbd, q⟩ := hsp
  have huX := hu_of hr
  refine ⟨_, (pss_cons (ps_set (i := 2) scOM.nd rfl (.inr rfl) (pe_lst (pa_cons (pe_tup (pa_cons pe_str (pa_cons (pe_lst (pa_cons (pe_tup (pa_cons pe_str (pa_cons (pe_tup pa_nil) (pa_cons pe_non (pa_cons (pv 1) pa_nil))))) pa_nil)) pa_nil))) (pa_cons (pe_tup (pa_cons pe_str (pa_cons (pe_dget huX (pv 0) pe_str (fun _ _ => rfl)) pa_nil))) pa_nil))))
    (pss_one (ps_ret (pe_lamcall (k := 64) (T := T) (TT := TTsaid CN) (Ng := nsSd) (t := fun E => tMake CP (spPI K CP CN) [] E (tCons (tDGet (tVar 0) (tC (.str "kinds"))) (tCons (tVar 2) tNil))) ?_ gS FS.kp lkS hcdS bS scSd ?_ ?_ ?_ TB ?_ ?_ ?_ hr ?_ ?_ ?_ ?_))) : PSs _ _ _), ?_⟩
  · rfl
  · rfl
  · exact .inl (by decide +kernel)
  · exact said_gives A S FA gA kA bA (hr.mono (by decide))
  · rfl
  · exact hT
  · exact hu
  · exact lamS_by (by show lamSB (defScope sOfMain) _ = true; decide +kernel)
  · rfl
  · exact fun _ _ _ _ _ => rfl
  · exact fun A1 outer1 s1 H1 E1 f1 c1 hr1 => pe_make M FI hr1 (by rfl) gP bI .nil (passes_call (takes_of rfl rfl rfl rfl) (fun _ _ _ _ h => h)) (pa_cons (pe_dget (hu_of hr1) (pv 0) pe_str (fun _ _ => rfl)) (pa_cons (pv 2) pa_nil))
  obtain ⟨hD, hlk⟩ := hsc
  obtain ⟨vo, evo, hvo⟩ := hlk _ _ ho
  obtain ⟨vk, evk, hvk⟩ := hlk _ _ hk
  refine ⟨by show 0 ≤ sizeLine; decide, fun p1 n1 => ?_⟩
  have s1 := same_upd (o := .tup []) n1
  refine ⟨_, rfl, ⟨by show 4 ≤ sizeLine; decide, fun p2 n2 => ?_⟩⟩
  have s2 := s1.trans (same_upd (o := .tup [.str "main", .ref p1, .non, v]) n2)
  refine ⟨by show 1 ≤ sizeLine; decide, fun p3 n3 => ?_⟩
  have s3 := s2.trans (same_upd (o := .lst [.ref p2]) n3)
  refine ⟨by show 2 ≤ sizeLine; decide, fun p4 n4 => ?_⟩
  have s4 := s3.trans (same_upd (o := .tup [.str "first", .ref p3]) n4)
  refine ⟨_, rfl, D, vo, rfl, .inl ⟨kvs, Sum.inr "other", .inl (s4 _ _ hD), rfl, evo.symm⟩, ?_⟩
  refine ⟨by show 2 ≤ sizeLine; decide, fun p5 n5 => ?_⟩
  have s5 := s4.trans (same_upd (o := .tup [.str "other", vo]) n5)
  refine ⟨by show 2 ≤ sizeLine; decide, fun p6 n6 => ?_⟩
  have s6 := s5.trans (same_upd (o := .lst [.ref p4, .ref p5]) n6)
  have a5 := same_upd (o := .lst [.ref p4, .ref p5]) n6
  have a4 := (same_upd (o := .tup [.str "other", vo]) n5).trans a5
  have a3 := (same_upd (o := .tup [.str "first", .ref p3]) n4).trans a4
  have a2 := (same_upd (o := .lst [.ref p2]) n3).trans a3
  have a1 := (same_upd (o := .tup [.str "main", .ref p1, .non, v]) n2).trans a2
  have hms := Dx.lst (K := K) (upd_same (H := _) (a := p6) (o := .lst [.ref p4, .ref p5])) (.cons (.tup (a4 _ _ upd_same) (.cons (.str "first") (.cons (.lst (a3 _ _ upd_same) (.cons (.tup (a2 _ _ upd_same) (.cons (.str "main") (.cons (.tup (a1 _ _ upd_same) .nil) (.cons .non (.cons (Dx.mono s6 hb) .nil))))) .nil)) .nil)))
    (.cons (.tup (a5 _ _ upd_same) (.cons (.str "other") (.cons (Dx.mono s6 hvo) .nil))) .nil))
  refine ⟨Tabs.ext hTb s6, fun H1 x1 T1 => ?_⟩
  have e01 : ExtN H H1 := (ExtN.of s6).trans x1
  refine ⟨_, rfl, D, vk, rfl, .inl ⟨kvs, Sum.inr "kinds", .inl (e01 _ _ hD (fun _ z => nomatch z)), rfl, evk.symm⟩, _, rfl, fun x dx nx ndx ne => ?_⟩
  have s8a : Same H1 (upd H1 dx (.own x)) := same_upd ndx
  have s8 := s8a.trans (same_upd (o := .ins CP dx []) (show upd H1 dx (.own x) x = none by rw [upd_ne ne.symm]; exact nx))
  refine ⟨x, dx, vk, .ref p6, kindsD N, modsD N b, rfl, upd_same, ⟨Dx.mono s8 (Dx.tabs e01 hvk), fit_kinds h, ⟨_, rfl⟩, kinds_N h, tup_N N, dep_kinds N, Dx.mono s8 (Dx.tabs x1 hms), fit_mods h hbf, dep_mods N hbd⟩, fun hp H2 k2 _ => ⟨rfl, _, rfl, ?_⟩, fun wd n y hp d v2 H2 s9 nd hd hv => ?_⟩
  · have s9 : Same H1 H2 := fun b' o' e' => k2 b' o' (fun z => by subst z; rw [nx] at e'; cases e') (s8 _ _ e')
    refine q _ H2 (e01.trans (ExtN.of s9)) (Tabs.ext T1 s9) ?_
    rw [hp]
    exact .str _
  · refine ⟨d, v2, n, y, rfl, rfl, hd, fun p3' H3 s10 hp3 => ?_⟩
    have s11 := (s8.trans s9).trans s10
    refine q _ H3 (e01.trans (ExtN.of s11)) (Tabs.ext T1 s11) ?_
    rw [hp]
    exact .tup hp3 (.cons (Dx.mono s10 hv) (.cons (.int _) (.cons (.str _) .nil)))
end
end Lm

/-! Expressions that make data: what they are worth, in a heap some of whose objects are hidden. -/
namespace Lm
open PySem PySem.Spec PyProof.Rows L2
/-- the heap without R -/
def hid (R : List Addr) (H : Hp) : Hp := fun b => if b ∈ R then none else H b
/-- all of R stands in the heap -/
def Full (R : List Addr) (H : Hp) : Prop := ∀ b ∈ R, H b ≠ none
theorem hid_same {R : List Addr} {H H' : Hp} (s : Same H H') : Same (hid R H) (hid R H') := fun b o e => by
  unfold hid at e ⊢
  by_cases h : b ∈ R
  · rw [if_pos h] at e; cases e
  · rw [if_neg h] at e ⊢; exact s _ _ e
theorem hid_sub (R : List Addr) (H : Hp) : Same (hid R H) H := fun b o e => by
  unfold hid at e
  by_cases h : b ∈ R
  · rw [if_pos h] at e; cases e
  · rw [if_neg h] at e; exact e
theorem Full.mono {R : List Addr} {H H' : Hp} (f : Full R H) (s : Same H H') : Full R H' := fun b hb e => by
  cases z : H b with
  | none => exact f b hb z
  | some o => rw [s _ _ z] at e; cases e
theorem hid_at {R : List Addr} {H : Hp} {p : Addr} {o : HO} (f : Full R H) (n : H p = none) : hid R (upd H p o) p = some o := by
  unfold hid
  rw [if_neg (fun h => f p h n), upd_same]
theorem hid_nil (H : Hp) : hid [] H = H := by
  funext b
  unfold hid
  rw [if_neg (fun h => nomatch h)]
theorem hid_cons {R : List Addr} {H : Hp} {p : Addr} {o : HO} (n : H p = none) : hid (p :: R) (upd H p o) = hid R H := by
  funext b
  unfold hid
  by_cases h : b = p
  · subst h
    rw [if_pos (List.mem_cons_self ..)]
    by_cases h2 : b ∈ R
    · rw [if_pos h2]
    · rw [if_neg h2, n]
  · rw [upd_ne h]
    by_cases h2 : b ∈ R
    · rw [if_pos h2, if_pos (List.mem_cons_of_mem _ h2)]
    · rw [if_neg h2, if_neg (fun z => (List.mem_cons.mp z).elim h h2)]
theorem hid_put {R : List Addr} {H : Hp} {p : Addr} {o : HO} (h : p ∈ R) : hid R (upd H p o) = hid R H := by
  funext b
  unfold hid
  by_cases h2 : b ∈ R
  · rw [if_pos h2, if_pos h2]
  · rw [if_neg h2, if_neg h2, upd_ne (fun z => by subst z; exact h2 h)]
theorem Full.put {R : List Addr} {H : Hp} {p : Addr} {o : HO} (f : Full R H) : Full R (upd H p o) := fun b hb => by
  by_cases h : b = p
  · subst h; rw [upd_same]; exact fun z => nomatch z
  · rw [upd_ne h]; exact f b hb
theorem Full.cons {R : List Addr} {H : Hp} {p : Addr} {o : HO} (f : Full R H) : Full (p :: R) (upd H p o) := fun b hb => by
  by_cases h : b = p
  · subst h; rw [upd_same]; exact fun z => nomatch z
  · rw [upd_ne h]; exact f b ((List.mem_cons.mp hb).resolve_left h)
theorem Full.nil (H : Hp) : Full [] H := fun b hb => nomatch hb
section
variable {K : PySem.W.Frag} {R : List Addr} {σ : L2.St} {B : Hp}
/-- te makes d -/
def EvD (K : PySem.W.Frag) (R : List Addr) (te : TE) (σ : L2.St) (B : Hp) (d : PyData) : Prop := ∀ (H : Hp), Same B (hid R H) → Full R H → ∀ Q : VK, (∀ v H', Same H H' → Dx K (hid R H') v d → Q v H') → te σ H Q
def EvA (K : PySem.W.Frag) (R : List Addr) (ta : TA) (σ : L2.St) (B : Hp) (ds : List PyData) : Prop := ∀ (H : Hp), Same B (hid R H) → Full R H → ∀ Q : List V → Hp → Prop, (∀ vs H', Same H H' → DxAll K (hid R H') vs ds → Q vs H') → ta σ H Q
theorem evd_var {i : Nat} {v : V} {d : PyData} (h : σ[i]? = some (some v)) (x : Dx K B v d) : EvD K R (tVar i) σ B d := fun H s _ Q q => ⟨v, h, q v H (Same.refl H) (Dx.mono s x)⟩
theorem evd_str (x : Str) : EvD K R (tC (.str x)) σ B (.str x) := fun H _ _ Q q => q _ H (Same.refl H) (.str x)
theorem evd_int (i : Int) : EvD K R (tC (.int i)) σ B (.int i) := fun H _ _ Q q => q _ H (Same.refl H) (.int i)
theorem evd_bl (b : Bool) : EvD K R (tC (.bl b)) σ B (.bool b) := fun H _ _ Q q => q _ H (Same.refl H) (.bl b)
theorem evd_non : EvD K R (tC .non) σ B .none := fun H _ _ Q q => q _ H (Same.refl H) .non
theorem eva_nil : EvA K R tNil σ B [] := fun H _ _ Q q => q [] H (Same.refl H) .nil
theorem eva_cons {te : TE} {ta : TA} {d : PyData} {ds : List PyData} (h1 : EvD K R te σ B d) (h2 : EvA K R ta σ B ds) : EvA K R (tCons te ta) σ B (d :: ds) := fun H s f Q q =>
  h1 H s f _ fun v H1 s1 x => h2 H1 (s.trans (hid_same s1)) (f.mono s1) _ fun vs H2 s2 xs => q _ H2 (s1.trans s2) (.cons (Dx.mono (hid_same s2) x) xs)
theorem evd_tup {ta : TA} {ds : List PyData} (h : EvA K R ta σ B ds) (hl : ds.length ≤ sizeLine) : EvD K R (tTup ta) σ B (.tuple ds) := fun H s f Q q =>
  h H s f _ fun vs H1 s1 x => ⟨by rw [x.len]; exact hl, fun p n => q _ _ (s1.trans (same_upd n)) (.tup (hid_at (f.mono s1) n) (DxAll.mono (hid_same (same_upd n)) x))⟩
theorem evd_lst {ta : TA} {ds : List PyData} (h : EvA K R ta σ B ds) (hl : ds.length ≤ sizeLine) : EvD K R (tLst ta) σ B (.list ds) := fun H s f Q q =>
  h H s f _ fun vs H1 s1 x => ⟨by rw [x.len]; exact hl, fun p n => q _ _ (s1.trans (same_upd n)) (.lst (hid_at (f.mono s1) n) (DxAll.mono (hid_same (same_upd n)) x))⟩
theorem evd_dic : EvD K R tDNewK σ B (.dict []) := fun H s f Q q => fun p n => q _ _ (same_upd n) (.dic (hid_at f n))
theorem dx_list {H : Hp} {v : V} {ds : List PyData} (h : Dx K H v (.list ds)) : ∃ a xs, v = .ref a ∧ H a = some (.lst xs) ∧ DxAll K H xs ds := by
  cases h with
  | lst h a => exact ⟨_, _, rfl, h, a⟩
theorem DxAll.cat {H : Hp} : ∀ {vs us : List V} {ds es : List PyData}, DxAll K H vs ds → DxAll K H us es → DxAll K H (vs ++ us) (ds ++ es)
  | _, _, _, _, .nil, g => g
  | _, _, _, _, .cons h a, g => .cons h (DxAll.cat a g)
theorem DxAll.drop {H : Hp} : ∀ (n : Nat) {vs : List V} {ds : List PyData}, DxAll K H vs ds → DxAll K H (vs.drop n) (ds.drop n)
  | 0, _, _, h => h
  | n + 1, _, _, .nil => .nil
  | n + 1, _, _, .cons _ a => DxAll.drop n a
theorem DxAll.takeN {H : Hp} : ∀ (n : Nat) {vs : List V} {ds : List PyData}, DxAll K H vs ds → DxAll K H (vs.take n) (ds.take n)
  | 0, _, _, _ => .nil
  | n + 1, _, _, .nil => .nil
  | n + 1, _, _, .cons h a => .cons h (DxAll.takeN n a)
theorem DxAll.rev {H : Hp} : ∀ {vs : List V} {ds : List PyData}, DxAll K H vs ds → DxAll K H vs.reverse ds.reverse
  | _, _, .nil => .nil
  | _, _, .cons h a => by
    rw [List.reverse_cons, List.reverse_cons]
    exact DxAll.cat (DxAll.rev a) (.cons h .nil)
/-- a list and a list: the parts of both ahead of the new list -/
theorem cat_go {ta tb : TE} {xs ys : List PyData} (h1 : EvD K R ta σ B (.list xs)) (h2 : EvD K R tb σ B (.list ys)) (hl : xs.length + ys.length ≤ sizeLine) {H : Hp} (s : Same B (hid R H)) (f : Full R H) {Q : VK}
    (q : ∀ vs H2 p, Same H H2 → H2 p = none → DxAll K (hid R H2) vs (xs ++ ys) → Q (.ref p) (upd H2 p (.lst vs))) : tOp rCat ta tb σ H Q :=
  h1 H s f _ fun v H1 s1 x => h2 H1 (s.trans (hid_same s1)) (f.mono s1) _ fun u H2 s2 y => by
    obtain ⟨a, as, rfl, ha, hx⟩ := dx_list x
    obtain ⟨b, bs, rfl, hb, hy⟩ := dx_list y
    exact ⟨a, b, as, bs, rfl, rfl, s2 _ _ (hid_sub R H1 _ _ ha), hid_sub R H2 _ _ hb, by rw [hx.len, hy.len]; exact hl, fun p n => q _ H2 p (s1.trans s2) n (DxAll.cat (DxAll.mono (hid_same s2) hx) hy)⟩
theorem evd_cat {ta tb : TE} {xs ys : List PyData} (h1 : EvD K R ta σ B (.list xs)) (h2 : EvD K R tb σ B (.list ys)) (hl : xs.length + ys.length ≤ sizeLine) : EvD K R (tOp rCat ta tb) σ B (.list (xs ++ ys)) := fun H s f Q q =>
  cat_go h1 h2 hl s f fun vs H2 p s2 n x => q _ _ (s2.trans (same_upd n)) (.lst (hid_at (f.mono s2) n) (DxAll.mono (hid_same (same_upd n)) x))
/-- xs[n] of a list -/
theorem evd_ix {ta : TE} {xs : List PyData} {n : Nat} {d : PyData} (h1 : EvD K R ta σ B (.list xs)) (hn : xs[n]? = some d) : EvD K R (tOp (rIxL K) ta (tC (.int n))) σ B d := fun H s f Q q =>
  h1 H s f _ fun v H1 s1 x => by
    obtain ⟨a, as, rfl, ha, hx⟩ := dx_list x
    obtain ⟨u, hu, hd⟩ := hx.at hn
    refine ⟨a, as, n, u, rfl, rfl, SqL.of (hid_sub R H1 _ _ ha), ?_, q u H1 s1 hd⟩
    obtain ⟨hlt, _⟩ := List.getElem?_eq_some_iff.mp hu
    unfold atI
    rw [show ixN as.length (n : Int) = some n from by unfold ixN; rw [if_pos (by omega), if_pos (by omega)]; rfl]
    exact hu
/-- xs[:n], xs[n:] of a list -/
def cutD (xs : List PyData) (lo hi : Option Int) : List PyData := (xs.drop (HT.sIx xs.length 0 lo)).take (HT.sIx xs.length xs.length hi - HT.sIx xs.length 0 lo)
theorem evd_cut {ta : TE} {xs : List PyData} (hi : Int) (h1 : EvD K R ta σ B (.list xs)) : EvD K R (tSl (rSlL K) ta tNoPart (tPart (tC (.int hi)))) σ B (.list (cutD xs none (some hi))) := fun H s f Q q =>
  h1 H s f _ fun v H1 s1 x => by
    obtain ⟨a, as, rfl, ha, hx⟩ := dx_list x
    refine ⟨hi, rfl, a, as, rfl, SqL.of (hid_sub R H1 _ _ ha), fun p n => q _ _ (s1.trans (same_upd n)) (.lst (hid_at (f.mono s1) n) (DxAll.mono (hid_same (same_upd n)) ?_))⟩
    unfold cutV cutD
    rw [hx.len]
    exact DxAll.takeN _ (DxAll.drop _ hx)
theorem evd_from {ta : TE} {xs : List PyData} (lo : Int) (h1 : EvD K R ta σ B (.list xs)) : EvD K R (tSl (rSlL K) ta (tPart (tC (.int lo))) tNoPart) σ B (.list (cutD xs (some lo) none)) := fun H s f Q q =>
  h1 H s f _ fun v H1 s1 x => by
    obtain ⟨a, as, rfl, ha, hx⟩ := dx_list x
    refine ⟨lo, rfl, a, as, rfl, SqL.of (hid_sub R H1 _ _ ha), fun p n => q _ _ (s1.trans (same_upd n)) (.lst (hid_at (f.mono s1) n) (DxAll.mono (hid_same (same_upd n)) ?_))⟩
    unfold cutV cutD
    rw [hx.len]
    exact DxAll.takeN _ (DxAll.drop _ hx)
theorem evd_rev {ta : TE} {xs : List PyData} (h1 : EvD K R ta σ B (.list xs)) : EvD K R (tRevL K ta) σ B (.list xs.reverse) := fun H s f Q q =>
  h1 H s f _ fun v H1 s1 x => by
    obtain ⟨a, as, rfl, ha, hx⟩ := dx_list x
    exact ⟨a, as, rfl, SqL.of (hid_sub R H1 _ _ ha), fun p n => q _ _ (s1.trans (same_upd n)) (.lst (hid_at (f.mono s1) n) (DxAll.mono (hid_same (same_upd n)) (DxAll.rev hx)))⟩
/-- tuple(xs) of a list -/
theorem evd_tupOf {r : List V → Hp → VK → Prop} {ta : TE} {xs : List PyData} (h1 : EvD K R ta σ B (.list xs))
    (hr : ∀ (a : Addr) (as : List V) (H : Hp) (Q : VK), H a = some (.lst as) → (∀ l, H l = none → Q (.ref l) (upd H l (.tup as))) → r [.ref a] H Q) : EvD K R (tCB r (tCons ta tNil)) σ B (.tuple xs) := fun H s f Q q =>
  h1 H s f _ fun v H1 s1 x => by
    obtain ⟨a, as, rfl, ha, hx⟩ := dx_list x
    exact hr a as H1 Q (hid_sub R H1 _ _ ha) fun l n => q _ _ (s1.trans (same_upd n)) (.tup (hid_at (f.mono s1) n) (DxAll.mono (hid_same (same_upd n)) hx))
/-- a text of the scene -/
theorem evd_get {D i : Nat} {x : Str} {v : V} {kvs : List (Key × V)} {d : PyData} (hv : σ[i]? = some (some (.ref D))) (hD : B D = some (.dK kvs)) (hx : valV kvs (Sum.inr x) = some v) (hd : Dx K B v d) : EvD K R (tDGet (tVar i) (tC (.str x))) σ B d := fun H s f Q q =>
  ⟨_, hv, D, v, rfl, .inl ⟨kvs, Sum.inr x, .inl (hid_sub R H _ _ (s _ _ hD)), rfl, hx.symm⟩, q v H (Same.refl H) (Dx.mono s hd)⟩
end
end Lm

/-! for x in [..]: rows.append(..) -/
namespace Lm
open PySem PySem.Spec PyProof.Rows L2
section
variable {K : PySem.W.Frag} {R : List Addr} {σ : L2.St} {H : Hp}
theorem set_set {α : Type} : ∀ (l : List α) (j : Nat) (a b : α), (l.set j a).set j b = l.set j b
  | [], _, _, _ => rfl
  | x :: r, 0, _, _ => rfl
  | x :: r, j + 1, a, b => by
    show x :: (r.set j a).set j b = x :: r.set j b
    rw [set_set r j a b]
/-- rows.append(te) -/
abbrev tApp (K : PySem.W.Frag) (i : Nat) (te : TE) : TE := tBM K "list" rAppend (tVar i) (tCons te tNil)
theorem app_one {i : Nat} {te : TE} {p : Addr} {vs : List V} {es : List PyData} {d : PyData} {B : Hp} {Q : VK} (hi : σ[i]? = some (some (.ref p))) (hp : p ∈ R) (hv : H p = some (.lst vs)) (hx : DxAll K (hid R H) vs es) (hl : es.length < 1000) (f : Full R H) (s : Same B (hid R H)) (e : EvD K R te σ B d)
    (q : ∀ H', Same (hid R H) (hid R H') → Full R H' → (∀ b ∈ R, b ≠ p → ∀ o, H b = some o → H' b = some o) → (∃ vs', H' p = some (.lst vs') ∧ DxAll K (hid R H') vs' (es ++ [d])) → Q .non H') : tApp K i te σ H Q := by
  refine ⟨_, hi, .inl ⟨rfl, _, SqL.of hv⟩, e H s f _ fun v H1 s1 x => ⟨p, vs, v, rfl, rfl, s1 _ _ hv, ?_, ?_⟩⟩
  · rw [hx.len]
    exact small1000 (Nat.le_of_lt hl)
  · refine q _ ?_ (f.mono s1).put (fun b _ ne o eb => by rw [upd_ne ne]; exact s1 _ _ eb) ⟨_, upd_same, ?_⟩
    · rw [hid_put hp]
      exact hid_same s1
    · rw [hid_put hp]
      exact DxAll.cat (DxAll.mono (hid_same s1) hx) (.cons x .nil)
theorem app_loop {i j : Nat} {ti te : TE} {p : Addr} {vs : List V} {es ds : List PyData} {g : PyData → PyData} {B : Hp} {D : Ends} (ne : i ≠ j) (hi : σ[i]? = some (some (.ref p))) (hp : p ∈ R) (hv : H p = some (.lst vs)) (hx : DxAll K (hid R H) vs es) (hl : es.length + ds.length < 1000) (hne : 0 < ds.length) (f : Full R H) (s : Same B (hid R H))
    (e : EvD K R ti σ B (.list ds)) (step : ∀ v d B', d ∈ ds → Same B B' → Dx K B' v d → EvD K R te (σ.set j (some v)) B' (g d))
    (q : ∀ v H', Same (hid R H) (hid R H') → Full R H' → (∀ b ∈ R, b ≠ p → ∀ o, H b = some o → H' b = some o) → (∃ vs', H' p = some (.lst vs') ∧ DxAll K (hid R H') vs' (es ++ ds.map g)) → D.nx (σ.set j (some v)) H') :
    tFor (iList K ti) (gName j) (tDrop (tApp K i te)) D σ H := by
  refine e H s f _ fun v H1 s1 x => ?_
  obtain ⟨a, xs, rfl, ha, hxs⟩ := dx_list x
  have ha1 := hid_sub R H1 _ _ ha
  refine ⟨a, rfl, ⟨xs, SqL.of ha1⟩, ?_⟩
  refine for_list (xs := xs) (fun n σ' H' => (n = 0 ∧ σ' = σ ∨ ∃ u, σ' = σ.set j (some u)) ∧ Same (hid R H1) (hid R H') ∧ Full R H' ∧ (∀ b ∈ R, b ≠ p → ∀ o, H1 b = some o → H' b = some o) ∧ ∃ vs', H' p = some (.lst vs') ∧ DxAll K (hid R H') vs' (es ++ (ds.take n).map g)) ?_ ?_ ?_ ?_
  · refine ⟨.inl ⟨rfl, rfl⟩, Same.refl _, f.mono s1, fun _ _ _ _ z => z, vs, s1 _ _ hv, ?_⟩
    rw [List.take_zero, List.map_nil, List.append_nil]
    exact DxAll.mono (hid_same s1) hx
  · intro n σ' H' _ h
    exact SqL.of (hid_sub R H' _ _ (h.2.1 _ _ ha))
  · rintro n y σ' H' hy ⟨h1, h2, h3, h4, vs', h5, h6⟩
    obtain ⟨d, hd, hdx⟩ := hxs.get hy
    have hσ : σ'.set j (some y) = σ.set j (some y) := by
      rcases h1 with ⟨_, z⟩ | ⟨u, z⟩
      · rw [z]
      · rw [z, set_set]
    show tDrop (tApp K i te) _ (σ'.set j (some y)) H'
    rw [hσ]
    have hlen : (es ++ (ds.take n).map g).length < 1000 := by
      rw [List.length_append, List.length_map, List.length_take]
      omega
    refine app_one (R := R) (B := hid R H1) (by rw [List.getElem?_set_ne ne.symm]; exact hi) hp h5 h6 hlen h3 h2 (step y d _ (List.mem_of_getElem? hd) (s.trans (hid_same s1)) hdx) fun H2 k1 k2 k3 k4 => ?_
    refine ⟨.inr ⟨y, rfl⟩, h2.trans k1, k2, fun b hb n' o z => k3 b hb n' o (h4 b hb n' o z), ?_⟩
    have et : ds.take (n + 1) = ds.take n ++ [d] := by rw [List.take_succ, hd]; rfl
    rw [et, List.map_append, ← List.append_assoc]
    exact k4
  · rintro σ' H' ⟨h1, h2, h3, h4, h5⟩
    rw [hxs.len, List.take_length] at h5
    rcases h1 with ⟨z, _⟩ | ⟨u, z⟩
    · rw [hxs.len] at z
      omega
    · rw [z]
      exact q u H' ((hid_same s1).trans h2) h3 (fun b hb n o eb => h4 b hb n o (s1 _ _ eb)) h5
end
end Lm

/-! Statements that store data. -/
namespace Lm
open PySem PySem.Spec PyProof.Rows L2
section
variable {K : PySem.W.Frag} {R : List Addr} {σ : L2.St} {H B : Hp} {D : Ends} {u : TS}
theorem set_go {te : TE} {i : Nat} {d : PyData} (e : EvD K R te σ B d) (s : Same B (hid R H)) (f : Full R H) (q : ∀ v H1, Same H H1 → Dx K (hid R H1) v d → u D (σ.set i (some v)) H1) : tSeq (tAsg te (gName i)) u D σ H := e H s f _ q
/-- the new list is hidden from now on -/
theorem set_cat {ta tb : TE} {i : Nat} {xs ys : List PyData} (h1 : EvD K R ta σ B (.list xs)) (h2 : EvD K R tb σ B (.list ys)) (hl : xs.length + ys.length ≤ sizeLine) (s : Same B (hid R H)) (f : Full R H)
    (q : ∀ p vs H2 H1, Same H H2 → Same H2 H1 → H2 p = none → H1 p = some (.lst vs) → hid (p :: R) H1 = hid R H2 → Full (p :: R) H1 → DxAll K (hid (p :: R) H1) vs (xs ++ ys) → u D (σ.set i (some (.ref p))) H1) : tSeq (tAsg (tOp rCat ta tb) (gName i)) u D σ H :=
  cat_go h1 h2 hl s f fun vs H2 p s2 n x => q p vs H2 _ s2 (same_upd n) n upd_same (hid_cons n) (f.mono s2).cons (by rw [hid_cons n]; exact x)
theorem set_lst {ta : TA} {i : Nat} {xs : List PyData} (h1 : EvA K R ta σ B xs) (hl : xs.length ≤ sizeLine) (s : Same B (hid R H)) (f : Full R H)
    (q : ∀ p vs H2 H1, Same H H2 → Same H2 H1 → H2 p = none → H1 p = some (.lst vs) → hid (p :: R) H1 = hid R H2 → Full (p :: R) H1 → DxAll K (hid (p :: R) H1) vs xs → u D (σ.set i (some (.ref p))) H1) : tSeq (tAsg (tLst ta) (gName i)) u D σ H :=
  h1 H s f _ fun vs H2 s2 x => ⟨by rw [x.len]; exact hl, fun p n => q p vs H2 _ s2 (same_upd n) n upd_same (hid_cons n) (f.mono s2).cons (by rw [hid_cons n]; exact x)⟩
theorem il_go {te : TE} {ds : List PyData} {Z : It → Hp → Prop} (e : EvD K R te σ B (.list ds)) (s : Same B (hid R H)) (f : Full R H) (q : ∀ a xs H1, Same H H1 → hid R H1 a = some (.lst xs) → DxAll K (hid R H1) xs ds → Z (Itl K a) H1) : iList K te σ H Z :=
  e H s f _ fun v H1 s1 x => by
    obtain ⟨a, xs, rfl, ha, hx⟩ := dx_list x
    exact ⟨a, rfl, ⟨xs, SqL.of (hid_sub R H1 _ _ ha)⟩, q a xs H1 s1 ha hx⟩
theorem unl_go {te : TE} {n : Nat} {gs : TGs} {ds : List PyData} (e : EvD K R te σ B (.list ds)) (s : Same B (hid R H)) (f : Full R H) (hn : ds.length = n) (q : ∀ xs H1, Same H H1 → DxAll K (hid R H1) xs ds → gs xs σ H1 (fun σ' H' => u D σ' H')) : tSeq (tAsg te (gUnl K n gs)) u D σ H :=
  e H s f _ fun v H1 s1 x => by
    obtain ⟨a, xs, rfl, ha, hx⟩ := dx_list x
    exact ⟨a, xs, rfl, SqL.of (hid_sub R H1 _ _ ha), by rw [hx.len, hn], q xs H1 s1 hx⟩
theorem lc_go {te te2 : TE} {g gg : TG} {vs : List Nat} {ds : List PyData} (fv : PyData → V) (e : EvD K R te σ B (.list ds)) (s : Same B (hid R H)) (f : Full R H) (hz : ds.length ≤ 1000)
    (step : ∀ (i : Nat) (x : V) (e : PyData) (H3 : Hp) (Z : VK) (Zf : Hp → Prop), ds[i]? = some e → Dx K H3 x e → Same H H3 → (∀ H4, Same H3 H4 → Z (fv e) H4) → g x (wipe σ vs) H3 fun σ2 H2 => wipe σ2 vs = wipe σ vs ∧ tYes σ2 H2 fun b H4 => if b = true then te2 σ2 H4 Z else Zf H4)
    (q : ∀ Dl H2, Same H H2 → H2 Dl = some (.lst (ds.map fv)) → gg (.ref Dl) σ H2 (fun σ' H' => u D σ' H')) : tSeq (tAsg (tLc (iList K te) g tYes te2 vs) gg) u D σ H := by
  unfold tSeq tAsg tLc
  refine il_go e s f ?_
  intro p ys H1 s1 hp hys Dl nD
  have hp1 := hid_sub R H1 _ _ hp
  exact lc_row (walk_list (K := K) (a := p) (xs := ys)) (fun H' s' => s'.seq (SqL.of hp1)) nD fv (DxAll.mono (hid_sub R H1) hys) rfl hz (fun i x e H5 Z Zf he hx s5 hZ => step i x e H5 Z Zf he hx (s1.trans s5) hZ) fun H2 s2 hDl => q Dl H2 (s1.trans s2) hDl
theorem dxs_str {H : Hp} : ∀ {ys : List Str} {xs : List V}, DxAll K H xs (ys.map PyData.str) → xs = ys.map V.str
  | [], _, .nil => rfl
  | y :: r, _, .cons h a => by
    rw [List.map_cons, dxs_str a, h.strOf]
theorem loop_go {i j : Nat} {ti te : TE} {p : Addr} {vs : List V} {es ds : List PyData} (g : PyData → PyData) (ne : i ≠ j) (hi : σ[i]? = some (some (.ref p))) (hp : p ∈ R) (hv : H p = some (.lst vs)) (hx : DxAll K (hid R H) vs es) (hl : es.length + ds.length < 1000) (hne : 0 < ds.length) (f : Full R H) (s : Same B (hid R H))
    (e : EvD K R ti σ B (.list ds)) (step : ∀ v d B', d ∈ ds → Same B B' → Dx K B' v d → EvD K R te (σ.set j (some v)) B' (g d))
    (q : ∀ v vs' H', Same (hid R H) (hid R H') → Full R H' → H' p = some (.lst vs') → DxAll K (hid R H') vs' (es ++ ds.map g) → u D (σ.set j (some v)) H') :
    tSeq (tFor (iList K ti) (gName j) (tDrop (tApp K i te))) u D σ H :=
  app_loop (D := { D with nx := u D }) ne hi hp hv hx hl hne f s e step fun v H' h1 h2 _ h4 => by
    obtain ⟨vs', h5, h6⟩ := h4
    exact q v vs' H' h1 h2 h5 h6
theorem app_go {i : Nat} {te : TE} {p : Addr} {vs : List V} {es : List PyData} {d : PyData} (hi : σ[i]? = some (some (.ref p))) (hp : p ∈ R) (hv : H p = some (.lst vs)) (hx : DxAll K (hid R H) vs es) (hl : es.length < 1000) (f : Full R H) (s : Same B (hid R H)) (e : EvD K R te σ B d)
    (q : ∀ vs' H', Same (hid R H) (hid R H') → Full R H' → H' p = some (.lst vs') → DxAll K (hid R H') vs' (es ++ [d]) → u D σ H') : tSeq (tDrop (tApp K i te)) u D σ H :=
  app_one (Q := fun _ H' => u D σ H') hi hp hv hx hl f s e fun H' h1 h2 _ h4 => by
    obtain ⟨vs', h5, h6⟩ := h4
    exact q vs' H' h1 h2 h5 h6
/-- the hidden list and a list -/
theorem set_catH {i j : Nat} {tb : TE} {p : Addr} {vs : List V} {es ys : List PyData} (hi : σ[i]? = some (some (.ref p))) (hv : H p = some (.lst vs)) (hx : DxAll K (hid R H) vs es) (h2 : EvD K R tb σ B (.list ys)) (hl : es.length + ys.length ≤ sizeLine) (s : Same B (hid R H)) (f : Full R H)
    (q : ∀ v H1, Same H H1 → Dx K (hid R H1) v (.list (es ++ ys)) → u D (σ.set j (some v)) H1) : tSeq (tAsg (tOp rCat (tVar i) tb) (gName j)) u D σ H :=
  ⟨_, hi, h2 H s f _ fun v H2 s2 y => by
    obtain ⟨b, bs, rfl, hb, hy⟩ := dx_list y
    exact ⟨p, b, vs, bs, rfl, rfl, s2 _ _ hv, hid_sub R H2 _ _ hb, by rw [hx.len, hy.len]; exact hl, fun l n => q _ _ (s2.trans (same_upd n)) (.lst (hid_at (f.mono s2) n) (DxAll.mono (hid_same (same_upd n)) (DxAll.cat (DxAll.mono (hid_same s2) hx) hy)))⟩⟩
theorem par_go {ta : TA} {i j : Nat} {d1 d2 : PyData} (e : EvA K R ta σ B [d1, d2]) (s : Same B (hid R H)) (f : Full R H) (q : ∀ v w H1, Same H H1 → Dx K (hid R H1) v d1 → Dx K (hid R H1) w d2 → u D ((σ.set i (some v)).set j (some w)) H1) : tSeq (tPar i j ta) u D σ H :=
  e H s f _ fun vs H1 s1 x => by
    cases x with
    | cons h1 x =>
      cases x with
      | cons h2 x =>
        cases x
        exact ⟨_, _, rfl, q _ _ H1 s1 h1 h2⟩
theorem par3_go {ta : TA} {i j l : Nat} {d1 d2 d3 : PyData} (e : EvA K R ta σ B [d1, d2, d3]) (s : Same B (hid R H)) (f : Full R H) (q : ∀ v w z H1, Same H H1 → Dx K (hid R H1) v d1 → Dx K (hid R H1) w d2 → Dx K (hid R H1) z d3 → u D (((σ.set i (some v)).set j (some w)).set l (some z)) H1) : tSeq (tPar3 i j l ta) u D σ H :=
  e H s f _ fun vs H1 s1 x => by
    cases x with
    | cons h1 x =>
      cases x with
      | cons h2 x =>
        cases x with
        | cons h3 x =>
          cases x
          exact ⟨_, _, _, rfl, q _ _ _ H1 s1 h1 h2 h3⟩
/-- the hidden list and a list: the new one hidden too -/
theorem set_catHH {i j : Nat} {tb : TE} {p : Addr} {vs : List V} {es ys : List PyData} (hi : σ[i]? = some (some (.ref p))) (hv : H p = some (.lst vs)) (hx : DxAll K (hid R H) vs es) (h2 : EvD K R tb σ B (.list ys)) (hl : es.length + ys.length ≤ sizeLine) (s : Same B (hid R H)) (f : Full R H)
    (q : ∀ l vs' H1, Same (hid R H) (hid (l :: R) H1) → H1 l = some (.lst vs') → Full (l :: R) H1 → DxAll K (hid (l :: R) H1) vs' (es ++ ys) → u D (σ.set j (some (.ref l))) H1) : tSeq (tAsg (tOp rCat (tVar i) tb) (gName j)) u D σ H :=
  ⟨_, hi, h2 H s f _ fun v H2 s2 y => by
    obtain ⟨b, bs, rfl, hb, hy⟩ := dx_list y
    exact ⟨p, b, vs, bs, rfl, rfl, s2 _ _ hv, hid_sub R H2 _ _ hb, by rw [hx.len, hy.len]; exact hl, fun l n => q l _ _ (by rw [hid_cons n]; exact hid_same s2) upd_same (f.mono s2).cons (by rw [hid_cons n]; exact DxAll.cat (DxAll.mono (hid_same s2) hx) hy)⟩⟩
end
end Lm

/-! The rows of a match. -/
namespace Lm
open PySem PySem.Spec PyProof.Rows L2
open C8 (fnScope_by pe_gc pss_cut tCut Cal pe_c)
/-- the scene -/
def sceneF (N : Nm) (x8 x9 : Str) (x : Str) : Option PyData := if x = "kinds" then some (kindsD N) else if x = "other" then some (L [helpD N, plainD]) else if x = "lets" then some (L (letsD N)) else if x = "free" then some (L [S N.o, S N.p, S N.q, S x8, S x9]) else
  if x = "u" then some (S N.u) else if x = "w" then some (S N.w) else if x = "t" then some (S N.t) else if x = "f" then some (S N.f) else if x = "g" then some (S N.g) else none
def pickN (N : Nm) (e : PyData) : V := match sceneF N "" "" (strOf e) with
  | some (.str y) => .str y
  | _ => .non
def rowsD (N : Nm) : List PyData := [T [S N.w, L [T [.none, T []], T [S N.o, T []], T [S N.p, L []]], S "done"], T [S N.w, T [T [.none, T []], T [S N.o, T []], T [S N.p, L []]], S "done"], T [T [S N.t, S N.g], L [T [.none, T []], T [S N.o, T []], T [S N.p, L []]], S "done"], T [T [S N.t, S N.f], L [T [.none, T []], T [S N.o, T []], T [S N.p, L []]], S "place"], T [S N.u, L [T [.none, T []], T [S N.o, T []], T [S N.p, L []]], S "place"], T [S N.o, L [T [.none, T []], T [S N.o, T []], T [S N.p, L []]], S "place"], T [T [S N.w, S N.f], L [T [.none, T []], T [S N.o, T []], T [S N.p, L []]], S "place"], T [.none, L [T [.none, T []], T [S N.o, T []], T [S N.p, L []]], S "place"], T [T [S N.t], L [T [.none, T []], T [S N.o, T []], T [S N.p, L []]], S "place"], T [.int 5, .int 5, S "place"], T [T [S N.t, S N.g, S N.f], L [T [.none, T []], T [S N.o, T []], T [S N.p, L []]], S "place"], T [L [S N.w], L [T [.none, T []], T [S N.o, T []], T [S N.p, L []]], S "place"], T [S N.w, .none, S "arms"], T [S N.w, .int 5, S "arms"], T [S N.w, S "arms", S "arms"], T [S N.w, .dict [], S "arms"], T [S N.w, L [], S "arms"], T [S N.w, L [T [.none, T []], T [S N.o, T []]], S "arms"], T [S N.w, L [T [.none, T []], T [S N.o, T []], T [S N.p, L []], T [S N.q, T []]], S "arms"], T [S N.w, L [T [S N.p, L []], T [S N.o, T []], T [.none, T []]], S "arms"], T [S N.w, L [T [S N.o, T []], T [.none, T []], T [S N.p, L []]], S "arms"], T [S N.w, L [.none, T [S N.o, T []], T [S N.p, L []]], S "arms"], T [S N.w, L [T [.none], T [S N.o, T []], T [S N.p, L []]], S "arms"], T [S N.w, L [L [.none, T []], T [S N.o, T []], T [S N.p, L []]], S "arms"], T [S N.w, L [T [.none, T [], T []], T [S N.o, T []], T [S N.p, L []]], S "arms"], T [S N.w, L [T [S N.q, T []], T [S N.o, T []], T [S N.p, L []]], S "arms"], T [S N.w, L [.int 5, T [S N.o, T []], T [S N.p, L []]], S "arms"], T [S N.w, L [S "ab", T [S N.o, T []], T [S N.p, L []]], S "arms"], T [S N.w, L [T [.none, T []], .none, T [S N.p, L []]], S "arms"], T [S N.w, L [T [.none, T []], T [S N.o], T [S N.p, L []]], S "arms"], T [S N.w, L [T [.none, T []], L [S N.o, T []], T [S N.p, L []]], S "arms"], T [S N.w, L [T [.none, T []], T [S N.o, T [], T []], T [S N.p, L []]], S "arms"], T [S N.w, L [T [.none, T []], T [.none, T []], T [S N.p, L []]], S "arms"], T [S N.w, L [T [.none, T []], .dict [], T [S N.p, L []]], S "arms"], T [S N.w, L [T [.none, T []], T [S N.u, T []], T [S N.p, L []]], S "name"], T [S N.w, L [T [.none, T []], T [S N.w, T []], T [S N.p, L []]], S "name"], T [S N.w, L [T [.none, T []], T [S "A", T []], T [S N.p, L []]], S "name"], T [S N.w, L [T [.none, T []], T [S "", T []], T [S N.p, L []]], S "name"], T [S N.w, L [T [.none, T []], T [S "toolongname", T []], T [S N.p, L []]], S "name"], T [S N.w, L [T [.none, T []], T [S "case1", T []], T [S N.p, L []]], S "name"], T [S N.w, L [T [.none, T []], T [S "match", T []], T [S N.p, L []]], S "name"], T [S N.w, L [T [.none, T []], T [.int 5, T []], T [S N.p, L []]], S "name"], T [S N.w, L [T [.none, T []], T [L [], T []], T [S N.p, L []]], S "name"], T [S N.w, L [T [.none, T []], T [T [S N.o], T []], T [S N.p, L []]], S "name"], T [S N.w, L [T [.none, T []], T [.bool false, T []], T [S N.p, L []]], S "name"], T [S N.w, L [T [.none, T []], T [S N.p, T []], T [S N.p, L []]], S "name"], T [S N.u, L [T [S N.u, T []]], S "name"], T [.none, L [.none, .int 5, T [S "A", .int 5]], S "name"], T [S N.u, L [T [S "A"], T [.none, T []]], S "place"], T [S N.w, L [T [.none, .int 5], T [S N.o, T []], T [S N.p, L []]], S "5 row"], T [S N.w, L [T [.none, T []], T [S N.o, .none], T [S N.p, L []]], S "5 row"], T [S N.w, L [T [.none, L [T [S "fail"]]], T [S N.o, .int 5], T [S N.p, L []]], S "6 row"], T [S N.w, L [T [.none, T []], T [S N.o, T []], T [S N.p, .dict []]], S "5 row"]]
section
variable {P : Program} {w : World} {K : PySem.W.Frag} {mg : Str → Option Value} {base : Heap}
def spRW (K : PySem.W.Frag) (N : Nm) : Sp := fun vs H Q _ => ∃ (z : V) (D : Addr) (kvs : List (Key × V)) (x8 x9 : Str), vs = [z, .ref D] ∧ ScnAt K H D kvs (sceneF N x8 x9) ∧ ∀ v H', Same H H' → Dx K H' v (L (rowsD N)) → Q v H'
abbrev nsRW : List Str := ["_law_source", "_law_scene_here", "_law_u", "_law_w", "_law_t", "_law_f", "_law_g", "_law_one_here", "_law_two", "_law_more", "_law_good", "_law_rows_here", "_law_arms", "_law_arm", "_law_name", "_law_key"]
theorem scRW : FnScope nsRW ["_law_source", "_law_scene_here"] (defScope sRows) := fnScope_by (by decide +kernel)
theorem kRW {f : Addr} {fd : FuncData} {N : Nm} (F : Fun K "_law_rows" "_law_rows" sRows f fd) (mt : mg "tuple" = none) : FnOk P w K mg base CX0 2 f fd ["_law_source", "_law_scene_here"] (spRW K N) := by
  refine F.ok (k := 1) scRW (fun vs H Q E h => ?_) (fun cdv A outer s H vs Q E hr h => ?_)
  · obtain ⟨z, D, kvs, x8, x9, rfl, _⟩ := h
    rfl
  obtain ⟨z, D, kvs, x8, x9, rfl, hsc, q⟩ := h
  have hu := hu_of hr
  refine ⟨_, (pss_cons (ps_asg (pe_lc (own := [("_law_key", 15)]) (g := gName 15) (tt := tYes) rfl scRW.nd (pi_list (pe_lst (pa_cons pe_str (pa_cons pe_str (pa_cons pe_str (pa_cons pe_str (pa_cons pe_str pa_nil))))))) (blkOk_by (N := nsRW) (sc := defScope sRows) (by decide +kernel)) (fun _ _ _ _ _ => pg_name (i := 15) scRW.nd rfl (Or.inl rfl)) (fun _ _ _ _ _ => pts_nil) (fun _ _ _ _ _ => pe_dget hu (pv 1) (pv 15) (fun _ _ => rfl))) (pg_unl (n := 5) rfl (pgs_cons (pg_name (i := 2) scRW.nd rfl (Or.inl rfl)) (pgs_cons (pg_name (i := 3) scRW.nd rfl (Or.inl rfl)) (pgs_cons (pg_name (i := 4) scRW.nd rfl (Or.inl rfl)) (pgs_cons (pg_name (i := 5) scRW.nd rfl (Or.inl rfl)) (pgs_cons (pg_name (i := 6) scRW.nd rfl (Or.inl rfl)) pgs_nil)))))))
    (pss_cons (ps_asg (pe_slice sl_list (pe_dget hu (pv 1) pe_str (fun _ _ => rfl)) po_none (po_some pe_int)) (pg_unl (n := 3) rfl (pgs_cons (pg_name (i := 7) scRW.nd rfl (Or.inl rfl)) (pgs_cons (pg_name (i := 8) scRW.nd rfl (Or.inl rfl)) (pgs_cons (pg_name (i := 9) scRW.nd rfl (Or.inl rfl)) pgs_nil)))))
    (pss_cons (ps_set (i := 10) scRW.nd rfl (.inl rfl) (pe_lst (pa_cons (pe_tup (pa_cons pe_non (pa_cons (pe_tup pa_nil) pa_nil))) (pa_cons (pe_tup (pa_cons (pv 7) (pa_cons (pe_tup pa_nil) pa_nil))) (pa_cons (pe_tup (pa_cons (pv 8) (pa_cons (pe_lst pa_nil) pa_nil))) pa_nil)))))
    (pss_cons (ps_set (i := 11) scRW.nd rfl (.inl rfl) (pe_lst (pa_cons (pe_tup (pa_cons (pv 3) (pa_cons (pv 10) (pa_cons pe_str pa_nil)))) (pa_cons (pe_tup (pa_cons (pv 3) (pa_cons (pe_callTy call_tuple_of (by rfl) mt boot_tuple (pa_cons (pv 10) pa_nil)) (pa_cons pe_str pa_nil)))) (pa_cons (pe_tup (pa_cons (pe_tup (pa_cons (pv 4) (pa_cons (pv 6) pa_nil))) (pa_cons (pv 10) (pa_cons pe_str pa_nil)))) (pa_cons (pe_tup (pa_cons (pe_tup (pa_cons (pv 4) (pa_cons (pv 5) pa_nil))) (pa_cons (pv 10) (pa_cons pe_str pa_nil)))) pa_nil))))))
    (pss_cons (ps_set (i := 11) scRW.nd rfl (.inl rfl) (pe_op op_cat (pv 11) (pe_lst (pa_cons (pe_tup (pa_cons (pv 2) (pa_cons (pv 10) (pa_cons pe_str pa_nil)))) (pa_cons (pe_tup (pa_cons (pv 7) (pa_cons (pv 10) (pa_cons pe_str pa_nil)))) (pa_cons (pe_tup (pa_cons (pe_tup (pa_cons (pv 3) (pa_cons (pv 5) pa_nil))) (pa_cons (pv 10) (pa_cons pe_str pa_nil)))) (pa_cons (pe_tup (pa_cons pe_non (pa_cons (pv 10) (pa_cons pe_str pa_nil)))) pa_nil)))))))
    (pss_cons (ps_set (i := 11) scRW.nd rfl (.inl rfl) (pe_op op_cat (pv 11) (pe_lst (pa_cons (pe_tup (pa_cons (pe_tup (pa_cons (pv 4) pa_nil)) (pa_cons (pv 10) (pa_cons pe_str pa_nil)))) (pa_cons (pe_tup (pa_cons pe_int (pa_cons pe_int (pa_cons pe_str pa_nil)))) (pa_cons (pe_tup (pa_cons (pe_tup (pa_cons (pv 4) (pa_cons (pv 6) (pa_cons (pv 5) pa_nil)))) (pa_cons (pv 10) (pa_cons pe_str pa_nil)))) (pa_cons (pe_tup (pa_cons (pe_lst (pa_cons (pv 3) pa_nil)) (pa_cons (pv 10) (pa_cons pe_str pa_nil)))) pa_nil)))))))
    (pss_cons (ps_for PassesOwn.never rfl (pi_list (pe_lst (pa_cons pe_non (pa_cons pe_int (pa_cons pe_str (pa_cons pe_dnewK (pa_cons (pe_lst pa_nil) (pa_cons (pe_slice sl_list (pv 10) po_none (po_some pe_int)) (pa_cons (pe_op op_cat (pv 10) (pe_lst (pa_cons (pe_tup (pa_cons (pv 9) (pa_cons (pe_tup pa_nil) pa_nil))) pa_nil))) (pa_cons (pe_revL (pv 10)) (pa_cons (pe_lst (pa_cons (pe_ix ix_list (pv 10) pe_int (fun _ _ => rfl)) (pa_cons (pe_ix ix_list (pv 10) pe_int (fun _ _ => rfl)) (pa_cons (pe_ix ix_list (pv 10) pe_int (fun _ _ => rfl)) pa_nil)))) pa_nil))))))))))) (pg_name (i := 12) scRW.nd rfl (Or.inl rfl)) (pss_one (ps_expr (pe_bm PySem.F.plainAttrs_list PySem.F.slot_list_append PySem.F.type_list_append mt_append (pv 11) (pa_cons (pe_tup (pa_cons (pv 3) (pa_cons (pv 12) (pa_cons pe_str pa_nil)))) pa_nil)))))
    (pss_cons (ps_for PassesOwn.never rfl (pi_list (pe_lst (pa_cons pe_non (pa_cons (pe_tup (pa_cons pe_non pa_nil)) (pa_cons (pe_lst (pa_cons pe_non (pa_cons (pe_tup pa_nil) pa_nil))) (pa_cons (pe_tup (pa_cons pe_non (pa_cons (pe_tup pa_nil) (pa_cons (pe_tup pa_nil) pa_nil)))) (pa_cons (pe_tup (pa_cons (pv 9) (pa_cons (pe_tup pa_nil) pa_nil))) (pa_cons pe_int (pa_cons pe_str pa_nil))))))))) (pg_name (i := 13) scRW.nd rfl (Or.inl rfl)) (pss_one (ps_expr (pe_bm PySem.F.plainAttrs_list PySem.F.slot_list_append PySem.F.type_list_append mt_append (pv 11) (pa_cons (pe_tup (pa_cons (pv 3) (pa_cons (pe_op op_cat (pe_lst (pa_cons (pv 13) pa_nil)) (pe_slice sl_list (pv 10) (po_some pe_int) po_none)) (pa_cons pe_str pa_nil)))) pa_nil)))))
    (pss_cons (ps_for PassesOwn.never rfl (pi_list (pe_lst (pa_cons pe_non (pa_cons (pe_tup (pa_cons (pv 7) pa_nil)) (pa_cons (pe_lst (pa_cons (pv 7) (pa_cons (pe_tup pa_nil) pa_nil))) (pa_cons (pe_tup (pa_cons (pv 7) (pa_cons (pe_tup pa_nil) (pa_cons (pe_tup pa_nil) pa_nil)))) (pa_cons (pe_tup (pa_cons pe_non (pa_cons (pe_tup pa_nil) pa_nil))) (pa_cons pe_dnewK pa_nil)))))))) (pg_name (i := 13) scRW.nd rfl (Or.inl rfl)) (pss_one (ps_expr (pe_bm PySem.F.plainAttrs_list PySem.F.slot_list_append PySem.F.type_list_append mt_append (pv 11) (pa_cons (pe_tup (pa_cons (pv 3) (pa_cons (pe_lst (pa_cons (pe_ix ix_list (pv 10) pe_int (fun _ _ => rfl)) (pa_cons (pv 13) (pa_cons (pe_ix ix_list (pv 10) pe_int (fun _ _ => rfl)) pa_nil)))) (pa_cons pe_str pa_nil)))) pa_nil)))))
    (pss_cons (ps_for PassesOwn.never rfl (pi_list (pe_lst (pa_cons (pv 2) (pa_cons (pv 3) (pa_cons pe_str (pa_cons pe_str (pa_cons pe_str (pa_cons pe_str (pa_cons pe_str (pa_cons pe_int (pa_cons (pe_lst pa_nil) (pa_cons (pe_tup (pa_cons (pv 7) pa_nil)) (pa_cons pe_bl (pa_cons (pv 8) pa_nil)))))))))))))) (pg_name (i := 14) scRW.nd rfl (Or.inl rfl)) (pss_one (ps_expr (pe_bm PySem.F.plainAttrs_list PySem.F.slot_list_append PySem.F.type_list_append mt_append (pv 11) (pa_cons (pe_tup (pa_cons (pv 3) (pa_cons (pe_lst (pa_cons (pe_ix ix_list (pv 10) pe_int (fun _ _ => rfl)) (pa_cons (pe_tup (pa_cons (pv 14) (pa_cons (pe_tup pa_nil) pa_nil))) (pa_cons (pe_ix ix_list (pv 10) pe_int (fun _ _ => rfl)) pa_nil)))) (pa_cons pe_str pa_nil)))) pa_nil)))))
    (pss_cons (ps_set (i := 11) scRW.nd rfl (.inl rfl) (pe_op op_cat (pv 11) (pe_lst (pa_cons (pe_tup (pa_cons (pv 2) (pa_cons (pe_lst (pa_cons (pe_tup (pa_cons (pv 2) (pa_cons (pe_tup pa_nil) pa_nil))) pa_nil)) (pa_cons pe_str pa_nil)))) (pa_cons (pe_tup (pa_cons pe_non (pa_cons (pe_lst (pa_cons pe_non (pa_cons pe_int (pa_cons (pe_tup (pa_cons pe_str (pa_cons pe_int pa_nil))) pa_nil)))) (pa_cons pe_str pa_nil)))) (pa_cons (pe_tup (pa_cons (pv 2) (pa_cons (pe_lst (pa_cons (pe_tup (pa_cons pe_str pa_nil)) (pa_cons (pe_tup (pa_cons pe_non (pa_cons (pe_tup pa_nil) pa_nil))) pa_nil))) (pa_cons pe_str pa_nil)))) pa_nil))))))
    (pss_cons (ps_set (i := 11) scRW.nd rfl (.inl rfl) (pe_op op_cat (pv 11) (pe_lst (pa_cons (pe_tup (pa_cons (pv 3) (pa_cons (pe_lst (pa_cons (pe_tup (pa_cons pe_non (pa_cons pe_int pa_nil))) (pa_cons (pe_ix ix_list (pv 10) pe_int (fun _ _ => rfl)) (pa_cons (pe_ix ix_list (pv 10) pe_int (fun _ _ => rfl)) pa_nil)))) (pa_cons pe_str pa_nil)))) (pa_cons (pe_tup (pa_cons (pv 3) (pa_cons (pe_lst (pa_cons (pe_ix ix_list (pv 10) pe_int (fun _ _ => rfl)) (pa_cons (pe_tup (pa_cons (pv 7) (pa_cons pe_non pa_nil))) (pa_cons (pe_ix ix_list (pv 10) pe_int (fun _ _ => rfl)) pa_nil)))) (pa_cons pe_str pa_nil)))) pa_nil)))))
    (pss_one (ps_ret (pe_op op_cat (pv 11) (pe_lst (pa_cons (pe_tup (pa_cons (pv 3) (pa_cons (pe_lst (pa_cons (pe_tup (pa_cons pe_non (pa_cons (pe_lst (pa_cons (pe_tup (pa_cons pe_str pa_nil)) pa_nil)) pa_nil))) (pa_cons (pe_tup (pa_cons (pv 7) (pa_cons pe_int pa_nil))) (pa_cons (pe_ix ix_list (pv 10) pe_int (fun _ _ => rfl)) pa_nil)))) (pa_cons pe_str pa_nil)))) (pa_cons (pe_tup (pa_cons (pv 3) (pa_cons (pe_op op_cat (pe_slice sl_list (pv 10) po_none (po_some pe_int)) (pe_lst (pa_cons (pe_tup (pa_cons (pv 8) (pa_cons pe_dnewK pa_nil))) pa_nil))) (pa_cons pe_str pa_nil)))) pa_nil)))))))))))))))))), ?_⟩
  obtain ⟨hD, hlk⟩ := hsc
  have hpk : ∀ e ∈ [S "u", S "w", S "t", S "f", S "g"], ∃ k y, e = S k ∧ sceneF N x8 x9 k = some (S y) ∧ pickN N e = .str y := by
    intro e he
    simp only [List.mem_cons, List.not_mem_nil, or_false] at he
    rcases he with rfl | rfl | rfl | rfl | rfl
    · exact ⟨"u", N.u, rfl, rfl, rfl⟩
    · exact ⟨"w", N.w, rfl, rfl, rfl⟩
    · exact ⟨"t", N.t, rfl, rfl, rfl⟩
    · exact ⟨"f", N.f, rfl, rfl, rfl⟩
    · exact ⟨"g", N.g, rfl, rfl, rfl⟩
  have hD0 : hid [] H D = some (.dK kvs) := by rw [hid_nil]; exact hD
  refine lc_go (K := K) (R := []) (B := hid [] H) (ds := [S "u", S "w", S "t", S "f", S "g"]) (pickN N) (evd_lst (eva_cons (evd_str "u") (eva_cons (evd_str "w") (eva_cons (evd_str "t") (eva_cons (evd_str "f") (eva_cons (evd_str "g") eva_nil))))) (Nat.le_of_ble_eq_true rfl)) (Same.refl _) (Full.nil H) (by show 5 ≤ 1000; decide) (fun i x e H5 Z Zf he hx s5 hZ => ?_) fun Dl H1 s1 hDl => ?_
  · obtain ⟨k, y, rfl, hk, hp2⟩ := hpk e (List.mem_of_getElem? he)
    obtain ⟨vk, hvk, hdk⟩ := hlk _ _ hk
    obtain rfl := hdk.strOf
    obtain rfl := hx.strOf
    rw [hp2] at hZ
    exact ⟨rfl, tyes ⟨_, rfl, _, rfl, D, .str y, rfl, .inl ⟨kvs, Sum.inr k, .inl (s5 _ _ hD), rfl, hvk.symm⟩, hZ H5 (Same.refl H5)⟩⟩
  have hDl : H1 Dl = some (.lst [.str N.u, .str N.w, .str N.t, .str N.f, .str N.g]) := hDl
  refine ⟨Dl, _, rfl, SqL.of hDl, rfl, _, _, rfl, _, _, rfl, _, _, rfl, _, _, rfl, _, _, rfl, rfl, ?_⟩
  obtain ⟨vf, hvf, hdf⟩ := hlk "free" _ rfl
  have hdf0 : Dx K (hid [] H) vf (L [S N.o, S N.p, S N.q, S x8, S x9]) := by rw [hid_nil]; exact hdf
  refine unl_go (K := K) (R := []) (B := hid [] H) (ds := [S N.o, S N.p, S N.q]) (evd_cut 3 (evd_get rfl hD0 hvf hdf0)) (hid_same s1) (Full.nil H1) rfl fun xs H2 s2 hxs => ?_
  obtain rfl := dxs_str (ys := [N.o, N.p, N.q]) hxs
  refine ⟨_, _, rfl, _, _, rfl, _, _, rfl, rfl, ?_⟩
  change tSeq _ _ _ [some z, some (.ref D), some (.str N.u), some (.str N.w), some (.str N.t), some (.str N.f), some (.str N.g), some (.str N.o), some (.str N.p), some (.str N.q), none, none, none, none, none, none] _
  refine set_go (K := K) (B := hid [] H) (evd_lst (eva_cons (evd_tup (eva_cons evd_non (eva_cons (evd_tup eva_nil (Nat.le_of_ble_eq_true rfl)) eva_nil)) (Nat.le_of_ble_eq_true rfl)) (eva_cons (evd_tup (eva_cons (evd_var rfl (.str N.o)) (eva_cons (evd_tup eva_nil (Nat.le_of_ble_eq_true rfl)) eva_nil)) (Nat.le_of_ble_eq_true rfl)) (eva_cons (evd_tup (eva_cons (evd_var rfl (.str N.p)) (eva_cons (evd_lst eva_nil (Nat.le_of_ble_eq_true rfl)) eva_nil)) (Nat.le_of_ble_eq_true rfl)) eva_nil))) (Nat.le_of_ble_eq_true rfl)) (hid_same (s1.trans s2)) (Full.nil H2) fun v3 H3 s3 hg3 => ?_
  change tSeq _ _ _ [some z, some (.ref D), some (.str N.u), some (.str N.w), some (.str N.t), some (.str N.f), some (.str N.g), some (.str N.o), some (.str N.p), some (.str N.q), some v3, none, none, none, none, none] _
  refine set_go (K := K) (B := hid [] H3) (evd_lst (eva_cons (evd_tup (eva_cons (evd_var rfl (.str N.w)) (eva_cons (evd_var rfl hg3) (eva_cons (evd_str "done") eva_nil))) (Nat.le_of_ble_eq_true rfl)) (eva_cons (evd_tup (eva_cons (evd_var rfl (.str N.w)) (eva_cons (evd_tupOf (evd_var rfl hg3) (fun a as H Q h k => ⟨a, as, rfl, .inl ⟨SqL.of h, k⟩⟩)) (eva_cons (evd_str "done") eva_nil))) (Nat.le_of_ble_eq_true rfl)) (eva_cons (evd_tup (eva_cons (evd_tup (eva_cons (evd_var rfl (.str N.t)) (eva_cons (evd_var rfl (.str N.g)) eva_nil)) (Nat.le_of_ble_eq_true rfl)) (eva_cons (evd_var rfl hg3) (eva_cons (evd_str "done") eva_nil))) (Nat.le_of_ble_eq_true rfl)) (eva_cons (evd_tup (eva_cons (evd_tup (eva_cons (evd_var rfl (.str N.t)) (eva_cons (evd_var rfl (.str N.f)) eva_nil)) (Nat.le_of_ble_eq_true rfl)) (eva_cons (evd_var rfl hg3) (eva_cons (evd_str "place") eva_nil))) (Nat.le_of_ble_eq_true rfl)) eva_nil)))) (Nat.le_of_ble_eq_true rfl)) (Same.refl _) (Full.nil H3) fun v4 H4 s4 hr4 => ?_
  have hg4 := Dx.mono (hid_same s4) hg3
  change tSeq _ _ _ [some z, some (.ref D), some (.str N.u), some (.str N.w), some (.str N.t), some (.str N.f), some (.str N.g), some (.str N.o), some (.str N.p), some (.str N.q), some v3, some v4, none, none, none, none] _
  refine set_go (K := K) (B := hid [] H4) (evd_cat (evd_var rfl hr4) (evd_lst (eva_cons (evd_tup (eva_cons (evd_var rfl (.str N.u)) (eva_cons (evd_var rfl hg4) (eva_cons (evd_str "place") eva_nil))) (Nat.le_of_ble_eq_true rfl)) (eva_cons (evd_tup (eva_cons (evd_var rfl (.str N.o)) (eva_cons (evd_var rfl hg4) (eva_cons (evd_str "place") eva_nil))) (Nat.le_of_ble_eq_true rfl)) (eva_cons (evd_tup (eva_cons (evd_tup (eva_cons (evd_var rfl (.str N.w)) (eva_cons (evd_var rfl (.str N.f)) eva_nil)) (Nat.le_of_ble_eq_true rfl)) (eva_cons (evd_var rfl hg4) (eva_cons (evd_str "place") eva_nil))) (Nat.le_of_ble_eq_true rfl)) (eva_cons (evd_tup (eva_cons evd_non (eva_cons (evd_var rfl hg4) (eva_cons (evd_str "place") eva_nil))) (Nat.le_of_ble_eq_true rfl)) eva_nil)))) (Nat.le_of_ble_eq_true rfl)) (Nat.le_of_ble_eq_true rfl)) (Same.refl _) (Full.nil H4) fun v5 H5 s5 hr5 => ?_
  have hg5 := Dx.mono (hid_same s5) hg4
  change tSeq _ _ _ [some z, some (.ref D), some (.str N.u), some (.str N.w), some (.str N.t), some (.str N.f), some (.str N.g), some (.str N.o), some (.str N.p), some (.str N.q), some v3, some v5, none, none, none, none] _
  refine set_cat (K := K) (B := hid [] H5) (evd_var rfl hr5) (evd_lst (eva_cons (evd_tup (eva_cons (evd_tup (eva_cons (evd_var rfl (.str N.t)) eva_nil) (Nat.le_of_ble_eq_true rfl)) (eva_cons (evd_var rfl hg5) (eva_cons (evd_str "place") eva_nil))) (Nat.le_of_ble_eq_true rfl)) (eva_cons (evd_tup (eva_cons (evd_int 5) (eva_cons (evd_int 5) (eva_cons (evd_str "place") eva_nil))) (Nat.le_of_ble_eq_true rfl)) (eva_cons (evd_tup (eva_cons (evd_tup (eva_cons (evd_var rfl (.str N.t)) (eva_cons (evd_var rfl (.str N.g)) (eva_cons (evd_var rfl (.str N.f)) eva_nil))) (Nat.le_of_ble_eq_true rfl)) (eva_cons (evd_var rfl hg5) (eva_cons (evd_str "place") eva_nil))) (Nat.le_of_ble_eq_true rfl)) (eva_cons (evd_tup (eva_cons (evd_lst (eva_cons (evd_var rfl (.str N.w)) eva_nil) (Nat.le_of_ble_eq_true rfl)) (eva_cons (evd_var rfl hg5) (eva_cons (evd_str "place") eva_nil))) (Nat.le_of_ble_eq_true rfl)) eva_nil)))) (Nat.le_of_ble_eq_true rfl)) (Nat.le_of_ble_eq_true rfl) (Same.refl _) (Full.nil H5) fun p0 vs6 H6a H6 s6a s6b np hv6 heq f6 hx6 => ?_
  have hg6 : Dx K (hid [p0] H6) v3 (L [T [.none, T []], T [S N.o, T []], T [S N.p, L []]]) := by rw [heq]; exact Dx.mono (hid_same s6a) hg5
  have sH6 : Same H (hid [p0] H6) := by
    rw [heq, hid_nil]
    exact (((s1.trans s2).trans s3).trans (s4.trans s5)).trans s6a
  change tSeq _ _ _ [some z, some (.ref D), some (.str N.u), some (.str N.w), some (.str N.t), some (.str N.f), some (.str N.g), some (.str N.o), some (.str N.p), some (.str N.q), some v3, some (.ref p0), none, none, none, none] _
  refine loop_go (K := K) (R := [p0]) (B := hid [p0] H6) (fun d => T [S N.w, d, S "arms"]) (by decide) rfl (List.mem_cons_self ..) hv6 hx6 (Nat.le_of_ble_eq_true rfl) (Nat.le_of_ble_eq_true rfl) f6 (Same.refl _) (evd_lst (eva_cons evd_non (eva_cons (evd_int 5) (eva_cons (evd_str "arms") (eva_cons evd_dic (eva_cons (evd_lst eva_nil (Nat.le_of_ble_eq_true rfl)) (eva_cons (evd_cut 2 (evd_var rfl hg6)) (eva_cons (evd_cat (evd_var rfl hg6) (evd_lst (eva_cons (evd_tup (eva_cons (evd_var rfl (.str N.q)) (eva_cons (evd_tup eva_nil (Nat.le_of_ble_eq_true rfl)) eva_nil)) (Nat.le_of_ble_eq_true rfl)) eva_nil) (Nat.le_of_ble_eq_true rfl)) (Nat.le_of_ble_eq_true rfl)) (eva_cons (evd_rev (evd_var rfl hg6)) (eva_cons (evd_lst (eva_cons (evd_ix (n := 1) (evd_var rfl hg6) rfl) (eva_cons (evd_ix (n := 0) (evd_var rfl hg6) rfl) (eva_cons (evd_ix (n := 2) (evd_var rfl hg6) rfl) eva_nil))) (Nat.le_of_ble_eq_true rfl)) eva_nil))))))))) (Nat.le_of_ble_eq_true rfl)) (fun v d B1 _ sB hd => (evd_tup (eva_cons (evd_var rfl (.str N.w)) (eva_cons (evd_var rfl hd) (eva_cons (evd_str "arms") eva_nil))) (Nat.le_of_ble_eq_true rfl))) fun u7 vs7 H7 s7 f7 hv7 hx7 => ?_
  have hg7 := Dx.mono s7 hg6
  have sH7 := sH6.trans s7
  change tSeq _ _ _ [some z, some (.ref D), some (.str N.u), some (.str N.w), some (.str N.t), some (.str N.f), some (.str N.g), some (.str N.o), some (.str N.p), some (.str N.q), some v3, some (.ref p0), some u7, none, none, none] _
  refine loop_go (K := K) (R := [p0]) (B := hid [p0] H7) (fun d => T [S N.w, L (d :: [T [S N.o, T []], T [S N.p, L []]]), S "arms"]) (by decide) rfl (List.mem_cons_self ..) hv7 hx7 (Nat.le_of_ble_eq_true rfl) (Nat.le_of_ble_eq_true rfl) f7 (Same.refl _) (evd_lst (eva_cons evd_non (eva_cons (evd_tup (eva_cons evd_non eva_nil) (Nat.le_of_ble_eq_true rfl)) (eva_cons (evd_lst (eva_cons evd_non (eva_cons (evd_tup eva_nil (Nat.le_of_ble_eq_true rfl)) eva_nil)) (Nat.le_of_ble_eq_true rfl)) (eva_cons (evd_tup (eva_cons evd_non (eva_cons (evd_tup eva_nil (Nat.le_of_ble_eq_true rfl)) (eva_cons (evd_tup eva_nil (Nat.le_of_ble_eq_true rfl)) eva_nil))) (Nat.le_of_ble_eq_true rfl)) (eva_cons (evd_tup (eva_cons (evd_var rfl (.str N.q)) (eva_cons (evd_tup eva_nil (Nat.le_of_ble_eq_true rfl)) eva_nil)) (Nat.le_of_ble_eq_true rfl)) (eva_cons (evd_int 5) (eva_cons (evd_str "ab") eva_nil))))))) (Nat.le_of_ble_eq_true rfl)) (fun v d B1 _ sB hd => (evd_tup (eva_cons (evd_var rfl (.str N.w)) (eva_cons (evd_cat (evd_lst (eva_cons (evd_var rfl hd) eva_nil) (Nat.le_of_ble_eq_true rfl)) (evd_from 1 (evd_var rfl (Dx.mono sB hg7))) (Nat.le_of_ble_eq_true rfl)) (eva_cons (evd_str "arms") eva_nil))) (Nat.le_of_ble_eq_true rfl))) fun u8 vs8 H8 s8 f8 hv8 hx8 => ?_
  have hg8 := Dx.mono s8 hg7
  have sH8 := sH7.trans s8
  change tSeq _ _ _ [some z, some (.ref D), some (.str N.u), some (.str N.w), some (.str N.t), some (.str N.f), some (.str N.g), some (.str N.o), some (.str N.p), some (.str N.q), some v3, some (.ref p0), some u7, some u8, none, none] _
  refine loop_go (K := K) (R := [p0]) (B := hid [p0] H8) (fun d => T [S N.w, L [T [.none, T []], d, T [S N.p, L []]], S "arms"]) (by decide) rfl (List.mem_cons_self ..) hv8 hx8 (Nat.le_of_ble_eq_true rfl) (Nat.le_of_ble_eq_true rfl) f8 (Same.refl _) (evd_lst (eva_cons evd_non (eva_cons (evd_tup (eva_cons (evd_var rfl (.str N.o)) eva_nil) (Nat.le_of_ble_eq_true rfl)) (eva_cons (evd_lst (eva_cons (evd_var rfl (.str N.o)) (eva_cons (evd_tup eva_nil (Nat.le_of_ble_eq_true rfl)) eva_nil)) (Nat.le_of_ble_eq_true rfl)) (eva_cons (evd_tup (eva_cons (evd_var rfl (.str N.o)) (eva_cons (evd_tup eva_nil (Nat.le_of_ble_eq_true rfl)) (eva_cons (evd_tup eva_nil (Nat.le_of_ble_eq_true rfl)) eva_nil))) (Nat.le_of_ble_eq_true rfl)) (eva_cons (evd_tup (eva_cons evd_non (eva_cons (evd_tup eva_nil (Nat.le_of_ble_eq_true rfl)) eva_nil)) (Nat.le_of_ble_eq_true rfl)) (eva_cons evd_dic eva_nil)))))) (Nat.le_of_ble_eq_true rfl)) (fun v d B1 _ sB hd => (evd_tup (eva_cons (evd_var rfl (.str N.w)) (eva_cons (evd_lst (eva_cons (evd_ix (n := 0) (evd_var rfl (Dx.mono sB hg8)) rfl) (eva_cons (evd_var rfl hd) (eva_cons (evd_ix (n := 2) (evd_var rfl (Dx.mono sB hg8)) rfl) eva_nil))) (Nat.le_of_ble_eq_true rfl)) (eva_cons (evd_str "arms") eva_nil))) (Nat.le_of_ble_eq_true rfl))) fun u9 vs9 H9 s9 f9 hv9 hx9 => ?_
  have hg9 := Dx.mono s9 hg8
  have sH9 := sH8.trans s9
  change tSeq _ _ _ [some z, some (.ref D), some (.str N.u), some (.str N.w), some (.str N.t), some (.str N.f), some (.str N.g), some (.str N.o), some (.str N.p), some (.str N.q), some v3, some (.ref p0), some u7, some u9, none, none] _
  refine loop_go (K := K) (R := [p0]) (B := hid [p0] H9) (fun d => T [S N.w, L [T [.none, T []], T [d, T []], T [S N.p, L []]], S "name"]) (by decide) rfl (List.mem_cons_self ..) hv9 hx9 (Nat.le_of_ble_eq_true rfl) (Nat.le_of_ble_eq_true rfl) f9 (Same.refl _) (evd_lst (eva_cons (evd_var rfl (.str N.u)) (eva_cons (evd_var rfl (.str N.w)) (eva_cons (evd_str "A") (eva_cons (evd_str "") (eva_cons (evd_str "toolongname") (eva_cons (evd_str "case1") (eva_cons (evd_str "match") (eva_cons (evd_int 5) (eva_cons (evd_lst eva_nil (Nat.le_of_ble_eq_true rfl)) (eva_cons (evd_tup (eva_cons (evd_var rfl (.str N.o)) eva_nil) (Nat.le_of_ble_eq_true rfl)) (eva_cons (evd_bl false) (eva_cons (evd_var rfl (.str N.p)) eva_nil)))))))))))) (Nat.le_of_ble_eq_true rfl)) (fun v d B1 _ sB hd => (evd_tup (eva_cons (evd_var rfl (.str N.w)) (eva_cons (evd_lst (eva_cons (evd_ix (n := 0) (evd_var rfl (Dx.mono sB hg9)) rfl) (eva_cons (evd_tup (eva_cons (evd_var rfl hd) (eva_cons (evd_tup eva_nil (Nat.le_of_ble_eq_true rfl)) eva_nil)) (Nat.le_of_ble_eq_true rfl)) (eva_cons (evd_ix (n := 2) (evd_var rfl (Dx.mono sB hg9)) rfl) eva_nil))) (Nat.le_of_ble_eq_true rfl)) (eva_cons (evd_str "name") eva_nil))) (Nat.le_of_ble_eq_true rfl))) fun u10 vs10 H10 s10 f10 hv10 hx10 => ?_
  have hg10 := Dx.mono s10 hg9
  have sH10 := sH9.trans s10
  change tSeq _ _ _ [some z, some (.ref D), some (.str N.u), some (.str N.w), some (.str N.t), some (.str N.f), some (.str N.g), some (.str N.o), some (.str N.p), some (.str N.q), some v3, some (.ref p0), some u7, some u9, some u10, none] _
  refine set_catH (K := K) (R := [p0]) (B := hid [p0] H10) rfl hv10 hx10 (evd_lst (eva_cons (evd_tup (eva_cons (evd_var rfl (.str N.u)) (eva_cons (evd_lst (eva_cons (evd_tup (eva_cons (evd_var rfl (.str N.u)) (eva_cons (evd_tup eva_nil (Nat.le_of_ble_eq_true rfl)) eva_nil)) (Nat.le_of_ble_eq_true rfl)) eva_nil) (Nat.le_of_ble_eq_true rfl)) (eva_cons (evd_str "name") eva_nil))) (Nat.le_of_ble_eq_true rfl)) (eva_cons (evd_tup (eva_cons evd_non (eva_cons (evd_lst (eva_cons evd_non (eva_cons (evd_int 5) (eva_cons (evd_tup (eva_cons (evd_str "A") (eva_cons (evd_int 5) eva_nil)) (Nat.le_of_ble_eq_true rfl)) eva_nil))) (Nat.le_of_ble_eq_true rfl)) (eva_cons (evd_str "name") eva_nil))) (Nat.le_of_ble_eq_true rfl)) (eva_cons (evd_tup (eva_cons (evd_var rfl (.str N.u)) (eva_cons (evd_lst (eva_cons (evd_tup (eva_cons (evd_str "A") eva_nil) (Nat.le_of_ble_eq_true rfl)) (eva_cons (evd_tup (eva_cons evd_non (eva_cons (evd_tup eva_nil (Nat.le_of_ble_eq_true rfl)) eva_nil)) (Nat.le_of_ble_eq_true rfl)) eva_nil)) (Nat.le_of_ble_eq_true rfl)) (eva_cons (evd_str "place") eva_nil))) (Nat.le_of_ble_eq_true rfl)) eva_nil))) (Nat.le_of_ble_eq_true rfl)) (Nat.le_of_ble_eq_true rfl) (Same.refl _) f10 fun v11 H11 s11 hr11 => ?_
  have hg11 := Dx.mono (hid_same s11) hg10
  have f11 := f10.mono s11
  change tSeq _ _ _ [some z, some (.ref D), some (.str N.u), some (.str N.w), some (.str N.t), some (.str N.f), some (.str N.g), some (.str N.o), some (.str N.p), some (.str N.q), some v3, some v11, some u7, some u9, some u10, none] _
  refine set_go (K := K) (R := [p0]) (B := hid [p0] H11) (evd_cat (evd_var rfl hr11) (evd_lst (eva_cons (evd_tup (eva_cons (evd_var rfl (.str N.w)) (eva_cons (evd_lst (eva_cons (evd_tup (eva_cons evd_non (eva_cons (evd_int 5) eva_nil)) (Nat.le_of_ble_eq_true rfl)) (eva_cons (evd_ix (n := 1) (evd_var rfl hg11) rfl) (eva_cons (evd_ix (n := 2) (evd_var rfl hg11) rfl) eva_nil))) (Nat.le_of_ble_eq_true rfl)) (eva_cons (evd_str "5 row") eva_nil))) (Nat.le_of_ble_eq_true rfl)) (eva_cons (evd_tup (eva_cons (evd_var rfl (.str N.w)) (eva_cons (evd_lst (eva_cons (evd_ix (n := 0) (evd_var rfl hg11) rfl) (eva_cons (evd_tup (eva_cons (evd_var rfl (.str N.o)) (eva_cons evd_non eva_nil)) (Nat.le_of_ble_eq_true rfl)) (eva_cons (evd_ix (n := 2) (evd_var rfl hg11) rfl) eva_nil))) (Nat.le_of_ble_eq_true rfl)) (eva_cons (evd_str "5 row") eva_nil))) (Nat.le_of_ble_eq_true rfl)) eva_nil)) (Nat.le_of_ble_eq_true rfl)) (Nat.le_of_ble_eq_true rfl)) (Same.refl _) f11 fun v12 H12 s12 hr12 => ?_
  have hg12 := Dx.mono (hid_same s12) hg11
  have f12 := f11.mono s12
  change tRet _ _ [some z, some (.ref D), some (.str N.u), some (.str N.w), some (.str N.t), some (.str N.f), some (.str N.g), some (.str N.o), some (.str N.p), some (.str N.q), some v3, some v12, some u7, some u9, some u10, none] _
  refine (evd_cat (evd_var rfl hr12) (evd_lst (eva_cons (evd_tup (eva_cons (evd_var rfl (.str N.w)) (eva_cons (evd_lst (eva_cons (evd_tup (eva_cons evd_non (eva_cons (evd_lst (eva_cons (evd_tup (eva_cons (evd_str "fail") eva_nil) (Nat.le_of_ble_eq_true rfl)) eva_nil) (Nat.le_of_ble_eq_true rfl)) eva_nil)) (Nat.le_of_ble_eq_true rfl)) (eva_cons (evd_tup (eva_cons (evd_var rfl (.str N.o)) (eva_cons (evd_int 5) eva_nil)) (Nat.le_of_ble_eq_true rfl)) (eva_cons (evd_ix (n := 2) (evd_var rfl hg12) rfl) eva_nil))) (Nat.le_of_ble_eq_true rfl)) (eva_cons (evd_str "6 row") eva_nil))) (Nat.le_of_ble_eq_true rfl)) (eva_cons (evd_tup (eva_cons (evd_var rfl (.str N.w)) (eva_cons (evd_cat (evd_cut 2 (evd_var rfl hg12)) (evd_lst (eva_cons (evd_tup (eva_cons (evd_var rfl (.str N.p)) (eva_cons evd_dic eva_nil)) (Nat.le_of_ble_eq_true rfl)) eva_nil) (Nat.le_of_ble_eq_true rfl)) (Nat.le_of_ble_eq_true rfl)) (eva_cons (evd_str "5 row") eva_nil))) (Nat.le_of_ble_eq_true rfl)) eva_nil)) (Nat.le_of_ble_eq_true rfl)) (Nat.le_of_ble_eq_true rfl)) H12 (Same.refl _) f12 _ fun v13 H13 s13 hr13 => ?_
  exact q v13 H13 (((sH10.trans (hid_same ((s11.trans s12).trans s13)))).trans (hid_sub _ _)) (Dx.mono (hid_sub _ _) hr13)
end
end Lm

namespace Lm
open PySem PySem.Spec PyProof.Rows L2 LamX
def bodyRows (N : Nm) : List PyData := [T [L [], L [T [S "new", T [S N.o]]], L [T [S "new", T [S N.p, S N.f]]], S "done"],
  T [L [], L [T [S "new", T [S N.p, S N.f]]], L [], T [.int 5, S "place"]],
  T [L [T [S "new", T [S N.o]]], L [], L [], T [.int 5, S "place"]],
  T [L [], L [T [S "new", T [S N.o]]], L [T [S "new", T [S N.o]]], T [.int 6, S "place"]],
  T [L [], L [], L [T [S "new", T [S N.p, S N.g]], T [S "move", T [S N.p], T [S N.p]]], T [.int 6, S "place"]],
  T [L [], L [T [S "new", T [S N.o, S N.f]]], L [], T [.int 5, S "place"]],
  T [L [T [S "let", S N.o, S "item"]], L [], L [], T [.int 5, S "name"]],
  T [L [T [S "fail"]], L [T [S "let", S N.p, S "item"]], L [.none], T [.int 6, S "name"]],
  T [L [], L [], L [T [S "let", S N.o, S "item"]], T [.int 5, S "name"]],
  T [L [T [S "block", T [T [S "fail"]]]], L [T [S "new", T [S N.o]], T [S "block", L [T [S "new", T [S N.p, S N.f]]]]], L [], T [.int 9, S "place"]],
  T [L [], L [T [S "break"]], L [], T [.int 5, S "last"]],
  T [L [T [S "fail"], .none], L [], L [], T [.int 5, S "last"]]]
def dueD (d : PyData) : PyData := if isStr d = true then d else .tuple (.tuple [.str "first", .str "main"] :: items d)
def DueOk (d : PyData) : Prop := d = .str "done" ∨ ∃ (n : Int) (y : Str), d = .tuple [.int n, .str y] ∧ PyData.strOk y = true
def BodyOk (N : Nm) (e : PyData) : Prop := ∃ a b c d, e = T [a, b, c, d] ∧ fit (L (letsD N ++ arms3 N a b c)) = true ∧ (L (letsD N ++ arms3 N a b c)).depth ≤ 50 ∧ sayD (progFault (kindsD N) (modsD N (L (letsD N ++ arms3 N a b c)))) = dueD d ∧ DueOk d
theorem body_rows {N : Nm} (h : N.Ok) : ∀ e ∈ bodyRows N, BodyOk N e := by
  intro e he
  have w_let : fit (.str "let") = true := by decide +kernel
  have w_match : fit (.str "match") = true := by decide +kernel
  have w_drop : fit (.str "drop") = true := by decide +kernel
  have w_new : fit (.str "new") = true := by decide +kernel
  have w_move : fit (.str "move") = true := by decide +kernel
  have w_fail : fit (.str "fail") = true := by decide +kernel
  have w_block : fit (.str "block") = true := by decide +kernel
  have w_break : fit (.str "break") = true := by decide +kernel
  have w_item : fit (.str "item") = true := by decide +kernel
  have w_done : fit (.str "done") = true := by decide +kernel
  have w_place : fit (.str "place") = true := by decide +kernel
  have w_name : fit (.str "name") = true := by decide +kernel
  have w_last : fit (.str "last") = true := by decide +kernel
  simp only [bodyRows, List.mem_cons, List.not_mem_nil, or_false] at he
  rcases he with rfl | rfl | rfl | rfl | rfl | rfl | rfl | rfl | rfl | rfl | rfl | rfl
  · exact ⟨L [], L [T [S "new", T [S N.o]]], L [T [S "new", T [S N.p, S N.f]]], S "done", rfl, by simp [arms3, letsD, fitL, fitT, fitC, fit0, fitN, w_let, w_match, w_drop, w_new, w_move, w_fail, w_block, w_break, w_item, w_done, w_place, w_name, w_last, fit_nm h.nr, fit_nm h.nc, fit_nm h.nk, fit_nm h.nf, fit_nm h.ng, fit_nm h.nh, fit_nm h.nu, fit_nm h.nv, fit_nm h.nw, fit_nm h.nt, fit_nm h.no, fit_nm h.np, fit_nm h.nq], by simp [arms3, letsD, PyData.depth, PyData.depthAll], by rw [main_D h, body_0 h]; rfl, .inl rfl⟩
  · exact ⟨L [], L [T [S "new", T [S N.p, S N.f]]], L [], T [.int 5, S "place"], rfl, by simp [arms3, letsD, fitL, fitT, fitC, fit0, fitN, w_let, w_match, w_drop, w_new, w_move, w_fail, w_block, w_break, w_item, w_done, w_place, w_name, w_last, fit_nm h.nr, fit_nm h.nc, fit_nm h.nk, fit_nm h.nf, fit_nm h.ng, fit_nm h.nh, fit_nm h.nu, fit_nm h.nv, fit_nm h.nw, fit_nm h.nt, fit_nm h.no, fit_nm h.np, fit_nm h.nq], by simp [arms3, letsD, PyData.depth, PyData.depthAll], by rw [main_D h, body_1 h]; rfl, .inr ⟨5, "place", rfl, by decide +kernel⟩⟩
  · exact ⟨L [T [S "new", T [S N.o]]], L [], L [], T [.int 5, S "place"], rfl, by simp [arms3, letsD, fitL, fitT, fitC, fit0, fitN, w_let, w_match, w_drop, w_new, w_move, w_fail, w_block, w_break, w_item, w_done, w_place, w_name, w_last, fit_nm h.nr, fit_nm h.nc, fit_nm h.nk, fit_nm h.nf, fit_nm h.ng, fit_nm h.nh, fit_nm h.nu, fit_nm h.nv, fit_nm h.nw, fit_nm h.nt, fit_nm h.no, fit_nm h.np, fit_nm h.nq], by simp [arms3, letsD, PyData.depth, PyData.depthAll], by rw [main_D h, body_2 h]; rfl, .inr ⟨5, "place", rfl, by decide +kernel⟩⟩
  · exact ⟨L [], L [T [S "new", T [S N.o]]], L [T [S "new", T [S N.o]]], T [.int 6, S "place"], rfl, by simp [arms3, letsD, fitL, fitT, fitC, fit0, fitN, w_let, w_match, w_drop, w_new, w_move, w_fail, w_block, w_break, w_item, w_done, w_place, w_name, w_last, fit_nm h.nr, fit_nm h.nc, fit_nm h.nk, fit_nm h.nf, fit_nm h.ng, fit_nm h.nh, fit_nm h.nu, fit_nm h.nv, fit_nm h.nw, fit_nm h.nt, fit_nm h.no, fit_nm h.np, fit_nm h.nq], by simp [arms3, letsD, PyData.depth, PyData.depthAll], by rw [main_D h, body_3 h]; rfl, .inr ⟨6, "place", rfl, by decide +kernel⟩⟩
  · exact ⟨L [], L [], L [T [S "new", T [S N.p, S N.g]], T [S "move", T [S N.p], T [S N.p]]], T [.int 6, S "place"], rfl, by simp [arms3, letsD, fitL, fitT, fitC, fit0, fitN, w_let, w_match, w_drop, w_new, w_move, w_fail, w_block, w_break, w_item, w_done, w_place, w_name, w_last, fit_nm h.nr, fit_nm h.nc, fit_nm h.nk, fit_nm h.nf, fit_nm h.ng, fit_nm h.nh, fit_nm h.nu, fit_nm h.nv, fit_nm h.nw, fit_nm h.nt, fit_nm h.no, fit_nm h.np, fit_nm h.nq], by simp [arms3, letsD, PyData.depth, PyData.depthAll], by rw [main_D h, body_4 h]; rfl, .inr ⟨6, "place", rfl, by decide +kernel⟩⟩
  · exact ⟨L [], L [T [S "new", T [S N.o, S N.f]]], L [], T [.int 5, S "place"], rfl, by simp [arms3, letsD, fitL, fitT, fitC, fit0, fitN, w_let, w_match, w_drop, w_new, w_move, w_fail, w_block, w_break, w_item, w_done, w_place, w_name, w_last, fit_nm h.nr, fit_nm h.nc, fit_nm h.nk, fit_nm h.nf, fit_nm h.ng, fit_nm h.nh, fit_nm h.nu, fit_nm h.nv, fit_nm h.nw, fit_nm h.nt, fit_nm h.no, fit_nm h.np, fit_nm h.nq], by simp [arms3, letsD, PyData.depth, PyData.depthAll], by rw [main_D h, body_5 h]; rfl, .inr ⟨5, "place", rfl, by decide +kernel⟩⟩
  · exact ⟨L [T [S "let", S N.o, S "item"]], L [], L [], T [.int 5, S "name"], rfl, by simp [arms3, letsD, fitL, fitT, fitC, fit0, fitN, w_let, w_match, w_drop, w_new, w_move, w_fail, w_block, w_break, w_item, w_done, w_place, w_name, w_last, fit_nm h.nr, fit_nm h.nc, fit_nm h.nk, fit_nm h.nf, fit_nm h.ng, fit_nm h.nh, fit_nm h.nu, fit_nm h.nv, fit_nm h.nw, fit_nm h.nt, fit_nm h.no, fit_nm h.np, fit_nm h.nq], by simp [arms3, letsD, PyData.depth, PyData.depthAll], by rw [main_D h, body_6 h]; rfl, .inr ⟨5, "name", rfl, by decide +kernel⟩⟩
  · exact ⟨L [T [S "fail"]], L [T [S "let", S N.p, S "item"]], L [.none], T [.int 6, S "name"], rfl, by simp [arms3, letsD, fitL, fitT, fitC, fit0, fitN, w_let, w_match, w_drop, w_new, w_move, w_fail, w_block, w_break, w_item, w_done, w_place, w_name, w_last, fit_nm h.nr, fit_nm h.nc, fit_nm h.nk, fit_nm h.nf, fit_nm h.ng, fit_nm h.nh, fit_nm h.nu, fit_nm h.nv, fit_nm h.nw, fit_nm h.nt, fit_nm h.no, fit_nm h.np, fit_nm h.nq], by simp [arms3, letsD, PyData.depth, PyData.depthAll], by rw [main_D h, body_7 h]; rfl, .inr ⟨6, "name", rfl, by decide +kernel⟩⟩
  · exact ⟨L [], L [], L [T [S "let", S N.o, S "item"]], T [.int 5, S "name"], rfl, by simp [arms3, letsD, fitL, fitT, fitC, fit0, fitN, w_let, w_match, w_drop, w_new, w_move, w_fail, w_block, w_break, w_item, w_done, w_place, w_name, w_last, fit_nm h.nr, fit_nm h.nc, fit_nm h.nk, fit_nm h.nf, fit_nm h.ng, fit_nm h.nh, fit_nm h.nu, fit_nm h.nv, fit_nm h.nw, fit_nm h.nt, fit_nm h.no, fit_nm h.np, fit_nm h.nq], by simp [arms3, letsD, PyData.depth, PyData.depthAll], by rw [main_D h, body_8 h]; rfl, .inr ⟨5, "name", rfl, by decide +kernel⟩⟩
  · exact ⟨L [T [S "block", T [T [S "fail"]]]], L [T [S "new", T [S N.o]], T [S "block", L [T [S "new", T [S N.p, S N.f]]]]], L [], T [.int 9, S "place"], rfl, by simp [arms3, letsD, fitL, fitT, fitC, fit0, fitN, w_let, w_match, w_drop, w_new, w_move, w_fail, w_block, w_break, w_item, w_done, w_place, w_name, w_last, fit_nm h.nr, fit_nm h.nc, fit_nm h.nk, fit_nm h.nf, fit_nm h.ng, fit_nm h.nh, fit_nm h.nu, fit_nm h.nv, fit_nm h.nw, fit_nm h.nt, fit_nm h.no, fit_nm h.np, fit_nm h.nq], by simp [arms3, letsD, PyData.depth, PyData.depthAll], by rw [main_D h, body_9 h]; rfl, .inr ⟨9, "place", rfl, by decide +kernel⟩⟩
  · exact ⟨L [], L [T [S "break"]], L [], T [.int 5, S "last"], rfl, by simp [arms3, letsD, fitL, fitT, fitC, fit0, fitN, w_let, w_match, w_drop, w_new, w_move, w_fail, w_block, w_break, w_item, w_done, w_place, w_name, w_last, fit_nm h.nr, fit_nm h.nc, fit_nm h.nk, fit_nm h.nf, fit_nm h.ng, fit_nm h.nh, fit_nm h.nu, fit_nm h.nv, fit_nm h.nw, fit_nm h.nt, fit_nm h.no, fit_nm h.np, fit_nm h.nq], by simp [arms3, letsD, PyData.depth, PyData.depthAll], by rw [main_D h, body_10 h]; rfl, .inr ⟨5, "last", rfl, by decide +kernel⟩⟩
  · exact ⟨L [T [S "fail"], .none], L [], L [], T [.int 5, S "last"], rfl, by simp [arms3, letsD, fitL, fitT, fitC, fit0, fitN, w_let, w_match, w_drop, w_new, w_move, w_fail, w_block, w_break, w_item, w_done, w_place, w_name, w_last, fit_nm h.nr, fit_nm h.nc, fit_nm h.nk, fit_nm h.nf, fit_nm h.ng, fit_nm h.nh, fit_nm h.nu, fit_nm h.nv, fit_nm h.nw, fit_nm h.nt, fit_nm h.no, fit_nm h.np, fit_nm h.nq], by simp [arms3, letsD, PyData.depth, PyData.depthAll], by rw [main_D h, body_11 h]; rfl, .inr ⟨5, "last", rfl, by decide +kernel⟩⟩

end Lm

/-! The bodies of the arms. -/
namespace Lm
open PySem PySem.Spec PyProof.Rows L2 LamX
open C8 (fnScope_by pe_gc pss_cut tCut Cal pe_c)
section
variable {P : Program} {w : World} {K : PySem.W.Frag} {mg : Str → Option Value} {base : Heap}
theorem fit_ag0 {N : Nm} (h : N.Ok) : fit (L (letsD N ++ [T [S "match", T [S N.w], L [T [.none, T []], T [S N.o, T []], T [S N.p, T []]]], T [S "new", T [S N.o]]])) = true := by
  have w_let : fit (.str "let") = true := by decide +kernel
  have w_match : fit (.str "match") = true := by decide +kernel
  have w_drop : fit (.str "drop") = true := by decide +kernel
  have w_new : fit (.str "new") = true := by decide +kernel
  have w_move : fit (.str "move") = true := by decide +kernel
  have w_fail : fit (.str "fail") = true := by decide +kernel
  have w_block : fit (.str "block") = true := by decide +kernel
  have w_break : fit (.str "break") = true := by decide +kernel
  have w_item : fit (.str "item") = true := by decide +kernel
  have w_done : fit (.str "done") = true := by decide +kernel
  have w_place : fit (.str "place") = true := by decide +kernel
  have w_name : fit (.str "name") = true := by decide +kernel
  have w_last : fit (.str "last") = true := by decide +kernel
  simp [letsD, fitL, fitT, fitC, fit0, fitN, w_let, w_match, w_drop, w_new, w_move, w_fail, w_block, w_break, w_item, w_done, w_place, w_name, w_last, fit_nm h.nr, fit_nm h.nc, fit_nm h.nk, fit_nm h.nf, fit_nm h.ng, fit_nm h.nh, fit_nm h.nu, fit_nm h.nv, fit_nm h.nw, fit_nm h.nt, fit_nm h.no, fit_nm h.np, fit_nm h.nq]
theorem dep_ag0 (N : Nm) : (L (letsD N ++ [T [S "match", T [S N.w], L [T [.none, T []], T [S N.o, T []], T [S N.p, T []]]], T [S "new", T [S N.o]]])).depth ≤ 50 := by simp [letsD, PyData.depth, PyData.depthAll]
theorem fit_ag1 {N : Nm} (h : N.Ok) : fit (L (letsD N ++ [T [S "match", T [S N.w], L [T [.none, T []], T [S N.o, T []], T [S N.p, T []]]], T [S "let", S N.p, S "item"]])) = true := by
  have w_let : fit (.str "let") = true := by decide +kernel
  have w_match : fit (.str "match") = true := by decide +kernel
  have w_drop : fit (.str "drop") = true := by decide +kernel
  have w_new : fit (.str "new") = true := by decide +kernel
  have w_move : fit (.str "move") = true := by decide +kernel
  have w_fail : fit (.str "fail") = true := by decide +kernel
  have w_block : fit (.str "block") = true := by decide +kernel
  have w_break : fit (.str "break") = true := by decide +kernel
  have w_item : fit (.str "item") = true := by decide +kernel
  have w_done : fit (.str "done") = true := by decide +kernel
  have w_place : fit (.str "place") = true := by decide +kernel
  have w_name : fit (.str "name") = true := by decide +kernel
  have w_last : fit (.str "last") = true := by decide +kernel
  simp [letsD, fitL, fitT, fitC, fit0, fitN, w_let, w_match, w_drop, w_new, w_move, w_fail, w_block, w_break, w_item, w_done, w_place, w_name, w_last, fit_nm h.nr, fit_nm h.nc, fit_nm h.nk, fit_nm h.nf, fit_nm h.ng, fit_nm h.nh, fit_nm h.nu, fit_nm h.nv, fit_nm h.nw, fit_nm h.nt, fit_nm h.no, fit_nm h.np, fit_nm h.nq]
theorem dep_ag1 (N : Nm) : (L (letsD N ++ [T [S "match", T [S N.w], L [T [.none, T []], T [S N.o, T []], T [S N.p, T []]]], T [S "let", S N.p, S "item"]])).depth ≤ 50 := by simp [letsD, PyData.depth, PyData.depthAll]
theorem due_shaped {dd : PyData} (hd : DueOk dd) : SeqAt.shaped (dueD dd) = true := by
  rcases hd with rfl | ⟨n, y, rfl, hy⟩
  · decide +kernel
  · have e1 : PyData.strOk "first" = true := by decide +kernel
    have e2 : PyData.strOk "main" = true := by decide +kernel
    simp [SeqAt.shaped, dueD, isStr, items, PyData.canLay0, PyData.canLayAll0, PyData.depth, PyData.depthAll, hy, e1, e2]
theorem due_go {σ : L2.St} {H : Hp} {D : Ends} {u : TS} {v : V} {dd : PyData} (hv : σ[12]? = some (some v)) (hx : Dx K H v dd) (hd : DueOk dd) (q : ∀ v' H', Same H H' → Dx K H' v' (dueD dd) → u D (σ.set 12 (some v')) H') :
    tSeq (tAsg (tIf (tTest (tOp (rNeD K) (tVar 12) (tC (.str "done")))) (tOp (rCatA K) (tTup (tCons (tTup (tCons (tC (.str "first")) (tCons (tC (.str "main")) tNil))) tNil)) (tVar 12)) (tVar 12)) (gName 12)) u D σ H := by
  rcases hd with rfl | ⟨n, y, rfl, hy⟩
  · refine ⟨v, hv, .str "done", .str "done", Dx.dp hx (by decide +kernel), .str _, by decide +kernel, by decide +kernel, _, rfl, ?_⟩
    rw [show (!PyData.eqv (.str "done") (.str "done")) = false from by decide +kernel]
    exact iteF ⟨v, hv, q v H (Same.refl H) hx⟩
  · have hs : SeqAt.shaped (.tuple [.int n, .str y]) = true := by simp [SeqAt.shaped, PyData.canLay0, PyData.canLayAll0, PyData.depth, PyData.depthAll, hy]
    refine ⟨v, hv, .tuple [.int n, .str y], .str "done", Dx.dp hx (SeqAt.canLay_of_shaped hs), .str _, hs, by decide +kernel, _, rfl, ?_⟩
    refine iteT ⟨by show 2 ≤ sizeLine; decide, fun p1 n1 => ⟨by show 1 ≤ sizeLine; decide, fun p2 n2 => ⟨v, hv, ?_⟩⟩⟩
    obtain ⟨av, ws, rfl, hav, hws⟩ := hx.tupAt
    have s1 := same_upd (o := .tup [.str "first", .str "main"]) n1
    have s2 := s1.trans (same_upd (o := .tup [.ref p1]) n2)
    refine ⟨p2, av, _, ws, rfl, rfl, .inl (.inl upd_same), .inl (.inl (s2 _ _ hav)), by rw [hws.len]; show 3 ≤ sizeLine; decide, (fun z => nomatch z), fun _ z => ?_, fun _ _ p3 n3 => ?_⟩
    · rw [z] at hws
      cases hws
    · have s3 := same_upd (o := .tup ([.ref p1] ++ ws)) n3
      refine q _ _ (s2.trans s3) (.tup upd_same (.cons (.tup (s3 _ _ (same_upd n2 _ _ upd_same)) (.cons (.str _) (.cons (.str _) .nil))) (DxAll.mono (s2.trans s3) hws)))
def spBR (K : PySem.W.Frag) (TS : List (Addr × Str)) (N : Nm) : Sp := fun vs H Q _ => ∃ (D : Addr) (kvs : List (Key × V)) (x8 x9 : Str), vs = [.ref D] ∧ Tabs TS H ∧ ScnAt K H D kvs (sceneF N x8 x9) ∧ ∀ H', ExtN H H' → Tabs TS H' → Q (.bl true) H'
abbrev nsBR : List Str := ["_law_scene_here", "_law_w", "_law_f", "_law_g", "_law_one_here", "_law_two", "_law_new", "_law_inner", "_law_rows_here", "_law_first", "_law_second", "_law_third", "_law_due", "_law_arms", "_law_again"]
theorem scBR : FnScope nsBR ["_law_scene_here"] (defScope sBodies) := fnScope_by (by decide +kernel)
theorem kBR {f fO : Addr} {fd fdO : FuncData} {N : Nm} {TS : List (Addr × Str)} (F : Fun K "_law_bodies_right" "_law_bodies_right" sBodies f fd) (FO : FnOk P w K mg base CX0 67 fO fdO ["_law_scene_here", "_law_body"] (spOM K TS N)) (gO : mg "_law_of_main" = some (.ref fO)) (kO : PySem.W.keepIn K (.ref fO) = true) (bO : Binds K fdO ["_law_scene_here", "_law_body"] []) (h : N.Ok) :
    FnOk P w K mg base CX0 68 f fd ["_law_scene_here"] (spBR K TS N) := by
  refine F.ok (k := 67) scBR (fun vs H Q E h => ?_) (fun cdv A outer s H vs Q E hr hsp => ?_)
  · obtain ⟨D, kvs, x8, x9, rfl, _⟩ := h
    rfl
  obtain ⟨D, kvs, x8, x9, rfl, hTb, hsc, q⟩ := hsp
  have hu2 := hr.units
  have hu := hu_of hr
  refine ⟨_, (pss_cons (ps_par3 (i := 1) (j := 2) (l := 3) rfl scBR.nd rfl rfl rfl (by decide) (by decide) (by decide) rfl rfl rfl (pa_cons (pe_dget hu (pv 0) pe_str (fun _ _ => rfl)) (pa_cons (pe_dget hu (pv 0) pe_str (fun _ _ => rfl)) (pa_cons (pe_dget hu (pv 0) pe_str (fun _ _ => rfl)) pa_nil))) (by rfl))
    (pss_cons (ps_asg (pe_slice sl_list (pe_dget hu (pv 0) pe_str (fun _ _ => rfl)) po_none (po_some pe_int)) (pg_unl (n := 2) rfl (pgs_cons (pg_name (i := 4) scBR.nd rfl (Or.inl rfl)) (pgs_cons (pg_name (i := 5) scBR.nd rfl (Or.inl rfl)) pgs_nil))))
    (pss_cons (ps_par (i := 6) (j := 7) rfl scBR.nd rfl rfl (by decide) rfl rfl (pa_cons (pe_tup (pa_cons pe_str (pa_cons (pe_tup (pa_cons (pv 4) pa_nil)) pa_nil))) (pa_cons (pe_tup (pa_cons pe_str (pa_cons (pe_tup (pa_cons (pv 5) (pa_cons (pv 2) pa_nil))) pa_nil))) pa_nil)) (by rfl))
    (pss_cons (ps_set (i := 8) scBR.nd rfl (.inl rfl) (pe_lst (pa_cons (pe_tup (pa_cons (pe_lst pa_nil) (pa_cons (pe_lst (pa_cons (pv 6) pa_nil)) (pa_cons (pe_lst (pa_cons (pv 7) pa_nil)) (pa_cons pe_str pa_nil))))) (pa_cons (pe_tup (pa_cons (pe_lst pa_nil) (pa_cons (pe_lst (pa_cons (pv 7) pa_nil)) (pa_cons (pe_lst pa_nil) (pa_cons (pe_tup (pa_cons pe_int (pa_cons pe_str pa_nil))) pa_nil))))) (pa_cons (pe_tup (pa_cons (pe_lst (pa_cons (pv 6) pa_nil)) (pa_cons (pe_lst pa_nil) (pa_cons (pe_lst pa_nil) (pa_cons (pe_tup (pa_cons pe_int (pa_cons pe_str pa_nil))) pa_nil))))) pa_nil)))))
    (pss_cons (ps_expr (pe_bm PySem.F.plainAttrs_list PySem.F.slot_list_append PySem.F.type_list_append mt_append (pv 8) (pa_cons (pe_tup (pa_cons (pe_lst pa_nil) (pa_cons (pe_lst (pa_cons (pv 6) pa_nil)) (pa_cons (pe_lst (pa_cons (pv 6) pa_nil)) (pa_cons (pe_tup (pa_cons pe_int (pa_cons pe_str pa_nil))) pa_nil))))) pa_nil)))
    (pss_cons (ps_expr (pe_bm PySem.F.plainAttrs_list PySem.F.slot_list_append PySem.F.type_list_append mt_append (pv 8) (pa_cons (pe_tup (pa_cons (pe_lst pa_nil) (pa_cons (pe_lst pa_nil) (pa_cons (pe_lst (pa_cons (pe_tup (pa_cons pe_str (pa_cons (pe_tup (pa_cons (pv 5) (pa_cons (pv 3) pa_nil))) pa_nil))) (pa_cons (pe_tup (pa_cons pe_str (pa_cons (pe_tup (pa_cons (pv 5) pa_nil)) (pa_cons (pe_tup (pa_cons (pv 5) pa_nil)) pa_nil)))) pa_nil))) (pa_cons (pe_tup (pa_cons pe_int (pa_cons pe_str pa_nil))) pa_nil))))) pa_nil)))
    (pss_cons (ps_set (i := 8) scBR.nd rfl (.inl rfl) (pe_op op_cat (pv 8) (pe_lst (pa_cons (pe_tup (pa_cons (pe_lst pa_nil) (pa_cons (pe_lst (pa_cons (pe_tup (pa_cons pe_str (pa_cons (pe_tup (pa_cons (pv 4) (pa_cons (pv 2) pa_nil))) pa_nil))) pa_nil)) (pa_cons (pe_lst pa_nil) (pa_cons (pe_tup (pa_cons pe_int (pa_cons pe_str pa_nil))) pa_nil))))) (pa_cons (pe_tup (pa_cons (pe_lst (pa_cons (pe_tup (pa_cons pe_str (pa_cons (pv 4) (pa_cons pe_str pa_nil)))) pa_nil)) (pa_cons (pe_lst pa_nil) (pa_cons (pe_lst pa_nil) (pa_cons (pe_tup (pa_cons pe_int (pa_cons pe_str pa_nil))) pa_nil))))) pa_nil)))))
    (pss_cons (ps_expr (pe_bm PySem.F.plainAttrs_list PySem.F.slot_list_append PySem.F.type_list_append mt_append (pv 8) (pa_cons (pe_tup (pa_cons (pe_lst (pa_cons (pe_tup (pa_cons pe_str pa_nil)) pa_nil)) (pa_cons (pe_lst (pa_cons (pe_tup (pa_cons pe_str (pa_cons (pv 5) (pa_cons pe_str pa_nil)))) pa_nil)) (pa_cons (pe_lst (pa_cons pe_non pa_nil)) (pa_cons (pe_tup (pa_cons pe_int (pa_cons pe_str pa_nil))) pa_nil))))) pa_nil)))
    (pss_cons (ps_expr (pe_bm PySem.F.plainAttrs_list PySem.F.slot_list_append PySem.F.type_list_append mt_append (pv 8) (pa_cons (pe_tup (pa_cons (pe_lst pa_nil) (pa_cons (pe_lst pa_nil) (pa_cons (pe_lst (pa_cons (pe_tup (pa_cons pe_str (pa_cons (pv 4) (pa_cons pe_str pa_nil)))) pa_nil)) (pa_cons (pe_tup (pa_cons pe_int (pa_cons pe_str pa_nil))) pa_nil))))) pa_nil)))
    (pss_cons (ps_set (i := 8) scBR.nd rfl (.inl rfl) (pe_op op_cat (pv 8) (pe_lst (pa_cons (pe_tup (pa_cons (pe_lst (pa_cons (pe_tup (pa_cons pe_str (pa_cons (pe_tup (pa_cons (pe_tup (pa_cons pe_str pa_nil)) pa_nil)) pa_nil))) pa_nil)) (pa_cons (pe_lst (pa_cons (pv 6) (pa_cons (pe_tup (pa_cons pe_str (pa_cons (pe_lst (pa_cons (pv 7) pa_nil)) pa_nil))) pa_nil))) (pa_cons (pe_lst pa_nil) (pa_cons (pe_tup (pa_cons pe_int (pa_cons pe_str pa_nil))) pa_nil))))) pa_nil))))
    (pss_cons (ps_set (i := 8) scBR.nd rfl (.inl rfl) (pe_op op_cat (pv 8) (pe_lst (pa_cons (pe_tup (pa_cons (pe_lst pa_nil) (pa_cons (pe_lst (pa_cons (pe_tup (pa_cons pe_str pa_nil)) pa_nil)) (pa_cons (pe_lst pa_nil) (pa_cons (pe_tup (pa_cons pe_int (pa_cons pe_str pa_nil))) pa_nil))))) (pa_cons (pe_tup (pa_cons (pe_lst (pa_cons (pe_tup (pa_cons pe_str pa_nil)) (pa_cons pe_non pa_nil))) (pa_cons (pe_lst pa_nil) (pa_cons (pe_lst pa_nil) (pa_cons (pe_tup (pa_cons pe_int (pa_cons pe_str pa_nil))) pa_nil))))) pa_nil)))))
    (pss_cons (ps_for PassesOwn.never rfl (pi_list (pv 8)) (pg_tupk K rfl (n := 4) rfl (pgs_cons (pg_name (i := 9) scBR.nd rfl (Or.inl rfl)) (pgs_cons (pg_name (i := 10) scBR.nd rfl (Or.inl rfl)) (pgs_cons (pg_name (i := 11) scBR.nd rfl (Or.inl rfl)) (pgs_cons (pg_name (i := 12) scBR.nd rfl (Or.inl rfl)) pgs_nil))))) (pss_cons (ps_set (i := 13) scBR.nd rfl (.inl rfl) (pe_lst (pa_cons (pe_tup (pa_cons pe_non (pa_cons (pv 9) pa_nil))) (pa_cons (pe_tup (pa_cons (pv 4) (pa_cons (pv 10) pa_nil))) (pa_cons (pe_tup (pa_cons (pv 5) (pa_cons (pv 11) pa_nil))) pa_nil))))) (pss_cons (ps_set (i := 12) scBR.nd rfl (.inl rfl) (pe_ifExp (pt_cmpR (op_neD hu2) (pv 12) pe_str (nomark _)) (pe_op op_catA (pe_tup (pa_cons (pe_tup (pa_cons pe_str (pa_cons pe_str pa_nil))) pa_nil)) (pv 12)) (pv 12))) (pss_one (ps_if (pt_cmpR (op_neD hu2) (pe_call FO hr rfl gO kO bO .nil pass0 (pa_cons (pv 0) (pa_cons (pe_op op_cat (pe_dget hu (pv 0) pe_str (fun _ _ => rfl)) (pe_lst (pa_cons (pe_tup (pa_cons pe_str (pa_cons (pe_tup (pa_cons (pv 1) pa_nil)) (pa_cons (pv 13) pa_nil)))) (pa_cons (pe_tup (pa_cons pe_str (pa_cons (pe_tup (pa_cons (pv 1) pa_nil)) pa_nil))) pa_nil)))) pa_nil))) (pv 12) (nomark _)) (pss_one (ps_ret pe_bl)) pss_nil)))))
    (pss_cons (ps_set (i := 14) scBR.nd rfl (.inl rfl) (pe_op op_cat (pe_dget hu (pv 0) pe_str (fun _ _ => rfl)) (pe_lst (pa_cons (pe_tup (pa_cons pe_str (pa_cons (pe_tup (pa_cons (pv 1) pa_nil)) (pa_cons (pe_lst (pa_cons (pe_tup (pa_cons pe_non (pa_cons (pe_tup pa_nil) pa_nil))) (pa_cons (pe_tup (pa_cons (pv 4) (pa_cons (pe_tup pa_nil) pa_nil))) (pa_cons (pe_tup (pa_cons (pv 5) (pa_cons (pe_tup pa_nil) pa_nil))) pa_nil)))) pa_nil)))) (pa_cons (pe_tup (pa_cons pe_str (pa_cons (pe_tup (pa_cons (pv 4) pa_nil)) pa_nil))) pa_nil)))))
    (pss_cons (ps_if (pt_cmpR (op_neD hu2) (pe_call FO hr rfl gO kO bO .nil pass0 (pa_cons (pv 0) (pa_cons (pv 14) pa_nil))) (pe_tup (pa_cons (pe_tup (pa_cons pe_str (pa_cons pe_str pa_nil))) (pa_cons pe_int (pa_cons pe_str pa_nil)))) (nomark _)) (pss_one (ps_ret pe_bl)) pss_nil)
    (pss_one (ps_ret (pe_cmpR (op_eqD hu2) (pe_call FO hr rfl gO kO bO .nil pass0 (pa_cons (pv 0) (pa_cons (pe_op op_cat (pe_slice sl_list (pv 14) po_none (po_some pe_int)) (pe_lst (pa_cons (pe_tup (pa_cons pe_str (pa_cons (pv 5) (pa_cons pe_str pa_nil)))) pa_nil))) pa_nil))) (pe_tup (pa_cons (pe_tup (pa_cons pe_str (pa_cons pe_str pa_nil))) (pa_cons pe_int (pa_cons pe_str pa_nil)))) (nomark _)))))))))))))))))), ?_⟩
  obtain ⟨hD0, hlk⟩ := hsc
  have hD : hid [] H D = some (.dK kvs) := by rw [hid_nil]; exact hD0
  obtain ⟨v_w, hw1, hw0⟩ := hlk "w" (S N.w) rfl
  have hw2 : Dx K (hid [] H) v_w (S N.w) := by rw [hid_nil]; exact hw0
  obtain ⟨v_f, hf1, hf0⟩ := hlk "f" (S N.f) rfl
  have hf2 : Dx K (hid [] H) v_f (S N.f) := by rw [hid_nil]; exact hf0
  obtain ⟨v_g, hg1, hg0⟩ := hlk "g" (S N.g) rfl
  have hg2 : Dx K (hid [] H) v_g (S N.g) := by rw [hid_nil]; exact hg0
  obtain ⟨v_free, hfree1, hfree0⟩ := hlk "free" (L [S N.o, S N.p, S N.q, S x8, S x9]) rfl
  have hfree2 : Dx K (hid [] H) v_free (L [S N.o, S N.p, S N.q, S x8, S x9]) := by rw [hid_nil]; exact hfree0
  obtain ⟨v_lets, hlets1, hlets0⟩ := hlk "lets" (L (letsD N)) rfl
  have hlets2 : Dx K (hid [] H) v_lets (L (letsD N)) := by rw [hid_nil]; exact hlets0
  refine par3_go (K := K) (B := hid [] H) (eva_cons (evd_get rfl hD hw1 hw2) (eva_cons (evd_get rfl hD hf1 hf2) (eva_cons (evd_get rfl hD hg1 hg2) eva_nil))) (Same.refl _) (Full.nil H) fun v1 v2 v3 H1 s1 y1 y2 y3 => ?_
  obtain rfl := y1.strOf
  obtain rfl := y2.strOf
  obtain rfl := y3.strOf
  change tSeq _ _ _ [some (.ref D), some (.str N.w), some (.str N.f), some (.str N.g), none, none, none, none, none, none, none, none, none, none, none] _
  refine unl_go (K := K) (R := []) (B := hid [] H) (ds := [S N.o, S N.p]) (evd_cut 2 (evd_get rfl hD hfree1 hfree2)) (hid_same s1) (Full.nil H1) rfl fun xs H2 s2 hxs => ?_
  obtain rfl := dxs_str (ys := [N.o, N.p]) hxs
  refine ⟨_, _, rfl, _, _, rfl, rfl, ?_⟩
  change tSeq _ _ _ [some (.ref D), some (.str N.w), some (.str N.f), some (.str N.g), some (.str N.o), some (.str N.p), none, none, none, none, none, none, none, none, none] _
  refine par_go (K := K) (B := hid [] H) (eva_cons (evd_tup (eva_cons (evd_str "new") (eva_cons (evd_tup (eva_cons (evd_var rfl (.str N.o)) eva_nil) (Nat.le_of_ble_eq_true rfl)) eva_nil)) (Nat.le_of_ble_eq_true rfl)) (eva_cons (evd_tup (eva_cons (evd_str "new") (eva_cons (evd_tup (eva_cons (evd_var rfl (.str N.p)) (eva_cons (evd_var rfl (.str N.f)) eva_nil)) (Nat.le_of_ble_eq_true rfl)) eva_nil)) (Nat.le_of_ble_eq_true rfl)) eva_nil)) (hid_same (s1.trans s2)) (Full.nil H2) fun v6 v7 H3 s3 h6 h7 => ?_
  change tSeq _ _ _ [some (.ref D), some (.str N.w), some (.str N.f), some (.str N.g), some (.str N.o), some (.str N.p), some v6, some v7, none, none, none, none, none, none, none] _
  refine set_lst (K := K) (B := hid [] H3) (eva_cons (evd_tup (eva_cons (evd_lst eva_nil (Nat.le_of_ble_eq_true rfl)) (eva_cons (evd_lst (eva_cons (evd_var rfl h6) eva_nil) (Nat.le_of_ble_eq_true rfl)) (eva_cons (evd_lst (eva_cons (evd_var rfl h7) eva_nil) (Nat.le_of_ble_eq_true rfl)) (eva_cons (evd_str "done") eva_nil)))) (Nat.le_of_ble_eq_true rfl)) (eva_cons (evd_tup (eva_cons (evd_lst eva_nil (Nat.le_of_ble_eq_true rfl)) (eva_cons (evd_lst (eva_cons (evd_var rfl h7) eva_nil) (Nat.le_of_ble_eq_true rfl)) (eva_cons (evd_lst eva_nil (Nat.le_of_ble_eq_true rfl)) (eva_cons (evd_tup (eva_cons (evd_int 5) (eva_cons (evd_str "place") eva_nil)) (Nat.le_of_ble_eq_true rfl)) eva_nil)))) (Nat.le_of_ble_eq_true rfl)) (eva_cons (evd_tup (eva_cons (evd_lst (eva_cons (evd_var rfl h6) eva_nil) (Nat.le_of_ble_eq_true rfl)) (eva_cons (evd_lst eva_nil (Nat.le_of_ble_eq_true rfl)) (eva_cons (evd_lst eva_nil (Nat.le_of_ble_eq_true rfl)) (eva_cons (evd_tup (eva_cons (evd_int 5) (eva_cons (evd_str "place") eva_nil)) (Nat.le_of_ble_eq_true rfl)) eva_nil)))) (Nat.le_of_ble_eq_true rfl)) eva_nil))) (Nat.le_of_ble_eq_true rfl) (Same.refl _) (Full.nil H3) fun p0 vs4 H4a H4 s4a s4b np hv4 heq f4 hx4 => ?_
  have z4 : Same (hid [] H3) (hid [p0] H4) := by rw [heq]; exact hid_same s4a
  have h6_4 := Dx.mono z4 h6
  have h7_4 := Dx.mono z4 h7
  have w4 : Same H (hid [p0] H4) := by
    rw [heq, hid_nil]
    exact (s1.trans (s2.trans s3)).trans s4a
  change tSeq _ _ _ [some (.ref D), some (.str N.w), some (.str N.f), some (.str N.g), some (.str N.o), some (.str N.p), some v6, some v7, some (.ref p0), none, none, none, none, none, none] _
  refine app_go (K := K) (R := [p0]) (B := hid [p0] H4) rfl (List.mem_cons_self ..) hv4 hx4 (Nat.le_of_ble_eq_true rfl) f4 (Same.refl _) (evd_tup (eva_cons (evd_lst eva_nil (Nat.le_of_ble_eq_true rfl)) (eva_cons (evd_lst (eva_cons (evd_var rfl h6_4) eva_nil) (Nat.le_of_ble_eq_true rfl)) (eva_cons (evd_lst (eva_cons (evd_var rfl h6_4) eva_nil) (Nat.le_of_ble_eq_true rfl)) (eva_cons (evd_tup (eva_cons (evd_int 6) (eva_cons (evd_str "place") eva_nil)) (Nat.le_of_ble_eq_true rfl)) eva_nil)))) (Nat.le_of_ble_eq_true rfl)) fun vs5 H5 s5 f5 hv5 hx5 => ?_
  have h6_5 := Dx.mono s5 h6_4
  have h7_5 := Dx.mono s5 h7_4
  have w5 := w4.trans s5
  change tSeq _ _ _ [some (.ref D), some (.str N.w), some (.str N.f), some (.str N.g), some (.str N.o), some (.str N.p), some v6, some v7, some (.ref p0), none, none, none, none, none, none] _
  refine app_go (K := K) (R := [p0]) (B := hid [p0] H5) rfl (List.mem_cons_self ..) hv5 hx5 (Nat.le_of_ble_eq_true rfl) f5 (Same.refl _) (evd_tup (eva_cons (evd_lst eva_nil (Nat.le_of_ble_eq_true rfl)) (eva_cons (evd_lst eva_nil (Nat.le_of_ble_eq_true rfl)) (eva_cons (evd_lst (eva_cons (evd_tup (eva_cons (evd_str "new") (eva_cons (evd_tup (eva_cons (evd_var rfl (.str N.p)) (eva_cons (evd_var rfl (.str N.g)) eva_nil)) (Nat.le_of_ble_eq_true rfl)) eva_nil)) (Nat.le_of_ble_eq_true rfl)) (eva_cons (evd_tup (eva_cons (evd_str "move") (eva_cons (evd_tup (eva_cons (evd_var rfl (.str N.p)) eva_nil) (Nat.le_of_ble_eq_true rfl)) (eva_cons (evd_tup (eva_cons (evd_var rfl (.str N.p)) eva_nil) (Nat.le_of_ble_eq_true rfl)) eva_nil))) (Nat.le_of_ble_eq_true rfl)) eva_nil)) (Nat.le_of_ble_eq_true rfl)) (eva_cons (evd_tup (eva_cons (evd_int 6) (eva_cons (evd_str "place") eva_nil)) (Nat.le_of_ble_eq_true rfl)) eva_nil)))) (Nat.le_of_ble_eq_true rfl)) fun vs6 H6 s6 f6 hv6 hx6 => ?_
  have h6_6 := Dx.mono s6 h6_5
  have h7_6 := Dx.mono s6 h7_5
  have w6 := w5.trans s6
  change tSeq _ _ _ [some (.ref D), some (.str N.w), some (.str N.f), some (.str N.g), some (.str N.o), some (.str N.p), some v6, some v7, some (.ref p0), none, none, none, none, none, none] _
  refine set_catHH (K := K) (R := [p0]) (B := hid [p0] H6) rfl hv6 hx6 (evd_lst (eva_cons (evd_tup (eva_cons (evd_lst eva_nil (Nat.le_of_ble_eq_true rfl)) (eva_cons (evd_lst (eva_cons (evd_tup (eva_cons (evd_str "new") (eva_cons (evd_tup (eva_cons (evd_var rfl (.str N.o)) (eva_cons (evd_var rfl (.str N.f)) eva_nil)) (Nat.le_of_ble_eq_true rfl)) eva_nil)) (Nat.le_of_ble_eq_true rfl)) eva_nil) (Nat.le_of_ble_eq_true rfl)) (eva_cons (evd_lst eva_nil (Nat.le_of_ble_eq_true rfl)) (eva_cons (evd_tup (eva_cons (evd_int 5) (eva_cons (evd_str "place") eva_nil)) (Nat.le_of_ble_eq_true rfl)) eva_nil)))) (Nat.le_of_ble_eq_true rfl)) (eva_cons (evd_tup (eva_cons (evd_lst (eva_cons (evd_tup (eva_cons (evd_str "let") (eva_cons (evd_var rfl (.str N.o)) (eva_cons (evd_str "item") eva_nil))) (Nat.le_of_ble_eq_true rfl)) eva_nil) (Nat.le_of_ble_eq_true rfl)) (eva_cons (evd_lst eva_nil (Nat.le_of_ble_eq_true rfl)) (eva_cons (evd_lst eva_nil (Nat.le_of_ble_eq_true rfl)) (eva_cons (evd_tup (eva_cons (evd_int 5) (eva_cons (evd_str "name") eva_nil)) (Nat.le_of_ble_eq_true rfl)) eva_nil)))) (Nat.le_of_ble_eq_true rfl)) eva_nil)) (Nat.le_of_ble_eq_true rfl)) (Nat.le_of_ble_eq_true rfl) (Same.refl _) f6 fun p1 vs7 H7 s7 hv7 f7 hx7 => ?_
  have h6_7 := Dx.mono s7 h6_6
  have h7_7 := Dx.mono s7 h7_6
  have w7 := w6.trans s7
  change tSeq _ _ _ [some (.ref D), some (.str N.w), some (.str N.f), some (.str N.g), some (.str N.o), some (.str N.p), some v6, some v7, some (.ref p1), none, none, none, none, none, none] _
  refine app_go (K := K) (R := [p1, p0]) (B := hid [p1, p0] H7) rfl (List.mem_cons_self ..) hv7 hx7 (Nat.le_of_ble_eq_true rfl) f7 (Same.refl _) (evd_tup (eva_cons (evd_lst (eva_cons (evd_tup (eva_cons (evd_str "fail") eva_nil) (Nat.le_of_ble_eq_true rfl)) eva_nil) (Nat.le_of_ble_eq_true rfl)) (eva_cons (evd_lst (eva_cons (evd_tup (eva_cons (evd_str "let") (eva_cons (evd_var rfl (.str N.p)) (eva_cons (evd_str "item") eva_nil))) (Nat.le_of_ble_eq_true rfl)) eva_nil) (Nat.le_of_ble_eq_true rfl)) (eva_cons (evd_lst (eva_cons evd_non eva_nil) (Nat.le_of_ble_eq_true rfl)) (eva_cons (evd_tup (eva_cons (evd_int 6) (eva_cons (evd_str "name") eva_nil)) (Nat.le_of_ble_eq_true rfl)) eva_nil)))) (Nat.le_of_ble_eq_true rfl)) fun vs8 H8 s8 f8 hv8 hx8 => ?_
  have h6_8 := Dx.mono s8 h6_7
  have h7_8 := Dx.mono s8 h7_7
  have w8 := w7.trans s8
  change tSeq _ _ _ [some (.ref D), some (.str N.w), some (.str N.f), some (.str N.g), some (.str N.o), some (.str N.p), some v6, some v7, some (.ref p1), none, none, none, none, none, none] _
  refine app_go (K := K) (R := [p1, p0]) (B := hid [p1, p0] H8) rfl (List.mem_cons_self ..) hv8 hx8 (Nat.le_of_ble_eq_true rfl) f8 (Same.refl _) (evd_tup (eva_cons (evd_lst eva_nil (Nat.le_of_ble_eq_true rfl)) (eva_cons (evd_lst eva_nil (Nat.le_of_ble_eq_true rfl)) (eva_cons (evd_lst (eva_cons (evd_tup (eva_cons (evd_str "let") (eva_cons (evd_var rfl (.str N.o)) (eva_cons (evd_str "item") eva_nil))) (Nat.le_of_ble_eq_true rfl)) eva_nil) (Nat.le_of_ble_eq_true rfl)) (eva_cons (evd_tup (eva_cons (evd_int 5) (eva_cons (evd_str "name") eva_nil)) (Nat.le_of_ble_eq_true rfl)) eva_nil)))) (Nat.le_of_ble_eq_true rfl)) fun vs9 H9 s9 f9 hv9 hx9 => ?_
  have h6_9 := Dx.mono s9 h6_8
  have h7_9 := Dx.mono s9 h7_8
  have w9 := w8.trans s9
  change tSeq _ _ _ [some (.ref D), some (.str N.w), some (.str N.f), some (.str N.g), some (.str N.o), some (.str N.p), some v6, some v7, some (.ref p1), none, none, none, none, none, none] _
  refine set_catH (K := K) (R := [p1, p0]) (B := hid [p1, p0] H9) rfl hv9 hx9 (evd_lst (eva_cons (evd_tup (eva_cons (evd_lst (eva_cons (evd_tup (eva_cons (evd_str "block") (eva_cons (evd_tup (eva_cons (evd_tup (eva_cons (evd_str "fail") eva_nil) (Nat.le_of_ble_eq_true rfl)) eva_nil) (Nat.le_of_ble_eq_true rfl)) eva_nil)) (Nat.le_of_ble_eq_true rfl)) eva_nil) (Nat.le_of_ble_eq_true rfl)) (eva_cons (evd_lst (eva_cons (evd_var rfl h6_9) (eva_cons (evd_tup (eva_cons (evd_str "block") (eva_cons (evd_lst (eva_cons (evd_var rfl h7_9) eva_nil) (Nat.le_of_ble_eq_true rfl)) eva_nil)) (Nat.le_of_ble_eq_true rfl)) eva_nil)) (Nat.le_of_ble_eq_true rfl)) (eva_cons (evd_lst eva_nil (Nat.le_of_ble_eq_true rfl)) (eva_cons (evd_tup (eva_cons (evd_int 9) (eva_cons (evd_str "place") eva_nil)) (Nat.le_of_ble_eq_true rfl)) eva_nil)))) (Nat.le_of_ble_eq_true rfl)) eva_nil) (Nat.le_of_ble_eq_true rfl)) (Nat.le_of_ble_eq_true rfl) (Same.refl _) f9 fun v10 H10 s10 hr10 => ?_
  have f10 := f9.mono s10
  have h6_10 := Dx.mono (hid_same s10) h6_9
  have h7_10 := Dx.mono (hid_same s10) h7_9
  have w10 := w9.trans (hid_same s10)
  change tSeq _ _ _ [some (.ref D), some (.str N.w), some (.str N.f), some (.str N.g), some (.str N.o), some (.str N.p), some v6, some v7, some v10, none, none, none, none, none, none] _
  refine set_go (K := K) (R := [p1, p0]) (B := hid [p1, p0] H10) (evd_cat (evd_var rfl hr10) (evd_lst (eva_cons (evd_tup (eva_cons (evd_lst eva_nil (Nat.le_of_ble_eq_true rfl)) (eva_cons (evd_lst (eva_cons (evd_tup (eva_cons (evd_str "break") eva_nil) (Nat.le_of_ble_eq_true rfl)) eva_nil) (Nat.le_of_ble_eq_true rfl)) (eva_cons (evd_lst eva_nil (Nat.le_of_ble_eq_true rfl)) (eva_cons (evd_tup (eva_cons (evd_int 5) (eva_cons (evd_str "last") eva_nil)) (Nat.le_of_ble_eq_true rfl)) eva_nil)))) (Nat.le_of_ble_eq_true rfl)) (eva_cons (evd_tup (eva_cons (evd_lst (eva_cons (evd_tup (eva_cons (evd_str "fail") eva_nil) (Nat.le_of_ble_eq_true rfl)) (eva_cons evd_non eva_nil)) (Nat.le_of_ble_eq_true rfl)) (eva_cons (evd_lst eva_nil (Nat.le_of_ble_eq_true rfl)) (eva_cons (evd_lst eva_nil (Nat.le_of_ble_eq_true rfl)) (eva_cons (evd_tup (eva_cons (evd_int 5) (eva_cons (evd_str "last") eva_nil)) (Nat.le_of_ble_eq_true rfl)) eva_nil)))) (Nat.le_of_ble_eq_true rfl)) eva_nil)) (Nat.le_of_ble_eq_true rfl)) (Nat.le_of_ble_eq_true rfl)) (Same.refl _) f10 fun v11 H11 s11 hr11 => ?_
  have sH : Same H H11 := (w10.trans (hid_same s11)).trans (hid_sub _ _)
  have hrows : Dx K H11 v11 (L (bodyRows N)) := Dx.mono (hid_sub _ _) hr11
  obtain ⟨a, xs, rfl, ha, hxs⟩ := dx_list hrows
  change tSeq _ _ _ [some (.ref D), some (.str N.w), some (.str N.f), some (.str N.g), some (.str N.o), some (.str N.p), some v6, some v7, some (.ref a), none, none, none, none, none, none] _
  refine ⟨_, rfl, a, rfl, ⟨xs, SqL.of ha⟩, for_list (xs := xs) (fun n σ' H' => (∃ z9 z10 z11 z12 z13, σ' = [some (.ref D), some (.str N.w), some (.str N.f), some (.str N.g), some (.str N.o), some (.str N.p), some v6, some v7, some (.ref a), z9, z10, z11, z12, z13, none]) ∧ ExtN H11 H' ∧ Tabs TS H') ?_ ?_ ?_ ?_⟩
  · exact ⟨⟨none, none, none, none, none, rfl⟩, ExtN.refl _, Tabs.ext hTb sH⟩
  · rintro n σ' H' _ ⟨_, e1, _⟩
    exact SqL.of (e1 _ _ ha (fun _ z => nomatch z))
  · rintro n y σ' H' hy ⟨⟨z9, z10, z11, z12, z13, rfl⟩, e1, T1⟩
    obtain ⟨d, hd, hdx⟩ := hxs.get hy
    obtain ⟨da, db, dc, dd, rfl, b1, b2, b3, b4⟩ := body_rows h d (List.mem_of_getElem? hd)
    obtain ⟨aq, y0, y1, y2, y3, rfl, haq, q0, q1, q2, q3⟩ := quad_at (Dx.tabs e1 hdx)
    refine ⟨aq, _, rfl, .inl (.inl haq), rfl, _, _, rfl, _, _, rfl, _, _, rfl, _, _, rfl, rfl, ?_⟩
    have eH : ExtN H H' := (ExtN.of sH).trans e1
    change tSeq _ _ _ [some (.ref D), some (.str N.w), some (.str N.f), some (.str N.g), some (.str N.o), some (.str N.p), some v6, some v7, some (.ref a), some y0, some y1, some y2, some y3, z13, none] _
    have hDn : hid [] H' D = some (.dK kvs) := by rw [hid_nil]; exact eH _ _ hD0 (fun _ z => nomatch z)
    have hl2 : Dx K (hid [] H') v_lets (L (letsD N)) := by rw [hid_nil]; exact Dx.tabs eH hlets0
    have q0n : Dx K (hid [] H') y0 da := by rw [hid_nil]; exact q0
    have q1n : Dx K (hid [] H') y1 db := by rw [hid_nil]; exact q1
    have q2n : Dx K (hid [] H') y2 dc := by rw [hid_nil]; exact q2
    refine set_go (K := K) (R := []) (B := hid [] H') (evd_lst (eva_cons (evd_tup (eva_cons evd_non (eva_cons (evd_var rfl q0n) eva_nil)) (Nat.le_of_ble_eq_true rfl)) (eva_cons (evd_tup (eva_cons (evd_var rfl (.str N.o)) (eva_cons (evd_var rfl q1n) eva_nil)) (Nat.le_of_ble_eq_true rfl)) (eva_cons (evd_tup (eva_cons (evd_var rfl (.str N.p)) (eva_cons (evd_var rfl q2n) eva_nil)) (Nat.le_of_ble_eq_true rfl)) eva_nil))) (Nat.le_of_ble_eq_true rfl)) (Same.refl _) (Full.nil H') fun vA HA sA hA => ?_
    change tSeq _ _ _ [some (.ref D), some (.str N.w), some (.str N.f), some (.str N.g), some (.str N.o), some (.str N.p), some v6, some v7, some (.ref a), some y0, some y1, some y2, some y3, some vA, none] _
    refine due_go rfl (Dx.mono sA q3) b4 fun vD HD sD hDD => ?_
    change tIfS _ _ _ _ [some (.ref D), some (.str N.w), some (.str N.f), some (.str N.g), some (.str N.o), some (.str N.p), some v6, some v7, some (.ref a), some y0, some y1, some y2, some vD, some vA, none] _
    have eD : Same H' HD := sA.trans sD
    have hDm : hid [] HD D = some (.dK kvs) := by rw [hid_nil] at hDn ⊢; exact eD _ _ hDn
    have hl3 := Dx.mono (hid_same eD) hl2
    have hA3 := Dx.mono (hid_same sD) hA
    refine ⟨_, rfl, (evd_cat (K := K) (evd_get rfl hDm hlets1 hl3) (evd_lst (eva_cons (evd_tup (eva_cons (evd_str "match") (eva_cons (evd_tup (eva_cons (evd_var rfl (.str N.w)) eva_nil) (Nat.le_of_ble_eq_true rfl)) (eva_cons (evd_var rfl hA3) eva_nil))) (Nat.le_of_ble_eq_true rfl)) (eva_cons (evd_tup (eva_cons (evd_str "drop") (eva_cons (evd_tup (eva_cons (evd_var rfl (.str N.w)) eva_nil) (Nat.le_of_ble_eq_true rfl)) eva_nil)) (Nat.le_of_ble_eq_true rfl)) eva_nil)) (Nat.le_of_ble_eq_true rfl)) (Nat.le_of_ble_eq_true rfl)) HD (Same.refl _) (Full.nil HD) _ fun vB HB sB hB => ?_⟩
    have eB : ExtN H HB := eH.trans (ExtN.of (eD.trans sB))
    rw [hid_nil] at hB
    refine ⟨D, vB, L (letsD N ++ arms3 N da db dc), kvs, sceneF N x8 x9, rfl, Tabs.ext T1 (eD.trans sB), ScnAt.tabs ⟨hD0, hlk⟩ eB, rfl, rfl, hB, b1, b2, fun u H2 e2 T2 hu3 => ?_⟩
    rw [b3] at hu3
    have hsh := due_shaped b4
    have hcl := SeqAt.canLay_of_shaped hsh
    refine ⟨_, rfl, dueD dd, dueD dd, Dx.dp hu3 hcl, Dx.dp (Dx.tabs ((ExtN.of sB).trans e2) hDD) hcl, hsh, hsh, _, rfl, ?_⟩
    rw [SeqAt.eqv_refl _ hcl]
    exact iteF ⟨⟨_, _, _, _, _, rfl⟩, (e1.trans (ExtN.of (eD.trans sB))).trans e2, T2⟩
  · rintro σ' H' ⟨⟨z9, z10, z11, z12, z13, rfl⟩, e1, T1⟩
    have eH : ExtN H H' := (ExtN.of sH).trans e1
    change tSeq _ _ _ [some (.ref D), some (.str N.w), some (.str N.f), some (.str N.g), some (.str N.o), some (.str N.p), some v6, some v7, some (.ref a), z9, z10, z11, z12, z13, none] _
    have hDn : hid [] H' D = some (.dK kvs) := by rw [hid_nil]; exact eH _ _ hD0 (fun _ z => nomatch z)
    have hl2 : Dx K (hid [] H') v_lets (L (letsD N)) := by rw [hid_nil]; exact Dx.tabs eH hlets0
    refine set_go (K := K) (R := []) (B := hid [] H') (evd_cat (evd_get rfl hDn hlets1 hl2) (evd_lst (eva_cons (evd_tup (eva_cons (evd_str "match") (eva_cons (evd_tup (eva_cons (evd_var rfl (.str N.w)) eva_nil) (Nat.le_of_ble_eq_true rfl)) (eva_cons (evd_lst (eva_cons (evd_tup (eva_cons evd_non (eva_cons (evd_tup eva_nil (Nat.le_of_ble_eq_true rfl)) eva_nil)) (Nat.le_of_ble_eq_true rfl)) (eva_cons (evd_tup (eva_cons (evd_var rfl (.str N.o)) (eva_cons (evd_tup eva_nil (Nat.le_of_ble_eq_true rfl)) eva_nil)) (Nat.le_of_ble_eq_true rfl)) (eva_cons (evd_tup (eva_cons (evd_var rfl (.str N.p)) (eva_cons (evd_tup eva_nil (Nat.le_of_ble_eq_true rfl)) eva_nil)) (Nat.le_of_ble_eq_true rfl)) eva_nil))) (Nat.le_of_ble_eq_true rfl)) eva_nil))) (Nat.le_of_ble_eq_true rfl)) (eva_cons (evd_tup (eva_cons (evd_str "new") (eva_cons (evd_tup (eva_cons (evd_var rfl (.str N.o)) eva_nil) (Nat.le_of_ble_eq_true rfl)) eva_nil)) (Nat.le_of_ble_eq_true rfl)) eva_nil)) (Nat.le_of_ble_eq_true rfl)) (Nat.le_of_ble_eq_true rfl)) (Same.refl _) (Full.nil H') fun vA HA sA hA => ?_
    change tSeq _ _ _ [some (.ref D), some (.str N.w), some (.str N.f), some (.str N.g), some (.str N.o), some (.str N.p), some v6, some v7, some (.ref a), z9, z10, z11, z12, z13, some vA] _
    rw [hid_nil] at hA
    have eA : ExtN H HA := eH.trans (ExtN.of sA)
    refine ⟨_, rfl, _, rfl, D, vA, L (letsD N ++ [T [S "match", T [S N.w], L [T [.none, T []], T [S N.o, T []], T [S N.p, T []]]], T [S "new", T [S N.o]]]), kvs, sceneF N x8 x9, rfl, Tabs.ext T1 sA, ScnAt.tabs ⟨hD0, hlk⟩ eA, rfl, rfl, hA, fit_ag0 h, dep_ag0 N, fun u H2 e2 T2 hu3 => ?_⟩
    rw [main_D h, again_0 h] at hu3
    have c1 : SeqAt.shaped (sayD (dueN 5 "place")) = true := by decide +kernel
    refine ⟨by show 2 ≤ sizeLine; decide, fun p1 n1 => ⟨by show 3 ≤ sizeLine; decide, fun p2 n2 => ?_⟩⟩
    have t1 := same_upd (o := .tup [.str "first", .str "main"]) n1
    have t2 := same_upd (o := .tup [.ref p1, .int 5, .str "place"]) n2
    refine ⟨sayD (dueN 5 "place"), sayD (dueN 5 "place"), Dx.dp (Dx.mono (t1.trans t2) hu3) (SeqAt.canLay_of_shaped c1), Dx.dp (.tup upd_same (.cons (.tup (t2 _ _ upd_same) (.cons (.str _) (.cons (.str _) .nil))) (.cons (.int _) (.cons (.str _) .nil)))) (SeqAt.canLay_of_shaped c1), c1, c1, _, rfl, ?_⟩
    rw [SeqAt.eqv_refl _ (SeqAt.canLay_of_shaped c1)]
    refine iteF ?_
    have T3 := Tabs.ext T2 (t1.trans t2)
    have eA3 : ExtN HA _ := e2.trans (ExtN.of (t1.trans t2))
    have hA3 := Dx.tabs eA3 hA
    have hl4 := Dx.tabs ((ExtN.of sA).trans eA3) (show Dx K H' v_lets (L (letsD N)) from by rw [hid_nil] at hl2; exact hl2)
    show tNext _ _ _
    unfold tNext
    dsimp only
    rw [← hid_nil (upd _ p2 _)] at hA3
    refine ⟨_, rfl, (evd_cat (K := K) (R := []) (evd_cut 5 (evd_var rfl hA3)) (evd_lst (eva_cons (evd_tup (eva_cons (evd_str "let") (eva_cons (evd_var rfl (.str N.p)) (eva_cons (evd_str "item") eva_nil))) (Nat.le_of_ble_eq_true rfl)) eva_nil) (Nat.le_of_ble_eq_true rfl)) (Nat.le_of_ble_eq_true rfl)) _ (Same.refl _) (Full.nil _) _ fun vB HB sB hB => ?_⟩
    rw [hid_nil] at hB
    have hB : Dx K HB vB (L (letsD N ++ [T [S "match", T [S N.w], L [T [.none, T []], T [S N.o, T []], T [S N.p, T []]]], T [S "let", S N.p, S "item"]])) := hB
    have eB : ExtN H HB := (eA.trans eA3).trans (ExtN.of sB)
    refine ⟨D, vB, L (letsD N ++ [T [S "match", T [S N.w], L [T [.none, T []], T [S N.o, T []], T [S N.p, T []]]], T [S "let", S N.p, S "item"]]), kvs, sceneF N x8 x9, rfl, Tabs.ext T3 sB, ScnAt.tabs ⟨hD0, hlk⟩ eB, rfl, rfl, hB, fit_ag1 h, dep_ag1 N, fun u4 H4 e4 T4 hu4 => ?_⟩
    rw [main_D h, again_1 h] at hu4
    have c2 : SeqAt.shaped (sayD (dueN 5 "name")) = true := by decide +kernel
    refine ⟨by show 2 ≤ sizeLine; decide, fun p3 n3 => ⟨by show 3 ≤ sizeLine; decide, fun p4 n4 => ?_⟩⟩
    have t3 := same_upd (o := .tup [.str "first", .str "main"]) n3
    have t4 := same_upd (o := .tup [.ref p3, .int 5, .str "name"]) n4
    refine ⟨sayD (dueN 5 "name"), sayD (dueN 5 "name"), Dx.dp (Dx.mono (t3.trans t4) hu4) (SeqAt.canLay_of_shaped c2), Dx.dp (.tup upd_same (.cons (.tup (t4 _ _ upd_same) (.cons (.str _) (.cons (.str _) .nil))) (.cons (.int _) (.cons (.str _) .nil)))) (SeqAt.canLay_of_shaped c2), c2, c2, ?_⟩
    rw [SeqAt.eqv_refl _ (SeqAt.canLay_of_shaped c2)]
    exact q _ ((eB.trans e4).trans (ExtN.of (t3.trans t4))) (Tabs.ext T4 (t3.trans t4))
end
end Lm

/-! d.update(e) -/
namespace L2
open PySem PySem.Spec PyProof.Rows
section
variable {X : Cx}
def rDupd : V → List V → Hp → VK → Prop := fun x vs H Q => ∃ (a b : Addr) (kvs more : List (Key × V)), x = .ref a ∧ vs = [.ref b] ∧ a ≠ b ∧ H a = some (.dK kvs) ∧ H b = some (.dK more) ∧ kvs.length + more.length ≤ sizeLine ∧ Q .non (upd H a (.dK (mergeK kvs more)))
theorem mt_dupd : MtM X "dict.update" rDupd := by
  intro pins s σ H x vs v us Q I rx rv h
  obtain ⟨a, b, kvs, more, rfl, rfl, hne, hA, hB, hz, q⟩ := h
  cases rx
  obtain ⟨u, rfl, ru⟩ := rv.one
  cases ru
  obtain ⟨z1, lo1, ks, rel1, dd1⟩ := dk_of I.hok hA
  obtain ⟨z2, lo2, ms, rel2, dd2⟩ := dk_of I.hok hB
  have hl : ks.length + ms.length ≤ sizeLine := by rw [← rel1.length, ← rel2.length]; exact hz
  refine call_meetsIn PySem.F.slot_dict_update dd1.typeIs PySem.F.entry_dict_update (PySem.F.args_dict_update_2 _ _) (meets_dict_update (mixKind X.prog X.w) a b hne lo2) ⟨ks, ms, dd1, dd2, hl, fun h' d1 d2 hs => ?_⟩
  have he : ∃ q, h'.get? a = some q := let ⟨q, _, _, hq, _⟩ := d1; ⟨q, hq⟩
  exact ⟨.non, _, d_write I (by rw [hA]; exact True.intro) hs he (dk_new (Nat.le_trans (length_mergeK _ _) hz) lo1 (KV.merge rel2 rel1) d1), rfl, q⟩
end
end L2

/-! Names that were drawn. -/
namespace Lm
open PySem PySem.Spec PyProof.Rows L2
def poolW : List Str := ["pair", "trio", "x", "zzzzzzzz", "left", "a", "b", "k"]
def poolF : List Str := ["a", "b", "left", "x"]
def poolN : List Str := ["u", "v", "w", "y", "rest", "longname", "o", "n", "m"]
theorem nd_ne {l : List Str} (h : l.Nodup) {i j : Nat} {x y : Str} (a : l[i]? = some x) (b : l[j]? = some y) (ne : i ≠ j) : x ≠ y := fun e => ne (nodup_ix h a (e ▸ b))
theorem nm_drawn {w0 w1 w2 w3 w4 w5 w6 w7 f0 f1 f2 f3 n0 n1 n2 n3 n4 n5 n6 n7 n8 : Str} (pw : [w0, w1, w2, w3, w4, w5, w6, w7].Perm poolW) (pf : [f0, f1, f2, f3].Perm poolF) (pn : [n0, n1, n2, n3, n4, n5, n6, n7, n8].Perm poolN) : Nm.Ok ⟨w0, w1, w2, f0, f1, f2, n0, n1, n2, n3, n4, n5, n6⟩ := by
  have d_ws : ([w0, w1, w2, w3, w4, w5, w6, w7] : List Str).Nodup := pw.nodup_iff.mpr (by decide +kernel)
  have nm_ws : ∀ (i : Nat) {x : Str}, ([w0, w1, w2, w3, w4, w5, w6, w7] : List Str)[i]? = some x → isNameS x = true := fun i x e => List.all_eq_true.mp (show poolW.all isNameS = true by decide +kernel) x (pw.mem_iff.mp (List.mem_of_getElem? e))
  have d_fs : ([f0, f1, f2, f3] : List Str).Nodup := pf.nodup_iff.mpr (by decide +kernel)
  have nm_fs : ∀ (i : Nat) {x : Str}, ([f0, f1, f2, f3] : List Str)[i]? = some x → isNameS x = true := fun i x e => List.all_eq_true.mp (show poolF.all isNameS = true by decide +kernel) x (pf.mem_iff.mp (List.mem_of_getElem? e))
  have d_ns : ([n0, n1, n2, n3, n4, n5, n6, n7, n8] : List Str).Nodup := pn.nodup_iff.mpr (by decide +kernel)
  have nm_ns : ∀ (i : Nat) {x : Str}, ([n0, n1, n2, n3, n4, n5, n6, n7, n8] : List Str)[i]? = some x → isNameS x = true := fun i x e => List.all_eq_true.mp (show poolN.all isNameS = true by decide +kernel) x (pn.mem_iff.mp (List.mem_of_getElem? e))
  have it_ws : ∀ (i : Nat) {x : Str}, ([w0, w1, w2, w3, w4, w5, w6, w7] : List Str)[i]? = some x → x ≠ "item" := fun i x e => of_decide_eq_true (List.all_eq_true.mp (show (poolW.all fun z => decide (z ≠ "item")) = true by decide +kernel) x (pw.mem_iff.mp (List.mem_of_getElem? e)))
  exact {
    nr := nm_ws 0 rfl,
    nc := nm_ws 1 rfl,
    nk := nm_ws 2 rfl,
    nf := nm_fs 0 rfl,
    ng := nm_fs 1 rfl,
    nh := nm_fs 2 rfl,
    nu := nm_ns 0 rfl,
    nv := nm_ns 1 rfl,
    nw := nm_ns 2 rfl,
    nt := nm_ns 3 rfl,
    no := nm_ns 4 rfl,
    np := nm_ns 5 rfl,
    nq := nm_ns 6 rfl,
    rc := nd_ne d_ws (i := 0) (j := 1) rfl rfl (by decide),
    rk := nd_ne d_ws (i := 0) (j := 2) rfl rfl (by decide),
    cr := nd_ne d_ws (i := 1) (j := 0) rfl rfl (by decide),
    ck := nd_ne d_ws (i := 1) (j := 2) rfl rfl (by decide),
    kr := nd_ne d_ws (i := 2) (j := 0) rfl rfl (by decide),
    kc := nd_ne d_ws (i := 2) (j := 1) rfl rfl (by decide),
    fg := nd_ne d_fs (i := 0) (j := 1) rfl rfl (by decide),
    fh := nd_ne d_fs (i := 0) (j := 2) rfl rfl (by decide),
    gf := nd_ne d_fs (i := 1) (j := 0) rfl rfl (by decide),
    gh := nd_ne d_fs (i := 1) (j := 2) rfl rfl (by decide),
    hf := nd_ne d_fs (i := 2) (j := 0) rfl rfl (by decide),
    hg := nd_ne d_fs (i := 2) (j := 1) rfl rfl (by decide),
    uv := nd_ne d_ns (i := 0) (j := 1) rfl rfl (by decide),
    uw := nd_ne d_ns (i := 0) (j := 2) rfl rfl (by decide),
    ut := nd_ne d_ns (i := 0) (j := 3) rfl rfl (by decide),
    uo := nd_ne d_ns (i := 0) (j := 4) rfl rfl (by decide),
    up := nd_ne d_ns (i := 0) (j := 5) rfl rfl (by decide),
    uq := nd_ne d_ns (i := 0) (j := 6) rfl rfl (by decide),
    vu := nd_ne d_ns (i := 1) (j := 0) rfl rfl (by decide),
    vw := nd_ne d_ns (i := 1) (j := 2) rfl rfl (by decide),
    vt := nd_ne d_ns (i := 1) (j := 3) rfl rfl (by decide),
    vo := nd_ne d_ns (i := 1) (j := 4) rfl rfl (by decide),
    vp := nd_ne d_ns (i := 1) (j := 5) rfl rfl (by decide),
    vq := nd_ne d_ns (i := 1) (j := 6) rfl rfl (by decide),
    wu := nd_ne d_ns (i := 2) (j := 0) rfl rfl (by decide),
    wv := nd_ne d_ns (i := 2) (j := 1) rfl rfl (by decide),
    wt := nd_ne d_ns (i := 2) (j := 3) rfl rfl (by decide),
    wo := nd_ne d_ns (i := 2) (j := 4) rfl rfl (by decide),
    wp := nd_ne d_ns (i := 2) (j := 5) rfl rfl (by decide),
    wq := nd_ne d_ns (i := 2) (j := 6) rfl rfl (by decide),
    tu := nd_ne d_ns (i := 3) (j := 0) rfl rfl (by decide),
    tv := nd_ne d_ns (i := 3) (j := 1) rfl rfl (by decide),
    tw := nd_ne d_ns (i := 3) (j := 2) rfl rfl (by decide),
    to := nd_ne d_ns (i := 3) (j := 4) rfl rfl (by decide),
    tp := nd_ne d_ns (i := 3) (j := 5) rfl rfl (by decide),
    tq := nd_ne d_ns (i := 3) (j := 6) rfl rfl (by decide),
    ou := nd_ne d_ns (i := 4) (j := 0) rfl rfl (by decide),
    ov := nd_ne d_ns (i := 4) (j := 1) rfl rfl (by decide),
    ow := nd_ne d_ns (i := 4) (j := 2) rfl rfl (by decide),
    ot := nd_ne d_ns (i := 4) (j := 3) rfl rfl (by decide),
    op := nd_ne d_ns (i := 4) (j := 5) rfl rfl (by decide),
    oq := nd_ne d_ns (i := 4) (j := 6) rfl rfl (by decide),
    pu := nd_ne d_ns (i := 5) (j := 0) rfl rfl (by decide),
    pv := nd_ne d_ns (i := 5) (j := 1) rfl rfl (by decide),
    pw := nd_ne d_ns (i := 5) (j := 2) rfl rfl (by decide),
    pt := nd_ne d_ns (i := 5) (j := 3) rfl rfl (by decide),
    po := nd_ne d_ns (i := 5) (j := 4) rfl rfl (by decide),
    pq := nd_ne d_ns (i := 5) (j := 6) rfl rfl (by decide),
    qu := nd_ne d_ns (i := 6) (j := 0) rfl rfl (by decide),
    qv := nd_ne d_ns (i := 6) (j := 1) rfl rfl (by decide),
    qw := nd_ne d_ns (i := 6) (j := 2) rfl rfl (by decide),
    qt := nd_ne d_ns (i := 6) (j := 3) rfl rfl (by decide),
    qo := nd_ne d_ns (i := 6) (j := 4) rfl rfl (by decide),
    qp := nd_ne d_ns (i := 6) (j := 5) rfl rfl (by decide),
    rI := it_ws 0 rfl,
    Ir := (it_ws 0 rfl).symm,
    cI := it_ws 1 rfl,
    Ic := (it_ws 1 rfl).symm,
    kI := it_ws 2 rfl,
    Ik := (it_ws 2 rfl).symm }
/-- a list of texts, drawn in another order -/
theorem perm_str {ys : List V} {pool : List Str} (p : ys.Perm (pool.map V.str)) : ∃ zs : List Str, zs.Perm pool ∧ ys = zs.map V.str := by
  have key : ∀ y ∈ ys, ∃ z, y = V.str z := fun y hy => by
    obtain ⟨z, _, e⟩ := List.mem_map.mp (p.mem_iff.mp hy)
    exact ⟨z, e.symm⟩
  let un : V → Str := fun v => match v with
    | .str z => z
    | _ => ""
  refine ⟨ys.map un, ?_, ?_⟩
  · have h := p.map un
    rw [List.map_map] at h
    have e : pool.map (un ∘ V.str) = pool := by
      rw [show (un ∘ V.str) = id from rfl, List.map_id]
    rw [e] at h
    exact h
  · rw [List.map_map]
    have e : ys.map (V.str ∘ un) = ys.map id := List.map_congr_left fun y hy => by
      obtain ⟨z, rfl⟩ := key y hy
      rfl
    rw [e, List.map_id]
section
variable {K : PySem.W.Frag} {σ : L2.St} {H : Hp} {D : Ends} {u : TS}
theorem hid_but {a : Addr} {H H' : Hp} (b : But a H H') : Same (hid [a] H) (hid [a] H') := fun c o e => by
  unfold hid at e ⊢
  by_cases h : c ∈ [a]
  · rw [if_pos h] at e; cases e
  · rw [if_neg h] at e ⊢
    exact b c o (fun z => h (by rw [z]; exact List.mem_cons_self ..)) e
theorem mix_go {a : Addr} {i : Nat} {te : TE} (pool : List Str) (hp : ∀ z ∈ pool, PyData.strOk z = true) (hl : pool.length < 1000) (h0 : σ[0]? = some (some (.ref a))) (hs : SrcAt H a) (e : EvD K [a] te σ (hid [a] H) (.list (pool.map PyData.str)))
    (q : ∀ (p : Addr) (zs : List Str) (H1 : Hp), zs.Perm pool → But a H H1 → SrcAt H1 a → p ≠ a → H1 p = some (.lst (zs.map V.str)) → u D (σ.set i (some (.ref p))) H1) : tSeq (tAsg (tCall (spMix K) [] E0 (tCons (tVar 0) (tCons te tNil))) (gName i)) u D σ H := by
  have hne : H a ≠ none := by
    obtain ⟨x, y, z, e⟩ := hs
    rw [e]
    exact fun z => nomatch z
  have f0 : Full [a] H := fun b hb => by rw [List.mem_singleton.mp hb]; exact hne
  refine ⟨_, h0, e H (Same.refl _) f0 _ fun v H1 s1 x => ?_⟩
  obtain ⟨b, xs, rfl, hb, hx⟩ := dx_list x
  obtain rfl := dxs_str hx
  have hb1 := hid_sub _ _ _ _ hb
  obtain ⟨x0, y0, z0, hsa⟩ := hs
  refine ⟨a, b, pool.map V.str, rfl, ⟨x0, y0, z0, s1 _ _ hsa⟩, .inl (SqL.of hb1), by rw [List.length_map]; exact hl, fun y hy H2 _ => ?_, fun H2 p ys pm bt src np hp2 => ?_⟩
  · obtain ⟨z, hz, rfl⟩ := List.mem_map.mp hy
    exact ⟨.str z, .str z, hp z hz, Nat.zero_le _⟩
  · obtain ⟨zs, pz, rfl⟩ := perm_str pm
    refine q p zs H2 pz (fun c o n ec => bt c o n (s1 _ _ ec)) src (fun z => ?_) hp2
    subst z
    rw [s1 _ _ hsa] at np
    cases np
end
end Lm

/-! A hidden dict that is filled. -/
namespace Lm
open PySem PySem.Spec PyProof.Rows L2
section
variable {K : PySem.W.Frag} {R : List Addr} {σ : L2.St} {H B : Hp} {D : Ends} {u : TS}
theorem dput_lst {i : Nat} {ta : TA} {xs : List PyData} {x : Str} {D0 : Addr} {kvs : List (Key × V)} (hi : σ[i]? = some (some (.ref D0))) (hR : D0 ∈ R) (hD : H D0 = some (.dK kvs)) (hk : kvs.length < sizeLine) (h1 : EvA K R ta σ B xs) (hl : xs.length ≤ sizeLine) (s : Same B (hid R H)) (f : Full R H)
    (q : ∀ k0 vs H1, Same (hid R H) (hid (k0 :: R) H1) → Full (k0 :: R) H1 → H1 D0 = some (.dK (putK kvs (Sum.inr x) (.ref k0))) → H1 k0 = some (.lst vs) → DxAll K (hid (k0 :: R) H1) vs xs → (∀ b ∈ R, b ≠ D0 → ∀ o, H b = some o → H1 b = some o) → k0 ∉ R → u D σ H1) : tSeq (sDPut (tVar i) (tC (.str x)) (tLst ta)) u D σ H :=
  h1 H s f _ fun vs H2 s2 xx => ⟨by rw [xx.len]; exact hl, fun k0 nk => by
    have hD2 := s2 _ _ hD
    have ne : D0 ≠ k0 := ne_of_none hD2 nk
    have ih : hid (k0 :: R) (upd (upd H2 k0 (.lst vs)) D0 (.dK (putK kvs (Sum.inr x) (.ref k0)))) = hid R H2 := by rw [hid_put (List.mem_cons_of_mem _ hR), hid_cons nk]
    refine ⟨_, hi, D0, _, rfl, DPut.k (k := Sum.inr x) (by rw [upd_ne ne]; exact hD2) hk, q k0 vs _ (by rw [ih]; exact hid_same s2) ((f.mono s2).cons).put upd_same (by rw [upd_ne ne.symm]; exact upd_same) (by rw [ih]; exact xx) (fun b hb nb o eb => ?_) (fun hm => f.mono s2 k0 hm nk)⟩
    rw [upd_ne nb, upd_ne (ne_of_none (s2 _ _ eb) nk)]
    exact s2 _ _ eb⟩
theorem dput_go {i : Nat} {te : TE} {d : PyData} {x : Str} {D0 : Addr} {kvs : List (Key × V)} (hi : σ[i]? = some (some (.ref D0))) (hR : D0 ∈ R) (hD : H D0 = some (.dK kvs)) (hk : kvs.length < sizeLine) (h1 : EvD K R te σ B d) (s : Same B (hid R H)) (f : Full R H)
    (q : ∀ v H1, Same (hid R H) (hid R H1) → Full R H1 → H1 D0 = some (.dK (putK kvs (Sum.inr x) v)) → Dx K (hid R H1) v d → (∀ b ∈ R, b ≠ D0 → ∀ o, H b = some o → H1 b = some o) → u D σ H1) : tSeq (sDPut (tVar i) (tC (.str x)) te) u D σ H :=
  h1 H s f _ fun v H2 s2 xx => by
    have hD2 := s2 _ _ hD
    refine ⟨_, hi, D0, _, rfl, DPut.k (k := Sum.inr x) hD2 hk, q v _ (by rw [hid_put hR]; exact hid_same s2) (f.mono s2).put upd_same (by rw [hid_put hR]; exact xx) (fun b hb nb o eb => ?_)⟩
    rw [upd_ne nb]
    exact s2 _ _ eb
theorem dapp_go {i : Nat} {te : TE} {d : PyData} {x : Str} {D0 k0 : Addr} {kvs : List (Key × V)} {vs : List V} {es : List PyData} (hi : σ[i]? = some (some (.ref D0))) (hD : H D0 = some (.dK kvs)) (hv : valV kvs (Sum.inr x) = some (.ref k0)) (hR : k0 ∈ R) (hl : H k0 = some (.lst vs)) (hx : DxAll K (hid R H) vs es) (hz : es.length < 1000) (h1 : EvD K R te σ B d) (s : Same B (hid R H)) (f : Full R H)
    (q : ∀ vs' H1, Same (hid R H) (hid R H1) → Full R H1 → H1 k0 = some (.lst vs') → DxAll K (hid R H1) vs' (es ++ [d]) → (∀ b ∈ R, b ≠ k0 → ∀ o, H b = some o → H1 b = some o) → u D σ H1) :
    tSeq (tDrop (tBM K "list" rAppend (tDGet (tVar i) (tC (.str x))) (tCons te tNil))) u D σ H := by
  refine ⟨_, hi, D0, .ref k0, rfl, .inl ⟨kvs, Sum.inr x, .inl hD, rfl, hv.symm⟩, .inl ⟨rfl, _, SqL.of hl⟩, h1 H s f _ fun v H2 s2 xx => ⟨k0, vs, v, rfl, rfl, s2 _ _ hl, ?_, ?_⟩⟩
  · rw [hx.len]
    exact small1000 (Nat.le_of_lt hz)
  · refine q _ _ (by rw [hid_put hR]; exact hid_same s2) (f.mono s2).put upd_same (by rw [hid_put hR]; exact DxAll.cat (DxAll.mono (hid_same s2) hx) (.cons xx .nil)) (fun b hb nb o eb => ?_)
    rw [upd_ne nb]
    exact s2 _ _ eb
theorem dxa_strs {H : Hp} : ∀ ys : List Str, DxAll K H (ys.map V.str) (ys.map PyData.str)
  | [] => .nil
  | y :: r => .cons (.str y) (dxa_strs r)
theorem disp_two (u v w t : Str) (p6 : Addr) : mergeK [] ([(Sum.inr "u", V.str u), (Sum.inr "v", V.str v), (Sum.inr "w", V.str w), (Sum.inr "t", V.str t), (Sum.inr "free", V.ref p6)] : List (Key × V)) = ([(Sum.inr "u", V.str u), (Sum.inr "v", V.str v), (Sum.inr "w", V.str w), (Sum.inr "t", V.str t), (Sum.inr "free", V.ref p6)] : List (Key × V)) := by
  simp (decide := true) [mergeK, putK]
theorem scene_at (r c k f g h u v w t : Str) (p6 : Addr) (y : Str) : valV (mergeK (mergeK [] ([(Sum.inr "record", V.str r), (Sum.inr "choice", V.str c), (Sum.inr "wide", V.str k), (Sum.inr "f", V.str f), (Sum.inr "g", V.str g), (Sum.inr "h", V.str h)] : List (Key × V))) (mergeK [] ([(Sum.inr "u", V.str u), (Sum.inr "v", V.str v), (Sum.inr "w", V.str w), (Sum.inr "t", V.str t), (Sum.inr "free", V.ref p6)] : List (Key × V)))) (Sum.inr y) = if y = "free" then some (V.ref p6) else if y = "t" then some (V.str t) else if y = "w" then some (V.str w) else if y = "v" then some (V.str v) else if y = "u" then some (V.str u) else if y = "h" then some (V.str h) else if y = "g" then some (V.str g) else if y = "f" then some (V.str f) else if y = "wide" then some (V.str k) else if y = "choice" then some (V.str c) else if y = "record" then some (V.str r) else none := by
  rw [disp_two]
  simp only [mergeK, List.foldl_cons, List.foldl_nil, valV_put, Sum.inr.injEq, valV_nil]
end
end Lm

/-! The scene. -/
namespace Lm
open PySem PySem.Spec PyProof.Rows L2
open C8 (fnScope_by pe_gc pss_cut tCut Cal pe_c)
section
variable {P : Program} {w : World} {K : PySem.W.Frag} {mg : Str → Option Value} {base : Heap}
def spSC (K : PySem.W.Frag) : Sp := fun vs H Q _ => ∃ (a : Addr), vs = [.ref a] ∧ SrcAt H a ∧ ∀ (D : Addr) (kvs : List (Key × V)) (N : Nm) (x8 x9 : Str) (H' : Hp), N.Ok → But a H H' → ScnAt K H' D kvs (sceneF N x8 x9) → Q (.ref D) H'
abbrev nsSC : List Str := ["_law_source", "_law_words", "_law_fields", "_law_names", "_law_scene_here", "_law_cases", "_law_helper"]
theorem scSC : FnScope nsSC ["_law_source"] (defScope sScene) := fnScope_by (by decide +kernel)
theorem kSC {f fM : Addr} {fd fdM : FuncData} (F : Fun K "_law_scene" "_law_scene" sScene f fd) (FM : FnOk P w K mg base CX0 3 fM fdM ["_law_source", "_law_some"] (spMix K)) (gM : mg "_law_mixed" = some (.ref fM)) (kM : PySem.W.keepIn K (.ref fM) = true) (bM : Binds K fdM ["_law_source", "_law_some"] []) :
    FnOk P w K mg base CX0 4 f fd ["_law_source"] (spSC K) := by
  refine F.ok (k := 3) scSC (fun vs H Q E h => ?_) (fun cdv A outer s H vs Q E hr hsp => ?_)
  · obtain ⟨a, rfl, _⟩ := h
    rfl
  obtain ⟨a, rfl, hs, q⟩ := hsp
  have hu := hu_of hr
  refine ⟨_, (pss_cons (ps_set (i := 1) scSC.nd rfl (.inl rfl) (pe_call FM (hr.mono (by decide)) (by rfl) gM kM bM .nil pass0 (pa_cons (pv 0) (pa_cons (pe_lst (pa_cons pe_str (pa_cons pe_str (pa_cons pe_str (pa_cons pe_str (pa_cons pe_str (pa_cons pe_str (pa_cons pe_str (pa_cons pe_str pa_nil))))))))) pa_nil))))
    (pss_cons (ps_set (i := 2) scSC.nd rfl (.inl rfl) (pe_call FM (hr.mono (by decide)) (by rfl) gM kM bM .nil pass0 (pa_cons (pv 0) (pa_cons (pe_lst (pa_cons pe_str (pa_cons pe_str (pa_cons pe_str (pa_cons pe_str pa_nil))))) pa_nil))))
    (pss_cons (ps_set (i := 3) scSC.nd rfl (.inl rfl) (pe_call FM (hr.mono (by decide)) (by rfl) gM kM bM .nil pass0 (pa_cons (pv 0) (pa_cons (pe_lst (pa_cons pe_str (pa_cons pe_str (pa_cons pe_str (pa_cons pe_str (pa_cons pe_str (pa_cons pe_str (pa_cons pe_str (pa_cons pe_str (pa_cons pe_str pa_nil)))))))))) pa_nil))))
    (pss_cons (ps_set (i := 4) scSC.nd rfl (.inl rfl) (pe_disp (pps_cons pe_str (pe_ix ix_list (pv 1) pe_int (fun _ _ => rfl)) (pps_cons pe_str (pe_ix ix_list (pv 1) pe_int (fun _ _ => rfl)) (pps_cons pe_str (pe_ix ix_list (pv 1) pe_int (fun _ _ => rfl)) (pps_cons pe_str (pe_ix ix_list (pv 2) pe_int (fun _ _ => rfl)) (pps_cons pe_str (pe_ix ix_list (pv 2) pe_int (fun _ _ => rfl)) (pps_cons pe_str (pe_ix ix_list (pv 2) pe_int (fun _ _ => rfl)) pps_nil)))))) (by rfl) (by rfl) (fun z => by cases z) (by decide)))
    (pss_cons (ps_expr (pe_bm PySem.F.plainAttrs_dict PySem.F.slot_dict_update PySem.F.type_dict_update mt_dupd (pv 4) (pa_cons (pe_disp (pps_cons pe_str (pe_ix ix_list (pv 3) pe_int (fun _ _ => rfl)) (pps_cons pe_str (pe_ix ix_list (pv 3) pe_int (fun _ _ => rfl)) (pps_cons pe_str (pe_ix ix_list (pv 3) pe_int (fun _ _ => rfl)) (pps_cons pe_str (pe_ix ix_list (pv 3) pe_int (fun _ _ => rfl)) (pps_cons pe_str (pe_slice sl_list (pv 3) (po_some pe_int) po_none) pps_nil))))) (by rfl) (by rfl) (fun z => by cases z) (by decide)) pa_nil)))
    (pss_cons (ps_set (i := 5) scSC.nd rfl (.inl rfl) (pe_tup (pa_cons (pe_tup (pa_cons (pe_ix ix_list (pv 2) pe_int (fun _ _ => rfl)) (pa_cons pe_non pa_nil))) (pa_cons (pe_tup (pa_cons (pe_ix ix_list (pv 2) pe_int (fun _ _ => rfl)) (pa_cons pe_str pa_nil))) (pa_cons (pe_tup (pa_cons (pe_ix ix_list (pv 2) pe_int (fun _ _ => rfl)) (pa_cons (pe_ix ix_list (pv 1) pe_int (fun _ _ => rfl)) pa_nil))) pa_nil)))))
    (pss_cons (ps_dput hu (pv 4) pe_str (pe_lst (pa_cons (pe_tup (pa_cons (pe_ix ix_list (pv 1) pe_int (fun _ _ => rfl)) (pa_cons pe_str (pa_cons (pe_tup (pa_cons (pe_tup (pa_cons (pe_ix ix_list (pv 2) pe_int (fun _ _ => rfl)) (pa_cons pe_str pa_nil))) (pa_cons (pe_tup (pa_cons (pe_ix ix_list (pv 2) pe_int (fun _ _ => rfl)) (pa_cons pe_str pa_nil))) pa_nil))) pa_nil)))) (pa_cons (pe_tup (pa_cons (pe_ix ix_list (pv 1) pe_int (fun _ _ => rfl)) (pa_cons pe_str (pa_cons (pv 5) pa_nil)))) pa_nil))) rfl)
    (pss_cons (ps_expr (pe_bm PySem.F.plainAttrs_list PySem.F.slot_list_append PySem.F.type_list_append mt_append (pe_dget hu (pv 4) pe_str (fun _ _ => rfl)) (pa_cons (pe_tup (pa_cons (pe_ix ix_list (pv 1) pe_int (fun _ _ => rfl)) (pa_cons pe_str (pa_cons (pe_tup (pa_cons (pe_tup (pa_cons (pe_ix ix_list (pv 2) pe_int (fun _ _ => rfl)) (pa_cons (pe_ix ix_list (pv 1) pe_int (fun _ _ => rfl)) pa_nil))) (pa_cons (pe_tup (pa_cons (pe_ix ix_list (pv 2) pe_int (fun _ _ => rfl)) (pa_cons (pe_ix ix_list (pv 1) pe_int (fun _ _ => rfl)) pa_nil))) pa_nil))) pa_nil)))) pa_nil)))
    (pss_cons (ps_set (i := 6) scSC.nd rfl (.inl rfl) (pe_tup (pa_cons pe_str (pa_cons (pe_tup (pa_cons (pe_tup (pa_cons pe_str (pa_cons (pe_ix ix_list (pv 1) pe_int (fun _ _ => rfl)) pa_nil))) (pa_cons (pe_tup (pa_cons pe_str (pa_cons pe_str pa_nil))) pa_nil))) (pa_cons pe_str (pa_cons (pe_tup (pa_cons (pe_tup (pa_cons pe_str (pa_cons (pe_tup (pa_cons pe_str pa_nil)) pa_nil))) pa_nil)) pa_nil))))))
    (pss_cons (ps_dput hu (pv 4) pe_str (pe_lst (pa_cons (pv 6) (pa_cons (pe_tup (pa_cons pe_str (pa_cons (pe_tup pa_nil) (pa_cons pe_non (pa_cons (pe_tup pa_nil) pa_nil))))) pa_nil))) rfl)
    (pss_cons (ps_dput hu (pv 4) pe_str (pe_lst (pa_cons (pe_tup (pa_cons pe_str (pa_cons (pe_ix ix_list (pv 3) pe_int (fun _ _ => rfl)) (pa_cons (pe_ix ix_list (pv 1) pe_int (fun _ _ => rfl)) pa_nil)))) (pa_cons (pe_tup (pa_cons pe_str (pa_cons (pe_ix ix_list (pv 3) pe_int (fun _ _ => rfl)) (pa_cons pe_str pa_nil)))) (pa_cons (pe_tup (pa_cons pe_str (pa_cons (pe_ix ix_list (pv 3) pe_int (fun _ _ => rfl)) (pa_cons (pe_ix ix_list (pv 1) pe_int (fun _ _ => rfl)) pa_nil)))) pa_nil)))) rfl)
    (pss_cons (ps_expr (pe_bm PySem.F.plainAttrs_list PySem.F.slot_list_append PySem.F.type_list_append mt_append (pe_dget hu (pv 4) pe_str (fun _ _ => rfl)) (pa_cons (pe_tup (pa_cons pe_str (pa_cons (pe_ix ix_list (pv 3) pe_int (fun _ _ => rfl)) (pa_cons (pe_ix ix_list (pv 1) pe_int (fun _ _ => rfl)) pa_nil)))) pa_nil)))
    (pss_one (ps_ret (pv 4))))))))))))))), ?_⟩
  have hpW : ∀ z ∈ poolW, PyData.strOk z = true := fun z hz => List.all_eq_true.mp (show poolW.all PyData.strOk = true by decide +kernel) z hz
  have hpF : ∀ z ∈ poolF, PyData.strOk z = true := fun z hz => List.all_eq_true.mp (show poolF.all PyData.strOk = true by decide +kernel) z hz
  have hpN : ∀ z ∈ poolN, PyData.strOk z = true := fun z hz => List.all_eq_true.mp (show poolN.all PyData.strOk = true by decide +kernel) z hz
  refine mix_go (K := K) (a := a) poolW hpW (by decide) rfl hs (evd_lst (eva_cons (evd_str "pair") (eva_cons (evd_str "trio") (eva_cons (evd_str "x") (eva_cons (evd_str "zzzzzzzz") (eva_cons (evd_str "left") (eva_cons (evd_str "a") (eva_cons (evd_str "b") (eva_cons (evd_str "k") eva_nil)))))))) (Nat.le_of_ble_eq_true rfl)) fun p1 zs1 H1 pz1 b1 src1 ne1 hw1 => ?_
  change tSeq _ _ _ [some (.ref a), some (.ref p1), none, none, none, none, none] _
  refine mix_go (K := K) (a := a) poolF hpF (by decide) rfl src1 (evd_lst (eva_cons (evd_str "a") (eva_cons (evd_str "b") (eva_cons (evd_str "left") (eva_cons (evd_str "x") eva_nil)))) (Nat.le_of_ble_eq_true rfl)) fun p2 zs2 H2 pz2 b2 src2 ne2 hw2 => ?_
  change tSeq _ _ _ [some (.ref a), some (.ref p1), some (.ref p2), none, none, none, none] _
  refine mix_go (K := K) (a := a) poolN hpN (by decide) rfl src2 (evd_lst (eva_cons (evd_str "u") (eva_cons (evd_str "v") (eva_cons (evd_str "w") (eva_cons (evd_str "y") (eva_cons (evd_str "rest") (eva_cons (evd_str "longname") (eva_cons (evd_str "o") (eva_cons (evd_str "n") (eva_cons (evd_str "m") eva_nil))))))))) (Nat.le_of_ble_eq_true rfl)) fun p3 zs3 H3 pz3 b3 src3 ne3 hw3 => ?_
  change tSeq _ _ _ [some (.ref a), some (.ref p1), some (.ref p2), some (.ref p3), none, none, none] _
  obtain ⟨wd0, wd1, wd2, wd3, wd4, wd5, wd6, wd7, rfl⟩ : ∃ wd0 wd1 wd2 wd3 wd4 wd5 wd6 wd7, zs1 = [wd0, wd1, wd2, wd3, wd4, wd5, wd6, wd7] := by
    have e := pz1.length_eq
    match zs1, e with
    | [wd0, wd1, wd2, wd3, wd4, wd5, wd6, wd7], _ => exact ⟨wd0, wd1, wd2, wd3, wd4, wd5, wd6, wd7, rfl⟩
  obtain ⟨fd0, fd1, fd2, fd3, rfl⟩ : ∃ fd0 fd1 fd2 fd3, zs2 = [fd0, fd1, fd2, fd3] := by
    have e := pz2.length_eq
    match zs2, e with
    | [fd0, fd1, fd2, fd3], _ => exact ⟨fd0, fd1, fd2, fd3, rfl⟩
  obtain ⟨m0, m1, m2, m3, m4, m5, m6, m7, m8, rfl⟩ : ∃ m0 m1 m2 m3 m4 m5 m6 m7 m8, zs3 = [m0, m1, m2, m3, m4, m5, m6, m7, m8] := by
    have e := pz3.length_eq
    match zs3, e with
    | [m0, m1, m2, m3, m4, m5, m6, m7, m8], _ => exact ⟨m0, m1, m2, m3, m4, m5, m6, m7, m8, rfl⟩
  have hw1 := b3 _ _ ne1 (b2 _ _ ne1 hw1)
  have hw2 := b3 _ _ ne2 hw2
  have bt : But a H H3 := fun c o n e => b3 c o n (b2 c o n (b1 c o n e))
  have hok := nm_drawn pz1 pz2 pz3
  refine fun p4 n4 => ?_
  have z4 := same_upd (o := .dK []) n4
  refine ⟨_, rfl, p1, _, 0, _, rfl, rfl, SqL.of (z4 _ _ hw1), rfl, ⟨_, rfl, p1, _, 1, _, rfl, rfl, SqL.of (z4 _ _ hw1), rfl, ⟨_, rfl, p1, _, 2, _, rfl, rfl, SqL.of (z4 _ _ hw1), rfl, ⟨_, rfl, p2, _, 0, _, rfl, rfl, SqL.of (z4 _ _ hw2), rfl, ⟨_, rfl, p2, _, 1, _, rfl, rfl, SqL.of (z4 _ _ hw2), rfl, ⟨_, rfl, p2, _, 2, _, rfl, rfl, SqL.of (z4 _ _ hw2), rfl, ?_⟩⟩⟩⟩⟩⟩
  refine ⟨upd_same, [(Sum.inr "record", V.str wd0), (Sum.inr "choice", V.str wd1), (Sum.inr "wide", V.str wd2), (Sum.inr "f", V.str fd0), (Sum.inr "g", V.str fd1), (Sum.inr "h", V.str fd2)], rfl, Nat.le_of_ble_eq_true rfl, ?_⟩
  obtain ⟨H4, e4⟩ : ∃ H4, upd (upd H3 p4 (.dK [])) p4 (.dK (mergeK [] [(Sum.inr "record", V.str wd0), (Sum.inr "choice", V.str wd1), (Sum.inr "wide", V.str wd2), (Sum.inr "f", V.str fd0), (Sum.inr "g", V.str fd1), (Sum.inr "h", V.str fd2)])) = H4 := ⟨_, rfl⟩
  rw [e4]
  change tSeq _ _ _ [some (.ref a), some (.ref p1), some (.ref p2), some (.ref p3), some (.ref p4), none, none] _
  have hae : H3 a ≠ none := by
    obtain ⟨x, y, z, e⟩ := src3
    rw [e]
    exact fun z => nomatch z
  have f3 : Full [a] H3 := fun b hb => by rw [List.mem_singleton.mp hb]; exact hae
  have hD4 : H4 p4 = some (.dK (mergeK [] [(Sum.inr "record", V.str wd0), (Sum.inr "choice", V.str wd1), (Sum.inr "wide", V.str wd2), (Sum.inr "f", V.str fd0), (Sum.inr "g", V.str fd1), (Sum.inr "h", V.str fd2)])) := by rw [← e4]; exact upd_same
  have i4 : hid [p4, a] H4 = hid [a] H3 := by rw [← e4, hid_put (List.mem_cons_self ..), hid_cons n4]
  have fl4 : Full [p4, a] H4 := by rw [← e4]; exact (f3.cons).put
  have hh : ∀ p o, p ≠ a → H3 p = some o → hid [p4, a] H4 p = some o := fun p o n e => by
    rw [i4]
    unfold hid
    rw [if_neg (fun z => n (List.mem_singleton.mp z))]
    exact e
  have hw1 := hh _ _ ne1 hw1
  have hw2 := hh _ _ ne2 hw2
  have hw3 := hh _ _ ne3 hw3
  have w4 : Same (hid [a] H) (hid [p4, a] H4) := by rw [i4]; exact hid_but bt
  refine ⟨_, rfl, .inr (.inr (.inl ⟨rfl, .inl ⟨_, hD4⟩⟩)), fun p5 n5 => ?_⟩
  have z5 : Same (hid [p4, a] H4) (upd H4 p5 (.dK [])) := (hid_sub _ _).trans (same_upd n5)
  refine ⟨_, rfl, p3, _, 0, _, rfl, rfl, SqL.of (z5 _ _ hw3), rfl, ⟨_, rfl, p3, _, 1, _, rfl, rfl, SqL.of (z5 _ _ hw3), rfl, ⟨_, rfl, p3, _, 2, _, rfl, rfl, SqL.of (z5 _ _ hw3), rfl, ⟨_, rfl, p3, _, 3, _, rfl, rfl, SqL.of (z5 _ _ hw3), rfl, ⟨_, rfl, 4, rfl, p3, _, rfl, SqL.of (z5 _ _ hw3), fun p6 n6 => ?_⟩⟩⟩⟩⟩
  have n56 : p6 ≠ p5 := fun e => by
    rw [e, upd_same] at n6
    cases n6
  have n6' : H4 p6 = none := by
    rw [upd_ne n56] at n6
    exact n6
  have ne45 : p4 ≠ p5 := ne_of_none hD4 n5
  have ne46 : p4 ≠ p6 := ne_of_none hD4 n6'
  refine ⟨by rw [upd_ne n56.symm]; exact upd_same, [(Sum.inr "u", V.str m0), (Sum.inr "v", V.str m1), (Sum.inr "w", V.str m2), (Sum.inr "t", V.str m3), (Sum.inr "free", V.ref p6)], rfl, Nat.le_of_ble_eq_true rfl, p4, p5, _, _, rfl, rfl, ne45, (by rw [upd_ne ne45, upd_ne ne46, upd_ne ne45]; exact hD4), upd_same, Nat.le_trans (Nat.add_le_add (length_mergeK _ _) (length_mergeK _ _)) (by show 0 + 6 + (0 + 5) ≤ sizeLine; decide), ?_⟩
  obtain ⟨H7, e7⟩ : ∃ H7, upd (upd (upd (upd H4 p5 (.dK [])) p6 (.lst (cutV [.str m0, .str m1, .str m2, .str m3, .str m4, .str m5, .str m6, .str m7, .str m8] (some 4) none))) p5 (.dK (mergeK [] [(Sum.inr "u", V.str m0), (Sum.inr "v", V.str m1), (Sum.inr "w", V.str m2), (Sum.inr "t", V.str m3), (Sum.inr "free", V.ref p6)]))) p4 (.dK (mergeK (mergeK [] [(Sum.inr "record", V.str wd0), (Sum.inr "choice", V.str wd1), (Sum.inr "wide", V.str wd2), (Sum.inr "f", V.str fd0), (Sum.inr "g", V.str fd1), (Sum.inr "h", V.str fd2)]) (mergeK [] [(Sum.inr "u", V.str m0), (Sum.inr "v", V.str m1), (Sum.inr "w", V.str m2), (Sum.inr "t", V.str m3), (Sum.inr "free", V.ref p6)]))) = H7 := ⟨_, rfl⟩
  show tSeq _ _ _ _ (upd (upd (upd (upd H4 p5 (.dK [])) p6 (.lst (cutV [.str m0, .str m1, .str m2, .str m3, .str m4, .str m5, .str m6, .str m7, .str m8] (some 4) none))) p5 (.dK (mergeK [] [(Sum.inr "u", V.str m0), (Sum.inr "v", V.str m1), (Sum.inr "w", V.str m2), (Sum.inr "t", V.str m3), (Sum.inr "free", V.ref p6)]))) p4 (.dK (mergeK (mergeK [] [(Sum.inr "record", V.str wd0), (Sum.inr "choice", V.str wd1), (Sum.inr "wide", V.str wd2), (Sum.inr "f", V.str fd0), (Sum.inr "g", V.str fd1), (Sum.inr "h", V.str fd2)]) (mergeK [] [(Sum.inr "u", V.str m0), (Sum.inr "v", V.str m1), (Sum.inr "w", V.str m2), (Sum.inr "t", V.str m3), (Sum.inr "free", V.ref p6)]))))
  rw [e7]
  change tSeq _ _ _ [some (.ref a), some (.ref p1), some (.ref p2), some (.ref p3), some (.ref p4), none, none] _
  have hD7 : H7 p4 = some (.dK (mergeK (mergeK [] [(Sum.inr "record", V.str wd0), (Sum.inr "choice", V.str wd1), (Sum.inr "wide", V.str wd2), (Sum.inr "f", V.str fd0), (Sum.inr "g", V.str fd1), (Sum.inr "h", V.str fd2)]) (mergeK [] [(Sum.inr "u", V.str m0), (Sum.inr "v", V.str m1), (Sum.inr "w", V.str m2), (Sum.inr "t", V.str m3), (Sum.inr "free", V.ref p6)]))) := by rw [← e7]; exact upd_same
  have z47 : ∀ b o, b ≠ p4 → H4 b = some o → H7 b = some o := fun b o nb eb => by
    rw [← e7, upd_ne nb, upd_ne (ne_of_none eb n5), upd_ne (ne_of_none eb n6'), upd_ne (ne_of_none eb n5)]
    exact eb
  have z7 : Same (hid [p4, a] H4) (hid [p4, a] H7) := fun b o eb => by
    unfold hid at eb ⊢
    by_cases hb : b ∈ [p4, a]
    · rw [if_pos hb] at eb; cases eb
    · rw [if_neg hb] at eb ⊢
      exact z47 b o (fun z => hb (by rw [z]; exact List.mem_cons_self ..)) eb
  have fl7 : Full [p4, a] H7 := fun b hb => by
    by_cases nb : b = p4
    · rw [nb, hD7]; exact fun z => nomatch z
    · intro e
      cases z : H4 b with
      | none => exact fl4 b hb z
      | some o => rw [z47 b o nb z] at e; cases e
  have w7 := w4.trans z7
  have x1_7 : Dx K (hid [p4, a] H7) (.ref p1) (.list ([wd0, wd1, wd2, wd3, wd4, wd5, wd6, wd7].map PyData.str)) := .lst (z7 _ _ hw1) (dxa_strs _)
  have x2_7 : Dx K (hid [p4, a] H7) (.ref p2) (.list ([fd0, fd1, fd2, fd3].map PyData.str)) := .lst (z7 _ _ hw2) (dxa_strs _)
  have x3_7 : Dx K (hid [p4, a] H7) (.ref p3) (.list ([m0, m1, m2, m3, m4, m5, m6, m7, m8].map PyData.str)) := .lst (z7 _ _ hw3) (dxa_strs _)
  have h67 : H7 p6 = some (.lst ([m4, m5, m6, m7, m8].map V.str)) := by
    rw [← e7, upd_ne ne46.symm, upd_ne n56, upd_same]
    rfl
  have xf_7 : Dx K (hid [p4, a] H7) (.ref p6) (.list ([m4, m5, m6, m7, m8].map PyData.str)) := by
    refine .lst ?_ (dxa_strs _)
    unfold hid
    rw [if_neg (fun z => (List.mem_cons.mp z).elim (fun y => ne46 y.symm) (fun y => fl4 p6 (by rw [List.mem_singleton.mp y]; exact List.mem_cons_of_mem _ (List.mem_cons_self ..)) n6'))]
    exact h67
  refine set_go (K := K) (R := [p4, a]) (B := hid [p4, a] H7) (evd_tup (eva_cons (evd_tup (eva_cons (evd_ix (n := 0) (evd_var rfl x2_7) rfl) (eva_cons evd_non eva_nil)) (Nat.le_of_ble_eq_true rfl)) (eva_cons (evd_tup (eva_cons (evd_ix (n := 1) (evd_var rfl x2_7) rfl) (eva_cons (evd_str "item") eva_nil)) (Nat.le_of_ble_eq_true rfl)) (eva_cons (evd_tup (eva_cons (evd_ix (n := 2) (evd_var rfl x2_7) rfl) (eva_cons (evd_ix (n := 0) (evd_var rfl x1_7) rfl) eva_nil)) (Nat.le_of_ble_eq_true rfl)) eva_nil))) (Nat.le_of_ble_eq_true rfl)) (Same.refl _) fl7 fun v5 H8 s8 xc_8 => ?_
  have fl8 := fl7.mono s8
  have hD8 := s8 _ _ hD7
  change tSeq _ _ _ [some (.ref a), some (.ref p1), some (.ref p2), some (.ref p3), some (.ref p4), some v5, none] _
  have x1_8 := Dx.mono (hid_same s8) x1_7
  have x2_8 := Dx.mono (hid_same s8) x2_7
  have x3_8 := Dx.mono (hid_same s8) x3_7
  have xf_8 := Dx.mono (hid_same s8) xf_7
  have w8 := w7.trans (hid_same s8)
  have lk7 : (mergeK (mergeK [] [(Sum.inr "record", V.str wd0), (Sum.inr "choice", V.str wd1), (Sum.inr "wide", V.str wd2), (Sum.inr "f", V.str fd0), (Sum.inr "g", V.str fd1), (Sum.inr "h", V.str fd2)]) (mergeK [] [(Sum.inr "u", V.str m0), (Sum.inr "v", V.str m1), (Sum.inr "w", V.str m2), (Sum.inr "t", V.str m3), (Sum.inr "free", V.ref p6)])).length ≤ 11 := Nat.le_trans (length_mergeK _ _) (Nat.add_le_add (length_mergeK _ _) (length_mergeK _ _))
  have big : 100 < sizeLine := by decide
  refine dput_lst (K := K) (R := [p4, a]) (B := hid [p4, a] H8) rfl (List.mem_cons_self ..) hD8 (by omega) (eva_cons (evd_tup (eva_cons (evd_ix (n := 0) (evd_var rfl x1_8) rfl) (eva_cons (evd_str "record") (eva_cons (evd_tup (eva_cons (evd_tup (eva_cons (evd_ix (n := 0) (evd_var rfl x2_8) rfl) (eva_cons (evd_str "item") eva_nil)) (Nat.le_of_ble_eq_true rfl)) (eva_cons (evd_tup (eva_cons (evd_ix (n := 1) (evd_var rfl x2_8) rfl) (eva_cons (evd_str "item") eva_nil)) (Nat.le_of_ble_eq_true rfl)) eva_nil)) (Nat.le_of_ble_eq_true rfl)) eva_nil))) (Nat.le_of_ble_eq_true rfl)) (eva_cons (evd_tup (eva_cons (evd_ix (n := 1) (evd_var rfl x1_8) rfl) (eva_cons (evd_str "choice") (eva_cons (evd_var rfl xc_8) eva_nil))) (Nat.le_of_ble_eq_true rfl)) eva_nil)) (Nat.le_of_ble_eq_true rfl) (Same.refl _) fl8 fun k0 vs9 H9 s9 fl9 hD9 hk9 xk9 _ nk0 => ?_
  have x1_9 := Dx.mono s9 x1_8
  have x2_9 := Dx.mono s9 x2_8
  have x3_9 := Dx.mono s9 x3_8
  have xf_9 := Dx.mono s9 xf_8
  have w9 := w8.trans s9
  have nk04 : p4 ≠ k0 := fun z => nk0 (by rw [← z]; exact List.mem_cons_self ..)
  refine dapp_go (K := K) (R := [k0, p4, a]) (B := hid [k0, p4, a] H9) rfl hD9 (by rw [valV_put, if_pos rfl]) (List.mem_cons_self ..) hk9 xk9 (Nat.le_of_ble_eq_true rfl) (evd_tup (eva_cons (evd_ix (n := 2) (evd_var rfl x1_9) rfl) (eva_cons (evd_str "record") (eva_cons (evd_tup (eva_cons (evd_tup (eva_cons (evd_ix (n := 0) (evd_var rfl x2_9) rfl) (eva_cons (evd_ix (n := 0) (evd_var rfl x1_9) rfl) eva_nil)) (Nat.le_of_ble_eq_true rfl)) (eva_cons (evd_tup (eva_cons (evd_ix (n := 1) (evd_var rfl x2_9) rfl) (eva_cons (evd_ix (n := 1) (evd_var rfl x1_9) rfl) eva_nil)) (Nat.le_of_ble_eq_true rfl)) eva_nil)) (Nat.le_of_ble_eq_true rfl)) eva_nil))) (Nat.le_of_ble_eq_true rfl)) (Same.refl _) fl9 fun vs10 H10 s10 fl10 hk10 xk10 oth10 => ?_
  have x1_10 := Dx.mono s10 x1_9
  have x2_10 := Dx.mono s10 x2_9
  have x3_10 := Dx.mono s10 x3_9
  have xf_10 := Dx.mono s10 xf_9
  have w10 := w9.trans s10
  have hD10 := oth10 p4 (List.mem_cons_of_mem _ (List.mem_cons_self ..)) nk04 _ hD9
  refine set_go (K := K) (R := [k0, p4, a]) (B := hid [k0, p4, a] H10) (evd_tup (eva_cons (evd_str "help") (eva_cons (evd_tup (eva_cons (evd_tup (eva_cons (evd_str "p") (eva_cons (evd_ix (n := 0) (evd_var rfl x1_10) rfl) eva_nil)) (Nat.le_of_ble_eq_true rfl)) (eva_cons (evd_tup (eva_cons (evd_str "q") (eva_cons (evd_str "item") eva_nil)) (Nat.le_of_ble_eq_true rfl)) eva_nil)) (Nat.le_of_ble_eq_true rfl)) (eva_cons (evd_str "item") (eva_cons (evd_tup (eva_cons (evd_tup (eva_cons (evd_str "return") (eva_cons (evd_tup (eva_cons (evd_str "q") eva_nil) (Nat.le_of_ble_eq_true rfl)) eva_nil)) (Nat.le_of_ble_eq_true rfl)) eva_nil) (Nat.le_of_ble_eq_true rfl)) eva_nil)))) (Nat.le_of_ble_eq_true rfl)) (Same.refl _) fl10 fun v6 H11 s11 xh_11 => ?_
  have fl11 := fl10.mono s11
  have hD11 := s11 _ _ hD10
  have hk11 := s11 _ _ hk10
  have xk11 := DxAll.mono (hid_same s11) xk10
  change tSeq _ _ _ [some (.ref a), some (.ref p1), some (.ref p2), some (.ref p3), some (.ref p4), some v5, some v6] _
  have x1_11 := Dx.mono (hid_same s11) x1_10
  have x2_11 := Dx.mono (hid_same s11) x2_10
  have x3_11 := Dx.mono (hid_same s11) x3_10
  have xf_11 := Dx.mono (hid_same s11) xf_10
  have w11 := w10.trans (hid_same s11)
  have lp : ∀ (l : List (Key × V)) (k : Key) (v : V), (putK l k v).length ≤ l.length + 1 := fun l k v => length_putK l k v
  refine dput_go (K := K) (R := [k0, p4, a]) (B := hid [k0, p4, a] H11) rfl (List.mem_cons_of_mem _ (List.mem_cons_self ..)) hD11 (by have := lp (mergeK (mergeK [] [(Sum.inr "record", V.str wd0), (Sum.inr "choice", V.str wd1), (Sum.inr "wide", V.str wd2), (Sum.inr "f", V.str fd0), (Sum.inr "g", V.str fd1), (Sum.inr "h", V.str fd2)]) (mergeK [] [(Sum.inr "u", V.str m0), (Sum.inr "v", V.str m1), (Sum.inr "w", V.str m2), (Sum.inr "t", V.str m3), (Sum.inr "free", V.ref p6)])) (Sum.inr "kinds") (.ref k0); omega) (evd_lst (eva_cons (evd_var rfl xh_11) (eva_cons (evd_tup (eva_cons (evd_str "plain") (eva_cons (evd_tup eva_nil (Nat.le_of_ble_eq_true rfl)) (eva_cons evd_non (eva_cons (evd_tup eva_nil (Nat.le_of_ble_eq_true rfl)) eva_nil)))) (Nat.le_of_ble_eq_true rfl)) eva_nil)) (Nat.le_of_ble_eq_true rfl)) (Same.refl _) fl11 fun v12 H12 s12 fl12 hD12 xo12 oth12 => ?_
  have x1_12 := Dx.mono s12 x1_11
  have x2_12 := Dx.mono s12 x2_11
  have x3_12 := Dx.mono s12 x3_11
  have xf_12 := Dx.mono s12 xf_11
  have w12 := w11.trans s12
  have hk12 := oth12 k0 (List.mem_cons_self ..) nk04.symm _ hk11
  have xk12 := DxAll.mono s12 xk11
  refine dput_lst (K := K) (R := [k0, p4, a]) (B := hid [k0, p4, a] H12) rfl (List.mem_cons_of_mem _ (List.mem_cons_self ..)) hD12 (by have := lp (mergeK (mergeK [] [(Sum.inr "record", V.str wd0), (Sum.inr "choice", V.str wd1), (Sum.inr "wide", V.str wd2), (Sum.inr "f", V.str fd0), (Sum.inr "g", V.str fd1), (Sum.inr "h", V.str fd2)]) (mergeK [] [(Sum.inr "u", V.str m0), (Sum.inr "v", V.str m1), (Sum.inr "w", V.str m2), (Sum.inr "t", V.str m3), (Sum.inr "free", V.ref p6)])) (Sum.inr "kinds") (.ref k0); have := lp (putK (mergeK (mergeK [] [(Sum.inr "record", V.str wd0), (Sum.inr "choice", V.str wd1), (Sum.inr "wide", V.str wd2), (Sum.inr "f", V.str fd0), (Sum.inr "g", V.str fd1), (Sum.inr "h", V.str fd2)]) (mergeK [] [(Sum.inr "u", V.str m0), (Sum.inr "v", V.str m1), (Sum.inr "w", V.str m2), (Sum.inr "t", V.str m3), (Sum.inr "free", V.ref p6)])) (Sum.inr "kinds") (.ref k0)) (Sum.inr "other") v12; omega) (eva_cons (evd_tup (eva_cons (evd_str "let") (eva_cons (evd_ix (n := 0) (evd_var rfl x3_12) rfl) (eva_cons (evd_ix (n := 0) (evd_var rfl x1_12) rfl) eva_nil))) (Nat.le_of_ble_eq_true rfl)) (eva_cons (evd_tup (eva_cons (evd_str "let") (eva_cons (evd_ix (n := 1) (evd_var rfl x3_12) rfl) (eva_cons (evd_str "item") eva_nil))) (Nat.le_of_ble_eq_true rfl)) (eva_cons (evd_tup (eva_cons (evd_str "let") (eva_cons (evd_ix (n := 2) (evd_var rfl x3_12) rfl) (eva_cons (evd_ix (n := 1) (evd_var rfl x1_12) rfl) eva_nil))) (Nat.le_of_ble_eq_true rfl)) eva_nil))) (Nat.le_of_ble_eq_true rfl) (Same.refl _) fl12 fun l0 vs13 H13 s13 fl13 hD13 hl13 xl13 oth13 nl0 => ?_
  have x1_13 := Dx.mono s13 x1_12
  have x2_13 := Dx.mono s13 x2_12
  have x3_13 := Dx.mono s13 x3_12
  have xf_13 := Dx.mono s13 xf_12
  have w13 := w12.trans s13
  have hk13 := oth13 k0 (List.mem_cons_self ..) nk04.symm _ hk12
  have xk13 := DxAll.mono s13 xk12
  have xo13 := Dx.mono s13 xo12
  have nl04 : p4 ≠ l0 := fun z => nl0 (by rw [← z]; exact List.mem_cons_of_mem _ (List.mem_cons_self ..))
  have nl0k : k0 ≠ l0 := fun z => nl0 (by rw [← z]; exact List.mem_cons_self ..)
  refine dapp_go (K := K) (R := [l0, k0, p4, a]) (B := hid [l0, k0, p4, a] H13) rfl hD13 (by rw [valV_put, if_pos rfl]) (List.mem_cons_self ..) hl13 xl13 (Nat.le_of_ble_eq_true rfl) (evd_tup (eva_cons (evd_str "let") (eva_cons (evd_ix (n := 3) (evd_var rfl x3_13) rfl) (eva_cons (evd_ix (n := 2) (evd_var rfl x1_13) rfl) eva_nil))) (Nat.le_of_ble_eq_true rfl)) (Same.refl _) fl13 fun vs14 H14 s14 fl14 hl14 xl14 oth14 => ?_
  have x1_14 := Dx.mono s14 x1_13
  have x2_14 := Dx.mono s14 x2_13
  have x3_14 := Dx.mono s14 x3_13
  have xf_14 := Dx.mono s14 xf_13
  have w14 := w13.trans s14
  have hD14 := oth14 p4 (List.mem_cons_of_mem _ (List.mem_cons_of_mem _ (List.mem_cons_self ..))) nl04 _ hD13
  have hk14 := oth14 k0 (List.mem_cons_of_mem _ (List.mem_cons_self ..)) nl0k _ hk13
  have xk14 := DxAll.mono s14 xk13
  have xo14 := Dx.mono s14 xo13
  have hs := hid_sub [l0, k0, p4, a] H14
  refine ⟨_, rfl, q p4 _ ⟨wd0, wd1, wd2, fd0, fd1, fd2, m0, m1, m2, m3, m4, m5, m6⟩ m7 m8 H14 hok (fun c o n e => hs _ _ (w14 _ _ (by unfold hid; rw [if_neg (fun z => n (List.mem_singleton.mp z))]; exact e))) ⟨hD14, fun x d hx => ?_⟩⟩
  have look : ∀ y : Str, valV (putK (putK (putK (mergeK (mergeK [] [(Sum.inr "record", V.str wd0), (Sum.inr "choice", V.str wd1), (Sum.inr "wide", V.str wd2), (Sum.inr "f", V.str fd0), (Sum.inr "g", V.str fd1), (Sum.inr "h", V.str fd2)]) (mergeK [] [(Sum.inr "u", V.str m0), (Sum.inr "v", V.str m1), (Sum.inr "w", V.str m2), (Sum.inr "t", V.str m3), (Sum.inr "free", V.ref p6)])) (Sum.inr "kinds") (.ref k0)) (Sum.inr "other") v12) (Sum.inr "lets") (.ref l0)) (Sum.inr y) = if y = "lets" then some (V.ref l0) else if y = "other" then some v12 else if y = "kinds" then some (V.ref k0) else valV (mergeK (mergeK [] [(Sum.inr "record", V.str wd0), (Sum.inr "choice", V.str wd1), (Sum.inr "wide", V.str wd2), (Sum.inr "f", V.str fd0), (Sum.inr "g", V.str fd1), (Sum.inr "h", V.str fd2)]) (mergeK [] [(Sum.inr "u", V.str m0), (Sum.inr "v", V.str m1), (Sum.inr "w", V.str m2), (Sum.inr "t", V.str m3), (Sum.inr "free", V.ref p6)])) (Sum.inr y) := by
    intro y
    simp only [valV_put, Sum.inr.injEq]
  have old : ∀ y : Str, (y = "lets") = False → (y = "other") = False → (y = "kinds") = False → valV (putK (putK (putK (mergeK (mergeK [] [(Sum.inr "record", V.str wd0), (Sum.inr "choice", V.str wd1), (Sum.inr "wide", V.str wd2), (Sum.inr "f", V.str fd0), (Sum.inr "g", V.str fd1), (Sum.inr "h", V.str fd2)]) (mergeK [] [(Sum.inr "u", V.str m0), (Sum.inr "v", V.str m1), (Sum.inr "w", V.str m2), (Sum.inr "t", V.str m3), (Sum.inr "free", V.ref p6)])) (Sum.inr "kinds") (.ref k0)) (Sum.inr "other") v12) (Sum.inr "lets") (.ref l0)) (Sum.inr y) = valV (mergeK (mergeK [] [(Sum.inr "record", V.str wd0), (Sum.inr "choice", V.str wd1), (Sum.inr "wide", V.str wd2), (Sum.inr "f", V.str fd0), (Sum.inr "g", V.str fd1), (Sum.inr "h", V.str fd2)]) (mergeK [] [(Sum.inr "u", V.str m0), (Sum.inr "v", V.str m1), (Sum.inr "w", V.str m2), (Sum.inr "t", V.str m3), (Sum.inr "free", V.ref p6)])) (Sum.inr y) := fun y a1 a2 a3 => by
    rw [look, if_neg (by rw [a1]; exact id), if_neg (by rw [a2]; exact id), if_neg (by rw [a3]; exact id)]
  unfold sceneF at hx
  split at hx
  · rename_i e
    cases hx
    subst e
    exact ⟨.ref k0, by rw [look, if_neg (by decide +kernel), if_neg (by decide +kernel), if_pos rfl], .lst hk14 (DxAll.mono hs xk14)⟩
  split at hx
  · rename_i e
    cases hx
    subst e
    exact ⟨v12, by rw [look, if_neg (by decide +kernel), if_pos rfl], Dx.mono hs xo14⟩
  split at hx
  · rename_i e
    cases hx
    subst e
    exact ⟨.ref l0, by rw [look, if_pos rfl], .lst hl14 (DxAll.mono hs xl14)⟩
  split at hx
  · rename_i e
    cases hx
    subst e
    exact ⟨V.ref p6, by rw [old "free" (eq_false (by decide +kernel)) (eq_false (by decide +kernel)) (eq_false (by decide +kernel)), scene_at, if_pos rfl], Dx.mono hs xf_14⟩
  split at hx
  · rename_i e
    cases hx
    subst e
    exact ⟨V.str m0, by rw [old "u" (eq_false (by decide +kernel)) (eq_false (by decide +kernel)) (eq_false (by decide +kernel)), scene_at, if_neg (by decide +kernel), if_neg (by decide +kernel), if_neg (by decide +kernel), if_neg (by decide +kernel), if_pos rfl], .str _⟩
  split at hx
  · rename_i e
    cases hx
    subst e
    exact ⟨V.str m2, by rw [old "w" (eq_false (by decide +kernel)) (eq_false (by decide +kernel)) (eq_false (by decide +kernel)), scene_at, if_neg (by decide +kernel), if_neg (by decide +kernel), if_pos rfl], .str _⟩
  split at hx
  · rename_i e
    cases hx
    subst e
    exact ⟨V.str m3, by rw [old "t" (eq_false (by decide +kernel)) (eq_false (by decide +kernel)) (eq_false (by decide +kernel)), scene_at, if_neg (by decide +kernel), if_pos rfl], .str _⟩
  split at hx
  · rename_i e
    cases hx
    subst e
    exact ⟨V.str fd0, by rw [old "f" (eq_false (by decide +kernel)) (eq_false (by decide +kernel)) (eq_false (by decide +kernel)), scene_at, if_neg (by decide +kernel), if_neg (by decide +kernel), if_neg (by decide +kernel), if_neg (by decide +kernel), if_neg (by decide +kernel), if_neg (by decide +kernel), if_neg (by decide +kernel), if_pos rfl], .str _⟩
  split at hx
  · rename_i e
    cases hx
    subst e
    exact ⟨V.str fd1, by rw [old "g" (eq_false (by decide +kernel)) (eq_false (by decide +kernel)) (eq_false (by decide +kernel)), scene_at, if_neg (by decide +kernel), if_neg (by decide +kernel), if_neg (by decide +kernel), if_neg (by decide +kernel), if_neg (by decide +kernel), if_neg (by decide +kernel), if_pos rfl], .str _⟩
  cases hx
end
end Lm

/-! Each row of a match: its body, and what is due. -/
namespace Lm
open PySem PySem.Spec PyProof.Rows L2
def plD : PyData → PyData
  | .str x => .tuple [.str x]
  | p => p
inductive RowDue : Str → PyData → Prop
  | name : RowDue "name" (sayD (dueN 4 "name"))
  | place : RowDue "place" (sayD (dueN 4 "place"))
  | arms : RowDue "arms" (sayD (dueN 4 "arms"))
  | done : RowDue "done" (sayD none)
  | r5 : RowDue "5 row" (sayD (dueN 5 "row"))
  | r6 : RowDue "6 row" (sayD (dueN 6 "row"))
def RowOk (N : Nm) (e : PyData) : Prop := ∃ pl ar d out, e = T [pl, ar, S d] ∧ fit (L (letsD N ++ [T [S "match", plD pl, ar]])) = true ∧ (L (letsD N ++ [T [S "match", plD pl, ar]])).depth ≤ 50 ∧ sayD (progFault (kindsD N) (modsD N (L (letsD N ++ [T [S "match", plD pl, ar]])))) = out ∧ RowDue d out
theorem fit_bool (b : Bool) : fit (.bool b) = true := rfl
theorem fit_int (i : Int) : fit (.int i) = true := rfl
theorem fit_dic (l : List (PyData × PyData)) : fit (.dict l) = true := rfl
theorem rows_ok {N : Nm} (h : N.Ok) : ∀ e ∈ rowsD N, RowOk N e := by
  intro e he
  have w_0 : fit (.str "let") = true := by decide +kernel
  have w_1 : fit (.str "match") = true := by decide +kernel
  have w_2 : fit (.str "item") = true := by decide +kernel
  have w_3 : fit (.str "fail") = true := by decide +kernel
  have w_4 : fit (.str "arms") = true := by decide +kernel
  have w_5 : fit (.str "ab") = true := by decide +kernel
  have w_6 : fit (.str "A") = true := by decide +kernel
  have w_7 : fit (.str "") = true := by decide +kernel
  have w_8 : fit (.str "toolongname") = true := by decide +kernel
  have w_9 : fit (.str "case1") = true := by decide +kernel
  simp only [rowsD, List.mem_cons, List.not_mem_nil, or_false] at he
  rcases he with rfl | rfl | rfl | rfl | rfl | rfl | rfl | rfl | rfl | rfl | rfl | rfl | rfl | rfl | rfl | rfl | rfl | rfl | rfl | rfl | rfl | rfl | rfl | rfl | rfl | rfl | rfl | rfl | rfl | rfl | rfl | rfl | rfl | rfl | rfl | rfl | rfl | rfl | rfl | rfl | rfl | rfl | rfl | rfl | rfl | rfl | rfl | rfl | rfl | rfl | rfl | rfl | rfl
  · exact ⟨S N.w, L [T [.none, T []], T [S N.o, T []], T [S N.p, L []]], "done", _, rfl, by simp [plD, letsD, fitL, fitT, fitC, fit0, fitN, fit_bool, fit_int, fit_dic, w_0, w_1, w_2, w_3, w_4, w_5, w_6, w_7, w_8, w_9, fit_nm h.nr, fit_nm h.nc, fit_nm h.nk, fit_nm h.nf, fit_nm h.ng, fit_nm h.nh, fit_nm h.nu, fit_nm h.nv, fit_nm h.nw, fit_nm h.nt, fit_nm h.no, fit_nm h.np, fit_nm h.nq], by simp [plD, letsD, PyData.depth, PyData.depthAll, PyData.depthKv], by rw [main_D h]; show sayD (mainD N [T [S "match", T [S N.w], L [T [.none, T []], T [S N.o, T []], T [S N.p, L []]]]]) = _; rw [row_0 h], .done⟩
  · exact ⟨S N.w, T [T [.none, T []], T [S N.o, T []], T [S N.p, L []]], "done", _, rfl, by simp [plD, letsD, fitL, fitT, fitC, fit0, fitN, fit_bool, fit_int, fit_dic, w_0, w_1, w_2, w_3, w_4, w_5, w_6, w_7, w_8, w_9, fit_nm h.nr, fit_nm h.nc, fit_nm h.nk, fit_nm h.nf, fit_nm h.ng, fit_nm h.nh, fit_nm h.nu, fit_nm h.nv, fit_nm h.nw, fit_nm h.nt, fit_nm h.no, fit_nm h.np, fit_nm h.nq], by simp [plD, letsD, PyData.depth, PyData.depthAll, PyData.depthKv], by rw [main_D h]; show sayD (mainD N [T [S "match", T [S N.w], T [T [.none, T []], T [S N.o, T []], T [S N.p, L []]]]]) = _; rw [row_1 h], .done⟩
  · exact ⟨T [S N.t, S N.g], L [T [.none, T []], T [S N.o, T []], T [S N.p, L []]], "done", _, rfl, by simp [plD, letsD, fitL, fitT, fitC, fit0, fitN, fit_bool, fit_int, fit_dic, w_0, w_1, w_2, w_3, w_4, w_5, w_6, w_7, w_8, w_9, fit_nm h.nr, fit_nm h.nc, fit_nm h.nk, fit_nm h.nf, fit_nm h.ng, fit_nm h.nh, fit_nm h.nu, fit_nm h.nv, fit_nm h.nw, fit_nm h.nt, fit_nm h.no, fit_nm h.np, fit_nm h.nq], by simp [plD, letsD, PyData.depth, PyData.depthAll, PyData.depthKv], by rw [main_D h]; show sayD (mainD N [T [S "match", T [S N.t, S N.g], L [T [.none, T []], T [S N.o, T []], T [S N.p, L []]]]]) = _; rw [row_2 h], .done⟩
  · exact ⟨T [S N.t, S N.f], L [T [.none, T []], T [S N.o, T []], T [S N.p, L []]], "place", _, rfl, by simp [plD, letsD, fitL, fitT, fitC, fit0, fitN, fit_bool, fit_int, fit_dic, w_0, w_1, w_2, w_3, w_4, w_5, w_6, w_7, w_8, w_9, fit_nm h.nr, fit_nm h.nc, fit_nm h.nk, fit_nm h.nf, fit_nm h.ng, fit_nm h.nh, fit_nm h.nu, fit_nm h.nv, fit_nm h.nw, fit_nm h.nt, fit_nm h.no, fit_nm h.np, fit_nm h.nq], by simp [plD, letsD, PyData.depth, PyData.depthAll, PyData.depthKv], by rw [main_D h]; show sayD (mainD N [T [S "match", T [S N.t, S N.f], L [T [.none, T []], T [S N.o, T []], T [S N.p, L []]]]]) = _; rw [row_3 h], .place⟩
  · exact ⟨S N.u, L [T [.none, T []], T [S N.o, T []], T [S N.p, L []]], "place", _, rfl, by simp [plD, letsD, fitL, fitT, fitC, fit0, fitN, fit_bool, fit_int, fit_dic, w_0, w_1, w_2, w_3, w_4, w_5, w_6, w_7, w_8, w_9, fit_nm h.nr, fit_nm h.nc, fit_nm h.nk, fit_nm h.nf, fit_nm h.ng, fit_nm h.nh, fit_nm h.nu, fit_nm h.nv, fit_nm h.nw, fit_nm h.nt, fit_nm h.no, fit_nm h.np, fit_nm h.nq], by simp [plD, letsD, PyData.depth, PyData.depthAll, PyData.depthKv], by rw [main_D h]; show sayD (mainD N [T [S "match", T [S N.u], L [T [.none, T []], T [S N.o, T []], T [S N.p, L []]]]]) = _; rw [row_4 h], .place⟩
  · exact ⟨S N.o, L [T [.none, T []], T [S N.o, T []], T [S N.p, L []]], "place", _, rfl, by simp [plD, letsD, fitL, fitT, fitC, fit0, fitN, fit_bool, fit_int, fit_dic, w_0, w_1, w_2, w_3, w_4, w_5, w_6, w_7, w_8, w_9, fit_nm h.nr, fit_nm h.nc, fit_nm h.nk, fit_nm h.nf, fit_nm h.ng, fit_nm h.nh, fit_nm h.nu, fit_nm h.nv, fit_nm h.nw, fit_nm h.nt, fit_nm h.no, fit_nm h.np, fit_nm h.nq], by simp [plD, letsD, PyData.depth, PyData.depthAll, PyData.depthKv], by rw [main_D h]; show sayD (mainD N [T [S "match", T [S N.o], L [T [.none, T []], T [S N.o, T []], T [S N.p, L []]]]]) = _; rw [row_5 h], .place⟩
  · exact ⟨T [S N.w, S N.f], L [T [.none, T []], T [S N.o, T []], T [S N.p, L []]], "place", _, rfl, by simp [plD, letsD, fitL, fitT, fitC, fit0, fitN, fit_bool, fit_int, fit_dic, w_0, w_1, w_2, w_3, w_4, w_5, w_6, w_7, w_8, w_9, fit_nm h.nr, fit_nm h.nc, fit_nm h.nk, fit_nm h.nf, fit_nm h.ng, fit_nm h.nh, fit_nm h.nu, fit_nm h.nv, fit_nm h.nw, fit_nm h.nt, fit_nm h.no, fit_nm h.np, fit_nm h.nq], by simp [plD, letsD, PyData.depth, PyData.depthAll, PyData.depthKv], by rw [main_D h]; show sayD (mainD N [T [S "match", T [S N.w, S N.f], L [T [.none, T []], T [S N.o, T []], T [S N.p, L []]]]]) = _; rw [row_6 h], .place⟩
  · exact ⟨.none, L [T [.none, T []], T [S N.o, T []], T [S N.p, L []]], "place", _, rfl, by simp [plD, letsD, fitL, fitT, fitC, fit0, fitN, fit_bool, fit_int, fit_dic, w_0, w_1, w_2, w_3, w_4, w_5, w_6, w_7, w_8, w_9, fit_nm h.nr, fit_nm h.nc, fit_nm h.nk, fit_nm h.nf, fit_nm h.ng, fit_nm h.nh, fit_nm h.nu, fit_nm h.nv, fit_nm h.nw, fit_nm h.nt, fit_nm h.no, fit_nm h.np, fit_nm h.nq], by simp [plD, letsD, PyData.depth, PyData.depthAll, PyData.depthKv], by rw [main_D h]; show sayD (mainD N [T [S "match", .none, L [T [.none, T []], T [S N.o, T []], T [S N.p, L []]]]]) = _; rw [row_7 h], .place⟩
  · exact ⟨T [S N.t], L [T [.none, T []], T [S N.o, T []], T [S N.p, L []]], "place", _, rfl, by simp [plD, letsD, fitL, fitT, fitC, fit0, fitN, fit_bool, fit_int, fit_dic, w_0, w_1, w_2, w_3, w_4, w_5, w_6, w_7, w_8, w_9, fit_nm h.nr, fit_nm h.nc, fit_nm h.nk, fit_nm h.nf, fit_nm h.ng, fit_nm h.nh, fit_nm h.nu, fit_nm h.nv, fit_nm h.nw, fit_nm h.nt, fit_nm h.no, fit_nm h.np, fit_nm h.nq], by simp [plD, letsD, PyData.depth, PyData.depthAll, PyData.depthKv], by rw [main_D h]; show sayD (mainD N [T [S "match", T [S N.t], L [T [.none, T []], T [S N.o, T []], T [S N.p, L []]]]]) = _; rw [row_8 h], .place⟩
  · exact ⟨.int 5, .int 5, "place", _, rfl, by simp [plD, letsD, fitL, fitT, fitC, fit0, fitN, fit_bool, fit_int, fit_dic, w_0, w_1, w_2, w_3, w_4, w_5, w_6, w_7, w_8, w_9, fit_nm h.nr, fit_nm h.nc, fit_nm h.nk, fit_nm h.nf, fit_nm h.ng, fit_nm h.nh, fit_nm h.nu, fit_nm h.nv, fit_nm h.nw, fit_nm h.nt, fit_nm h.no, fit_nm h.np, fit_nm h.nq], by simp [plD, letsD, PyData.depth, PyData.depthAll, PyData.depthKv], by rw [main_D h]; show sayD (mainD N [T [S "match", .int 5, .int 5]]) = _; rw [row_9 h], .place⟩
  · exact ⟨T [S N.t, S N.g, S N.f], L [T [.none, T []], T [S N.o, T []], T [S N.p, L []]], "place", _, rfl, by simp [plD, letsD, fitL, fitT, fitC, fit0, fitN, fit_bool, fit_int, fit_dic, w_0, w_1, w_2, w_3, w_4, w_5, w_6, w_7, w_8, w_9, fit_nm h.nr, fit_nm h.nc, fit_nm h.nk, fit_nm h.nf, fit_nm h.ng, fit_nm h.nh, fit_nm h.nu, fit_nm h.nv, fit_nm h.nw, fit_nm h.nt, fit_nm h.no, fit_nm h.np, fit_nm h.nq], by simp [plD, letsD, PyData.depth, PyData.depthAll, PyData.depthKv], by rw [main_D h]; show sayD (mainD N [T [S "match", T [S N.t, S N.g, S N.f], L [T [.none, T []], T [S N.o, T []], T [S N.p, L []]]]]) = _; rw [row_10 h], .place⟩
  · exact ⟨L [S N.w], L [T [.none, T []], T [S N.o, T []], T [S N.p, L []]], "place", _, rfl, by simp [plD, letsD, fitL, fitT, fitC, fit0, fitN, fit_bool, fit_int, fit_dic, w_0, w_1, w_2, w_3, w_4, w_5, w_6, w_7, w_8, w_9, fit_nm h.nr, fit_nm h.nc, fit_nm h.nk, fit_nm h.nf, fit_nm h.ng, fit_nm h.nh, fit_nm h.nu, fit_nm h.nv, fit_nm h.nw, fit_nm h.nt, fit_nm h.no, fit_nm h.np, fit_nm h.nq], by simp [plD, letsD, PyData.depth, PyData.depthAll, PyData.depthKv], by rw [main_D h]; show sayD (mainD N [T [S "match", L [S N.w], L [T [.none, T []], T [S N.o, T []], T [S N.p, L []]]]]) = _; rw [row_11 h], .place⟩
  · exact ⟨S N.w, .none, "arms", _, rfl, by simp [plD, letsD, fitL, fitT, fitC, fit0, fitN, fit_bool, fit_int, fit_dic, w_0, w_1, w_2, w_3, w_4, w_5, w_6, w_7, w_8, w_9, fit_nm h.nr, fit_nm h.nc, fit_nm h.nk, fit_nm h.nf, fit_nm h.ng, fit_nm h.nh, fit_nm h.nu, fit_nm h.nv, fit_nm h.nw, fit_nm h.nt, fit_nm h.no, fit_nm h.np, fit_nm h.nq], by simp [plD, letsD, PyData.depth, PyData.depthAll, PyData.depthKv], by rw [main_D h]; show sayD (mainD N [T [S "match", T [S N.w], .none]]) = _; rw [row_12 h], .arms⟩
  · exact ⟨S N.w, .int 5, "arms", _, rfl, by simp [plD, letsD, fitL, fitT, fitC, fit0, fitN, fit_bool, fit_int, fit_dic, w_0, w_1, w_2, w_3, w_4, w_5, w_6, w_7, w_8, w_9, fit_nm h.nr, fit_nm h.nc, fit_nm h.nk, fit_nm h.nf, fit_nm h.ng, fit_nm h.nh, fit_nm h.nu, fit_nm h.nv, fit_nm h.nw, fit_nm h.nt, fit_nm h.no, fit_nm h.np, fit_nm h.nq], by simp [plD, letsD, PyData.depth, PyData.depthAll, PyData.depthKv], by rw [main_D h]; show sayD (mainD N [T [S "match", T [S N.w], .int 5]]) = _; rw [row_13 h], .arms⟩
  · exact ⟨S N.w, S "arms", "arms", _, rfl, by simp [plD, letsD, fitL, fitT, fitC, fit0, fitN, fit_bool, fit_int, fit_dic, w_0, w_1, w_2, w_3, w_4, w_5, w_6, w_7, w_8, w_9, fit_nm h.nr, fit_nm h.nc, fit_nm h.nk, fit_nm h.nf, fit_nm h.ng, fit_nm h.nh, fit_nm h.nu, fit_nm h.nv, fit_nm h.nw, fit_nm h.nt, fit_nm h.no, fit_nm h.np, fit_nm h.nq], by simp [plD, letsD, PyData.depth, PyData.depthAll, PyData.depthKv], by rw [main_D h]; show sayD (mainD N [T [S "match", T [S N.w], S "arms"]]) = _; rw [row_14 h], .arms⟩
  · exact ⟨S N.w, .dict [], "arms", _, rfl, by simp [plD, letsD, fitL, fitT, fitC, fit0, fitN, fit_bool, fit_int, fit_dic, w_0, w_1, w_2, w_3, w_4, w_5, w_6, w_7, w_8, w_9, fit_nm h.nr, fit_nm h.nc, fit_nm h.nk, fit_nm h.nf, fit_nm h.ng, fit_nm h.nh, fit_nm h.nu, fit_nm h.nv, fit_nm h.nw, fit_nm h.nt, fit_nm h.no, fit_nm h.np, fit_nm h.nq], by simp [plD, letsD, PyData.depth, PyData.depthAll, PyData.depthKv], by rw [main_D h]; show sayD (mainD N [T [S "match", T [S N.w], .dict []]]) = _; rw [row_15 h], .arms⟩
  · exact ⟨S N.w, L [], "arms", _, rfl, by simp [plD, letsD, fitL, fitT, fitC, fit0, fitN, fit_bool, fit_int, fit_dic, w_0, w_1, w_2, w_3, w_4, w_5, w_6, w_7, w_8, w_9, fit_nm h.nr, fit_nm h.nc, fit_nm h.nk, fit_nm h.nf, fit_nm h.ng, fit_nm h.nh, fit_nm h.nu, fit_nm h.nv, fit_nm h.nw, fit_nm h.nt, fit_nm h.no, fit_nm h.np, fit_nm h.nq], by simp [plD, letsD, PyData.depth, PyData.depthAll, PyData.depthKv], by rw [main_D h]; show sayD (mainD N [T [S "match", T [S N.w], L []]]) = _; rw [row_16 h], .arms⟩
  · exact ⟨S N.w, L [T [.none, T []], T [S N.o, T []]], "arms", _, rfl, by simp [plD, letsD, fitL, fitT, fitC, fit0, fitN, fit_bool, fit_int, fit_dic, w_0, w_1, w_2, w_3, w_4, w_5, w_6, w_7, w_8, w_9, fit_nm h.nr, fit_nm h.nc, fit_nm h.nk, fit_nm h.nf, fit_nm h.ng, fit_nm h.nh, fit_nm h.nu, fit_nm h.nv, fit_nm h.nw, fit_nm h.nt, fit_nm h.no, fit_nm h.np, fit_nm h.nq], by simp [plD, letsD, PyData.depth, PyData.depthAll, PyData.depthKv], by rw [main_D h]; show sayD (mainD N [T [S "match", T [S N.w], L [T [.none, T []], T [S N.o, T []]]]]) = _; rw [row_17 h], .arms⟩
  · exact ⟨S N.w, L [T [.none, T []], T [S N.o, T []], T [S N.p, L []], T [S N.q, T []]], "arms", _, rfl, by simp [plD, letsD, fitL, fitT, fitC, fit0, fitN, fit_bool, fit_int, fit_dic, w_0, w_1, w_2, w_3, w_4, w_5, w_6, w_7, w_8, w_9, fit_nm h.nr, fit_nm h.nc, fit_nm h.nk, fit_nm h.nf, fit_nm h.ng, fit_nm h.nh, fit_nm h.nu, fit_nm h.nv, fit_nm h.nw, fit_nm h.nt, fit_nm h.no, fit_nm h.np, fit_nm h.nq], by simp [plD, letsD, PyData.depth, PyData.depthAll, PyData.depthKv], by rw [main_D h]; show sayD (mainD N [T [S "match", T [S N.w], L [T [.none, T []], T [S N.o, T []], T [S N.p, L []], T [S N.q, T []]]]]) = _; rw [row_18 h], .arms⟩
  · exact ⟨S N.w, L [T [S N.p, L []], T [S N.o, T []], T [.none, T []]], "arms", _, rfl, by simp [plD, letsD, fitL, fitT, fitC, fit0, fitN, fit_bool, fit_int, fit_dic, w_0, w_1, w_2, w_3, w_4, w_5, w_6, w_7, w_8, w_9, fit_nm h.nr, fit_nm h.nc, fit_nm h.nk, fit_nm h.nf, fit_nm h.ng, fit_nm h.nh, fit_nm h.nu, fit_nm h.nv, fit_nm h.nw, fit_nm h.nt, fit_nm h.no, fit_nm h.np, fit_nm h.nq], by simp [plD, letsD, PyData.depth, PyData.depthAll, PyData.depthKv], by rw [main_D h]; show sayD (mainD N [T [S "match", T [S N.w], L [T [S N.p, L []], T [S N.o, T []], T [.none, T []]]]]) = _; rw [row_19 h], .arms⟩
  · exact ⟨S N.w, L [T [S N.o, T []], T [.none, T []], T [S N.p, L []]], "arms", _, rfl, by simp [plD, letsD, fitL, fitT, fitC, fit0, fitN, fit_bool, fit_int, fit_dic, w_0, w_1, w_2, w_3, w_4, w_5, w_6, w_7, w_8, w_9, fit_nm h.nr, fit_nm h.nc, fit_nm h.nk, fit_nm h.nf, fit_nm h.ng, fit_nm h.nh, fit_nm h.nu, fit_nm h.nv, fit_nm h.nw, fit_nm h.nt, fit_nm h.no, fit_nm h.np, fit_nm h.nq], by simp [plD, letsD, PyData.depth, PyData.depthAll, PyData.depthKv], by rw [main_D h]; show sayD (mainD N [T [S "match", T [S N.w], L [T [S N.o, T []], T [.none, T []], T [S N.p, L []]]]]) = _; rw [row_20 h], .arms⟩
  · exact ⟨S N.w, L [.none, T [S N.o, T []], T [S N.p, L []]], "arms", _, rfl, by simp [plD, letsD, fitL, fitT, fitC, fit0, fitN, fit_bool, fit_int, fit_dic, w_0, w_1, w_2, w_3, w_4, w_5, w_6, w_7, w_8, w_9, fit_nm h.nr, fit_nm h.nc, fit_nm h.nk, fit_nm h.nf, fit_nm h.ng, fit_nm h.nh, fit_nm h.nu, fit_nm h.nv, fit_nm h.nw, fit_nm h.nt, fit_nm h.no, fit_nm h.np, fit_nm h.nq], by simp [plD, letsD, PyData.depth, PyData.depthAll, PyData.depthKv], by rw [main_D h]; show sayD (mainD N [T [S "match", T [S N.w], L [.none, T [S N.o, T []], T [S N.p, L []]]]]) = _; rw [row_21 h], .arms⟩
  · exact ⟨S N.w, L [T [.none], T [S N.o, T []], T [S N.p, L []]], "arms", _, rfl, by simp [plD, letsD, fitL, fitT, fitC, fit0, fitN, fit_bool, fit_int, fit_dic, w_0, w_1, w_2, w_3, w_4, w_5, w_6, w_7, w_8, w_9, fit_nm h.nr, fit_nm h.nc, fit_nm h.nk, fit_nm h.nf, fit_nm h.ng, fit_nm h.nh, fit_nm h.nu, fit_nm h.nv, fit_nm h.nw, fit_nm h.nt, fit_nm h.no, fit_nm h.np, fit_nm h.nq], by simp [plD, letsD, PyData.depth, PyData.depthAll, PyData.depthKv], by rw [main_D h]; show sayD (mainD N [T [S "match", T [S N.w], L [T [.none], T [S N.o, T []], T [S N.p, L []]]]]) = _; rw [row_22 h], .arms⟩
  · exact ⟨S N.w, L [L [.none, T []], T [S N.o, T []], T [S N.p, L []]], "arms", _, rfl, by simp [plD, letsD, fitL, fitT, fitC, fit0, fitN, fit_bool, fit_int, fit_dic, w_0, w_1, w_2, w_3, w_4, w_5, w_6, w_7, w_8, w_9, fit_nm h.nr, fit_nm h.nc, fit_nm h.nk, fit_nm h.nf, fit_nm h.ng, fit_nm h.nh, fit_nm h.nu, fit_nm h.nv, fit_nm h.nw, fit_nm h.nt, fit_nm h.no, fit_nm h.np, fit_nm h.nq], by simp [plD, letsD, PyData.depth, PyData.depthAll, PyData.depthKv], by rw [main_D h]; show sayD (mainD N [T [S "match", T [S N.w], L [L [.none, T []], T [S N.o, T []], T [S N.p, L []]]]]) = _; rw [row_23 h], .arms⟩
  · exact ⟨S N.w, L [T [.none, T [], T []], T [S N.o, T []], T [S N.p, L []]], "arms", _, rfl, by simp [plD, letsD, fitL, fitT, fitC, fit0, fitN, fit_bool, fit_int, fit_dic, w_0, w_1, w_2, w_3, w_4, w_5, w_6, w_7, w_8, w_9, fit_nm h.nr, fit_nm h.nc, fit_nm h.nk, fit_nm h.nf, fit_nm h.ng, fit_nm h.nh, fit_nm h.nu, fit_nm h.nv, fit_nm h.nw, fit_nm h.nt, fit_nm h.no, fit_nm h.np, fit_nm h.nq], by simp [plD, letsD, PyData.depth, PyData.depthAll, PyData.depthKv], by rw [main_D h]; show sayD (mainD N [T [S "match", T [S N.w], L [T [.none, T [], T []], T [S N.o, T []], T [S N.p, L []]]]]) = _; rw [row_24 h], .arms⟩
  · exact ⟨S N.w, L [T [S N.q, T []], T [S N.o, T []], T [S N.p, L []]], "arms", _, rfl, by simp [plD, letsD, fitL, fitT, fitC, fit0, fitN, fit_bool, fit_int, fit_dic, w_0, w_1, w_2, w_3, w_4, w_5, w_6, w_7, w_8, w_9, fit_nm h.nr, fit_nm h.nc, fit_nm h.nk, fit_nm h.nf, fit_nm h.ng, fit_nm h.nh, fit_nm h.nu, fit_nm h.nv, fit_nm h.nw, fit_nm h.nt, fit_nm h.no, fit_nm h.np, fit_nm h.nq], by simp [plD, letsD, PyData.depth, PyData.depthAll, PyData.depthKv], by rw [main_D h]; show sayD (mainD N [T [S "match", T [S N.w], L [T [S N.q, T []], T [S N.o, T []], T [S N.p, L []]]]]) = _; rw [row_25 h], .arms⟩
  · exact ⟨S N.w, L [.int 5, T [S N.o, T []], T [S N.p, L []]], "arms", _, rfl, by simp [plD, letsD, fitL, fitT, fitC, fit0, fitN, fit_bool, fit_int, fit_dic, w_0, w_1, w_2, w_3, w_4, w_5, w_6, w_7, w_8, w_9, fit_nm h.nr, fit_nm h.nc, fit_nm h.nk, fit_nm h.nf, fit_nm h.ng, fit_nm h.nh, fit_nm h.nu, fit_nm h.nv, fit_nm h.nw, fit_nm h.nt, fit_nm h.no, fit_nm h.np, fit_nm h.nq], by simp [plD, letsD, PyData.depth, PyData.depthAll, PyData.depthKv], by rw [main_D h]; show sayD (mainD N [T [S "match", T [S N.w], L [.int 5, T [S N.o, T []], T [S N.p, L []]]]]) = _; rw [row_26 h], .arms⟩
  · exact ⟨S N.w, L [S "ab", T [S N.o, T []], T [S N.p, L []]], "arms", _, rfl, by simp [plD, letsD, fitL, fitT, fitC, fit0, fitN, fit_bool, fit_int, fit_dic, w_0, w_1, w_2, w_3, w_4, w_5, w_6, w_7, w_8, w_9, fit_nm h.nr, fit_nm h.nc, fit_nm h.nk, fit_nm h.nf, fit_nm h.ng, fit_nm h.nh, fit_nm h.nu, fit_nm h.nv, fit_nm h.nw, fit_nm h.nt, fit_nm h.no, fit_nm h.np, fit_nm h.nq], by simp [plD, letsD, PyData.depth, PyData.depthAll, PyData.depthKv], by rw [main_D h]; show sayD (mainD N [T [S "match", T [S N.w], L [S "ab", T [S N.o, T []], T [S N.p, L []]]]]) = _; rw [row_27 h], .arms⟩
  · exact ⟨S N.w, L [T [.none, T []], .none, T [S N.p, L []]], "arms", _, rfl, by simp [plD, letsD, fitL, fitT, fitC, fit0, fitN, fit_bool, fit_int, fit_dic, w_0, w_1, w_2, w_3, w_4, w_5, w_6, w_7, w_8, w_9, fit_nm h.nr, fit_nm h.nc, fit_nm h.nk, fit_nm h.nf, fit_nm h.ng, fit_nm h.nh, fit_nm h.nu, fit_nm h.nv, fit_nm h.nw, fit_nm h.nt, fit_nm h.no, fit_nm h.np, fit_nm h.nq], by simp [plD, letsD, PyData.depth, PyData.depthAll, PyData.depthKv], by rw [main_D h]; show sayD (mainD N [T [S "match", T [S N.w], L [T [.none, T []], .none, T [S N.p, L []]]]]) = _; rw [row_28 h], .arms⟩
  · exact ⟨S N.w, L [T [.none, T []], T [S N.o], T [S N.p, L []]], "arms", _, rfl, by simp [plD, letsD, fitL, fitT, fitC, fit0, fitN, fit_bool, fit_int, fit_dic, w_0, w_1, w_2, w_3, w_4, w_5, w_6, w_7, w_8, w_9, fit_nm h.nr, fit_nm h.nc, fit_nm h.nk, fit_nm h.nf, fit_nm h.ng, fit_nm h.nh, fit_nm h.nu, fit_nm h.nv, fit_nm h.nw, fit_nm h.nt, fit_nm h.no, fit_nm h.np, fit_nm h.nq], by simp [plD, letsD, PyData.depth, PyData.depthAll, PyData.depthKv], by rw [main_D h]; show sayD (mainD N [T [S "match", T [S N.w], L [T [.none, T []], T [S N.o], T [S N.p, L []]]]]) = _; rw [row_29 h], .arms⟩
  · exact ⟨S N.w, L [T [.none, T []], L [S N.o, T []], T [S N.p, L []]], "arms", _, rfl, by simp [plD, letsD, fitL, fitT, fitC, fit0, fitN, fit_bool, fit_int, fit_dic, w_0, w_1, w_2, w_3, w_4, w_5, w_6, w_7, w_8, w_9, fit_nm h.nr, fit_nm h.nc, fit_nm h.nk, fit_nm h.nf, fit_nm h.ng, fit_nm h.nh, fit_nm h.nu, fit_nm h.nv, fit_nm h.nw, fit_nm h.nt, fit_nm h.no, fit_nm h.np, fit_nm h.nq], by simp [plD, letsD, PyData.depth, PyData.depthAll, PyData.depthKv], by rw [main_D h]; show sayD (mainD N [T [S "match", T [S N.w], L [T [.none, T []], L [S N.o, T []], T [S N.p, L []]]]]) = _; rw [row_30 h], .arms⟩
  · exact ⟨S N.w, L [T [.none, T []], T [S N.o, T [], T []], T [S N.p, L []]], "arms", _, rfl, by simp [plD, letsD, fitL, fitT, fitC, fit0, fitN, fit_bool, fit_int, fit_dic, w_0, w_1, w_2, w_3, w_4, w_5, w_6, w_7, w_8, w_9, fit_nm h.nr, fit_nm h.nc, fit_nm h.nk, fit_nm h.nf, fit_nm h.ng, fit_nm h.nh, fit_nm h.nu, fit_nm h.nv, fit_nm h.nw, fit_nm h.nt, fit_nm h.no, fit_nm h.np, fit_nm h.nq], by simp [plD, letsD, PyData.depth, PyData.depthAll, PyData.depthKv], by rw [main_D h]; show sayD (mainD N [T [S "match", T [S N.w], L [T [.none, T []], T [S N.o, T [], T []], T [S N.p, L []]]]]) = _; rw [row_31 h], .arms⟩
  · exact ⟨S N.w, L [T [.none, T []], T [.none, T []], T [S N.p, L []]], "arms", _, rfl, by simp [plD, letsD, fitL, fitT, fitC, fit0, fitN, fit_bool, fit_int, fit_dic, w_0, w_1, w_2, w_3, w_4, w_5, w_6, w_7, w_8, w_9, fit_nm h.nr, fit_nm h.nc, fit_nm h.nk, fit_nm h.nf, fit_nm h.ng, fit_nm h.nh, fit_nm h.nu, fit_nm h.nv, fit_nm h.nw, fit_nm h.nt, fit_nm h.no, fit_nm h.np, fit_nm h.nq], by simp [plD, letsD, PyData.depth, PyData.depthAll, PyData.depthKv], by rw [main_D h]; show sayD (mainD N [T [S "match", T [S N.w], L [T [.none, T []], T [.none, T []], T [S N.p, L []]]]]) = _; rw [row_32 h], .arms⟩
  · exact ⟨S N.w, L [T [.none, T []], .dict [], T [S N.p, L []]], "arms", _, rfl, by simp [plD, letsD, fitL, fitT, fitC, fit0, fitN, fit_bool, fit_int, fit_dic, w_0, w_1, w_2, w_3, w_4, w_5, w_6, w_7, w_8, w_9, fit_nm h.nr, fit_nm h.nc, fit_nm h.nk, fit_nm h.nf, fit_nm h.ng, fit_nm h.nh, fit_nm h.nu, fit_nm h.nv, fit_nm h.nw, fit_nm h.nt, fit_nm h.no, fit_nm h.np, fit_nm h.nq], by simp [plD, letsD, PyData.depth, PyData.depthAll, PyData.depthKv], by rw [main_D h]; show sayD (mainD N [T [S "match", T [S N.w], L [T [.none, T []], .dict [], T [S N.p, L []]]]]) = _; rw [row_33 h], .arms⟩
  · exact ⟨S N.w, L [T [.none, T []], T [S N.u, T []], T [S N.p, L []]], "name", _, rfl, by simp [plD, letsD, fitL, fitT, fitC, fit0, fitN, fit_bool, fit_int, fit_dic, w_0, w_1, w_2, w_3, w_4, w_5, w_6, w_7, w_8, w_9, fit_nm h.nr, fit_nm h.nc, fit_nm h.nk, fit_nm h.nf, fit_nm h.ng, fit_nm h.nh, fit_nm h.nu, fit_nm h.nv, fit_nm h.nw, fit_nm h.nt, fit_nm h.no, fit_nm h.np, fit_nm h.nq], by simp [plD, letsD, PyData.depth, PyData.depthAll, PyData.depthKv], by rw [main_D h]; show sayD (mainD N [T [S "match", T [S N.w], L [T [.none, T []], T [S N.u, T []], T [S N.p, L []]]]]) = _; rw [row_34 h], .name⟩
  · exact ⟨S N.w, L [T [.none, T []], T [S N.w, T []], T [S N.p, L []]], "name", _, rfl, by simp [plD, letsD, fitL, fitT, fitC, fit0, fitN, fit_bool, fit_int, fit_dic, w_0, w_1, w_2, w_3, w_4, w_5, w_6, w_7, w_8, w_9, fit_nm h.nr, fit_nm h.nc, fit_nm h.nk, fit_nm h.nf, fit_nm h.ng, fit_nm h.nh, fit_nm h.nu, fit_nm h.nv, fit_nm h.nw, fit_nm h.nt, fit_nm h.no, fit_nm h.np, fit_nm h.nq], by simp [plD, letsD, PyData.depth, PyData.depthAll, PyData.depthKv], by rw [main_D h]; show sayD (mainD N [T [S "match", T [S N.w], L [T [.none, T []], T [S N.w, T []], T [S N.p, L []]]]]) = _; rw [row_35 h], .name⟩
  · exact ⟨S N.w, L [T [.none, T []], T [S "A", T []], T [S N.p, L []]], "name", _, rfl, by simp [plD, letsD, fitL, fitT, fitC, fit0, fitN, fit_bool, fit_int, fit_dic, w_0, w_1, w_2, w_3, w_4, w_5, w_6, w_7, w_8, w_9, fit_nm h.nr, fit_nm h.nc, fit_nm h.nk, fit_nm h.nf, fit_nm h.ng, fit_nm h.nh, fit_nm h.nu, fit_nm h.nv, fit_nm h.nw, fit_nm h.nt, fit_nm h.no, fit_nm h.np, fit_nm h.nq], by simp [plD, letsD, PyData.depth, PyData.depthAll, PyData.depthKv], by rw [main_D h]; show sayD (mainD N [T [S "match", T [S N.w], L [T [.none, T []], T [S "A", T []], T [S N.p, L []]]]]) = _; rw [row_36 h], .name⟩
  · exact ⟨S N.w, L [T [.none, T []], T [S "", T []], T [S N.p, L []]], "name", _, rfl, by simp [plD, letsD, fitL, fitT, fitC, fit0, fitN, fit_bool, fit_int, fit_dic, w_0, w_1, w_2, w_3, w_4, w_5, w_6, w_7, w_8, w_9, fit_nm h.nr, fit_nm h.nc, fit_nm h.nk, fit_nm h.nf, fit_nm h.ng, fit_nm h.nh, fit_nm h.nu, fit_nm h.nv, fit_nm h.nw, fit_nm h.nt, fit_nm h.no, fit_nm h.np, fit_nm h.nq], by simp [plD, letsD, PyData.depth, PyData.depthAll, PyData.depthKv], by rw [main_D h]; show sayD (mainD N [T [S "match", T [S N.w], L [T [.none, T []], T [S "", T []], T [S N.p, L []]]]]) = _; rw [row_37 h], .name⟩
  · exact ⟨S N.w, L [T [.none, T []], T [S "toolongname", T []], T [S N.p, L []]], "name", _, rfl, by simp [plD, letsD, fitL, fitT, fitC, fit0, fitN, fit_bool, fit_int, fit_dic, w_0, w_1, w_2, w_3, w_4, w_5, w_6, w_7, w_8, w_9, fit_nm h.nr, fit_nm h.nc, fit_nm h.nk, fit_nm h.nf, fit_nm h.ng, fit_nm h.nh, fit_nm h.nu, fit_nm h.nv, fit_nm h.nw, fit_nm h.nt, fit_nm h.no, fit_nm h.np, fit_nm h.nq], by simp [plD, letsD, PyData.depth, PyData.depthAll, PyData.depthKv], by rw [main_D h]; show sayD (mainD N [T [S "match", T [S N.w], L [T [.none, T []], T [S "toolongname", T []], T [S N.p, L []]]]]) = _; rw [row_38 h], .name⟩
  · exact ⟨S N.w, L [T [.none, T []], T [S "case1", T []], T [S N.p, L []]], "name", _, rfl, by simp [plD, letsD, fitL, fitT, fitC, fit0, fitN, fit_bool, fit_int, fit_dic, w_0, w_1, w_2, w_3, w_4, w_5, w_6, w_7, w_8, w_9, fit_nm h.nr, fit_nm h.nc, fit_nm h.nk, fit_nm h.nf, fit_nm h.ng, fit_nm h.nh, fit_nm h.nu, fit_nm h.nv, fit_nm h.nw, fit_nm h.nt, fit_nm h.no, fit_nm h.np, fit_nm h.nq], by simp [plD, letsD, PyData.depth, PyData.depthAll, PyData.depthKv], by rw [main_D h]; show sayD (mainD N [T [S "match", T [S N.w], L [T [.none, T []], T [S "case1", T []], T [S N.p, L []]]]]) = _; rw [row_39 h], .name⟩
  · exact ⟨S N.w, L [T [.none, T []], T [S "match", T []], T [S N.p, L []]], "name", _, rfl, by simp [plD, letsD, fitL, fitT, fitC, fit0, fitN, fit_bool, fit_int, fit_dic, w_0, w_1, w_2, w_3, w_4, w_5, w_6, w_7, w_8, w_9, fit_nm h.nr, fit_nm h.nc, fit_nm h.nk, fit_nm h.nf, fit_nm h.ng, fit_nm h.nh, fit_nm h.nu, fit_nm h.nv, fit_nm h.nw, fit_nm h.nt, fit_nm h.no, fit_nm h.np, fit_nm h.nq], by simp [plD, letsD, PyData.depth, PyData.depthAll, PyData.depthKv], by rw [main_D h]; show sayD (mainD N [T [S "match", T [S N.w], L [T [.none, T []], T [S "match", T []], T [S N.p, L []]]]]) = _; rw [row_40 h], .name⟩
  · exact ⟨S N.w, L [T [.none, T []], T [.int 5, T []], T [S N.p, L []]], "name", _, rfl, by simp [plD, letsD, fitL, fitT, fitC, fit0, fitN, fit_bool, fit_int, fit_dic, w_0, w_1, w_2, w_3, w_4, w_5, w_6, w_7, w_8, w_9, fit_nm h.nr, fit_nm h.nc, fit_nm h.nk, fit_nm h.nf, fit_nm h.ng, fit_nm h.nh, fit_nm h.nu, fit_nm h.nv, fit_nm h.nw, fit_nm h.nt, fit_nm h.no, fit_nm h.np, fit_nm h.nq], by simp [plD, letsD, PyData.depth, PyData.depthAll, PyData.depthKv], by rw [main_D h]; show sayD (mainD N [T [S "match", T [S N.w], L [T [.none, T []], T [.int 5, T []], T [S N.p, L []]]]]) = _; rw [row_41 h], .name⟩
  · exact ⟨S N.w, L [T [.none, T []], T [L [], T []], T [S N.p, L []]], "name", _, rfl, by simp [plD, letsD, fitL, fitT, fitC, fit0, fitN, fit_bool, fit_int, fit_dic, w_0, w_1, w_2, w_3, w_4, w_5, w_6, w_7, w_8, w_9, fit_nm h.nr, fit_nm h.nc, fit_nm h.nk, fit_nm h.nf, fit_nm h.ng, fit_nm h.nh, fit_nm h.nu, fit_nm h.nv, fit_nm h.nw, fit_nm h.nt, fit_nm h.no, fit_nm h.np, fit_nm h.nq], by simp [plD, letsD, PyData.depth, PyData.depthAll, PyData.depthKv], by rw [main_D h]; show sayD (mainD N [T [S "match", T [S N.w], L [T [.none, T []], T [L [], T []], T [S N.p, L []]]]]) = _; rw [row_42 h], .name⟩
  · exact ⟨S N.w, L [T [.none, T []], T [T [S N.o], T []], T [S N.p, L []]], "name", _, rfl, by simp [plD, letsD, fitL, fitT, fitC, fit0, fitN, fit_bool, fit_int, fit_dic, w_0, w_1, w_2, w_3, w_4, w_5, w_6, w_7, w_8, w_9, fit_nm h.nr, fit_nm h.nc, fit_nm h.nk, fit_nm h.nf, fit_nm h.ng, fit_nm h.nh, fit_nm h.nu, fit_nm h.nv, fit_nm h.nw, fit_nm h.nt, fit_nm h.no, fit_nm h.np, fit_nm h.nq], by simp [plD, letsD, PyData.depth, PyData.depthAll, PyData.depthKv], by rw [main_D h]; show sayD (mainD N [T [S "match", T [S N.w], L [T [.none, T []], T [T [S N.o], T []], T [S N.p, L []]]]]) = _; rw [row_43 h], .name⟩
  · exact ⟨S N.w, L [T [.none, T []], T [.bool false, T []], T [S N.p, L []]], "name", _, rfl, by simp [plD, letsD, fitL, fitT, fitC, fit0, fitN, fit_bool, fit_int, fit_dic, w_0, w_1, w_2, w_3, w_4, w_5, w_6, w_7, w_8, w_9, fit_nm h.nr, fit_nm h.nc, fit_nm h.nk, fit_nm h.nf, fit_nm h.ng, fit_nm h.nh, fit_nm h.nu, fit_nm h.nv, fit_nm h.nw, fit_nm h.nt, fit_nm h.no, fit_nm h.np, fit_nm h.nq], by simp [plD, letsD, PyData.depth, PyData.depthAll, PyData.depthKv], by rw [main_D h]; show sayD (mainD N [T [S "match", T [S N.w], L [T [.none, T []], T [.bool false, T []], T [S N.p, L []]]]]) = _; rw [row_44 h], .name⟩
  · exact ⟨S N.w, L [T [.none, T []], T [S N.p, T []], T [S N.p, L []]], "name", _, rfl, by simp [plD, letsD, fitL, fitT, fitC, fit0, fitN, fit_bool, fit_int, fit_dic, w_0, w_1, w_2, w_3, w_4, w_5, w_6, w_7, w_8, w_9, fit_nm h.nr, fit_nm h.nc, fit_nm h.nk, fit_nm h.nf, fit_nm h.ng, fit_nm h.nh, fit_nm h.nu, fit_nm h.nv, fit_nm h.nw, fit_nm h.nt, fit_nm h.no, fit_nm h.np, fit_nm h.nq], by simp [plD, letsD, PyData.depth, PyData.depthAll, PyData.depthKv], by rw [main_D h]; show sayD (mainD N [T [S "match", T [S N.w], L [T [.none, T []], T [S N.p, T []], T [S N.p, L []]]]]) = _; rw [row_45 h], .name⟩
  · exact ⟨S N.u, L [T [S N.u, T []]], "name", _, rfl, by simp [plD, letsD, fitL, fitT, fitC, fit0, fitN, fit_bool, fit_int, fit_dic, w_0, w_1, w_2, w_3, w_4, w_5, w_6, w_7, w_8, w_9, fit_nm h.nr, fit_nm h.nc, fit_nm h.nk, fit_nm h.nf, fit_nm h.ng, fit_nm h.nh, fit_nm h.nu, fit_nm h.nv, fit_nm h.nw, fit_nm h.nt, fit_nm h.no, fit_nm h.np, fit_nm h.nq], by simp [plD, letsD, PyData.depth, PyData.depthAll, PyData.depthKv], by rw [main_D h]; show sayD (mainD N [T [S "match", T [S N.u], L [T [S N.u, T []]]]]) = _; rw [row_46 h], .name⟩
  · exact ⟨.none, L [.none, .int 5, T [S "A", .int 5]], "name", _, rfl, by simp [plD, letsD, fitL, fitT, fitC, fit0, fitN, fit_bool, fit_int, fit_dic, w_0, w_1, w_2, w_3, w_4, w_5, w_6, w_7, w_8, w_9, fit_nm h.nr, fit_nm h.nc, fit_nm h.nk, fit_nm h.nf, fit_nm h.ng, fit_nm h.nh, fit_nm h.nu, fit_nm h.nv, fit_nm h.nw, fit_nm h.nt, fit_nm h.no, fit_nm h.np, fit_nm h.nq], by simp [plD, letsD, PyData.depth, PyData.depthAll, PyData.depthKv], by rw [main_D h]; show sayD (mainD N [T [S "match", .none, L [.none, .int 5, T [S "A", .int 5]]]]) = _; rw [row_47 h], .name⟩
  · exact ⟨S N.u, L [T [S "A"], T [.none, T []]], "place", _, rfl, by simp [plD, letsD, fitL, fitT, fitC, fit0, fitN, fit_bool, fit_int, fit_dic, w_0, w_1, w_2, w_3, w_4, w_5, w_6, w_7, w_8, w_9, fit_nm h.nr, fit_nm h.nc, fit_nm h.nk, fit_nm h.nf, fit_nm h.ng, fit_nm h.nh, fit_nm h.nu, fit_nm h.nv, fit_nm h.nw, fit_nm h.nt, fit_nm h.no, fit_nm h.np, fit_nm h.nq], by simp [plD, letsD, PyData.depth, PyData.depthAll, PyData.depthKv], by rw [main_D h]; show sayD (mainD N [T [S "match", T [S N.u], L [T [S "A"], T [.none, T []]]]]) = _; rw [row_48 h], .place⟩
  · exact ⟨S N.w, L [T [.none, .int 5], T [S N.o, T []], T [S N.p, L []]], "5 row", _, rfl, by simp [plD, letsD, fitL, fitT, fitC, fit0, fitN, fit_bool, fit_int, fit_dic, w_0, w_1, w_2, w_3, w_4, w_5, w_6, w_7, w_8, w_9, fit_nm h.nr, fit_nm h.nc, fit_nm h.nk, fit_nm h.nf, fit_nm h.ng, fit_nm h.nh, fit_nm h.nu, fit_nm h.nv, fit_nm h.nw, fit_nm h.nt, fit_nm h.no, fit_nm h.np, fit_nm h.nq], by simp [plD, letsD, PyData.depth, PyData.depthAll, PyData.depthKv], by rw [main_D h]; show sayD (mainD N [T [S "match", T [S N.w], L [T [.none, .int 5], T [S N.o, T []], T [S N.p, L []]]]]) = _; rw [row_49 h], .r5⟩
  · exact ⟨S N.w, L [T [.none, T []], T [S N.o, .none], T [S N.p, L []]], "5 row", _, rfl, by simp [plD, letsD, fitL, fitT, fitC, fit0, fitN, fit_bool, fit_int, fit_dic, w_0, w_1, w_2, w_3, w_4, w_5, w_6, w_7, w_8, w_9, fit_nm h.nr, fit_nm h.nc, fit_nm h.nk, fit_nm h.nf, fit_nm h.ng, fit_nm h.nh, fit_nm h.nu, fit_nm h.nv, fit_nm h.nw, fit_nm h.nt, fit_nm h.no, fit_nm h.np, fit_nm h.nq], by simp [plD, letsD, PyData.depth, PyData.depthAll, PyData.depthKv], by rw [main_D h]; show sayD (mainD N [T [S "match", T [S N.w], L [T [.none, T []], T [S N.o, .none], T [S N.p, L []]]]]) = _; rw [row_50 h], .r5⟩
  · exact ⟨S N.w, L [T [.none, L [T [S "fail"]]], T [S N.o, .int 5], T [S N.p, L []]], "6 row", _, rfl, by simp [plD, letsD, fitL, fitT, fitC, fit0, fitN, fit_bool, fit_int, fit_dic, w_0, w_1, w_2, w_3, w_4, w_5, w_6, w_7, w_8, w_9, fit_nm h.nr, fit_nm h.nc, fit_nm h.nk, fit_nm h.nf, fit_nm h.ng, fit_nm h.nh, fit_nm h.nu, fit_nm h.nv, fit_nm h.nw, fit_nm h.nt, fit_nm h.no, fit_nm h.np, fit_nm h.nq], by simp [plD, letsD, PyData.depth, PyData.depthAll, PyData.depthKv], by rw [main_D h]; show sayD (mainD N [T [S "match", T [S N.w], L [T [.none, L [T [S "fail"]]], T [S N.o, .int 5], T [S N.p, L []]]]]) = _; rw [row_51 h], .r6⟩
  · exact ⟨S N.w, L [T [.none, T []], T [S N.o, T []], T [S N.p, .dict []]], "5 row", _, rfl, by simp [plD, letsD, fitL, fitT, fitC, fit0, fitN, fit_bool, fit_int, fit_dic, w_0, w_1, w_2, w_3, w_4, w_5, w_6, w_7, w_8, w_9, fit_nm h.nr, fit_nm h.nc, fit_nm h.nk, fit_nm h.nf, fit_nm h.ng, fit_nm h.nh, fit_nm h.nu, fit_nm h.nv, fit_nm h.nw, fit_nm h.nt, fit_nm h.no, fit_nm h.np, fit_nm h.nq], by simp [plD, letsD, PyData.depth, PyData.depthAll, PyData.depthKv], by rw [main_D h]; show sayD (mainD N [T [S "match", T [S N.w], L [T [.none, T []], T [S N.o, T []], T [S N.p, .dict []]]]]) = _; rw [row_52 h], .r5⟩

end Lm

/-! The law. -/
namespace Lm
open PySem PySem.Spec PyProof.Rows L2 LamX
open C8 (fnScope_by pe_gc pss_cut tCut Cal pe_c)
def exSp (p : Nm → Prop) (sp : Nm → Sp) : Sp := fun vs H Q E => ∃ N, p N ∧ sp N vs H Q E
theorem fnok_ex {P : Program} {w : World} {K : PySem.W.Frag} {mg : Str → Option Value} {base : Heap} {CX : CXT} {k : Nat} {f : Addr} {fd : FuncData} {ps : List Str} {p : Nm → Prop} {sp : Nm → Sp} (F : ∀ N, p N → FnOk P w K mg base CX k f fd ps (sp N)) : FnOk P w K mg base CX k f fd ps (exSp p sp) :=
  ⟨fun vs H Q E h => by
    obtain ⟨N, hp, h⟩ := h
    exact (F N hp).len _ _ _ _ h, fun A outer s H args us vs Q E hr e0 hb r h => by
    obtain ⟨N, hp, h⟩ := h
    exact (F N hp).run A outer s H args us vs Q E hr e0 hb r h⟩
theorem pl_go {K : PySem.W.Frag} {σ : L2.St} {H : Hp} {D : Ends} {u : TS} {y0 : V} {pl : PyData} (h4 : σ[4]? = some (some y0)) (q0 : Dx K H y0 pl) (q : ∀ vP H8, Same H H8 → Dx K H8 vP (plD pl) → u D (σ.set 4 (some vP)) H8) :
    tSeq (tAsg (tIf (tB (tCB (rIsi K) (tCons (tVar 4) (tCons (tC (.ty "str")) tNil)))) (tTup (tCons (tVar 4) tNil)) (tVar 4)) (gName 4)) u D σ H := by
  refine ⟨_, h4, y0, .ty "str", _, _, isStr pl, rfl, .ty _, q0.ty, kit_str pl, _, rfl, ?_⟩
  cases q0 with
  | str x => exact iteT ⟨_, h4, by show 1 ≤ sizeLine; decide, fun p n => q _ _ (same_upd n) (.tup upd_same (.cons (.str x) .nil))⟩
  | non => exact iteF ⟨_, h4, q _ _ (Same.refl H) .non⟩
  | bl b => exact iteF ⟨_, h4, q _ _ (Same.refl H) (.bl b)⟩
  | int i => exact iteF ⟨_, h4, q _ _ (Same.refl H) (.int i)⟩
  | lst h a => exact iteF ⟨_, h4, q _ _ (Same.refl H) (.lst h a)⟩
  | tup h a => exact iteF ⟨_, h4, q _ _ (Same.refl H) (.tup h a)⟩
  | dic h => exact iteF ⟨_, h4, q _ _ (Same.refl H) (.dic h)⟩
theorem duer_go {K : PySem.W.Frag} {s0 s1 s2 s3 s4 s5 s7 : Option V} {H : Hp} {D : Ends} {u : TS} {dd : Str} {out : PyData} (hr : RowDue dd out) (q : ∀ v H', Same H H' → Dx K H' v out → u D [s0, s1, s2, s3, s4, s5, some v, s7] H') :
    tSeq (tIfS (tTest (tOp (rIn K false) (tVar 6) (tTup (tCons (tC (.str "name")) (tCons (tC (.str "place")) (tCons (tC (.str "arms")) tNil))))))
      (tAsg (tTup (tCons (tTup (tCons (tC (.str "first")) (tCons (tC (.str "main")) tNil))) (tCons (tC (.int 4)) (tCons (tVar 6) tNil)))) (gName 6))
      (tIfS (tTest (tOp rNe (tVar 6) (tC (.str "done"))))
        (tAsg (tTup (tCons (tTup (tCons (tC (.str "first")) (tCons (tC (.str "main")) tNil))) (tCons (tCB (fun xs H Q => ∃ a n, xs = [V.str a] ∧ intText? a = some n ∧ a.length ≤ 640 ∧ Q (V.int n) H) (tCons (tOp rIxS (tVar 6) (tC (.int 0))) tNil)) (tCons (tSl rSlS (tVar 6) (tPart (tC (.int 2))) tNoPart) tNil)))) (gName 6))
        tNext)) u D [s0, s1, s2, s3, s4, s5, some (.str dd), s7] H := by
  have three : ∀ z : Str, (["name", "place", "arms"] : List Str).contains z = true → (∀ v H', Same H H' → Dx K H' v (sayD (dueN 4 z)) → u D [s0, s1, s2, s3, s4, s5, some v, s7] H') → ∀ p, H p = none → tAsg (tTup (tCons (tTup (tCons (tC (.str "first")) (tCons (tC (.str "main")) tNil))) (tCons (tC (.int 4)) (tCons (tVar 6) tNil)))) (gName 6) { D with nx := u D } [s0, s1, s2, s3, s4, s5, some (.str z), s7] (upd H p (.tup ((["name", "place", "arms"] : List Str).map V.str))) := by
    intro z _ q p np
    refine ⟨by show 2 ≤ sizeLine; decide, fun p1 n1 => ⟨_, rfl, by show 3 ≤ sizeLine; decide, fun p2 n2 => ?_⟩⟩
    exact q _ _ ((same_upd np).trans ((same_upd n1).trans (same_upd n2))) (.tup upd_same (.cons (.tup (same_upd n2 _ _ upd_same) (.cons (.str _) (.cons (.str _) .nil))) (.cons (.int _) (.cons (.str _) .nil))))
  refine ⟨_, rfl, by show 3 ≤ sizeLine; decide, fun p np => ⟨p, (["name", "place", "arms"] : List Str).map V.str, rfl, .inr (.inl (.inl upd_same)), rfl, rfl, _, rfl, ?_⟩⟩
  rw [in_strs]
  cases hr with
  | name => exact (show (if (["name", "place", "arms"] : List Str).contains "name" = true then _ else _) from by rw [show (["name", "place", "arms"] : List Str).contains "name" = true from by decide +kernel]; exact iteT (three "name" (by decide +kernel) q p np))
  | place => exact (show (if (["name", "place", "arms"] : List Str).contains "place" = true then _ else _) from by rw [show (["name", "place", "arms"] : List Str).contains "place" = true from by decide +kernel]; exact iteT (three "place" (by decide +kernel) q p np))
  | arms => exact (show (if (["name", "place", "arms"] : List Str).contains "arms" = true then _ else _) from by rw [show (["name", "place", "arms"] : List Str).contains "arms" = true from by decide +kernel]; exact iteT (three "arms" (by decide +kernel) q p np))
  | done =>
    refine (show (if (["name", "place", "arms"] : List Str).contains "done" = true then _ else _) from ?_)
    rw [show (["name", "place", "arms"] : List Str).contains "done" = false from by decide +kernel]
    refine iteF ⟨_, rfl, rfl, _, rfl, ?_⟩
    rw [show (!decide (V.str "done" = V.str "done")) = false from by decide +kernel]
    exact iteF (q _ _ (same_upd np) (.str _))
  | r5 =>
    refine (show (if (["name", "place", "arms"] : List Str).contains "5 row" = true then _ else _) from ?_)
    rw [show (["name", "place", "arms"] : List Str).contains "5 row" = false from by decide +kernel]
    refine iteF ⟨_, rfl, rfl, _, rfl, ?_⟩
    rw [show (!decide (V.str "5 row" = V.str "done")) = true from by decide +kernel]
    have t1 := same_upd (o := .tup ((["name", "place", "arms"] : List Str).map V.str)) np
    refine iteT ⟨by show 2 ≤ sizeLine; decide, fun p1 n1 => ⟨_, rfl, "5 row", 0, 53, rfl, rfl, by decide +kernel, by decide +kernel, _, 5, rfl, by decide +kernel, by decide +kernel, _, rfl, 2, rfl, "5 row", rfl, by decide +kernel, ?_⟩⟩
    rw [show cutS "5 row" (some 2) none = "row" from by decide +kernel]
    refine ⟨by show 3 ≤ sizeLine; decide, fun p2 n2 => ?_⟩
    exact q _ _ (t1.trans ((same_upd n1).trans (same_upd n2))) (.tup upd_same (.cons (.tup (same_upd n2 _ _ upd_same) (.cons (.str _) (.cons (.str _) .nil))) (.cons (.int _) (.cons (.str _) .nil))))
  | r6 =>
    refine (show (if (["name", "place", "arms"] : List Str).contains "6 row" = true then _ else _) from ?_)
    rw [show (["name", "place", "arms"] : List Str).contains "6 row" = false from by decide +kernel]
    refine iteF ⟨_, rfl, rfl, _, rfl, ?_⟩
    rw [show (!decide (V.str "6 row" = V.str "done")) = true from by decide +kernel]
    have t1 := same_upd (o := .tup ((["name", "place", "arms"] : List Str).map V.str)) np
    refine iteT ⟨by show 2 ≤ sizeLine; decide, fun p1 n1 => ⟨_, rfl, "6 row", 0, 54, rfl, rfl, by decide +kernel, by decide +kernel, _, 6, rfl, by decide +kernel, by decide +kernel, _, rfl, 2, rfl, "6 row", rfl, by decide +kernel, ?_⟩⟩
    rw [show cutS "6 row" (some 2) none = "row" from by decide +kernel]
    refine ⟨by show 3 ≤ sizeLine; decide, fun p2 n2 => ?_⟩
    exact q _ _ (t1.trans ((same_upd n1).trans (same_upd n2))) (.tup upd_same (.cons (.tup (same_upd n2 _ _ upd_same) (.cons (.str _) (.cons (.str _) .nil))) (.cons (.int _) (.cons (.str _) .nil))))
/-- the tables stay when a list is written -/
theorem tabs_but {T : List (Addr × Str)} {H H' : Hp} {a : Addr} {xs : List V} (t : Tabs T H) (ha : H a = some (.lst xs)) (b : But a H H') : Tabs T H' := fun p hp => by
  obtain ⟨ps, h1, h2, h3⟩ := t p hp
  refine ⟨ps, b _ _ (fun z => by rw [z, ha] at h1; cases h1) h1, h2, fun pos cv hc => ?_⟩
  obtain ⟨c, e, h4⟩ := h3 pos cv hc
  exact ⟨c, e, b _ _ (fun z => by rw [z, ha] at h4; cases h4) h4⟩
theorem ext_but {H H' : Hp} {a : Addr} (b : But a H H') {H0 : Hp} (e : ExtN H0 H) (n : H0 a = none) : ExtN H0 H' := fun c o h k => b c o (fun z => by rw [z, n] at h; cases h) (e c o h k)
section
variable {P : Program} {w : World} {K : PySem.W.Frag} {mg : Str → Option Value} {base : Heap}
def spLW (K : PySem.W.Frag) (TS : List (Addr × Str)) : Sp := fun vs H Q _ => ∃ (a : Addr) (ns : List Int), vs = [.ref a] ∧ SqL K H a (ns.map V.int) ∧ Tabs TS H ∧ ∀ H', Q (.bl true) H'
abbrev nsLW : List Str := ["_law_script", "_law_cell", "_law_source", "_law_scene_here", "_law_place", "_law_arms", "_law_due", "_law_found"]
theorem scLW : FnScope nsLW ["_law_script"] (defScope sLaw) := fnScope_by (by decide +kernel)
theorem kLW {f fC fS fE fR fO fB : Addr} {fd fdC fdS fdE fdR fdO fdB : FuncData} {TS : List (Addr × Str)} (F : Fun K "law" "law" sLaw f fd)
    (FC : FnOk P w K mg base CX0 1 fC fdC ["_law_script", "_law_k"] (spCellAt K)) (gC : mg "_law_cell_at" = some (.ref fC)) (kC : PySem.W.keepIn K (.ref fC) = true) (bC : Binds K fdC ["_law_script", "_law_k"] [])
    (FS : FnOk P w K mg base CX0 1 fS fdS ["_law_cell"] (spSrc)) (gS : mg "_law_source_of" = some (.ref fS)) (kS : PySem.W.keepIn K (.ref fS) = true) (bS : Binds K fdS ["_law_cell"] [])
    (FE : FnOk P w K mg base CX0 4 fE fdE ["_law_source"] (spSC K)) (gE : mg "_law_scene" = some (.ref fE)) (kE : PySem.W.keepIn K (.ref fE) = true) (bE : Binds K fdE ["_law_source"] [])
    (FR : ∀ N : Nm, FnOk P w K mg base CX0 2 fR fdR ["_law_source", "_law_scene_here"] (spRW K N)) (gR : mg "_law_rows" = some (.ref fR)) (kR : PySem.W.keepIn K (.ref fR) = true) (bR : Binds K fdR ["_law_source", "_law_scene_here"] [])
    (FO : ∀ N : Nm, N.Ok → FnOk P w K mg base CX0 67 fO fdO ["_law_scene_here", "_law_body"] (spOM K TS N)) (gO : mg "_law_of_main" = some (.ref fO)) (kO : PySem.W.keepIn K (.ref fO) = true) (bO : Binds K fdO ["_law_scene_here", "_law_body"] [])
    (FB : ∀ N : Nm, N.Ok → FnOk P w K mg base CX0 68 fB fdB ["_law_scene_here"] (spBR K TS N)) (gB : mg "_law_bodies_right" = some (.ref fB)) (kB : PySem.W.keepIn K (.ref fB) = true) (bB : Binds K fdB ["_law_scene_here"] [])
    (mi : mg "isinstance" = none) (mstr : mg "str" = none) (mint : mg "int" = none) : FnOk P w K mg base CX0 69 f fd ["_law_script"] (spLW K TS) := by
  refine F.ok (k := 68) scLW (fun vs H Q E h => ?_) (fun cdv A outer s H vs Q E hr hsp => ?_)
  · obtain ⟨a, ns, rfl, _⟩ := h
    rfl
  obtain ⟨a, ns, rfl, hns, hTb, q⟩ := hsp
  have hu2 := hr.units
  have hu := hu_of hr
  have FR := fnok_ex (p := fun _ => True) (sp := spRW K) (fun N _ => FR N)
  have FO := fnok_ex (p := Nm.Ok) (sp := spOM K TS) FO
  have FB := fnok_ex (p := Nm.Ok) (sp := spBR K TS) FB
  refine ⟨_, (pss_cons (ps_for PassesOwn.never rfl (pi_list (pe_op op_cat (pe_lst (pa_cons (pe_call FC (hr.mono (by decide)) (by rfl) gC kC bC .nil pass0 (pa_cons (pv 0) (pa_cons pe_int pa_nil))) pa_nil)) (pe_slice sl_list (pv 0) (po_some pe_int) (po_some pe_int)))) (pg_name (i := 1) scLW.nd rfl (Or.inl rfl)) (pss_cons (ps_set (i := 2) scLW.nd rfl (.inl rfl) (pe_call FS (hr.mono (by decide)) (by rfl) gS kS bS .nil pass0 (pa_cons (pv 1) pa_nil))) (pss_cons (ps_set (i := 3) scLW.nd rfl (.inl rfl) (pe_call FE (hr.mono (by decide)) (by rfl) gE kE bE .nil pass0 (pa_cons (pv 2) pa_nil))) (pss_cons (ps_for PassesOwn.never rfl (pi_list (pe_call FR (hr.mono (by decide)) (by rfl) gR kR bR .nil pass0 (pa_cons (pv 2) (pa_cons (pv 3) pa_nil)))) (pg_tupk K rfl (n := 3) rfl (pgs_cons (pg_name (i := 4) scLW.nd rfl (Or.inl rfl)) (pgs_cons (pg_name (i := 5) scLW.nd rfl (Or.inl rfl)) (pgs_cons (pg_name (i := 6) scLW.nd rfl (Or.inl rfl)) pgs_nil)))) (pss_cons (ps_set (i := 4) scLW.nd rfl (.inl rfl) (pe_ifExp (pt_val (pe_callB call_isi (by rfl) mi boot_isinstance (pa_cons (pv 4) (pa_cons (pe_bltn (v := .ty "str") (by rfl) mstr boot_str rfl) pa_nil)))) (pe_tup (pa_cons (pv 4) pa_nil)) (pv 4))) (pss_cons (ps_set (i := 7) scLW.nd rfl (.inl rfl) (pe_call FO (hr.mono (by decide)) (by rfl) gO kO bO .nil pass0 (pa_cons (pv 3) (pa_cons (pe_op op_cat (pe_dget hu (pv 3) pe_str (fun _ _ => rfl)) (pe_lst (pa_cons (pe_tup (pa_cons pe_str (pa_cons (pv 4) (pa_cons (pv 5) pa_nil)))) pa_nil))) pa_nil)))) (pss_cons (ps_if (pt_cmpR op_in_seq (pv 6) (pe_tup (pa_cons pe_str (pa_cons pe_str (pa_cons pe_str pa_nil)))) (by rfl)) (pss_one (ps_set (i := 6) scLW.nd rfl (.inl rfl) (pe_tup (pa_cons (pe_tup (pa_cons pe_str (pa_cons pe_str pa_nil))) (pa_cons pe_int (pa_cons (pv 6) pa_nil)))))) (pss_one (ps_if (pt_cmpR op_ne (pv 6) pe_str (nomark _)) (pss_one (ps_set (i := 6) scLW.nd rfl (.inl rfl) (pe_tup (pa_cons (pe_tup (pa_cons pe_str (pa_cons pe_str pa_nil))) (pa_cons (pe_callTy call_int_str (by rfl) mint boot_int (pa_cons (pe_ix ix_str (pv 6) pe_int (fun _ _ => rfl)) pa_nil)) (pa_cons (pe_slice sl_str (pv 6) (po_some pe_int) po_none) pa_nil)))))) pss_nil))) (pss_one (ps_if (pt_cmpR (op_neD hu2) (pv 7) (pv 6) (nomark _)) (pss_one (ps_ret pe_bl)) pss_nil)))))) (pss_one (ps_if (pt_not (pt_val (pe_call FB (hr.mono (by decide)) (by rfl) gB kB bB .nil pass0 (pa_cons (pv 3) pa_nil)))) (pss_one (ps_ret pe_bl)) pss_nil))))))
    (pss_one (ps_ret pe_bl))), ?_⟩
  refine ⟨_, rfl, a, ns, 0, rfl, hns, ⟨by show 1 ≤ sizeLine; decide, fun l1 nl1 => ?_⟩⟩
  have s1 := same_upd (o := .lst [.int (ns.getD 0 0)]) nl1
  refine ⟨_, rfl, 1, rfl, 6, rfl, a, _, rfl, s1.seq hns, fun l2 nl2 => ?_⟩
  have s2 := s1.trans (same_upd (o := .lst (cutV (ns.map V.int) (some 1) (some 6))) nl2)
  have c6 : (cutV (ns.map V.int) (some 1) (some 6)).length ≤ ns.length := by
    have := cutV_length (ns.map V.int) (some 1) (some 6)
    rw [List.length_map] at this
    exact this
  refine ⟨l1, l2, _, _, rfl, rfl, same_upd nl2 _ _ upd_same, upd_same, ?_, fun l3 nl3 => ?_⟩
  · have h6 : (cutV (ns.map V.int) (some 1) (some 6)).length ≤ 6 := by
      unfold cutV
      rw [List.length_take]
      refine Nat.le_trans (Nat.min_le_left _ _) (Nat.le_trans (Nat.sub_le _ _) ?_)
      unfold HT.sIx
      simp
      omega
    show 1 + _ ≤ sizeLine
    exact Nat.le_trans (Nat.add_le_add_left h6 1) (by decide)
  have hit : ∀ y ∈ [V.int (ns.getD 0 0)] ++ cutV (ns.map V.int) (some 1) (some 6), ∃ c, y = V.int c := fun y hy => by
    rcases List.mem_append.mp hy with hy | hy
    · exact ⟨_, List.mem_singleton.mp hy⟩
    · unfold cutV at hy
      obtain ⟨c, _, e⟩ := List.mem_map.mp (List.mem_of_mem_drop (List.mem_of_mem_take hy))
      exact ⟨c, e.symm⟩
  have s3 := s2.trans (same_upd (o := .lst ([.int (ns.getD 0 0)] ++ cutV (ns.map V.int) (some 1) (some 6))) nl3)
  generalize hxs : [V.int (ns.getD 0 0)] ++ cutV (ns.map V.int) (some 1) (some 6) = xs at *
  obtain ⟨H3, e3⟩ : ∃ H3, upd (upd (upd H l1 (.lst [.int (ns.getD 0 0)])) l2 (.lst (cutV (ns.map V.int) (some 1) (some 6)))) l3 (.lst xs) = H3 := ⟨_, rfl⟩
  rw [e3] at s3
  have hl3 : H3 l3 = some (.lst xs) := by rw [← e3]; exact upd_same
  rw [e3]
  refine ⟨l3, rfl, ⟨xs, SqL.of hl3⟩, for_list (xs := xs) (fun n σ' H' => (∃ x1 x2 x3 x4 x5 x6 x7, σ' = [some (.ref a), x1, x2, x3, x4, x5, x6, x7]) ∧ ExtN H3 H' ∧ Tabs TS H') ?_ ?_ ?_ ?_⟩
  · exact ⟨⟨_, _, _, _, _, _, _, rfl⟩, ExtN.refl _, Tabs.ext hTb s3⟩
  · rintro n σ' H' _ ⟨_, e1, _⟩
    exact SqL.of (e1 _ _ hl3 (fun _ z => nomatch z))
  · rintro n y σ' H' hy ⟨⟨x1, x2, x3, x4, x5, x6, x7, rfl⟩, e1, T1⟩
    obtain ⟨c, rfl⟩ := hit y (List.mem_of_getElem? hy)
    change tSeq _ _ _ [some (.ref a), some (.int c), x2, x3, x4, x5, x6, x7] _
    refine ⟨_, rfl, c, rfl, fun vx vy vz p np => ?_⟩
    have t4 := same_upd (o := .lst [.int vx, .int vy, .int vz]) np
    change tSeq _ _ _ [some (.ref a), some (.int c), some (.ref p), x3, x4, x5, x6, x7] _
    refine ⟨_, rfl, p, rfl, ⟨vx, vy, vz, upd_same⟩, fun D kvs N x8 x9 H5 hN bt hsc => ?_⟩
    have e5 : ExtN H' H5 := ext_but bt (ExtN.of t4) np
    have T5 : Tabs TS H5 := tabs_but (Tabs.ext T1 t4) upd_same bt
    change tSeq _ _ _ [some (.ref a), some (.int c), some (.ref p), some (.ref D), x4, x5, x6, x7] _
    refine ⟨_, rfl, _, rfl, N, trivial, .ref p, D, kvs, x8, x9, rfl, hsc, fun v6 H6 s6 hrows => ?_⟩
    obtain ⟨ar, xr, rfl, har, hxr⟩ := dx_list hrows
    refine ⟨ar, rfl, ⟨xr, SqL.of har⟩, for_list (xs := xr) (fun m σ' H' => (∃ x4 x5 x6 x7, σ' = [some (.ref a), some (.int c), some (.ref p), some (.ref D), x4, x5, x6, x7]) ∧ ExtN H6 H' ∧ Tabs TS H') ?_ ?_ ?_ ?_⟩
    · exact ⟨⟨_, _, _, _, rfl⟩, ExtN.refl _, Tabs.ext T5 s6⟩
    · rintro m σ' H7 _ ⟨_, e7, _⟩
      exact SqL.of (e7 _ _ har (fun _ z => nomatch z))
    · rintro m y σ' H7 hy7 ⟨⟨z4, z5, z6, z7, rfl⟩, e7, T7⟩
      obtain ⟨d, hd, hdx⟩ := hxr.get hy7
      obtain ⟨pl, arm, dd, out, rfl, r1, r2, r3, r4⟩ := rows_ok hN d (List.mem_of_getElem? hd)
      obtain ⟨aq, y0, y1, y2, rfl, haq, q0, q1, q2⟩ := trip_at (Dx.tabs e7 hdx)
      obtain rfl := q2.strOf
      refine ⟨aq, _, rfl, .inl (.inl haq), rfl, _, _, rfl, _, _, rfl, _, _, rfl, rfl, ?_⟩
      change tSeq _ _ _ [some (.ref a), some (.int c), some (.ref p), some (.ref D), some y0, some y1, some (.str dd), z7] _
      have eD : ExtN H5 H7 := (ExtN.of s6).trans e7
      refine pl_go rfl q0 fun vP H8 s8 hP => ?_
      change tSeq _ _ _ [some (.ref a), some (.int c), some (.ref p), some (.ref D), some vP, some y1, some (.str dd), z7] _
      have e8 : ExtN H5 H8 := eD.trans (ExtN.of s8)
      obtain ⟨hD0, hlk⟩ := id hsc
      obtain ⟨vl, hl1, hl0⟩ := hlk "lets" (L (letsD N)) rfl
      have hD8 : hid [] H8 D = some (.dK kvs) := by rw [hid_nil]; exact e8 _ _ hD0 (fun _ z => nomatch z)
      have hl8 : Dx K (hid [] H8) vl (L (letsD N)) := by rw [hid_nil]; exact Dx.tabs e8 hl0
      have hP8 : Dx K (hid [] H8) vP (plD pl) := by rw [hid_nil]; exact hP
      have hA8 : Dx K (hid [] H8) y1 arm := by rw [hid_nil]; exact Dx.mono s8 q1
      have hsh : SeqAt.shaped out = true := by cases r4 <;> decide +kernel
      have hcl := SeqAt.canLay_of_shaped hsh
      refine ⟨_, rfl, (evd_cat (K := K) (R := []) (B := hid [] H8) (evd_get rfl hD8 hl1 hl8) (evd_lst (eva_cons (evd_tup (eva_cons (evd_str "match") (eva_cons (evd_var rfl hP8) (eva_cons (evd_var rfl hA8) eva_nil))) (Nat.le_of_ble_eq_true rfl)) eva_nil) (Nat.le_of_ble_eq_true rfl)) (Nat.le_of_ble_eq_true rfl)) H8 (Same.refl _) (Full.nil _) _ fun vB HB sB hB => ?_⟩
      rw [hid_nil] at hB
      refine ⟨N, hN, D, vB, L (letsD N ++ [T [S "match", plD pl, arm]]), kvs, sceneF N x8 x9, rfl, Tabs.ext T7 (s8.trans sB), ScnAt.tabs hsc (e8.trans (ExtN.of sB)), rfl, rfl, hB, r1, r2, fun u9 H9 e9 T9 hu9 => ?_⟩
      rw [r3] at hu9
      change tSeq _ _ _ [some (.ref a), some (.int c), some (.ref p), some (.ref D), some vP, some y1, some (.str dd), some u9] _
      refine duer_go r4 fun vD HD sD hDD => ?_
      refine ⟨_, rfl, _, rfl, out, out, Dx.dp (Dx.mono sD hu9) hcl, Dx.dp hDD hcl, hsh, hsh, _, rfl, ?_⟩
      rw [SeqAt.eqv_refl _ hcl]
      exact iteF ⟨⟨_, _, _, _, rfl⟩, ((e7.trans (ExtN.of (s8.trans sB))).trans e9).trans (ExtN.of sD), Tabs.ext T9 sD⟩
    · rintro σ' H7 ⟨⟨z4, z5, z6, z7, rfl⟩, e7, T7⟩
      have eD : ExtN H5 H7 := (ExtN.of s6).trans e7
      refine ⟨_, rfl, N, hN, D, kvs, x8, x9, rfl, T7, ScnAt.tabs hsc eD, fun H8 e8 T8 => ⟨true, rfl, ?_⟩⟩
      exact iteF ⟨⟨_, _, _, _, _, _, _, rfl⟩, ((e1.trans e5).trans eD).trans e8, T8⟩
  · rintro σ' H' _
    exact q H'
end
end Lm

/-! From one look at the program: what Program promises. -/
namespace Lm
open PySem PySem.Spec PyProof.Rows L2
open C8 (Cal)
theorem prog_ok {P : Program} {w : World} {K : PySem.W.Frag} {mg : Str → Option Value} {h : Heap} {ck : PySem.W.Frag → Bool} {fs : List He.DefD} (X : K.In h) (G : h.Ns mainGlobals mg) (c : He.SaysQ ck (fnsP ++ fs) K) (cp : ckP K = true) (T : Tab P w K (He.ga K "SIZES") sizesV) (base : Heap) :
    ∃ fdI, Mk K (He.ga K "Program") (He.ma K (He.ga K "Program") "__init__") ∧ FnOk P w K mg base (L2.CX P w) 63 (He.ma K (He.ga K "Program") "__init__") fdI ["self", "kinds", "modules"] (spPI K (He.ga K "Program") (He.ga K "NoProgram")) ∧ mg "Program" = some (.ref (He.ga K "Program")) ∧ Binds K fdI ["self", "kinds", "modules"] [] := by
  unfold ckP at cp
  simp only [Bool.and_eq_true] at cp
  obtain ⟨a1, wr, e1, e2, e3, e4⟩ := cp
  have A : ∀ (i : Nat) {f : He.Fa}, fasP[i]? = some f → f.ok K = true := fun i f hf => List.all_eq_true.mp a1 f (List.mem_of_getElem? hf)
  have wrd : ∀ H, SqT K H (He.ga K "WORDS") (words.map V.str) := fun H => He.tupB_ok wr H
  have B : Bt mg := ⟨He.free_ok X G (A 69 rfl), He.free_ok X G (A 70 rfl), He.free_ok X G (A 71 rfl), He.free_ok X G (A 72 rfl), He.free_ok X G (A 73 rfl), He.free_ok X G (A 74 rfl), He.free_ok X G (A 75 rfl), He.free_ok X G (A 76 rfl), He.free_ok X G (A 77 rfl), He.free_ok X G (A 78 rfl), He.free_ok X G (A 79 rfl), He.free_ok X G (A 80 rfl), He.free_ok X G (A 81 rfl)⟩
  have C : Cs K mg := ⟨(let ⟨t, e⟩ := He.str_ok X G (x := "LETTERS") (z := letters) (A 82 rfl); ⟨_, e, t, rfl⟩), ⟨_, ⟨_, He.glo_ok X G (x := "WORDS") (A 83 rfl), rfl⟩, fun H => wrd H⟩, (let ⟨t, e⟩ := He.int_ok X G (x := "LONGEST_NAME") (i := 8) (A 84 rfl); ⟨_, e, t, rfl⟩)⟩
  have CK : Ks mg := ⟨(let ⟨t, e⟩ := He.int_ok X G (x := "MOST_KINDS") (i := 8) (A 85 rfl); ⟨_, e, t, rfl⟩), (let ⟨t, e⟩ := He.int_ok X G (x := "MOST_PARTS") (i := 4) (A 86 rfl); ⟨_, e, t, rfl⟩), (let ⟨t, e⟩ := He.int_ok X G (x := "MOST_LEAVES") (i := 8) (A 87 rfl); ⟨_, e, t, rfl⟩)⟩
  have CM : Ms mg := ⟨(let ⟨t, e⟩ := He.int_ok X G (x := "MOST_MODULES") (i := 6) (A 88 rfl); ⟨_, e, t, rfl⟩), (let ⟨t, e⟩ := He.int_ok X G (x := "MOST_FUNCTIONS") (i := 8) (A 89 rfl); ⟨_, e, t, rfl⟩), (let ⟨t, e⟩ := He.int_ok X G (x := "MOST_PARAMETERS") (i := 4) (A 90 rfl); ⟨_, e, t, rfl⟩)⟩
  have CN3 : Cn mg := ⟨(let ⟨t, e⟩ := He.int_ok X G (x := "MOST_STATEMENTS") (i := 40) (A 91 rfl); ⟨_, e, t, rfl⟩), (let ⟨t, e⟩ := He.int_ok X G (x := "MOST_BODIES") (i := 6) (A 92 rfl); ⟨_, e, t, rfl⟩), (let ⟨t, e⟩ := He.int_ok X G (x := "MOST_VARIABLES") (i := 8) (A 93 rfl); ⟨_, e, t, rfl⟩)⟩
  have asked : ∃ u, mg "MOST_ASKED" = some u ∧ RelV (.int 4) u := (let ⟨t, e⟩ := He.int_ok X G (x := "MOST_ASKED") (i := 4) (A 94 rfl); ⟨_, e, t, rfl⟩)
  have gS := He.glo_ok X G (x := "SIZES") (A 95 rfl)
  obtain ⟨d_is_row, Z_is_row⟩ := c.def_ 0 (d := dG "is_row" sIsRow) rfl
  have F_is_row := Fun.ofD (st := sIsRow) Z_is_row
  have b_is_row : Binds K d_is_row ["value"] [] := F_is_row.binds fun _ _ _ _ _ _ us hl => match us, hl with | [_], _ => rfl
  have g_is_row := He.glo_ok X G (x := "is_row") (A 0 rfl)
  have k_is_row : FnOk P w K mg base CX0 1 _ d_is_row ["value"] (spB1 K isRow) := cIsRow F_is_row B
  have c_is_row := calOf F_is_row g_is_row b_is_row k_is_row
  obtain ⟨d_is_tuple, Z_is_tuple⟩ := c.def_ 1 (d := dG "is_tuple" sIsTuple) rfl
  have F_is_tuple := Fun.ofD (st := sIsTuple) Z_is_tuple
  have b_is_tuple : Binds K d_is_tuple ["value", "size"] [] := F_is_tuple.binds fun _ _ _ _ _ _ us hl => match us, hl with | [_, _], _ => rfl
  have g_is_tuple := He.glo_ok X G (x := "is_tuple") (A 1 rfl)
  have k_is_tuple : FnOk P w K mg base CX0 1 _ d_is_tuple ["value", "size"] (spTupN K) := cIsTuple F_is_tuple B
  have c_is_tuple := calOf F_is_tuple g_is_tuple b_is_tuple k_is_tuple
  obtain ⟨d_is_name, Z_is_name⟩ := c.def_ 2 (d := dG "is_name" sIsName) rfl
  have F_is_name := Fun.ofD (st := sIsName) Z_is_name
  have b_is_name : Binds K d_is_name ["value"] [] := F_is_name.binds fun _ _ _ _ _ _ us hl => match us, hl with | [_], _ => rfl
  have g_is_name := He.glo_ok X G (x := "is_name") (A 2 rfl)
  have k_is_name : FnOk P w K mg base CX0 1 _ d_is_name ["value"] (spB1 K isName) := cIsName F_is_name B C
  have c_is_name := calOf F_is_name g_is_name b_is_name k_is_name
  obtain ⟨d_is_named_row, Z_is_named_row⟩ := c.def_ 3 (d := dG "is_named_row" sNamedRow) rfl
  have F_is_named_row := Fun.ofD (st := sNamedRow) Z_is_named_row
  have b_is_named_row : Binds K d_is_named_row ["value", "size", "least", "most"] [] := F_is_named_row.binds fun _ _ _ _ _ _ us hl => match us, hl with | [_, _, _, _], _ => rfl
  have g_is_named_row := He.glo_ok X G (x := "is_named_row") (A 3 rfl)
  have k_is_named_row : FnOk P w K mg base CX0 2 _ d_is_named_row ["value", "size", "least", "most"] (spNamed K) := cNamed F_is_named_row B C F_is_row g_is_row b_is_row F_is_tuple g_is_tuple b_is_tuple F_is_name g_is_name b_is_name
  have c_is_named_row := calOf F_is_named_row g_is_named_row b_is_named_row k_is_named_row
  obtain ⟨d_is_function_name, Z_is_function_name⟩ := c.def_ 4 (d := dG "is_function_name" sFnName) rfl
  have F_is_function_name := Fun.ofD (st := sFnName) Z_is_function_name
  have b_is_function_name : Binds K d_is_function_name ["value", "functions"] [] := F_is_function_name.binds fun _ _ _ _ _ _ us hl => match us, hl with | [_, _], _ => rfl
  have g_is_function_name := He.glo_ok X G (x := "is_function_name") (A 4 rfl)
  have k_is_function_name : FnOk P w K mg base CX0 2 _ d_is_function_name ["value", "functions"] (spFnName K) := kFnName F_is_function_name B c_is_tuple
  have c_is_function_name := calOf F_is_function_name g_is_function_name b_is_function_name k_is_function_name
  obtain ⟨d_rebuilt, Z_rebuilt⟩ := c.def_ 49 (d := dG "rebuilt" sRebuilt) rfl
  have F_rebuilt := Fun.ofD (st := sRebuilt) Z_rebuilt
  have b_rebuilt : Binds K d_rebuilt ["value", "listed"] [] := F_rebuilt.binds fun _ _ _ _ _ _ us hl => match us, hl with | [_, _], _ => rfl
  have g_rebuilt := He.glo_ok X G (x := "rebuilt") (A 96 rfl)
  have k_rebuilt : FnOk P w K mg base CX0 2 _ d_rebuilt ["value", "listed"] (spRb K) := kRebuilt F_rebuilt B c_is_row
  have c_rebuilt := calOf F_rebuilt g_rebuilt b_rebuilt k_rebuilt
  obtain ⟨d_nested, Z_nested⟩ := c.def_ 5 (d := dG "nested" sNested) rfl
  have F_nested := Fun.ofD (st := sNested) Z_nested
  have b_nested : Binds K d_nested ["value"] [] := F_nested.binds fun _ _ _ _ _ _ us hl => match us, hl with | [_], _ => rfl
  have g_nested := He.glo_ok X G (x := "nested") (A 5 rfl)
  have k_nested : FnOk P w K mg base CX0 62 _ d_nested ["value"] (spNest K 60) := kNest F_nested c_rebuilt
  have c_nested := calOf F_nested g_nested b_nested k_nested
  obtain ⟨d_is_headed, Z_is_headed⟩ := c.def_ 6 (d := dG "is_headed" sHeaded) rfl
  have F_is_headed := Fun.ofD (st := sHeaded) Z_is_headed
  have b_is_headed : Binds K d_is_headed ["element"] [] := F_is_headed.binds fun _ _ _ _ _ _ us hl => match us, hl with | [_], _ => rfl
  have g_is_headed := He.glo_ok X G (x := "is_headed") (A 6 rfl)
  have k_is_headed : FnOk P w K mg base CX0 2 _ d_is_headed ["element"] (spB1 K isHeaded) := kHeaded F_is_headed B c_is_tuple c_is_name
  have c_is_headed := calOf F_is_headed g_is_headed b_is_headed k_is_headed
  obtain ⟨d_names_of_sort, Z_names_of_sort⟩ := c.def_ 7 (d := dG "names_of_sort" sNamesOf) rfl
  have F_names_of_sort := Fun.ofD (st := sNamesOf) Z_names_of_sort
  have b_names_of_sort : Binds K d_names_of_sort ["kinds", "sort"] [] := F_names_of_sort.binds fun _ _ _ _ _ _ us hl => match us, hl with | [_, _], _ => rfl
  have g_names_of_sort := He.glo_ok X G (x := "names_of_sort") (A 7 rfl)
  have k_names_of_sort : FnOk P w K mg base CX0 3 _ d_names_of_sort ["kinds", "sort"] (spNamesOf K) := kNamesOf F_names_of_sort c_is_headed
  have c_names_of_sort := calOf F_names_of_sort g_names_of_sort b_names_of_sort k_names_of_sort
  obtain ⟨d_is_one_of, Z_is_one_of⟩ := c.def_ 8 (d := dG "is_one_of" sOneOf) rfl
  have F_is_one_of := Fun.ofD (st := sOneOf) Z_is_one_of
  have b_is_one_of : Binds K d_is_one_of ["value", "names"] [] := F_is_one_of.binds fun _ _ _ _ _ _ us hl => match us, hl with | [_, _], _ => rfl
  have g_is_one_of := He.glo_ok X G (x := "is_one_of") (A 8 rfl)
  have k_is_one_of : FnOk P w K mg base CX0 1 _ d_is_one_of ["value", "names"] (spOneOf K) := kOneOf F_is_one_of B
  have c_is_one_of := calOf F_is_one_of g_is_one_of b_is_one_of k_is_one_of
  obtain ⟨d_parts_size, Z_parts_size⟩ := c.def_ 9 (d := dG "parts_size" sPartsSize) rfl
  have F_parts_size := Fun.ofD (st := sPartsSize) Z_parts_size
  have b_parts_size : Binds K d_parts_size ["parts", "sizes"] [] := F_parts_size.binds fun _ _ _ _ _ _ us hl => match us, hl with | [_, _], _ => rfl
  have g_parts_size := He.glo_ok X G (x := "parts_size") (A 9 rfl)
  have k_parts_size : FnOk P w K mg base CX0 1 _ d_parts_size ["parts", "sizes"] (spPS K) := kPS F_parts_size B
  have c_parts_size := calOf F_parts_size g_parts_size b_parts_size k_parts_size
  obtain ⟨d_parts_fit, Z_parts_fit⟩ := c.def_ 10 (d := dG "parts_fit" sPartsFit) rfl
  have F_parts_fit := Fun.ofD (st := sPartsFit) Z_parts_fit
  have b_parts_fit : Binds K d_parts_fit ["element", "sizes", "anywhere"] [] := F_parts_fit.binds fun _ _ _ _ _ _ us hl => match us, hl with | [_, _, _], _ => rfl
  have g_parts_fit := He.glo_ok X G (x := "parts_fit") (A 10 rfl)
  have k_parts_fit : FnOk P w K mg base CX0 3 _ d_parts_fit ["element", "sizes", "anywhere"] (spPF K) := kPF F_parts_fit B CK c_is_named_row c_is_one_of c_parts_size
  have c_parts_fit := calOf F_parts_fit g_parts_fit b_parts_fit k_parts_fit
  obtain ⟨d_sorts_of, Z_sorts_of⟩ := c.def_ 11 (d := dG "sorts_of" sSortsOf) rfl
  have F_sorts_of := Fun.ofD (st := sSortsOf) Z_sorts_of
  have b_sorts_of : Binds K d_sorts_of ["kinds"] [] := F_sorts_of.binds fun _ _ _ _ _ _ us hl => match us, hl with | [_], _ => rfl
  have g_sorts_of := He.glo_ok X G (x := "sorts_of") (A 11 rfl)
  have k_sorts_of : FnOk P w K mg base CX0 1 _ d_sorts_of ["kinds"] (spSO K) := kSO F_sorts_of
  have c_sorts_of := calOf F_sorts_of g_sorts_of b_sorts_of k_sorts_of
  obtain ⟨d_is_kind, Z_is_kind⟩ := c.def_ 12 (d := dG "is_kind" sIsKind) rfl
  have F_is_kind := Fun.ofD (st := sIsKind) Z_is_kind
  have b_is_kind : Binds K d_is_kind ["sorts", "value"] [] := F_is_kind.binds fun _ _ _ _ _ _ us hl => match us, hl with | [_, _], _ => rfl
  have g_is_kind := He.glo_ok X G (x := "is_kind") (A 12 rfl)
  have k_is_kind : FnOk P w K mg base CX0 1 _ d_is_kind ["sorts", "value"] (spSK K isKindD fun _ => True) := kIsKind F_is_kind B
  have c_is_kind := calOf F_is_kind g_is_kind b_is_kind k_is_kind
  obtain ⟨d_is_choice, Z_is_choice⟩ := c.def_ 13 (d := dG "is_choice" sIsChoice) rfl
  have F_is_choice := Fun.ofD (st := sIsChoice) Z_is_choice
  have b_is_choice : Binds K d_is_choice ["sorts", "kind"] [] := F_is_choice.binds fun _ _ _ _ _ _ us hl => match us, hl with | [_, _], _ => rfl
  have g_is_choice := He.glo_ok X G (x := "is_choice") (A 13 rfl)
  have k_is_choice : FnOk P w K mg base CX0 1 _ d_is_choice ["sorts", "kind"] (spSK K isChoiceD noneStr) := kIsChoice F_is_choice B
  have c_is_choice := calOf F_is_choice g_is_choice b_is_choice k_is_choice
  obtain ⟨d_check_kinds, Z_check_kinds⟩ := c.def_ 14 (d := dG "check_kinds" sCheckKinds) rfl
  have F_check_kinds := Fun.ofD (st := sCheckKinds) Z_check_kinds
  have b_check_kinds : Binds K d_check_kinds ["kinds"] [] := F_check_kinds.binds fun _ _ _ _ _ _ us hl => match us, hl with | [_], _ => rfl
  have g_check_kinds := He.glo_ok X G (x := "check_kinds") (A 14 rfl)
  have k_check_kinds : FnOk P w K mg base CX0 4 _ d_check_kinds ["kinds"] (spCK K) := kCK F_check_kinds B CK c_is_row c_names_of_sort c_is_headed c_parts_fit c_parts_size
  have c_check_kinds := calOf F_check_kinds g_check_kinds b_check_kinds k_check_kinds
  obtain ⟨d_field_kind, Z_field_kind⟩ := c.def_ 15 (d := dG "field_kind" sFieldKind) rfl
  have F_field_kind := Fun.ofD (st := sFieldKind) Z_field_kind
  have b_field_kind : Binds K d_field_kind ["sorts", "kind", "field"] [] := F_field_kind.binds fun _ _ _ _ _ _ us hl => match us, hl with | [_, _, _], _ => rfl
  have g_field_kind := He.glo_ok X G (x := "field_kind") (A 15 rfl)
  have k_field_kind : FnOk P w K mg base CX0 2 _ d_field_kind ["sorts", "kind", "field"] (spFK K) := kFK F_field_kind B c_is_choice
  have c_field_kind := calOf F_field_kind g_field_kind b_field_kind k_field_kind
  obtain ⟨d_place_kind, Z_place_kind⟩ := c.def_ 16 (d := dG "place_kind" sPlaceKind) rfl
  have F_place_kind := Fun.ofD (st := sPlaceKind) Z_place_kind
  have b_place_kind : Binds K d_place_kind ["sorts", "variables", "place"] [] := F_place_kind.binds fun _ _ _ _ _ _ us hl => match us, hl with | [_, _, _], _ => rfl
  have g_place_kind := He.glo_ok X G (x := "place_kind") (A 16 rfl)
  have k_place_kind : FnOk P w K mg base CX0 3 _ d_place_kind ["sorts", "variables", "place"] (spPK K) := kPK F_place_kind B c_field_kind
  have c_place_kind := calOf F_place_kind g_place_kind b_place_kind k_place_kind
  obtain ⟨d_overlap, Z_overlap⟩ := c.def_ 17 (d := dG "overlap" sOverlap) rfl
  have F_overlap := Fun.ofD (st := sOverlap) Z_overlap
  have b_overlap : Binds K d_overlap ["place", "other"] [] := F_overlap.binds fun _ _ _ _ _ _ us hl => match us, hl with | [_, _], _ => rfl
  have g_overlap := He.glo_ok X G (x := "overlap") (A 17 rfl)
  have k_overlap : FnOk P w K mg base CX0 1 _ d_overlap ["place", "other"] (spOV K) := kOV F_overlap B
  have c_overlap := calOf F_overlap g_overlap b_overlap k_overlap
  obtain ⟨d_row_kinds, Z_row_kinds⟩ := c.def_ 18 (d := dG "row_kinds" sRowKinds) rfl
  have F_row_kinds := Fun.ofD (st := sRowKinds) Z_row_kinds
  have b_row_kinds : Binds K d_row_kinds ["sorts", "variables", "places"] [] := F_row_kinds.binds fun _ _ _ _ _ _ us hl => match us, hl with | [_, _, _], _ => rfl
  have g_row_kinds := He.glo_ok X G (x := "row_kinds") (A 18 rfl)
  have k_row_kinds : FnOk P w K mg base CX0 4 _ d_row_kinds ["sorts", "variables", "places"] (spRK K) := kRK F_row_kinds B c_is_row c_place_kind c_overlap
  have c_row_kinds := calOf F_row_kinds g_row_kinds b_row_kinds k_row_kinds
  obtain ⟨d_bodies_of, Z_bodies_of⟩ := c.def_ 19 (d := dG "bodies_of" sBodiesOf) rfl
  have F_bodies_of := Fun.ofD (st := sBodiesOf) Z_bodies_of
  have b_bodies_of : Binds K d_bodies_of ["statement"] [] := F_bodies_of.binds fun _ _ _ _ _ _ us hl => match us, hl with | [_], _ => rfl
  have g_bodies_of := He.glo_ok X G (x := "bodies_of") (A 19 rfl)
  have k_bodies_of : FnOk P w K mg base CX0 1 _ d_bodies_of ["statement"] (spBodies K) := kBodies F_bodies_of B
  have c_bodies_of := calOf F_bodies_of g_bodies_of b_bodies_of k_bodies_of
  obtain ⟨d_has_own_break, Z_has_own_break⟩ := c.def_ 20 (d := dG "has_own_break" sOwnBreak) rfl
  have F_has_own_break := Fun.ofD (st := sOwnBreak) Z_has_own_break
  have b_has_own_break : Binds K d_has_own_break ["body"] [] := F_has_own_break.binds fun _ _ _ _ _ _ us hl => match us, hl with | [_], _ => rfl
  have g_has_own_break := He.glo_ok X G (x := "has_own_break") (A 20 rfl)
  have k_has_own_break : FnOk P w K mg base CX0 7 _ d_has_own_break ["body"] (spOB K 6) := kOB F_has_own_break B g_has_own_break b_has_own_break c_bodies_of 6
  have c_has_own_break := calOf F_has_own_break g_has_own_break b_has_own_break k_has_own_break
  obtain ⟨d_ends_itself, Z_ends_itself⟩ := c.def_ 21 (d := dG "ends_itself" sEndsItself) rfl
  have F_ends_itself := Fun.ofD (st := sEndsItself) Z_ends_itself
  have b_ends_itself : Binds K d_ends_itself ["body"] [] := F_ends_itself.binds fun _ _ _ _ _ _ us hl => match us, hl with | [_], _ => rfl
  have g_ends_itself := He.glo_ok X G (x := "ends_itself") (A 21 rfl)
  have k_ends_itself : FnOk P w K mg base CX0 8 _ d_ends_itself ["body"] (spEI K 6) := kEI F_ends_itself B c_has_own_break
  have c_ends_itself := calOf F_ends_itself g_ends_itself b_ends_itself k_ends_itself
  obtain ⟨d_declare, Z_declare⟩ := c.def_ 22 (d := dG "declare" sDeclare) rfl
  have F_declare := Fun.ofD (st := sDeclare) Z_declare
  have b_declare : Binds K d_declare ["sorts", "statement", "declared"] [] := F_declare.binds fun _ _ _ _ _ _ us hl => match us, hl with | [_, _, _], _ => rfl
  have g_declare := He.glo_ok X G (x := "declare") (A 22 rfl)
  have k_declare : FnOk P w K mg base CX0 4 _ d_declare ["sorts", "statement", "declared"] (spDecl K) := kDecl F_declare B c_place_kind
  have c_declare := calOf F_declare g_declare b_declare k_declare
  obtain ⟨d_is_statement, Z_is_statement⟩ := c.def_ 23 (d := dG "is_statement" sIsStatement) rfl
  have F_is_statement := Fun.ofD (st := sIsStatement) Z_is_statement
  have b_is_statement : Binds K d_is_statement ["value"] [] := F_is_statement.binds fun _ _ _ _ _ _ us hl => match us, hl with | [_], _ => rfl
  have g_is_statement := He.glo_ok X G (x := "is_statement") (A 23 rfl)
  have k_is_statement : FnOk P w K mg base CX0 1 _ d_is_statement ["value"] (spD K isStmt) := kIsStmt F_is_statement B gS T
  have c_is_statement := calOf F_is_statement g_is_statement b_is_statement k_is_statement
  obtain ⟨d_stands_right, Z_stands_right⟩ := c.def_ 24 (d := dG "stands_right" sStandsRight) rfl
  have F_stands_right := Fun.ofD (st := sStandsRight) Z_stands_right
  have b_stands_right : Binds K d_stands_right ["word", "looped", "last"] [] := F_stands_right.binds fun _ _ _ _ _ _ us hl => match us, hl with | [_, _, _], _ => rfl
  have g_stands_right := He.glo_ok X G (x := "stands_right") (A 24 rfl)
  have k_stands_right : FnOk P w K mg base CX0 1 _ d_stands_right ["word", "looped", "last"] (spSR) := kSR F_stands_right
  have c_stands_right := calOf F_stands_right g_stands_right b_stands_right k_stands_right
  obtain ⟨d_added, Z_added⟩ := c.def_ 25 (d := dG "added" sAdded) rfl
  have F_added := Fun.ofD (st := sAdded) Z_added
  have b_added : Binds K d_added ["statement"] [] := F_added.binds fun _ _ _ _ _ _ us hl => match us, hl with | [_], _ => rfl
  have g_added := He.glo_ok X G (x := "added") (A 25 rfl)
  have k_added : FnOk P w K mg base CX0 1 _ d_added ["statement"] (spAdded K) := kAdded F_added B
  have c_added := calOf F_added g_added b_added k_added
  obtain ⟨d_head_fits, Z_head_fits⟩ := c.def_ 26 (d := dG "head_fits" sHeadFits) rfl
  have F_head_fits := Fun.ofD (st := sHeadFits) Z_head_fits
  have b_head_fits : Binds K d_head_fits ["sorts", "parameters", "result"] [] := F_head_fits.binds fun _ _ _ _ _ _ us hl => match us, hl with | [_, _, _], _ => rfl
  have g_head_fits := He.glo_ok X G (x := "head_fits") (A 26 rfl)
  have k_head_fits : FnOk P w K mg base CX0 3 _ d_head_fits ["sorts", "parameters", "result"] (spHF K) := kHF F_head_fits B CM c_is_named_row c_is_kind
  have c_head_fits := calOf F_head_fits g_head_fits b_head_fits k_head_fits
  obtain ⟨d_is_module, Z_is_module⟩ := c.def_ 27 (d := dG "is_module" sIsModule) rfl
  have F_is_module := Fun.ofD (st := sIsModule) Z_is_module
  have b_is_module : Binds K d_is_module ["sorts", "value"] [] := F_is_module.binds fun _ _ _ _ _ _ us hl => match us, hl with | [_, _], _ => rfl
  have g_is_module := He.glo_ok X G (x := "is_module") (A 27 rfl)
  have k_is_module : FnOk P w K mg base CX0 4 _ d_is_module ["sorts", "value"] (spIM K) := kIM F_is_module B CM c_is_tuple c_is_name c_is_named_row c_head_fits
  have c_is_module := calOf F_is_module g_is_module b_is_module k_is_module
  obtain ⟨d_Scope_init, Z_Scope_init⟩ := c.def_ 28 (d := dN "Scope" "__init__" mScopeInit) rfl
  have F_Scope_init : Fun K "__init__" "Scope.__init__" mScopeInit (He.ma K (He.ga K "Scope") "__init__") d_Scope_init := Fun.ofD (st := mScopeInit) Z_Scope_init
  have b_Scope_init : Binds K d_Scope_init ["self", "variables", "depth", "looped"] [] := F_Scope_init.binds fun _ _ _ _ _ _ us hl => match us, hl with | [_, _, _, _], _ => rfl
  obtain ⟨d_Scope_inner, Z_Scope_inner⟩ := c.def_ 29 (d := dN "Scope" "inner" mScopeInner) rfl
  have F_Scope_inner : Fun K "inner" "Scope.inner" mScopeInner (He.ma K (He.ga K "Scope") "inner") d_Scope_inner := Fun.ofD (st := mScopeInner) Z_Scope_inner
  have b_Scope_inner : Binds K d_Scope_inner ["self", "looped"] [] := F_Scope_inner.binds fun _ _ _ _ _ _ us hl => match us, hl with | [_, _], _ => rfl
  obtain ⟨d_FunctionCheck_init, Z_FunctionCheck_init⟩ := c.def_ 30 (d := dN "FunctionCheck" "__init__" mFcInit) rfl
  have F_FunctionCheck_init : Fun K "__init__" "FunctionCheck.__init__" mFcInit (He.ma K (He.ga K "FunctionCheck") "__init__") d_FunctionCheck_init := Fun.ofD (st := mFcInit) Z_FunctionCheck_init
  have b_FunctionCheck_init : Binds K d_FunctionCheck_init ["self", "sorts", "heads", "where", "cases"] [] := F_FunctionCheck_init.binds fun _ _ _ _ _ _ us hl => match us, hl with | [_, _, _, _, _], _ => rfl
  obtain ⟨d_FunctionCheck_check_all, Z_FunctionCheck_check_all⟩ := c.def_ 31 (d := dN "FunctionCheck" "check_all" mCheckAll) rfl
  have F_FunctionCheck_check_all : Fun K "check_all" "FunctionCheck.check_all" mCheckAll (He.ma K (He.ga K "FunctionCheck") "check_all") d_FunctionCheck_check_all := Fun.ofD (st := mCheckAll) Z_FunctionCheck_check_all
  have b_FunctionCheck_check_all : Binds K d_FunctionCheck_check_all ["self", "body"] [] := F_FunctionCheck_check_all.binds fun _ _ _ _ _ _ us hl => match us, hl with | [_, _], _ => rfl
  obtain ⟨d_FunctionCheck_check_body, Z_FunctionCheck_check_body⟩ := c.def_ 32 (d := dN "FunctionCheck" "check_body" mCheckBody) rfl
  have F_FunctionCheck_check_body : Fun K "check_body" "FunctionCheck.check_body" mCheckBody (He.ma K (He.ga K "FunctionCheck") "check_body") d_FunctionCheck_check_body := Fun.ofD (st := mCheckBody) Z_FunctionCheck_check_body
  have b_FunctionCheck_check_body : Binds K d_FunctionCheck_check_body ["self", "body", "scope"] [] := F_FunctionCheck_check_body.binds fun _ _ _ _ _ _ us hl => match us, hl with | [_, _, _], _ => rfl
  obtain ⟨d_FunctionCheck_check_inside, Z_FunctionCheck_check_inside⟩ := c.def_ 33 (d := dN "FunctionCheck" "check_inside" mCheckInside) rfl
  have F_FunctionCheck_check_inside : Fun K "check_inside" "FunctionCheck.check_inside" mCheckInside (He.ma K (He.ga K "FunctionCheck") "check_inside") d_FunctionCheck_check_inside := Fun.ofD (st := mCheckInside) Z_FunctionCheck_check_inside
  have b_FunctionCheck_check_inside : Binds K d_FunctionCheck_check_inside ["self", "statement", "scope"] [] := F_FunctionCheck_check_inside.binds fun _ _ _ _ _ _ us hl => match us, hl with | [_, _, _], _ => rfl
  obtain ⟨d_FunctionCheck_reason, Z_FunctionCheck_reason⟩ := c.def_ 34 (d := dN "FunctionCheck" "reason" mReason) rfl
  have F_FunctionCheck_reason : Fun K "reason" "FunctionCheck.reason" mReason (He.ma K (He.ga K "FunctionCheck") "reason") d_FunctionCheck_reason := Fun.ofD (st := mReason) Z_FunctionCheck_reason
  have b_FunctionCheck_reason : Binds K d_FunctionCheck_reason ["self", "statement", "scope", "last"] [] := F_FunctionCheck_reason.binds fun _ _ _ _ _ _ us hl => match us, hl with | [_, _, _, _], _ => rfl
  obtain ⟨d_FunctionCheck_is_new, Z_FunctionCheck_is_new⟩ := c.def_ 35 (d := dN "FunctionCheck" "is_new" mIsNew) rfl
  have F_FunctionCheck_is_new : Fun K "is_new" "FunctionCheck.is_new" mIsNew (He.ma K (He.ga K "FunctionCheck") "is_new") d_FunctionCheck_is_new := Fun.ofD (st := mIsNew) Z_FunctionCheck_is_new
  have b_FunctionCheck_is_new : Binds K d_FunctionCheck_is_new ["self", "variable"] [] := F_FunctionCheck_is_new.binds fun _ _ _ _ _ _ us hl => match us, hl with | [_, _], _ => rfl
  obtain ⟨d_FunctionCheck_names_fit, Z_FunctionCheck_names_fit⟩ := c.def_ 36 (d := dN "FunctionCheck" "names_fit" mNamesFit) rfl
  have F_FunctionCheck_names_fit : Fun K "names_fit" "FunctionCheck.names_fit" mNamesFit (He.ma K (He.ga K "FunctionCheck") "names_fit") d_FunctionCheck_names_fit := Fun.ofD (st := mNamesFit) Z_FunctionCheck_names_fit
  have b_FunctionCheck_names_fit : Binds K d_FunctionCheck_names_fit ["self", "statement"] [] := F_FunctionCheck_names_fit.binds fun _ _ _ _ _ _ us hl => match us, hl with | [_, _], _ => rfl
  obtain ⟨d_FunctionCheck_arm_names_fit, Z_FunctionCheck_arm_names_fit⟩ := c.def_ 37 (d := dN "FunctionCheck" "arm_names_fit" mArmNames) rfl
  have F_FunctionCheck_arm_names_fit : Fun K "arm_names_fit" "FunctionCheck.arm_names_fit" mArmNames (He.ma K (He.ga K "FunctionCheck") "arm_names_fit") d_FunctionCheck_arm_names_fit := Fun.ofD (st := mArmNames) Z_FunctionCheck_arm_names_fit
  have b_FunctionCheck_arm_names_fit : Binds K d_FunctionCheck_arm_names_fit ["self", "arms"] [] := F_FunctionCheck_arm_names_fit.binds fun _ _ _ _ _ _ us hl => match us, hl with | [_, _], _ => rfl
  obtain ⟨d_FunctionCheck_places_fit, Z_FunctionCheck_places_fit⟩ := c.def_ 38 (d := dN "FunctionCheck" "places_fit" mPlacesFit) rfl
  have F_FunctionCheck_places_fit : Fun K "places_fit" "FunctionCheck.places_fit" mPlacesFit (He.ma K (He.ga K "FunctionCheck") "places_fit") d_FunctionCheck_places_fit := Fun.ofD (st := mPlacesFit) Z_FunctionCheck_places_fit
  have b_FunctionCheck_places_fit : Binds K d_FunctionCheck_places_fit ["self", "statement", "variables"] [] := F_FunctionCheck_places_fit.binds fun _ _ _ _ _ _ us hl => match us, hl with | [_, _, _], _ => rfl
  obtain ⟨d_FunctionCheck_takes, Z_FunctionCheck_takes⟩ := c.def_ 39 (d := dN "FunctionCheck" "takes" mTakes) rfl
  have F_FunctionCheck_takes : Fun K "takes" "FunctionCheck.takes" mTakes (He.ma K (He.ga K "FunctionCheck") "takes") d_FunctionCheck_takes := Fun.ofD (st := mTakes) Z_FunctionCheck_takes
  have b_FunctionCheck_takes : Binds K d_FunctionCheck_takes ["self", "place", "variables", "result"] [] := F_FunctionCheck_takes.binds fun _ _ _ _ _ _ us hl => match us, hl with | [_, _, _, _], _ => rfl
  obtain ⟨d_FunctionCheck_move_fits, Z_FunctionCheck_move_fits⟩ := c.def_ 40 (d := dN "FunctionCheck" "move_fits" mMoveFits) rfl
  have F_FunctionCheck_move_fits : Fun K "move_fits" "FunctionCheck.move_fits" mMoveFits (He.ma K (He.ga K "FunctionCheck") "move_fits") d_FunctionCheck_move_fits := Fun.ofD (st := mMoveFits) Z_FunctionCheck_move_fits
  have b_FunctionCheck_move_fits : Binds K d_FunctionCheck_move_fits ["self", "statement", "variables"] [] := F_FunctionCheck_move_fits.binds fun _ _ _ _ _ _ us hl => match us, hl with | [_, _, _], _ => rfl
  obtain ⟨d_FunctionCheck_call_fits, Z_FunctionCheck_call_fits⟩ := c.def_ 41 (d := dN "FunctionCheck" "call_fits" mCallFits) rfl
  have F_FunctionCheck_call_fits : Fun K "call_fits" "FunctionCheck.call_fits" mCallFits (He.ma K (He.ga K "FunctionCheck") "call_fits") d_FunctionCheck_call_fits := Fun.ofD (st := mCallFits) Z_FunctionCheck_call_fits
  have b_FunctionCheck_call_fits : Binds K d_FunctionCheck_call_fits ["self", "statement", "variables"] [] := F_FunctionCheck_call_fits.binds fun _ _ _ _ _ _ us hl => match us, hl with | [_, _, _], _ => rfl
  obtain ⟨d_FunctionCheck_ask_fits, Z_FunctionCheck_ask_fits⟩ := c.def_ 42 (d := dN "FunctionCheck" "ask_fits" mAskFits) rfl
  have F_FunctionCheck_ask_fits : Fun K "ask_fits" "FunctionCheck.ask_fits" mAskFits (He.ma K (He.ga K "FunctionCheck") "ask_fits") d_FunctionCheck_ask_fits := Fun.ofD (st := mAskFits) Z_FunctionCheck_ask_fits
  have b_FunctionCheck_ask_fits : Binds K d_FunctionCheck_ask_fits ["self", "statement", "variables"] [] := F_FunctionCheck_ask_fits.binds fun _ _ _ _ _ _ us hl => match us, hl with | [_, _, _], _ => rfl
  obtain ⟨d_FunctionCheck_arms_fit, Z_FunctionCheck_arms_fit⟩ := c.def_ 43 (d := dN "FunctionCheck" "arms_fit" mArmsFit) rfl
  have F_FunctionCheck_arms_fit : Fun K "arms_fit" "FunctionCheck.arms_fit" mArmsFit (He.ma K (He.ga K "FunctionCheck") "arms_fit") d_FunctionCheck_arms_fit := Fun.ofD (st := mArmsFit) Z_FunctionCheck_arms_fit
  have b_FunctionCheck_arms_fit : Binds K d_FunctionCheck_arms_fit ["self", "statement", "variables"] [] := F_FunctionCheck_arms_fit.binds fun _ _ _ _ _ _ us hl => match us, hl with | [_, _, _], _ => rfl
  obtain ⟨d_Program_init, Z_Program_init⟩ := c.def_ 44 (d := dN "Program" "__init__" mPgInit) rfl
  have F_Program_init : Fun K "__init__" "Program.__init__" mPgInit (He.ma K (He.ga K "Program") "__init__") d_Program_init := Fun.ofD (st := mPgInit) Z_Program_init
  have b_Program_init : Binds K d_Program_init ["self", "kinds", "modules"] [] := F_Program_init.binds fun _ _ _ _ _ _ us hl => match us, hl with | [_, _, _], _ => rfl
  obtain ⟨d_NoProgram_init, Z_NoProgram_init⟩ := c.def_ 45 (d := dN "NoProgram" "__init__" mNpInit) rfl
  have F_NoProgram_init : Fun K "__init__" "NoProgram.__init__" mNpInit (He.ma K (He.ga K "NoProgram") "__init__") d_NoProgram_init := Fun.ofD (st := mNpInit) Z_NoProgram_init
  have b_NoProgram_init : Binds K d_NoProgram_init ["self", "where", "at", "why"] [] := F_NoProgram_init.binds fun _ _ _ _ _ _ us hl => match us, hl with | [_, _, _, _], _ => rfl
  have kS : ScC K (He.ga K "Scope") := ⟨He.cls_ok (A 28 rfl), He.noat_ok (A 29 rfl), He.noat_ok (A 30 rfl), He.noat_ok (A 31 rfl)⟩
  have kF : FcC K (He.ga K "FunctionCheck") := ⟨He.cls_ok (A 32 rfl), He.noat_ok (A 33 rfl), He.noat_ok (A 34 rfl), He.noat_ok (A 35 rfl), He.noat_ok (A 36 rfl), He.noat_ok (A 37 rfl), He.noat_ok (A 38 rfl), He.noat_ok (A 39 rfl)⟩
  have kP : PgC K (He.ga K "Program") := ⟨He.cls_ok (A 40 rfl), He.noat_ok (A 41 rfl), He.noat_ok (A 42 rfl), He.noat_ok (A 43 rfl), He.noat_ok (A 44 rfl)⟩
  have MS := He.mkr_ok (A 45 rfl)
  have MF := He.mkr_ok (A 46 rfl)
  have MP := He.mkr_ok (A 47 rfl)
  have gSc := He.glo_ok X G (x := "Scope") (A 48 rfl)
  have gFc := He.glo_ok X G (x := "FunctionCheck") (A 49 rfl)
  have gPg := He.glo_ok X G (x := "Program") (A 50 rfl)
  have kScI0 := kScI (P := P) (w := w) (mg := mg) (base := base) F_Scope_init kS
  have k_Scope_inner : FnOk P w K mg base CX0 3 _ d_Scope_inner ["self", "looped"] (spInner (He.ga K "Scope")) := kInner F_Scope_inner B kS MS gSc kScI0 b_Scope_init
  have m_Scope_inner : MCal P w K mg base (He.ga K "Scope") 3 "inner" (spInner (He.ga K "Scope")) := ⟨_, _, _, k_Scope_inner, He.meth_ok (A 51 rfl), b_Scope_inner⟩
  have k_FunctionCheck_is_new : FnOk P w K mg base CX0 2 _ d_FunctionCheck_is_new ["self", "variable"] (spIsNew K (He.ga K "FunctionCheck")) := kIsNew F_FunctionCheck_is_new kF c_is_name
  have m_FunctionCheck_is_new : MCal P w K mg base (He.ga K "FunctionCheck") 2 "is_new" (spIsNew K (He.ga K "FunctionCheck")) := ⟨_, _, _, k_FunctionCheck_is_new, He.meth_ok (A 52 rfl), b_FunctionCheck_is_new⟩
  have k_FunctionCheck_takes : FnOk P w K mg base CX0 4 _ d_FunctionCheck_takes ["self", "place", "variables", "result"] (spTakes K (He.ga K "FunctionCheck")) := kTakes F_FunctionCheck_takes kF c_place_kind
  have m_FunctionCheck_takes : MCal P w K mg base (He.ga K "FunctionCheck") 4 "takes" (spTakes K (He.ga K "FunctionCheck")) := ⟨_, _, _, k_FunctionCheck_takes, He.meth_ok (A 53 rfl), b_FunctionCheck_takes⟩
  have k_FunctionCheck_move_fits : FnOk P w K mg base CX0 4 _ d_FunctionCheck_move_fits ["self", "statement", "variables"] (spMove K (He.ga K "FunctionCheck")) := kMove F_FunctionCheck_move_fits kF c_place_kind c_overlap
  have m_FunctionCheck_move_fits : MCal P w K mg base (He.ga K "FunctionCheck") 4 "move_fits" (spMove K (He.ga K "FunctionCheck")) := ⟨_, _, _, k_FunctionCheck_move_fits, He.meth_ok (A 54 rfl), b_FunctionCheck_move_fits⟩
  have k_FunctionCheck_arm_names_fit : FnOk P w K mg base CX0 3 _ d_FunctionCheck_arm_names_fit ["self", "arms"] (spArmNames K (He.ga K "FunctionCheck")) := kArmNames F_FunctionCheck_arm_names_fit kF c_is_row c_is_tuple m_FunctionCheck_is_new
  have m_FunctionCheck_arm_names_fit : MCal P w K mg base (He.ga K "FunctionCheck") 3 "arm_names_fit" (spArmNames K (He.ga K "FunctionCheck")) := ⟨_, _, _, k_FunctionCheck_arm_names_fit, He.meth_ok (A 55 rfl), b_FunctionCheck_arm_names_fit⟩
  have k_FunctionCheck_names_fit : FnOk P w K mg base CX0 4 _ d_FunctionCheck_names_fit ["self", "statement"] (spStmt K (He.ga K "FunctionCheck") namesFit) := kNamesFit F_FunctionCheck_names_fit kF c_is_name c_is_function_name m_FunctionCheck_is_new m_FunctionCheck_arm_names_fit
  have m_FunctionCheck_names_fit : MCal P w K mg base (He.ga K "FunctionCheck") 4 "names_fit" (spStmt K (He.ga K "FunctionCheck") namesFit) := ⟨_, _, _, k_FunctionCheck_names_fit, He.meth_ok (A 56 rfl), b_FunctionCheck_names_fit⟩
  have k_FunctionCheck_arms_fit : FnOk P w K mg base CX0 4 _ d_FunctionCheck_arms_fit ["self", "statement", "variables"] (spArms K (He.ga K "FunctionCheck")) := kArms F_FunctionCheck_arms_fit B kF c_is_row c_is_tuple c_place_kind
  have m_FunctionCheck_arms_fit : MCal P w K mg base (He.ga K "FunctionCheck") 4 "arms_fit" (spArms K (He.ga K "FunctionCheck")) := ⟨_, _, _, k_FunctionCheck_arms_fit, He.meth_ok (A 57 rfl), b_FunctionCheck_arms_fit⟩
  have k_FunctionCheck_ask_fits : FnOk P w K mg base CX0 5 _ d_FunctionCheck_ask_fits ["self", "statement", "variables"] (spAsk K (He.ga K "FunctionCheck") fun st vars d => askFits st.srt vars (at2 d) (at3 d)) := kAsk F_FunctionCheck_ask_fits B asked kF c_row_kinds c_place_kind
  have m_FunctionCheck_ask_fits : MCal P w K mg base (He.ga K "FunctionCheck") 5 "ask_fits" (spAsk K (He.ga K "FunctionCheck") fun st vars d => askFits st.srt vars (at2 d) (at3 d)) := ⟨_, _, _, k_FunctionCheck_ask_fits, He.meth_ok (A 58 rfl), b_FunctionCheck_ask_fits⟩
  have k_FunctionCheck_call_fits : FnOk P w K mg base CX0 5 _ d_FunctionCheck_call_fits ["self", "statement", "variables"] (spCallF K (He.ga K "FunctionCheck")) := kCallF F_FunctionCheck_call_fits kF c_row_kinds m_FunctionCheck_takes
  have m_FunctionCheck_call_fits : MCal P w K mg base (He.ga K "FunctionCheck") 5 "call_fits" (spCallF K (He.ga K "FunctionCheck")) := ⟨_, _, _, k_FunctionCheck_call_fits, He.meth_ok (A 59 rfl), b_FunctionCheck_call_fits⟩
  have k_FunctionCheck_places_fit : FnOk P w K mg base CX0 6 _ d_FunctionCheck_places_fit ["self", "statement", "variables"] (spPF2 K (He.ga K "FunctionCheck")) := kPlaces F_FunctionCheck_places_fit kF c_place_kind c_is_choice m_FunctionCheck_move_fits m_FunctionCheck_call_fits m_FunctionCheck_ask_fits m_FunctionCheck_takes
  have m_FunctionCheck_places_fit : MCal P w K mg base (He.ga K "FunctionCheck") 6 "places_fit" (spPF2 K (He.ga K "FunctionCheck")) := ⟨_, _, _, k_FunctionCheck_places_fit, He.meth_ok (A 60 rfl), b_FunctionCheck_places_fit⟩
  have k_FunctionCheck_reason : FnOk P w K mg base CX0 7 _ d_FunctionCheck_reason ["self", "statement", "scope", "last"] (spReason K (He.ga K "FunctionCheck") (He.ga K "Scope")) := kReason F_FunctionCheck_reason B CN3 kF kS c_is_statement c_is_kind c_stands_right c_added m_FunctionCheck_names_fit m_FunctionCheck_places_fit m_FunctionCheck_arms_fit
  have m_FunctionCheck_reason : MCal P w K mg base (He.ga K "FunctionCheck") 7 "reason" (spReason K (He.ga K "FunctionCheck") (He.ga K "Scope")) := ⟨_, _, _, k_FunctionCheck_reason, He.meth_ok (A 61 rfl), b_FunctionCheck_reason⟩
  have N : Np P w K mg base (He.ga K "NoProgram") := ⟨He.glo_ok X G (x := "NoProgram") (A 62 rfl), (errB_ok e1).o, fun f hf => He.eqO_ok (List.all_eq_true.mp e2 f hf), _, _, He.eqO_ok e3, of_decide_eq_true e4, kNpI F_NoProgram_init, b_NoProgram_init⟩
  have k_FunctionCheck_check_body : FnOk P w K mg base (L2.CX P w) 22 _ d_FunctionCheck_check_body ["self", "body", "scope"] (spCB K (He.ga K "FunctionCheck") (He.ga K "Scope") (He.ga K "NoProgram") 7) := kCBn F_FunctionCheck_check_body F_FunctionCheck_check_inside B N kF kS (He.meth_ok (A 63 rfl)) b_FunctionCheck_check_body (He.meth_ok (A 64 rfl)) b_FunctionCheck_check_inside c_is_row c_declare c_bodies_of m_FunctionCheck_reason m_Scope_inner 7
  have m_FunctionCheck_check_body : MCalX P w K mg base (He.ga K "FunctionCheck") 22 "check_body" (spCB K (He.ga K "FunctionCheck") (He.ga K "Scope") (He.ga K "NoProgram") 7) := ⟨_, _, _, k_FunctionCheck_check_body, He.meth_ok (A 63 rfl), b_FunctionCheck_check_body⟩
  have k_FunctionCheck_check_all : FnOk P w K mg base (L2.CX P w) 23 _ d_FunctionCheck_check_all ["self", "body"] (spCA K (He.ga K "FunctionCheck") (He.ga K "NoProgram")) := kCA F_FunctionCheck_check_all B kF kS MS gSc kScI0 b_Scope_init m_FunctionCheck_check_body
  have m_FunctionCheck_check_all : MCalX P w K mg base (He.ga K "FunctionCheck") 23 "check_all" (spCA K (He.ga K "FunctionCheck") (He.ga K "NoProgram")) := ⟨_, _, _, k_FunctionCheck_check_all, He.meth_ok (A 65 rfl), b_FunctionCheck_check_all⟩
  obtain ⟨d_check_main, Z_check_main⟩ := c.def_ 46 (d := dG "check_main" sCheckMain) rfl
  have F_check_main := Fun.ofD (st := sCheckMain) Z_check_main
  have b_check_main : Binds K d_check_main ["functions"] [] := F_check_main.binds fun _ _ _ _ _ _ us hl => match us, hl with | [_], _ => rfl
  have g_check_main := He.glo_ok X G (x := "check_main") (A 66 rfl)
  have k_check_main : FnOk P w K mg base (L2.CX P w) 3 _ d_check_main ["functions"] (spCM K (He.ga K "NoProgram")) := kCM F_check_main B N
  have c_check_main : CalX P w K mg base 3 "check_main" (spCM K (He.ga K "NoProgram")) := ⟨_, _, _, k_check_main, g_check_main, F_check_main.kp, b_check_main⟩
  obtain ⟨d_check_modules, Z_check_modules⟩ := c.def_ 47 (d := dG "check_modules" sCheckModules) rfl
  have F_check_modules := Fun.ofD (st := sCheckModules) Z_check_modules
  have b_check_modules : Binds K d_check_modules ["sorts", "modules"] [] := F_check_modules.binds fun _ _ _ _ _ _ us hl => match us, hl with | [_, _], _ => rfl
  have g_check_modules := He.glo_ok X G (x := "check_modules") (A 67 rfl)
  have k_check_modules : FnOk P w K mg base (L2.CX P w) 5 _ d_check_modules ["sorts", "modules"] (spCMo K (He.ga K "NoProgram")) := kCMo F_check_modules B CM N c_is_row c_is_module
  have c_check_modules : CalX P w K mg base 5 "check_modules" (spCMo K (He.ga K "NoProgram")) := ⟨_, _, _, k_check_modules, g_check_modules, F_check_modules.kp, b_check_modules⟩
  obtain ⟨d_check_program, Z_check_program⟩ := c.def_ 48 (d := dG "check_program" sCheckProgram) rfl
  have F_check_program := Fun.ofD (st := sCheckProgram) Z_check_program
  have b_check_program : Binds K d_check_program ["kinds", "modules", "cases"] [] := F_check_program.binds fun _ _ _ _ _ _ us hl => match us, hl with | [_, _, _], _ => rfl
  have g_check_program := He.glo_ok X G (x := "check_program") (A 68 rfl)
  have kFc0 := kFcI (P := P) (w := w) (mg := mg) (base := base) F_FunctionCheck_init kF
  have k_check_program : FnOk P w K mg base (L2.CX P w) 24 _ d_check_program ["kinds", "modules", "cases"] (spCP K (He.ga K "NoProgram")) := kCP F_check_program B N kF c_check_kinds c_sorts_of c_check_modules c_check_main MF gFc kFc0 b_FunctionCheck_init m_FunctionCheck_check_all c_ends_itself
  have c_check_program : CalX P w K mg base 24 "check_program" (spCP K (He.ga K "NoProgram")) := ⟨_, _, _, k_check_program, g_check_program, F_check_program.kp, b_check_program⟩
  exact ⟨_, MP, kPI F_Program_init kP c_check_program c_nested c_sorts_of, gPg, b_Program_init⟩
end Lm

/-! From the same look: what the law promises. -/
namespace Lm
open PySem PySem.Spec PyProof.Rows L2
open C8 (Cal)
theorem ref_of {v : Value} (h : refB v = true) : v = .ref (refA v) := by
  cases v <;> first | rfl | cases h
theorem funC_of {K : PySem.W.Frag} {x q : Str} {st : Stmt} {f : Addr} {fd : FuncData} (F : Fun K x q st f fd) (h : codeB K f = true) : FunC K x q st f fd (codeAd K f) := by
  obtain ⟨oc, od, kV, doc, pm, an, cdv, ct, osl, rfl, lk, hcd⟩ := F.ex
  have h2 : refB cdv = true := by
    unfold codeB at h
    rw [lk] at h
    exact h
  have h3 : codeAd K f = refA cdv := by
    unfold codeAd
    rw [lk] <;> rfl
  have e := ref_of h2
  rw [← h3] at e
  subst e
  exact ⟨⟨oc, od, kV, doc, pm, an, ct, osl, rfl, lk, hcd⟩⟩
theorem law_ok {P : Program} {w : World} {K : PySem.W.Frag} {mg : Str → Option Value} {h : Heap} {ck : PySem.W.Frag → Bool} (X : K.In h) (G : h.Ns mainGlobals mg) (c : He.SaysQ ck (fnsP ++ fnsL) K) (cp : ckP K = true) (cl : ckL K = true) (T : Tab P w K (He.ga K "SIZES") sizesV) :
    ∃ fd, (∀ (s : Shared) (v : Value), BindsTo s fd ⟨[v], []⟩ [("_law_script", v)]) ∧ ∀ base : Heap, LamX.TabB base mg (codeAd K (He.ga K "_law_of_main")) (tabP K) → FnOk P w K mg base CX0 69 (He.ga K "law") fd ["_law_script"] (spLW K [(tabP K, qOM)]) := by
  have cp0 := cp
  unfold ckP at cp
  simp only [Bool.and_eq_true] at cp
  obtain ⟨_, _, e1, e2, _, _⟩ := cp
  unfold ckL at cl
  simp only [Bool.and_eq_true, decide_eq_true_eq] at cl
  obtain ⟨gl, fr, al, sd, xm, cb, _, _⟩ := cl
  have fre : ∀ x i, freeNames[i]? = some x → mg x = none := fun x i hx => PySem.W.mg_none_of X G (He.eqO_ok (List.all_eq_true.mp fr x (List.mem_of_getElem? hx)))
  have AL : AloF K mg (He.ga K) (He.ga K "NoProgram") := ⟨(errB_ok e1).e, fun x hx => by
    have z := List.all_eq_true.mp al x (List.contains_iff_mem.mp hx)
    simp only [Bool.and_eq_true, decide_eq_true_eq] at z
    exact ⟨PySem.W.mg_of X G (He.eqO_ok z.1), z.2⟩⟩
  have SD : SdF K mg (He.ga K) (He.ga K "NoProgram") := ⟨rfl, (errB_ok e1).x, fun y hy => He.eqO_ok (List.all_eq_true.mp e2 y (List.contains_iff_mem.mp hy)), xm, fun y hy => PySem.W.mg_of X G (He.eqO_ok (List.all_eq_true.mp sd y (List.contains_iff_mem.mp hy)))⟩
  obtain ⟨d_cell_at, Z_cell_at⟩ := c.def_ 50 (d := dG "_law_cell_at" sCell) rfl
  have F_cell_at := Fun.ofD (st := sCell) Z_cell_at
  have b_cell_at : Binds K d_cell_at ["_law_script", "_law_k"] [] := F_cell_at.binds fun _ _ _ _ _ _ us hl => match us, hl with | [_, _], _ => rfl
  have g_cell_at : mg "_law_cell_at" = some (.ref (He.ga K "_law_cell_at")) := PySem.W.mg_of X G (He.eqO_ok (List.all_eq_true.mp gl "_law_cell_at" (List.mem_of_getElem? (i := 0) rfl)))
  obtain ⟨d_source_of, Z_source_of⟩ := c.def_ 51 (d := dG "_law_source_of" sSrc) rfl
  have F_source_of := Fun.ofD (st := sSrc) Z_source_of
  have b_source_of : Binds K d_source_of ["_law_cell"] [] := F_source_of.binds fun _ _ _ _ _ _ us hl => match us, hl with | [_], _ => rfl
  have g_source_of : mg "_law_source_of" = some (.ref (He.ga K "_law_source_of")) := PySem.W.mg_of X G (He.eqO_ok (List.all_eq_true.mp gl "_law_source_of" (List.mem_of_getElem? (i := 1) rfl)))
  obtain ⟨d_next, Z_next⟩ := c.def_ 52 (d := dG "_law_next" sNext) rfl
  have F_next := Fun.ofD (st := sNext) Z_next
  have b_next : Binds K d_next ["_law_source", "_law_many"] [] := F_next.binds fun _ _ _ _ _ _ us hl => match us, hl with | [_, _], _ => rfl
  have g_next : mg "_law_next" = some (.ref (He.ga K "_law_next")) := PySem.W.mg_of X G (He.eqO_ok (List.all_eq_true.mp gl "_law_next" (List.mem_of_getElem? (i := 2) rfl)))
  obtain ⟨d_mixed, Z_mixed⟩ := c.def_ 53 (d := dG "_law_mixed" sMix) rfl
  have F_mixed := Fun.ofD (st := sMix) Z_mixed
  have b_mixed : Binds K d_mixed ["_law_source", "_law_some"] [] := F_mixed.binds fun _ _ _ _ _ _ us hl => match us, hl with | [_, _], _ => rfl
  have g_mixed : mg "_law_mixed" = some (.ref (He.ga K "_law_mixed")) := PySem.W.mg_of X G (He.eqO_ok (List.all_eq_true.mp gl "_law_mixed" (List.mem_of_getElem? (i := 3) rfl)))
  obtain ⟨d_alone, Z_alone⟩ := c.def_ 54 (d := dG "_law_alone" sAlone) rfl
  have F_alone := Fun.ofD (st := sAlone) Z_alone
  have b_alone : Binds K d_alone ["_law_e"] [] := F_alone.binds fun _ _ _ _ _ _ us hl => match us, hl with | [_], _ => rfl
  have g_alone : mg "_law_alone" = some (.ref (He.ga K "_law_alone")) := PySem.W.mg_of X G (He.eqO_ok (List.all_eq_true.mp gl "_law_alone" (List.mem_of_getElem? (i := 4) rfl)))
  obtain ⟨d_said, Z_said⟩ := c.def_ 55 (d := dG "_law_said" sSaid) rfl
  have F_said := Fun.ofD (st := sSaid) Z_said
  have b_said : Binds K d_said ["_law_ask"] [] := F_said.binds fun _ _ _ _ _ _ us hl => match us, hl with | [_], _ => rfl
  have g_said : mg "_law_said" = some (.ref (He.ga K "_law_said")) := PySem.W.mg_of X G (He.eqO_ok (List.all_eq_true.mp gl "_law_said" (List.mem_of_getElem? (i := 5) rfl)))
  obtain ⟨d_scene, Z_scene⟩ := c.def_ 56 (d := dG "_law_scene" sScene) rfl
  have F_scene := Fun.ofD (st := sScene) Z_scene
  have b_scene : Binds K d_scene ["_law_source"] [] := F_scene.binds fun _ _ _ _ _ _ us hl => match us, hl with | [_], _ => rfl
  have g_scene : mg "_law_scene" = some (.ref (He.ga K "_law_scene")) := PySem.W.mg_of X G (He.eqO_ok (List.all_eq_true.mp gl "_law_scene" (List.mem_of_getElem? (i := 6) rfl)))
  obtain ⟨d_of_main, Z_of_main⟩ := c.def_ 57 (d := dG "_law_of_main" sOfMain) rfl
  have F_of_main := Fun.ofD (st := sOfMain) Z_of_main
  have b_of_main : Binds K d_of_main ["_law_scene_here", "_law_body"] [] := F_of_main.binds fun _ _ _ _ _ _ us hl => match us, hl with | [_, _], _ => rfl
  have g_of_main : mg "_law_of_main" = some (.ref (He.ga K "_law_of_main")) := PySem.W.mg_of X G (He.eqO_ok (List.all_eq_true.mp gl "_law_of_main" (List.mem_of_getElem? (i := 7) rfl)))
  obtain ⟨d_rows, Z_rows⟩ := c.def_ 58 (d := dG "_law_rows" sRows) rfl
  have F_rows := Fun.ofD (st := sRows) Z_rows
  have b_rows : Binds K d_rows ["_law_source", "_law_scene_here"] [] := F_rows.binds fun _ _ _ _ _ _ us hl => match us, hl with | [_, _], _ => rfl
  have g_rows : mg "_law_rows" = some (.ref (He.ga K "_law_rows")) := PySem.W.mg_of X G (He.eqO_ok (List.all_eq_true.mp gl "_law_rows" (List.mem_of_getElem? (i := 8) rfl)))
  obtain ⟨d_bodies_right, Z_bodies_right⟩ := c.def_ 59 (d := dG "_law_bodies_right" sBodies) rfl
  have F_bodies_right := Fun.ofD (st := sBodies) Z_bodies_right
  have b_bodies_right : Binds K d_bodies_right ["_law_scene_here"] [] := F_bodies_right.binds fun _ _ _ _ _ _ us hl => match us, hl with | [_], _ => rfl
  have g_bodies_right : mg "_law_bodies_right" = some (.ref (He.ga K "_law_bodies_right")) := PySem.W.mg_of X G (He.eqO_ok (List.all_eq_true.mp gl "_law_bodies_right" (List.mem_of_getElem? (i := 9) rfl)))
  obtain ⟨d_law, Z_law⟩ := c.def_ 60 (d := dG "law" sLaw) rfl
  have F_law := Fun.ofD (st := sLaw) Z_law
  have b_law : Binds K d_law ["_law_script"] [] := F_law.binds fun _ _ _ _ _ _ us hl => match us, hl with | [_], _ => rfl
  have g_law : mg "law" = some (.ref (He.ga K "law")) := PySem.W.mg_of X G (He.eqO_ok (List.all_eq_true.mp gl "law" (List.mem_of_getElem? (i := 10) rfl)))
  have bLaw := FunD.bindsA (ps := ["_law_script"]) Z_law fun _ _ _ _ _ _ us hl => match us, hl with | [_], _ => rfl
  refine ⟨d_law, fun s v => bLaw s [v] rfl, fun base TB => ?_⟩
  obtain ⟨fdI, M, FI, gP, bI⟩ := prog_ok (P := P) (w := w) X G c cp0 T base
  have k_cell := okCell (P := P) (w := w) (mg := mg) (base := base) (k := 0) F_cell_at (fre "len" 2 rfl)
  have k_src := okSrc (P := P) (w := w) (mg := mg) (base := base) (k := 0) F_source_of (fre "int" 3 rfl)
  have k_mix := okMix (P := P) (w := w) (mg := mg) (base := base) (k := 1) F_mixed F_next b_next g_next (fre "int" 3 rfl) (fre "len" 2 rfl) (fre "list" 1 rfl)
  have k_alo := kAlo (P := P) (w := w) (mg := mg) (base := base) F_alone AL (fre "isinstance" 0 rfl)
  have k_scn := kSC (P := P) (w := w) F_scene k_mix g_mixed F_mixed.kp b_mixed
  have k_om : ∀ N : Nm, N.Ok → FnOk P w K mg base CX0 67 (He.ga K "_law_of_main") d_of_main ["_law_scene_here", "_law_body"] (spOM K [(tabP K, qOM)] N) := fun N hN => kOM (funC_of F_of_main cb) TB (List.mem_cons_self ..) (fun p hp _ => by rw [List.mem_singleton.mp hp]) F_said g_said b_said AL SD k_alo g_alone F_alone.kp b_alone M FI gP bI hN
  have k_row : ∀ N : Nm, FnOk P w K mg base CX0 2 (He.ga K "_law_rows") d_rows ["_law_source", "_law_scene_here"] (spRW K N) := fun N => kRW F_rows (fre "tuple" 5 rfl)
  have k_bod : ∀ N : Nm, N.Ok → FnOk P w K mg base CX0 68 (He.ga K "_law_bodies_right") d_bodies_right ["_law_scene_here"] (spBR K [(tabP K, qOM)] N) := fun N hN => kBR F_bodies_right (k_om N hN) g_of_main F_of_main.kp b_of_main hN
  exact kLW F_law k_cell g_cell_at F_cell_at.kp b_cell_at k_src g_source_of F_source_of.kp b_source_of k_scn g_scene F_scene.kp b_scene k_row g_rows F_rows.kp b_rows k_om g_of_main F_of_main.kp b_of_main k_bod g_bodies_right F_bodies_right.kp b_bodies_right (fre "isinstance" 0 rfl) (fre "str" 4 rfl) (fre "int" 3 rfl)
end Lm

namespace Lm
open PySem PySem.Spec PyProof.Rows L2
theorem tab_of {P : Program} {w : World} {K : PySem.W.Frag} (h : tabOf K (He.ga K "SIZES") = some (sizesW w)) (sys : (He.ga K "SIZES" == sysModules) = false) : Tab P w K (He.ga K "SIZES") sizesV := by
  have T := Tab.of (P := P) (w := w) h (fun r hr => by
    obtain ⟨p, _, rfl⟩ := List.mem_map.mp hr
    rfl) (by
    unfold sizesW
    rw [List.map_map]
    show (sizesL.map fun p => (Sum.inr p.1 : Key)).Nodup
    decide +kernel) sys
  unfold sizesW at T
  rw [List.map_map] at T
  exact T
end Lm

/-! The head of the law. -/
namespace Lm
open PySem PySem.Spec PyProof.Rows L2
theorem walk_TE {l : PySem.W.OpenLaw} {n k : Nat} {q : Program} {loose : List Str} {XP : (Str → Option Value) → Heap → Prop} {YP : World → Heap → Prop} {d : DefRec} {CX : CXT} {x : Str}
    (hn : l.most = some n) (hn2 : n ≤ sizeLine) (hdf : d.params.defaults = []) (hr : Room k callerA)
    (F : ∀ (w : World) (mg : Str → Option Value) (fa : Addr) (h : Heap), YP w h → h.Ns mainGlobals mg → mg d.name = some (.ref fa) → ∃ K : PySem.W.Frag, K.In h ∧ LamX.LawAtS l w K CX k n x mg fa h)
    (hCX : ∀ (H : Hp) (s : Shared) (e : Value) (s' : Shared), CX [] H s (fun _ _ _ => False) e s' → False) :
    PySem.W.WalkO q loose XP YP l.row.toRowW d [] (fun f vs => PySem.call f vs) := by
  refine Att.attach_callB hn hdf fun w s0 s1 mg mb fa o pm cd doc a vs ns G Y ho hd hcd hmg hobj hints hlen hbits hg => ?_
  obtain ⟨K, KX, fd, cs, sp, hT, nT, C, hb, hsp, hF⟩ := F w mg fa _ Y G.T.g hmg
  exact LamX.law_callTs KX G.T.g G.T.b G.T.builtins G.T.nolimit hg hT nT C G.T.bmain hobj hints (Nat.le_trans hlen hn2) hr hF hb (fun H hH hS => hsp H a ns hlen hbits hH hS) fun H e s' => hCX H s1 e s'
end Lm

namespace Lm
open PySem PySem.Spec PyProof.Rows L2
end Lm

namespace Lm
open PySem PySem.Spec PyProof.Rows L2
theorem run (w : World) : HandSHeadRun.RunEq R (PySem.W.view R.prog [86]) hk ob 9000 loose w := world_at (F := fun w => HandSHeadRun.RunEq R (PySem.W.view R.prog [86]) hk ob 9000 loose w) "special-get-raises" run0 run1 w
end Lm
open PySem PySem.W PySem.Calls PyProof.Rows
theorem PySem.Challenge.cw_leastmarks_k06_matches_by_hand_holds : PySem.Challenge.rw_leastmarks_k06_matches_by_hand.Holds := by
  w_on; o_law
  refine HandSHeadRun.head_any (r := OpenLaw.row PySem.Challenge.rw_leastmarks_k06_matches_by_hand) (q := view (OpenLaw.row PySem.Challenge.rw_leastmarks_k06_matches_by_hand).prog [86]) (H := Lm.hk) (ob := Lm.ob) (M := 9000) (loose := Lm.loose) (d := HandSHeadRun.topDef (OpenLaw.row PySem.Challenge.rw_leastmarks_k06_matches_by_hand).prog 86) (kwd := []) Lm.ob_eq
    (by kernel_rfl) (fun s => by kernel_rfl) Lm.run (by kernel_rfl) (by kernel_rfl) (by kernel_rfl) (by rfl) (by first | assumption | decide +kernel) (by decide +kernel) ⟨rfl, rfl, rfl, rfl, rfl, by decide +kernel⟩ ?hw ?hc
  case hw => w_witness2
  case hc =>
    refine Lm.walk_TE (l := PySem.Challenge.rw_leastmarks_k06_matches_by_hand) (n := 63) (k := 69) (x := "_law_script") (CX := L2.CX0) rfl (by decide) (by kernel_rfl) ⟨rfl, by decide, by decide⟩ ?F (fun _ _ _ _ z => z)
    intro w mg fa h Y G hmg0
    obtain ⟨K, KX, c, tb, em⟩ := Y
    have hmg : mg ("law" : PySem.Str) = some (.ref fa) := by
      have e : (HandSHeadRun.topDef (OpenLaw.row PySem.Challenge.rw_leastmarks_k06_matches_by_hand).prog 86).name = ("law" : PySem.Str) := by kernel_rfl
      rw [← e]
      exact hmg0
    have c0 := c.look
    unfold Lm.ckA at c0
    rw [Bool.and_eq_true, Bool.and_eq_true, Bool.not_eq_true'] at c0
    obtain ⟨cp, cl, sys⟩ := c0
    have T := Lm.tab_of (P := (PySem.Challenge.rw_leastmarks_k06_matches_by_hand).prog) (w := w) tb sys
    obtain ⟨fd, hb, hF⟩ := Lm.law_ok (P := (PySem.Challenge.rw_leastmarks_k06_matches_by_hand).prog) (w := w) KX G c cp cl T
    have cl2 := cl
    unfold Lm.ckL at cl2
    simp only [Bool.and_eq_true] at cl2
    obtain ⟨gl, _, _, _, _, _, ch, nT⟩ := cl2
    have ga : fa = He.ga K "law" := by
      have z := PySem.W.mg_of KX G (He.eqO_ok (List.all_eq_true.mp gl "law" (List.mem_of_getElem? (i := 10) rfl)))
      rw [hmg] at z
      cases z
      rfl
    subst ga
    refine ⟨K, KX, fd, [(Lm.codeAd K (He.ga K "_law_of_main"), Lm.tabP K)], Lm.spLW K [(Lm.tabP K, Lm.qOM)], fun p hp => ?_, fun p hp => ?_, fun p hp => ?_, hb, fun H a ns hl _ hT hS => ?_, fun base _ _ hTB => hF base (hTB _ (List.mem_cons_self ..))⟩
    · rw [List.mem_singleton.mp hp]
      exact em
    · rw [List.mem_singleton.mp hp]
      exact Option.isNone_iff_eq_none.mp nT
    · rw [List.mem_singleton.mp hp]
      exact PySem.W.codeHd_of_K KX ch
    · exact ⟨a, ns, rfl, hS, fun p hp => by rw [List.mem_singleton.mp hp]; exact LamX.TabS.nil (hT _ (List.mem_cons_self ..)), fun _ => rfl⟩
