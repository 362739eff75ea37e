import PyProof.Rows.All
import Wide.All
import OpenK.AllK
import Wide.FinOn
import KE.KExcIs
import HandS.ForExc
import HandS.ForMost
import HandS.ExcInit
import HandS.ExcIs
import HandS.ExcField
import HandS.IsInst
import HandS.Walk
import HandS.Deep
import HandS.Conv
import HandS.NoneIn
import HandS.DictComp
import HandS.TupAny
import HandS.Star
import HandS.Codes
import HandS.Flow
import HandS.Defaults
import HandS.HeadHook1
import HandS.HeadHook2
import HandS.ExcBuiltin
import KE.KStateDown
import HandS.Ends
import HandS.Head0
import HandS.Head1
import HandS.Head2
import HandS.HeadEnd
import PySem.Challenge.RW_leastmarks_k42_errors_of_one_family
set_option Elab.async false
set_option linter.all false
set_option maxRecDepth 100000
set_option maxHeartbeats 0
/-! Errors of one's own as values: made by a call, asked for their class and their fields. -/
namespace L2
open PySem PySem.Spec PyProof.Rows
section
variable {X : Cx} {CX : CXT} {k : Nat} {fI C : Addr} {fd : FuncData} {ps : List Str} {sp : Sp} {ds : List Value} {dvs : List V} {x : Str} {p pos : Pos} {e : Expr} {es : List Expr} {ta te : TE} {t : TA}
theorem run_oex {pins : List (Addr × Obj)} {σ : L2.St} {H1 : Hp} {s1 : Shared} {Q : VK} {us : List Value} {vs : List V} (T : OexC X.K C) (iC : PySem.W.findIn X.K (.ref C) "__init__" = some (some (.ref fI))) (tI : PySem.W.typeIn X.K (.ref fI) = some (.type "function"))
    (F1 : FnOk X.prog X.w X.K X.mg X.base CX k fI fd ps sp) (hr : Room (k + 1) X.A) (hb : Binds X.K fd ps ds) (hd : Vals dvs ds) (hx : Passes CX X (fun _ _ _ => False)) (I1 : Inv X pins σ H1 s1) (r1 : Vals vs us) (hz : vs.length ≤ 1000)
    (q1 : ∀ a, H1 a = none → sp (.ref a :: (vs ++ dvs)) (upd H1 a (exo a C none)) (fun v H2 => v = .non ∧ Q (.ref a) H2) (fun _ _ _ => False)) :
    wpAny (model X.prog X.w) X.A (call (.ref C) us) (EP X pins σ Q) X.xe s1 := by
  obtain ⟨nm, q, N, bs, bm, sn, sub, ab, col, dd, k0, k1, k2, k3, k5, hC, hbm⟩ := T.cls
  obtain ⟨hp, g, dr, tk, os⟩ := s1
  have hsz : hp.objs.size ≤ hp.objs.size + 1 := Nat.le_succ _
  have hn : H1 (hp.objs.size + 1) = none := I1.hok.fresh hsz
  have hq := q1 (hp.objs.size + 1) hn
  have kk : ∀ b o, hp.get? b = some o → ((hp.push (PySem.W.kdv_tup us)).push (PySem.HandSPX.excO C hp.objs.size)).get? b = some o := fun b o e => Heap.get?_push_of_some _ (Heap.get?_push_of_some _ e)
  have hget : ((hp.push (PySem.W.kdv_tup us)).push (PySem.HandSPX.excO C hp.objs.size)).get? (hp.objs.size + 1) = some (PySem.HandSPX.excO C hp.objs.size) := by heap_get
  have I2 : Inv X pins σ (upd H1 (hp.objs.size + 1) (exo (hp.objs.size + 1) C none)) ⟨(hp.push (PySem.W.kdv_tup us)).push (PySem.HandSPX.excO C hp.objs.size), g, dr, tk, os⟩ :=
    I1.laid (t' := tk) (a := hp.objs.size + 1) (o := exo (hp.objs.size + 1) C none) (h' := (hp.push (PySem.W.kdv_tup us)).push (PySem.HandSPX.excO C hp.objs.size)) kk hsz (exo_ok hget)
  have r2 : Vals (V.ref (hp.objs.size + 1) :: (vs ++ dvs)) (Value.ref (hp.objs.size + 1) :: (us ++ ds)) := .cons rfl (r1.append hd)
  have hl : (Value.ref (hp.objs.size + 1) :: us ++ ds).length = ps.length := by
    have e := r2.length
    rw [F1.len _ _ _ _ hq] at e
    exact e.symm
  have hus : us.length ≤ sizeLine := by
    rw [← Paired.length r1, sizeLine_eq]
    omega
  refine wpAny_call (PySem.HandSPX.call_own F.excBase_ValueError (fun Y => PySem.HandSPX.refsVE_contains Y bm hbm) (I1.kIn _ _ hC) (PySem.W.looks_findIn I1.kIn iC) (fun self => PySem.W.bind_fn I1.kIn self tI) hus
    (codeAny_mono (F1.run _ X.stack _ _ ⟨Value.ref (hp.objs.size + 1) :: us, []⟩ (Value.ref (hp.objs.size + 1) :: (us ++ ds)) _ _ (fun _ _ _ => False) (hr.make C us []) (I2.env0.make C us []) (hb _ (Value.ref (hp.objs.size + 1) :: us) I2.kIn hl) r2 hq) fun r s' hq' => ?_))
  cases r with
  | error er => exact hx pins σ _ _ er s' I2 hq'
  | ok fl =>
    cases fl with
    | ret u =>
      obtain ⟨v, H', I3, rv, ev, q3⟩ := I2.after hq'
      subst ev
      exact ⟨rv, ⟨V.ref (hp.objs.size + 1), H', I3, rfl, q3⟩⟩
    | next => exact False.elim hq'
    | brk => exact False.elim hq'
    | cont => exact False.elim hq'
/-- C(e, ..) as a value -/
def tMkV (C : Addr) (sp : Sp) (dvs : List V) (ta : TA) : TE := fun σ H Q => ta σ H fun vs H1 => vs.length ≤ 1000 ∧ ∀ a, H1 a = none → sp (.ref a :: (vs ++ dvs)) (upd H1 a (exo a C none)) (fun v H2 => v = .non ∧ Q (.ref a) H2) (fun _ _ _ => False)
theorem pe_oex (T : OexC X.K C) (iC : PySem.W.findIn X.K (.ref C) "__init__" = some (some (.ref fI))) (tI : PySem.W.typeIn X.K (.ref fI) = some (.type "function")) (F1 : FnOk X.prog X.w X.K X.mg X.base CX k fI fd ps sp) (hr : Room (k + 1) X.A) (hb : Binds X.K fd ps ds) (hd : Vals dvs ds)
    (hx : Passes CX X (fun _ _ _ => False)) (hg : Gl X x) (hm : X.mg x = some (.ref C)) (ha : PA X (e :: es) t)
    (hdb : (x == ("__debug__" : Str)) = false := by decide) (he : starEach (e :: es) X.env = (false, eval e X.env) :: starEach es X.env := by rfl) (hpl : (backTo pos (starEach es X.env)).any (·.1) = false := by rfl) :
    PE X (.Call (.Name x p) (e :: es) [] pos) (tMkV C sp dvs t) := by
  refine ⟨fun pins s σ H Q I h => ?_⟩
  refine wpAny_Call_Name_kw (ld_glob I hg hm ?_ hdb)
  exact PySem.W.callWith_K (h₀ := X.base) I.ok.mod.kin T.kC (thn (ha.run pos pins s σ H _ I h) fun us s1 ⟨vs, H1, I1, r1, hz, q1⟩ => ⟨I1.kIn, run_oex T iC tI F1 hr hb hd hx I1 r1 hz q1⟩) he hpl
theorem pe_oex0 (T : OexC X.K C) (iC : PySem.W.findIn X.K (.ref C) "__init__" = some (some (.ref fI))) (tI : PySem.W.typeIn X.K (.ref fI) = some (.type "function")) (F1 : FnOk X.prog X.w X.K X.mg X.base CX k fI fd ps sp) (hr : Room (k + 1) X.A) (hb : Binds X.K fd ps ds) (hd : Vals dvs ds)
    (hx : Passes CX X (fun _ _ _ => False)) (hg : Gl X x) (hm : X.mg x = some (.ref C)) (hdb : (x == ("__debug__" : Str)) = false := by decide) :
    PE X (.Call (.Name x p) [] [] pos) (tMkV C sp dvs tNil) := by
  refine ⟨fun pins s σ H Q I h => ?_⟩
  refine wpAny_Call_Name_kw (ld_glob I hg hm ?_ hdb)
  exact PySem.W.callWith_K0 I.kIn T.kC (run_oex (us := []) T iC tI F1 hr hb hd hx I .nil (Nat.zero_le _) h.2)
/-! ### asked -/
/-- the error at a is of the class at C; d: its dict -/
def ExAt (H : Hp) (a C : Addr) (d : Option (Addr × List (Str × V))) : Prop := H a = some (exo a C (d.map (·.1))) ∧ ∀ y, d = some y → H y.1 = some (exd y.1 y.2)
theorem inst_of {pins : List (Addr × Obj)} {σ : L2.St} {H : Hp} {s : Shared} {a C : Addr} {d : Option (Addr × List (Str × V))} (I : Inv X pins σ H s) (h : ExAt H a C d) :
    ∃ (ox : Obj) (od : Option Obj), PySem.W.InstAt s.heap a ox C od ∧ ∀ y, d = some y → ∃ (mA : Str → Option Value) (o : Obj), od = some o ∧ (∀ name, PySem.W.lookIn name o = some (mA name)) ∧ ∀ f, RelO (y.2.lookup f) (mA f) := by
  obtain ⟨t1, ho⟩ := exo_at I.hok h.1
  cases d with
  | none => exact ⟨_, none, ⟨ho, rfl, rfl, trivial⟩, fun y e => nomatch e⟩
  | some y =>
    obtain ⟨mA, hns, rel⟩ := exd_at I.hok (h.2 y rfl)
    obtain ⟨od, h1, h2⟩ := lookIn_ns hns
    exact ⟨_, some od, ⟨ho, rfl, rfl, h1⟩, fun z e => ⟨mA, od, rfl, h2, by cases e; exact rel⟩⟩
/-- isinstance(e, c) -/
def rIsX (K : PySem.W.Frag) : List V → Hp → VK → Prop := fun xs H Q => ∃ (a C : Addr) (d : Option (Addr × List (Str × V))) (c : V) (u : Value) (b : Bool), xs = [.ref a, c] ∧ ExAt H a C d ∧ ExcC K C ∧ ClsV c u ∧ PySem.W.kitOne K (.ref C) u = some b ∧ Q (.bl b) H
def rIsXT (K : PySem.W.Frag) : List V → Hp → VK → Prop := fun xs H Q => ∃ (a C tp : Addr) (d : Option (Addr × List (Str × V))) (cs : List V) (us : List Value) (b : Bool), xs = [.ref a, .ref tp] ∧ ExAt H a C d ∧ ExcC K C ∧ H tp = some (.tup cs) ∧ Paired ClsV cs us ∧ PySem.W.kitAny K (.ref C) us = some b ∧ Q (.bl b) H
theorem ExcC.kit {K : PySem.W.Frag} {D a : Addr} {ox : Obj} {od : Option Obj} (T : ExcC K D) : PySem.W.KitX K (.ref a) (.ref D) (fun h => PySem.W.InstAt h a ox D od) :=
  PySem.W.kitx_exc (by obtain ⟨cd, hc, _⟩ := PySem.W.any_some T.hd; rw [hc]; rfl) T.hg T.hk T.hs T.ha T.hn T.ht T.hm
theorem call_isX : CallR X (.builtin "isinstance") (rIsX X.K) := by
  intro pins s σ H xs us Q I r h
  obtain ⟨a, D, d, c, u, b, rfl, ha, T, k, e, q⟩ := h
  obtain ⟨u1, u2, rfl, ra, r2⟩ := vals2 r
  obtain rfl : u1 = Value.ref a := ra
  have e2 := k.eq r2
  subst e2
  obtain ⟨ox, od, J, _⟩ := inst_of I ha
  exact PySem.W.kia_one T.kit I.kIn J e (fun z => nomatch z) fun tk => ⟨.bl b, H, I.tok tk, rfl, q⟩
theorem call_isXT : CallR X (.builtin "isinstance") (rIsXT X.K) := by
  intro pins s σ H xs us Q I r h
  obtain ⟨a, D, tp, d, cs, ws, b, rfl, ha, T, hT, k, e, q⟩ := h
  obtain ⟨u1, u2, rfl, ra, r2⟩ := vals2 r
  obtain rfl : u1 = Value.ref a := ra
  cases (show u2 = Value.ref tp from r2)
  obtain ⟨ox, od, J, _⟩ := inst_of I ha
  obtain ⟨_, its, rv, o, h1, h2, n, h3⟩ := (show ObjOk X.prog X.w H s.heap tp (.tup cs) from I.hok tp _ hT)
  have e3 := ClsV.all k rv
  subst e3
  obtain ⟨oc, oddd, dt, sl⟩ := o
  simp only at h2 h3
  subst h2 h3
  exact PySem.W.kia_tup T.kit I.kIn J h1 e (fun z => nomatch z) fun tk => ⟨.bl b, H, I.tok tk, rfl, q⟩
/-- e.f -/
def tXfV (K : PySem.W.Frag) (f : Str) (te : TE) : TE := fun σ H Q => te σ H fun x H1 => ∃ (a C dx : Addr) (fs : List (Str × V)) (v : V), x = .ref a ∧ ExAt H1 a C (some (dx, fs)) ∧ XfC K C ∧ PySem.W.findIn K (.ref C) f = some none ∧ fs.lookup f = some v ∧ Q v H1
theorem pe_xfv {f : Str} (he : PE X e te) (hb : attributeBase e f X.env (eval e X.env) = eval e X.env := by rfl) : PE X (.Attribute e f pos) (tXfV X.K f te) := by
  refine ⟨fun pins s σ H Q I h => ?_⟩
  refine attr_of hb (thn (he.run pins s σ H _ I h) fun u s1 hh => ?_)
  obtain ⟨x, H1, I1, rx, a, D, dx, fs, v, ex, ha, T, hno, l, q⟩ := hh
  subst ex
  obtain rfl : u = Value.ref a := rx
  obtain ⟨ox, od, J, hd⟩ := inst_of I1 ha
  obtain ⟨mA, o, rfl, hl, hr⟩ := hd _ rfl
  obtain ⟨u, hu, ru⟩ := RelO.some_of (v := v) (o := mA f) (by rw [← l]; exact hr f)
  exact HandSPX.exc_get I1.kIn J T.ga T.gg T.exC (PySem.W.findObj_own T.hdC hno rfl (by rw [hl, hu])) (handed_of ru) ⟨v, H1, I1.tok _, ru, q⟩
end
end L2

/-! Data as a whole: what isinstance, a walk, a part of it say, whatever it is made of. -/
namespace L2
open PySem PySem.Spec PyProof.Rows
theorem same_upd {H : Hp} {p : Addr} {o : HO} (h : H p = none) : Same H (upd H p o) := fun b x e => by
  rw [upd_ne (ne_of_none e h)]
  exact e
section
variable {K : PySem.W.Frag} {H H' : Hp}
theorem sqt_same {a : Addr} {xs : List V} (e : Same H H') (h : SqT K H a xs) : SqT K H' a xs := by
  rcases h with (h | ⟨o, h⟩) | h
  · exact .inl (.inl (e _ _ h))
  · exact .inl (.inr ⟨o, e _ _ h⟩)
  · exact .inr h
/-! ### data: none, bools, ints, texts, lists, tuples of such, and dicts into which nobody looks -/
mutual
inductive Dx (K : PySem.W.Frag) (H : Hp) : V → PyData → Prop
  | non : Dx K H .non .none
  | bl (b : Bool) : Dx K H (.bl b) (.bool b)
  | int (i : Int) : Dx K H (.int i) (.int i)
  | str (x : Str) : Dx K H (.str x) (.str x)
  | lst {a : Addr} {xs : List V} {ds : List PyData} : SqL K H a xs → DxAll K H xs ds → Dx K H (.ref a) (.list ds)
  | tup {a : Addr} {xs : List V} {ds : List PyData} : SqT K H a xs → DxAll K H xs ds → Dx K H (.ref a) (.tuple ds)
  | dic {a : Addr} {kvs : List (Key × V)} : H a = some (.dK kvs) → Dx K H (.ref a) (.dict [])
inductive DxAll (K : PySem.W.Frag) (H : Hp) : List V → List PyData → Prop
  | nil : DxAll K H [] []
  | cons {v : V} {vs : List V} {d : PyData} {ds : List PyData} : Dx K H v d → DxAll K H vs ds → DxAll K H (v :: vs) (d :: ds)
end
mutual
theorem Dx.mono (e : Same H H') : ∀ {v : V} {d : PyData}, Dx K H v d → Dx K H' v d
  | _, _, .non => .non
  | _, _, .bl b => .bl b
  | _, _, .int i => .int i
  | _, _, .str x => .str x
  | _, _, .lst h a => .lst (e.seq h) (DxAll.mono e a)
  | _, _, .tup h a => .tup (sqt_same e h) (DxAll.mono e a)
  | _, _, .dic h => .dic (e _ _ h)
theorem DxAll.mono (e : Same H H') : ∀ {vs : List V} {ds : List PyData}, DxAll K H vs ds → DxAll K H' vs ds
  | _, _, .nil => .nil
  | _, _, .cons h a => .cons (Dx.mono e h) (DxAll.mono e a)
end
mutual
theorem Dx.dp : ∀ {v : V} {d : PyData}, Dx K H v d → d.canLay0 = true → Dp K H v d
  | _, _, .non, _ => .non
  | _, _, .bl b, _ => .bl b
  | _, _, .int i, _ => .int i
  | _, _, .str x, _ => .str x
  | _, _, .lst h a, c => .lst h (DxAll.dp a c)
  | _, _, .tup h a, c => .tup h (DxAll.dp a c)
theorem DxAll.dp : ∀ {vs : List V} {ds : List PyData}, DxAll K H vs ds → PyData.canLayAll0 ds = true → DpAll K H vs ds
  | _, _, .nil, _ => .nil
  | _, _, .cons (d := d) (ds := ds) h a, c => by
    have c' : (d.canLay0 && PyData.canLayAll0 ds) = true := c
    rw [Bool.and_eq_true] at c'
    exact .cons (Dx.dp h c'.1) (DxAll.dp a c'.2)
end
theorem DxAll.len : ∀ {vs : List V} {ds : List PyData}, DxAll K H vs ds → vs.length = ds.length
  | _, _, .nil => rfl
  | _, _, .cons _ a => by rw [List.length_cons, List.length_cons, DxAll.len a]
theorem DxAll.get : ∀ {vs : List V} {ds : List PyData} {i : Nat} {v : V}, DxAll K H vs ds → vs[i]? = some v → ∃ d, ds[i]? = some d ∧ Dx K H v d
  | _, _, i, v, .nil, e => by simp at e
  | _, _, 0, v, .cons h a, e => by simp at e; subst e; exact ⟨_, rfl, h⟩
  | _, _, i + 1, v, .cons h a, e => DxAll.get (i := i) a (by simpa using e)
theorem DxAll.at : ∀ {vs : List V} {ds : List PyData} {i : Nat} {d : PyData}, DxAll K H vs ds → ds[i]? = some d → ∃ v, vs[i]? = some v ∧ Dx K H v d
  | _, _, i, d, .nil, e => by simp at e
  | _, _, 0, d, .cons h a, e => by simp at e; subst e; exact ⟨_, rfl, h⟩
  | _, _, i + 1, d, .cons h a, e => DxAll.at (i := i) a (by simpa using e)
theorem DxAll.snoc : ∀ {vs : List V} {ds : List PyData} {v : V} {d : PyData}, DxAll K H vs ds → Dx K H v d → DxAll K H (vs ++ [v]) (ds ++ [d])
  | _, _, _, _, .nil, h => .cons h .nil
  | _, _, _, _, .cons h a, g => .cons h (DxAll.snoc a g)
/-! ### data of a bounded size -/
mutual
def fit : PyData → Bool
  | .str x => PyData.canLay0 (.str x) && decide (x.length ≤ 1000)
  | .list xs => decide (xs.length ≤ 1000) && fitAll xs
  | .tuple xs => decide (xs.length ≤ 1000) && fitAll xs
  | _ => true
def fitAll : List PyData → Bool
  | [] => true
  | x :: xs => fit x && fitAll xs
end
theorem fitAll_at : ∀ {ds : List PyData} {i : Nat} {d : PyData}, fitAll ds = true → ds[i]? = some d → fit d = true
  | [], i, d, _, e => by simp at e
  | x :: xs, 0, d, h, e => by
    have h' : (fit x && fitAll xs) = true := h
    rw [Bool.and_eq_true] at h'
    simp at e
    rw [← e]
    exact h'.1
  | x :: xs, i + 1, d, h, e => by
    have h' : (fit x && fitAll xs) = true := h
    rw [Bool.and_eq_true] at h'
    exact fitAll_at (i := i) h'.2 (by simpa using e)
theorem fit_items {d : PyData} (h : fit d = true) : fitAll (match d with | .list xs => xs | .tuple xs => xs | _ => []) = true := by
  cases d with
  | list xs =>
    have h' : (decide (xs.length ≤ 1000) && fitAll xs) = true := h
    rw [Bool.and_eq_true] at h'
    exact h'.2
  | tuple xs =>
    have h' : (decide (xs.length ≤ 1000) && fitAll xs) = true := h
    rw [Bool.and_eq_true] at h'
    exact h'.2
  | _ => rfl
theorem fit_len {d : PyData} (h : fit d = true) : (match d with | .list xs => xs | .tuple xs => xs | _ => []).length ≤ 1000 := by
  cases d with
  | list xs =>
    have h' : (decide (xs.length ≤ 1000) && fitAll xs) = true := h
    rw [Bool.and_eq_true] at h'
    exact of_decide_eq_true h'.1
  | tuple xs =>
    have h' : (decide (xs.length ≤ 1000) && fitAll xs) = true := h
    rw [Bool.and_eq_true] at h'
    exact of_decide_eq_true h'.1
  | _ => exact Nat.zero_le _
theorem fit_str {x : Str} (h : fit (.str x) = true) : x.length ≤ sizeLine := by
  have h' : (PyData.canLay0 (.str x) && decide (x.length ≤ 1000)) = true := h
  rw [Bool.and_eq_true] at h'
  exact Nat.le_of_lt (small1000 (of_decide_eq_true h'.2))
/-! ### what a datum is -/
def tyD : PyData → String
  | .none => "NoneType" | .bool _ => "bool" | .int _ => "int" | .str _ => "str" | .list _ => "list" | .tuple _ => "tuple" | .dict _ => "dict"
theorem Dx.ty : ∀ {v : V} {d : PyData}, Dx K H v d → TyX K H v (.type (tyD d))
  | _, _, .non => .base .non
  | _, _, .bl b => .base (.bl b)
  | _, _, .int i => .base (.int i)
  | _, _, .str x => .base (.str x)
  | _, _, .lst h _ => by
    rcases h with (h | ⟨o, h⟩) | ⟨o, its, n, hk, hc, _⟩
    · exact .base (.lst h)
    · exact .base (.frz h)
    · exact .kList hk hc
  | _, _, .tup h _ => by
    rcases h with (h | ⟨o, h⟩) | ⟨o, its, n, hk, hc, _⟩
    · exact .base (.tup h)
    · exact .fTuple h
    · exact .kTuple hk hc
  | _, _, .dic h => .base (.dK h)
def isRow : PyData → Bool
  | .list _ => true | .tuple _ => true | _ => false
def isTup : PyData → Bool
  | .tuple _ => true | _ => false
def isStr : PyData → Bool
  | .str _ => true | _ => false
/-- the parts of a row, in order -/
def items : PyData → List PyData
  | .list xs => xs | .tuple xs => xs | _ => []
theorem kit_row : ∀ d : PyData, PySem.W.kitAny K (.type (tyD d)) [.type "list", .type "tuple"] = some (isRow d)
  | .none => kitAny_cons (b := false) (kit_ty (a := "NoneType") (b := "list") (by decide +kernel)) (fun _ => kitAny_cons (b := false) (kit_ty (a := "NoneType") (b := "tuple") (by decide +kernel)) (fun _ => kitAny_nil) (fun h => nomatch h)) (fun h => nomatch h)
  | .bool _ => kitAny_cons (b := false) (kit_ty (a := "bool") (b := "list") (by decide +kernel)) (fun _ => kitAny_cons (b := false) (kit_ty (a := "bool") (b := "tuple") (by decide +kernel)) (fun _ => kitAny_nil) (fun h => nomatch h)) (fun h => nomatch h)
  | .int _ => kitAny_cons (b := false) (kit_ty (a := "int") (b := "list") (by decide +kernel)) (fun _ => kitAny_cons (b := false) (kit_ty (a := "int") (b := "tuple") (by decide +kernel)) (fun _ => kitAny_nil) (fun h => nomatch h)) (fun h => nomatch h)
  | .str _ => kitAny_cons (b := false) (kit_ty (a := "str") (b := "list") (by decide +kernel)) (fun _ => kitAny_cons (b := false) (kit_ty (a := "str") (b := "tuple") (by decide +kernel)) (fun _ => kitAny_nil) (fun h => nomatch h)) (fun h => nomatch h)
  | .list _ => kitAny_cons (b := true) (kit_ty (a := "list") (b := "list") (by decide +kernel)) (fun h => nomatch h) (fun _ => rfl)
  | .tuple _ => kitAny_cons (b := false) (kit_ty (a := "tuple") (b := "list") (by decide +kernel)) (fun _ => kitAny_cons (b := true) (kit_ty (a := "tuple") (b := "tuple") (by decide +kernel)) (fun h => nomatch h) (fun _ => rfl)) (fun h => nomatch h)
  | .dict _ => kitAny_cons (b := false) (kit_ty (a := "dict") (b := "list") (by decide +kernel)) (fun _ => kitAny_cons (b := false) (kit_ty (a := "dict") (b := "tuple") (by decide +kernel)) (fun _ => kitAny_nil) (fun h => nomatch h)) (fun h => nomatch h)
theorem kit_tup : ∀ d : PyData, PySem.W.kitOne K (.type (tyD d)) (.type "tuple") = some (isTup d)
  | .none => kit_ty (a := "NoneType") (b := "tuple") (r := false) (by decide +kernel)
  | .bool _ => kit_ty (a := "bool") (b := "tuple") (r := false) (by decide +kernel)
  | .int _ => kit_ty (a := "int") (b := "tuple") (r := false) (by decide +kernel)
  | .str _ => kit_ty (a := "str") (b := "tuple") (r := false) (by decide +kernel)
  | .list _ => kit_ty (a := "list") (b := "tuple") (r := false) (by decide +kernel)
  | .tuple _ => kit_ty (a := "tuple") (b := "tuple") (r := true) (by decide +kernel)
  | .dict _ => kit_ty (a := "dict") (b := "tuple") (r := false) (by decide +kernel)
theorem kit_str : ∀ d : PyData, PySem.W.kitOne K (.type (tyD d)) (.type "str") = some (isStr d)
  | .none => kit_ty (a := "NoneType") (b := "str") (r := false) (by decide +kernel)
  | .bool _ => kit_ty (a := "bool") (b := "str") (r := false) (by decide +kernel)
  | .int _ => kit_ty (a := "int") (b := "str") (r := false) (by decide +kernel)
  | .str _ => kit_ty (a := "str") (b := "str") (r := true) (by decide +kernel)
  | .list _ => kit_ty (a := "list") (b := "str") (r := false) (by decide +kernel)
  | .tuple _ => kit_ty (a := "tuple") (b := "str") (r := false) (by decide +kernel)
  | .dict _ => kit_ty (a := "dict") (b := "str") (r := false) (by decide +kernel)
/-- a row stands as a list or as a tuple -/
theorem Dx.row {v : V} {d : PyData} (h : Dx K H v d) (r : isRow d = true) : ∃ a xs, v = .ref a ∧ (SqL K H a xs ∧ (∃ ds, d = .list ds) ∨ SqT K H a xs ∧ (∃ ds, d = .tuple ds)) ∧ DxAll K H xs (items d) := by
  cases h with
  | lst h a => exact ⟨_, _, rfl, .inl ⟨h, _, rfl⟩, a⟩
  | tup h a => exact ⟨_, _, rfl, .inr ⟨h, _, rfl⟩, a⟩
  | _ => cases r
theorem Dx.tupOf {v : V} {ds : List PyData} (h : Dx K H v (.tuple ds)) : ∃ a xs, v = .ref a ∧ SqT K H a xs ∧ DxAll K H xs ds := by
  cases h with
  | tup h a => exact ⟨_, _, rfl, h, a⟩
theorem Dx.strOf {v : V} {x : Str} (h : Dx K H v (.str x)) : v = .str x := by cases h; rfl
end
/-! ### rules joined -/
section
variable {X : Cx}
theorem pi_or {tg it : Expr} {w1 w2 : TI} (h1 : PI X tg it w1) (h2 : PI X tg it w2) : PI X tg it (fun σ H R => w1 σ H R ∨ w2 σ H R) :=
  ⟨fun pins s σ H R I h => h.elim (h1.run pins s σ H R I) (h2.run pins s σ H R I)⟩
theorem pe_or2 {e : Expr} {t1 t2 : TE} (h1 : PE X e t1) (h2 : PE X e t2) : PE X e (fun σ H Q => t1 σ H Q ∨ t2 σ H Q) :=
  ⟨fun pins s σ H Q I h => h.elim (h1.run pins s σ H Q I) (h2.run pins s σ H Q I)⟩
theorem pt_or2 {e : Expr} {t1 t2 : TT} (h1 : PT X e t1) (h2 : PT X e t2) : PT X e (fun σ H Q => t1 σ H Q ∨ t2 σ H Q) :=
  ⟨fun pins s σ H Q I h => h.elim (h1.run pins s σ H Q I) (h2.run pins s σ H Q I)⟩
/-- a row is walked -/
theorem pi_row {tg e : Expr} {t : TE} (h : PE X e t) : PI X tg e (fun σ H R => iList X.K t σ H R ∨ iTup X.K t σ H R) := pi_or (pi_list h) (pi_tup h)
theorem tyes {σ : L2.St} {H : Hp} {A B : Hp → Prop} (h : A H) : tYes σ H (fun b H3 => if b = true then A H3 else B H3) := by
  show (if true = true then A H else B H)
  rw [if_pos rfl]
  exact h
theorem for_row {K : PySem.W.Frag} {H : Hp} {σ : L2.St} {t : TE} {R : It → Hp → Prop} {a : Addr} {xs : List V} (e : SqL K H a xs ∨ SqT K H a xs) (ht : ∀ k : VK, k (.ref a) H → t σ H k)
    (go : ∀ (J : It) (G : Hp → Prop), (∀ H', Same H H' → G H') → Walk J xs.length G (YAt xs) → R J H) : iList K t σ H R ∨ iTup K t σ H R := by
  rcases e with e | e
  · exact .inl (ht _ ⟨a, rfl, ⟨xs, e⟩, go _ _ (fun H' s => s.seq e) walk_list⟩)
  · exact .inr (ht _ ⟨a, rfl, ⟨xs, e⟩, go _ _ (fun H' s => sqt_same s e) walk_tup⟩)
end
end L2

/-! Facts of error classes by one look at the written part. -/
namespace L2
open PySem PySem.Spec PyProof.Rows
def oexB (K : PySem.W.Frag) (C : Addr) : Bool := (match K.lookup C with
  | some ⟨.type "type", _, .cls cd, sl⟩ => (match cd.mro, sl.toList with
    | .ref C' :: bm, [_, _, _, _, some (.builtin n), _] => C' == C && n == "ValueError.__new__" && cd.hasDict && !cd.hasDel && PySem.HandSPX.refsVE bm
    | _, _ => false)
  | _ => false)
theorem oexB_ok {K : PySem.W.Frag} {C : Addr} (q : oexB K C = true) : ∃ nm q N bs bm sn sub ab col dd k0 k1 k2 k3 k5, K.lookup C = some (excClassObj nm q C N bs bm true sn sub ab col dd k0 k1 k2 k3 k5 "ValueError.__new__") ∧ PySem.HandSPX.refsVE bm = true := by
  unfold oexB at q
  split at q
  · rename_i dd cd sl ho
    split at q
    · rename_i C' bm k0 k1 k2 k3 n k5 hm hs
      simp only [Bool.and_eq_true, beq_iff_eq, Bool.not_eq_true'] at q
      obtain ⟨⟨⟨⟨rfl, rfl⟩, hdct⟩, hdel⟩, ht⟩ := q
      obtain ⟨nm, bs, mro, ns, qn, hd, sn, sub, ab, col, del⟩ := cd
      dsimp only at hm hdel hdct
      subst hm hdel hdct
      have hsl : sl = #[k0, k1, k2, k3, some (.builtin "ValueError.__new__"), k5] := by
        obtain ⟨l⟩ := sl
        simp only at hs
        rw [hs]
      subst hsl
      exact ⟨nm, qn, ns, bs, bm, sn, sub, ab, col, dd, k0, k1, k2, k3, k5, ho, ht⟩
    · cases q
  · cases q
/-- all that is asked of a class of errors -/
structure ErrC (K : PySem.W.Frag) (C : Addr) : Prop where
  o : OexC K C
  e : ExcC K C
  x : XfC K C
def errB (K : PySem.W.Frag) (C : Addr) : Bool := oexB K C && decide (PySem.W.findIn K (.ref C) "__setattr__" = some (some (.builtin "object.__setattr__"))) && decide (PySem.W.subIn K (.ref C) (.type "BaseException") = some true) &&
  decide (PySem.W.typeIn K (.ref C) = some (.type "type")) && PySem.W.keepIn K (.ref C) && decide (PySem.W.findIn K (.ref C) "__getattribute__" = some (some (.builtin "BaseException.__getattribute__"))) && decide (PySem.W.findIn K (.ref C) "__getattr__" = some none) &&
  PySem.W.hasDictIn K C && decide (PySem.W.findIn K (.ref C) "__class__" = some (some (.builtin "object.__class__"))) && decide (PySem.W.specialIn K (.builtin "object.__class__") "__get__" = some (some (.builtin "getset_descriptor.__get__"))) &&
  decide (PySem.W.takesIn K (.builtin "object.__class__") = some true) && decide (PySem.W.mroIn K C (.type "object") = some true)
theorem errB_ok {K : PySem.W.Frag} {C : Addr} (h : errB K C = true) : ErrC K C := by
  unfold errB at h
  simp only [Bool.and_eq_true, decide_eq_true_eq] at h
  obtain ⟨⟨⟨⟨⟨⟨⟨⟨⟨⟨⟨h1, h2⟩, h3⟩, h4⟩, h5⟩, h6⟩, h7⟩, h8⟩, h9⟩, h10⟩, h11⟩, h12⟩ := h
  exact ⟨⟨oexB_ok h1, h2, h3, h4, h5⟩, ⟨h6, h7, h3, h8, h9, h10, h11, h12⟩, ⟨h6, h7, h3, h8⟩⟩
theorem Fun.ofD {K : PySem.W.Frag} {x q : Str} {st : Stmt} {f : Addr} {fd : FuncData} (F : FunD K x q (defArgs st) (defBody st) (defScope st) [] [] f fd) : Fun K x q st f fd := by
  obtain ⟨oc, od, dV, kV, doc, pm, an, cdv, ct, osl, rfl, lk, hcd, hD, hK⟩ := F.ex
  rcases hD with ⟨_, rfl⟩ | ⟨e, _⟩
  · exact ⟨⟨oc, od, kV, doc, pm, an, cdv, ct, osl, rfl, lk, hcd⟩, F.kp⟩
  · exact absurd rfl e
/-! ### the Hook, over any look of one's own -/
end L2
namespace He
open PySem PySem.Spec PyProof.Rows L2
def obsQ (ck : PySem.W.Frag → Bool) (fn : List DefD) (K : PySem.W.Frag) : AlD := (ck K && fn.all fun d => d.ok K, fn.map fun d => fnW K d.at_)
def SaysQ (ck : PySem.W.Frag → Bool) (fn : List DefD) (K : PySem.W.Frag) : Prop := obsQ ck fn K = valD fn
def obsQG (n : Nat) (ck : PySem.W.Frag → Bool) (fn : List DefD) (g : Addr → Option Obj) : AlD := obsQ ck fn (frG g (asD g n))
def hookQ (n : Nat) (ck : PySem.W.Frag → Bool) (fn : List DefD) : PySem.W.Hook where
  α := AlD
  obs := fun s => obsQG n ck fn s.heap.get?
  val := fun _ => valD fn
  says := fun _ h => ∃ K : PySem.W.Frag, K.In h ∧ SaysQ ck fn K
  of := fun _ _ e => ⟨_, frG_in, e⟩
  keeps := fun _ _ _ ⟨K, hK, c⟩ k => ⟨K, PySem.W.Frag.In.keeps hK k, c⟩
theorem obsQG_eq {n : Nat} {ck : PySem.W.Frag → Bool} {fn : List DefD} {g : Addr → Option Obj} {s : Shared} (h : ∀ a, g a = s.heap.get? a) : obsQG n ck fn g = (hookQ n ck fn).obs s := by
  have e : g = s.heap.get? := funext h
  rw [e] <;> rfl
section
variable {ck : PySem.W.Frag → Bool} {fn : List DefD} {K : PySem.W.Frag}
theorem SaysQ.look (c : SaysQ ck fn K) : ck K = true := (ba (show (ck K && fn.all fun d => d.ok K) = true from congrArg (fun z : AlD => z.1) c)).1
theorem SaysQ.def_ (c : SaysQ ck fn K) (i : Nat) {d : DefD} (h : fn[i]? = some d := by rfl) : ∃ fd, FunD K d.name d.qual d.params d.body d.scope (d.dvs K) (d.kws K) (fAd K d.at_) fd := by
  have c2 := (ba (show (ck K && fn.all fun d => d.ok K) = true from congrArg (fun z : AlD => z.1) c)).2
  have e : fn.map (fun d => fnW K d.at_) = fn.map DefD.val := congrArg (fun z : AlD => z.2) c
  have e2 : (fn.map fun d => fnW K d.at_)[i]? = (fn.map DefD.val)[i]? := by rw [e]
  rw [List.getElem?_map, List.getElem?_map, h] at e2
  exact DefD.funD (Option.some.inj e2) (List.all_eq_true.mp c2 d (List.mem_of_getElem? h))
end
end He

/-! The errors of the package: each one is made from its attributes and keeps them. -/
namespace Lm
open PySem PySem.Spec PyProof.Rows L2
open C8 (fnScope_by)
def top (i : Nat) : Stmt := PySem.Challenge.pw_leastmarks_k42_errors_of_one_family.main.body.getD i (.Pass ⟨0, 0, 0, 0⟩)
abbrev sIn (i : Nat) : Stmt := inClass (top i) 0
abbrev sMade : Stmt := top 16
abbrev sMarks : Stmt := top 17
abbrev sShown : Stmt := top 18
abbrev sLaw : Stmt := top 19
theorem PEimp {X : Cx} {e : Expr} {t t' : TE} (h : PE X e t) (i : ∀ σ H Q, t' σ H Q → t σ H Q) : PE X e t' := ⟨fun pins s σ H Q I q => h.run pins s σ H Q I (i σ H Q q)⟩
section
variable {P : Program} {w : World} {K : PySem.W.Frag} {mg : Str → Option Value} {base : Heap}
/-! ### __init__ -/
def spI (K : PySem.W.Frag) (fs : List Str) : Sp := fun vs H Q _ => ∃ (a C : Addr) (ws : List V), vs = .ref a :: ws ∧ ws.length = fs.length ∧ OexC K C ∧ (∀ f ∈ fs, PySem.W.findIn K (.ref C) f = some none) ∧ H a = some (exo a C none) ∧
  ∀ (H' : Hp) (dx : Addr), H dx = none → dx ≠ a → (∀ b, b ≠ a → b ≠ dx → H' b = H b) → H' a = some (exo a C (some dx)) → H' dx = some (exd dx (fs.zip ws).reverse) → Q .non H'
def spI0 : Sp := fun vs H Q _ => ∃ a : Addr, vs = [.ref a] ∧ Q .non H
theorem scI0 : FnScope ["self"] ["self"] (defScope (sIn 1)) := fnScope_by (by decide +kernel)
theorem okI0 {f : Addr} {fd : FuncData} (F : Fun K "__init__" "MarkError.__init__" (sIn 1) f fd) : FnOk P w K mg base CX0 1 f fd ["self"] spI0 := by
  refine F.ok scI0 (fun vs H Q E h => ?_) (fun cdv A outer s H vs Q E hr h => ?_)
  · obtain ⟨a, rfl, _⟩ := h
    rfl
  · obtain ⟨a, rfl, q⟩ := h
    exact ⟨_, pss_one ps_pass, q⟩
theorem lenI {fs : List Str} {n : Nat} (hn : n = fs.length + 1) : ∀ vs H Q E, spI K fs vs H Q E → vs.length = n := fun vs H Q E h => by
  obtain ⟨a, C, ws, rfl, hl, _⟩ := h
  rw [List.length_cons, hl, hn]
/-- the end of an __init__ of one store -/
theorem end1 {H : Hp} {a C : Addr} {f : Str} {v : V} {Q : VK} (k : ∀ (H' : Hp) (dx : Addr), H dx = none → dx ≠ a → (∀ b, b ≠ a → b ≠ dx → H' b = H b) → H' a = some (exo a C (some dx)) → H' dx = some (exd dx ([f].zip [v]).reverse) → Q .non H') :
    ∀ dx, H dx = none → dx ≠ a → Q .non (upd (upd H dx (exd dx [(f, v)])) a (exo a C (some dx))) := fun dx nd ne =>
  k _ dx nd ne (fun b h1 h2 => by rw [upd_ne h1, upd_ne h2]) upd_same (by rw [upd_ne ne, upd_same]; rfl)
theorem scI3 : FnScope ["self", "at"] ["self", "at"] (defScope (sIn 3)) := fnScope_by (by decide +kernel)
theorem okI3 {f : Addr} {fd : FuncData} (F : Fun K "__init__" "NoText.__init__" (sIn 3) f fd) : FnOk P w K mg base CX0 1 f fd ["self", "at"] (spI K ["at"]) := by
  refine F.ok scI3 (lenI rfl) (fun cdv A outer s H vs Q E hr h => ?_)
  obtain ⟨a, C, ws, rfl, hl, T, no, ha, k⟩ := h
  match ws, hl with
  | [v], _ => exact ⟨_, pss_one (ps_ost (pv 0) (pv 1)), _, rfl, _, rfl, a, C, rfl, T, no _ (List.mem_cons_self ..), .inl ⟨ha, end1 k⟩⟩
theorem scI4 : FnScope ["self", "name"] ["self", "name"] (defScope (sIn 4)) := fnScope_by (by decide +kernel)
theorem okI4 {f : Addr} {fd : FuncData} (F : Fun K "__init__" "NoFunction.__init__" (sIn 4) f fd) : FnOk P w K mg base CX0 1 f fd ["self", "name"] (spI K ["name"]) := by
  refine F.ok scI4 (lenI rfl) (fun cdv A outer s H vs Q E hr h => ?_)
  obtain ⟨a, C, ws, rfl, hl, T, no, ha, k⟩ := h
  match ws, hl with
  | [v], _ => exact ⟨_, pss_one (ps_ost (pv 0) (pv 1)), _, rfl, _, rfl, a, C, rfl, T, no _ (List.mem_cons_self ..), .inl ⟨ha, end1 k⟩⟩
theorem scI5 : FnScope ["self", "at"] ["self", "at"] (defScope (sIn 5)) := fnScope_by (by decide +kernel)
theorem okI5 {f : Addr} {fd : FuncData} (F : Fun K "__init__" "NoPoint.__init__" (sIn 5) f fd) : FnOk P w K mg base CX0 1 f fd ["self", "at"] (spI K ["at"]) := by
  refine F.ok scI5 (lenI rfl) (fun cdv A outer s H vs Q E hr h => ?_)
  obtain ⟨a, C, ws, rfl, hl, T, no, ha, k⟩ := h
  match ws, hl with
  | [v], _ => exact ⟨_, pss_one (ps_ost (pv 0) (pv 1)), _, rfl, _, rfl, a, C, rfl, T, no _ (List.mem_cons_self ..), .inl ⟨ha, end1 k⟩⟩
theorem scI7 : FnScope ["self", "faults"] ["self", "faults"] (defScope (sIn 7)) := fnScope_by (by decide +kernel)
theorem okI7 {f : Addr} {fd : FuncData} (F : Fun K "__init__" "HasFaults.__init__" (sIn 7) f fd) : FnOk P w K mg base CX0 1 f fd ["self", "faults"] (spI K ["faults"]) := by
  refine F.ok scI7 (lenI rfl) (fun cdv A outer s H vs Q E hr h => ?_)
  obtain ⟨a, C, ws, rfl, hl, T, no, ha, k⟩ := h
  match ws, hl with
  | [v], _ => exact ⟨_, pss_one (ps_ost (pv 0) (pv 1)), _, rfl, _, rfl, a, C, rfl, T, no _ (List.mem_cons_self ..), .inl ⟨ha, end1 k⟩⟩
theorem scI8 : FnScope ["self", "at"] ["self", "at"] (defScope (sIn 8)) := fnScope_by (by decide +kernel)
theorem okI8 {f : Addr} {fd : FuncData} (F : Fun K "__init__" "NoChoices.__init__" (sIn 8) f fd) : FnOk P w K mg base CX0 1 f fd ["self", "at"] (spI K ["at"]) := by
  refine F.ok scI8 (lenI rfl) (fun cdv A outer s H vs Q E hr h => ?_)
  obtain ⟨a, C, ws, rfl, hl, T, no, ha, k⟩ := h
  match ws, hl with
  | [v], _ => exact ⟨_, pss_one (ps_ost (pv 0) (pv 1)), _, rfl, _, rfl, a, C, rfl, T, no _ (List.mem_cons_self ..), .inl ⟨ha, end1 k⟩⟩
theorem scI11 : FnScope ["self", "at"] ["self", "at"] (defScope (sIn 11)) := fnScope_by (by decide +kernel)
theorem okI11 {f : Addr} {fd : FuncData} (F : Fun K "__init__" "NoWrites.__init__" (sIn 11) f fd) : FnOk P w K mg base CX0 1 f fd ["self", "at"] (spI K ["at"]) := by
  refine F.ok scI11 (lenI rfl) (fun cdv A outer s H vs Q E hr h => ?_)
  obtain ⟨a, C, ws, rfl, hl, T, no, ha, k⟩ := h
  match ws, hl with
  | [v], _ => exact ⟨_, pss_one (ps_ost (pv 0) (pv 1)), _, rfl, _, rfl, a, C, rfl, T, no _ (List.mem_cons_self ..), .inl ⟨ha, end1 k⟩⟩
theorem scI12 : FnScope ["self", "spare"] ["self", "spare"] (defScope (sIn 12)) := fnScope_by (by decide +kernel)
theorem okI12 {f : Addr} {fd : FuncData} (F : Fun K "__init__" "NoSpare.__init__" (sIn 12) f fd) : FnOk P w K mg base CX0 1 f fd ["self", "spare"] (spI K ["spare"]) := by
  refine F.ok scI12 (lenI rfl) (fun cdv A outer s H vs Q E hr h => ?_)
  obtain ⟨a, C, ws, rfl, hl, T, no, ha, k⟩ := h
  match ws, hl with
  | [v], _ => exact ⟨_, pss_one (ps_ost (pv 0) (pv 1)), _, rfl, _, rfl, a, C, rfl, T, no _ (List.mem_cons_self ..), .inl ⟨ha, end1 k⟩⟩
theorem scI14 : FnScope ["self", "name"] ["self", "name"] (defScope (sIn 14)) := fnScope_by (by decide +kernel)
theorem okI14 {f : Addr} {fd : FuncData} (F : Fun K "__init__" "NoModule.__init__" (sIn 14) f fd) : FnOk P w K mg base CX0 1 f fd ["self", "name"] (spI K ["name"]) := by
  refine F.ok scI14 (lenI rfl) (fun cdv A outer s H vs Q E hr h => ?_)
  obtain ⟨a, C, ws, rfl, hl, T, no, ha, k⟩ := h
  match ws, hl with
  | [v], _ => exact ⟨_, pss_one (ps_ost (pv 0) (pv 1)), _, rfl, _, rfl, a, C, rfl, T, no _ (List.mem_cons_self ..), .inl ⟨ha, end1 k⟩⟩
theorem scI2 : FnScope ["self", "where", "at", "why"] ["self", "where", "at", "why"] (defScope (sIn 2)) := fnScope_by (by decide +kernel)
theorem okI2 {f : Addr} {fd : FuncData} (F : Fun K "__init__" "NoProgram.__init__" (sIn 2) f fd) : FnOk P w K mg base CX0 1 f fd ["self", "where", "at", "why"] (spI K ["where", "at", "why"]) := by
  refine F.ok scI2 (lenI rfl) (fun cdv A outer s H vs Q E hr h => ?_)
  obtain ⟨a, C, ws, rfl, hl, T, no, ha, k⟩ := h
  match ws, hl with
  | [v0, v1, v2], _ =>
    refine ⟨_, (pss_cons (ps_ost (pv 0) (pv 1)) (pss_cons (ps_ost (pv 0) (pv 2)) (pss_one (ps_ost (pv 0) (pv 3))))), ?_⟩
    refine ⟨_, rfl, _, rfl, a, C, rfl, T, no _ (by simp), .inl ⟨ha, fun dx nd ne => ?_⟩⟩
    refine ⟨_, rfl, _, rfl, a, C, rfl, T, no _ (by simp), .inr ⟨dx, _, upd_same, by rw [upd_ne ne, upd_same], by simp, ?_⟩⟩
    refine ⟨_, rfl, _, rfl, a, C, rfl, T, no _ (by simp), .inr ⟨dx, _, by rw [upd_ne ne.symm, upd_same], upd_same, by simp, ?_⟩⟩
    exact k _ dx nd ne (fun b h1 h2 => by rw [upd_ne h2, upd_ne h2, upd_ne h1, upd_ne h2]) (by rw [upd_ne ne.symm, upd_ne ne.symm, upd_same]) (by rw [upd_same]; rfl)
theorem scI10 : FnScope ["self", "name", "why"] ["self", "name", "why"] (defScope (sIn 10)) := fnScope_by (by decide +kernel)
theorem okI10 {f : Addr} {fd : FuncData} (F : Fun K "__init__" "NoLowered.__init__" (sIn 10) f fd) : FnOk P w K mg base CX0 1 f fd ["self", "name", "why"] (spI K ["name", "why"]) := by
  refine F.ok scI10 (lenI rfl) (fun cdv A outer s H vs Q E hr h => ?_)
  obtain ⟨a, C, ws, rfl, hl, T, no, ha, k⟩ := h
  match ws, hl with
  | [v0, v1], _ =>
    refine ⟨_, (pss_cons (ps_ost (pv 0) (pv 1)) (pss_one (ps_ost (pv 0) (pv 2)))), ?_⟩
    refine ⟨_, rfl, _, rfl, a, C, rfl, T, no _ (by simp), .inl ⟨ha, fun dx nd ne => ?_⟩⟩
    refine ⟨_, rfl, _, rfl, a, C, rfl, T, no _ (by simp), .inr ⟨dx, _, upd_same, by rw [upd_ne ne, upd_same], by simp, ?_⟩⟩
    exact k _ dx nd ne (fun b h1 h2 => by rw [upd_ne h2, upd_ne h1, upd_ne h2]) (by rw [upd_ne ne.symm, upd_same]) (by rw [upd_same]; rfl)
/-! ### a class of errors -/
structure ClsE (P : Program) (w : World) (K : PySem.W.Frag) (mg : Str → Option Value) (base : Heap) (x : Str) (C : Addr) (fs : List Str) : Prop where
  c : ErrC K C
  g : mg x = some (.ref C)
  no : ∀ f ∈ fs, PySem.W.findIn K (.ref C) f = some none
  ini : ∃ (fI : Addr) (fd : FuncData) (ps : List Str), FnOk P w K mg base CX0 1 fI fd ps (if fs = [] then spI0 else spI K fs) ∧ PySem.W.findIn K (.ref C) "__init__" = some (some (.ref fI)) ∧ PySem.W.typeIn K (.ref fI) = some (.type "function") ∧ Binds K fd ps []
/-- a new error of the class at C with these fields -/
def EV (C : Addr) (d : Option (List (Str × V))) (Q : VK) (H : Hp) : Prop := ∀ (H' : Hp) (a : Addr) (dd : Option (Addr × List (Str × V))), Same H H' → H a = none → ExAt H' a C dd → dd.map (·.2) = d → Q (.ref a) H'
section
variable {X : Cx} {x : Str} {C : Addr} {fs : List Str} {e : Expr} {es : List Expr} {ta : TA} {p pos : Pos}
theorem pe_new (E : ClsE X.prog X.w X.K X.mg X.base x C fs) (hf : fs ≠ []) (hr : Room 2 X.A) (hg : Gl X x) (ha : PA X (e :: es) ta)
    (hdb : (x == ("__debug__" : Str)) = false := by decide) (he : starEach (e :: es) X.env = (false, eval e X.env) :: starEach es X.env := by rfl) (hpl : (backTo pos (starEach es X.env)).any (·.1) = false := by rfl)
    {wsf : V → List V} (hta : ∀ σ H (Q : List V → Hp → Prop) v, σ[0]? = some (some v) → Q (wsf v) H → ta σ H Q) (hl : ∀ v, (wsf v).length = fs.length) (hs : fs.length ≤ 100) :
    PE X (.Call (.Name x p) (e :: es) [] pos) (fun σ H Q => ∃ v, σ[0]? = some (some v) ∧ EV C (some (fs.zip (wsf v)).reverse) Q H) := by
  obtain ⟨fI, fd, ps, F, h1, h2, h3⟩ := E.ini
  rw [if_neg hf] at F
  refine PEimp (pe_oex E.c.o h1 h2 F hr h3 .nil pass0 hg E.g ha hdb he hpl) fun σ H Q h => ?_
  obtain ⟨v, hv, k⟩ := h
  refine hta σ H _ v hv ⟨by rw [hl]; omega, fun a na => ⟨a, C, wsf v, by rw [List.append_nil], hl v, E.c.o, E.no, upd_same, fun H' dx nd ne kp e1 e2 => ⟨rfl, ?_⟩⟩⟩
  have nd0 : H dx = none := by rw [upd_ne ne] at nd; exact nd
  refine k H' a (some (dx, _)) (fun b o eb => ?_) na ⟨e1, fun y ey => by cases ey; exact e2⟩ rfl
  rw [kp b (ne_of_none eb na) (ne_of_none eb nd0), upd_ne (ne_of_none eb na)]
  exact eb
theorem pe_new0 (E : ClsE X.prog X.w X.K X.mg X.base x C []) (hr : Room 2 X.A) (hg : Gl X x) (hdb : (x == ("__debug__" : Str)) = false := by decide) :
    PE X (.Call (.Name x p) [] [] pos) (fun σ H Q => EV C none Q H) := by
  obtain ⟨fI, fd, ps, F, h1, h2, h3⟩ := E.ini
  rw [if_pos rfl] at F
  refine PEimp (pe_oex0 E.c.o h1 h2 F hr h3 .nil pass0 hg E.g hdb) fun σ H Q k => ?_
  exact ⟨Nat.zero_le _, fun a na => ⟨a, rfl, rfl, k _ a none (same_upd na) na ⟨upd_same, fun y ey => nomatch ey⟩ rfl⟩⟩
/-! ### a pair of an error and what it must have -/
def PairAt (H : Hp) (p C : Addr) (d : Option (List (Str × V))) (due : List V) : Prop := ∃ (e l : Addr) (dd : Option (Addr × List (Str × V))), H p = some (.tup [.ref e, .ref l]) ∧ ExAt H e C dd ∧ dd.map (·.2) = d ∧ H l = some (.lst due)
theorem ExAt.mono {H H' : Hp} {a C : Addr} {d : Option (Addr × List (Str × V))} (h : ExAt H a C d) (s : Same H H') : ExAt H' a C d := ⟨s _ _ h.1, fun y e => s _ _ (h.2 y e)⟩
theorem PairAt.mono {H H' : Hp} {p C : Addr} {d : Option (List (Str × V))} {due : List V} (h : PairAt H p C d due) (s : Same H H') : PairAt H' p C d due := by
  obtain ⟨e, l, dd, h1, h2, h3, h4⟩ := h
  exact ⟨e, l, dd, s _ _ h1, ExAt.mono h2 s, h3, s _ _ h4⟩
def tP (C : Addr) (d : V → Option (List (Str × V))) (due : V → List V) : TE := fun σ H Q => ∃ v, σ[0]? = some (some v) ∧ ∀ (H' : Hp) (p : Addr), Same H H' → PairAt H' p C (d v) (due v) → Q (.ref p) H'
theorem pairW {ce : Expr} {des : List Expr} {d : V → Option (List (Str × V))} {due : V → List V} {tl : TA} {p2 p3 : Pos} {k : Nat} (hc : PE X ce (fun σ H Q => ∃ v, σ[0]? = some (some v) ∧ EV C (d v) Q H)) (hl : PA X des tl)
    (ht : ∀ σ H (Q : List V → Hp → Prop) v, σ[0]? = some (some v) → Q (due v) H → tl σ H Q) (hd : ∀ v, (due v).length ≤ 100) (hs : ∀ r, starEach (ce :: r) X.env = (false, eval ce X.env) :: starEach r X.env := by intro r; rfl) : PE X (.Tuple [ce, .List des p2] k p3) (tP C d due) := by
  refine PEimp (pe_tup (pa_cons (hs := hs _) hc (pa_cons (pe_lst hl) pa_nil))) fun σ H Q h => ?_
  obtain ⟨v, hv, q⟩ := h
  refine ⟨v, hv, fun H1 a dd s1 na ex ed => ht σ H1 _ v hv ⟨Nat.le_of_lt (small1000 (Nat.le_trans (hd v) (by decide))), fun l nl => ⟨by show 2 ≤ sizeLine; decide, fun p np => ?_⟩⟩⟩
  have s2 := same_upd (o := .lst (due v)) nl
  have s3 := same_upd (o := .tup [.ref a, .ref l]) np
  exact q _ p ((s1.trans s2).trans s3) ⟨a, l, dd, upd_same, (ExAt.mono (ExAt.mono ex s2) s3), ed, s3 _ _ upd_same⟩
end
end
end Lm

namespace Lm
open PySem PySem.Spec PyProof.Rows L2
open C8 (fnScope_by)
/-! ### the thirteen classes -/
def nmC : Nat → Str
  | 0 => "NoProgram" | 1 => "NoText" | 2 => "NoFunction" | 3 => "NoPoint" | 4 => "NoPlan" | 5 => "HasFaults" | 6 => "NoChoices" | 7 => "NoStops" | 8 => "NoLowered" | 9 => "NoWrites" | 10 => "NoSpare" | 11 => "NoImage" | _ => "NoModule"
def fdC : Nat → List Str
  | 0 => ["where", "at", "why"] | 1 => ["at"] | 2 => ["name"] | 3 => ["at"] | 4 => [] | 5 => ["faults"] | 6 => ["at"] | 7 => [] | 8 => ["name", "why"] | 9 => ["at"] | 10 => ["spare"] | 11 => [] | _ => ["name"]
def dueC (v : V) : Nat → List V
  | 0 => [v, .int 5, .str "why"] | 4 => [] | 7 => [] | 8 => [v, .str "why"] | 11 => [] | _ => [v]
def dC (v : V) : Nat → Option (List (Str × V))
  | 4 => none | 7 => none | 11 => none | i => some ((fdC i).zip (dueC v i)).reverse
theorem dueLen (v : V) (i : Nat) : (dueC v i).length ≤ 100 := by
  unfold dueC
  split <;> simp
theorem dueLen3 (v : V) (i : Nat) : (dueC v i).length ≤ 3 := by
  unfold dueC
  split <;> simp
theorem PairAt.upd {H : Hp} {p C l : Addr} {d : Option (List (Str × V))} {due xs : List V} {o : HO} (h : PairAt H p C d due) (hl : H l = some (.lst xs)) (ne : due ≠ xs) : PairAt (upd H l o) p C d due := by
  obtain ⟨e, l2, dd, h1, ⟨h2, h2'⟩, h3, h4⟩ := h
  have n1 : p ≠ l := ne_of h1 hl (by intro z; cases z)
  have n2 : e ≠ l := ne_of h2 hl (by intro z; have z' : HO.ext _ = HO.lst xs := z; cases z')
  have n4 : l2 ≠ l := ne_of h4 hl (by intro z; exact ne (HO.lst.inj z))
  refine ⟨e, l2, dd, by rw [upd_ne n1]; exact h1, ⟨by rw [upd_ne n2]; exact h2, fun y ey => ?_⟩, h3, by rw [upd_ne n4]; exact h4⟩
  have n3 : y.1 ≠ l := ne_of (h2' y ey) hl (by intro z; have z' : HO.ext _ = HO.lst xs := z; cases z')
  rw [upd_ne n3]
  exact h2' y ey
structure Errs (P : Program) (w : World) (K : PySem.W.Frag) (mg : Str → Option Value) (base : Heap) (cl : Nat → Addr) (cb : Addr) : Prop where
  e : ∀ i, i < 13 → ClsE P w K mg base (nmC i) (cl i) (fdC i)
  b : ClsE P w K mg base "MarkError" cb []
  kit : ∀ i j, i < 13 → j < 13 → PySem.W.kitOne K (.ref (cl i)) (.ref (cl j)) = some (decide (j = i))
  kitB : ∀ i, i < 13 → PySem.W.kitOne K (.ref (cl i)) (.ref cb) = some true
  kitV : ∀ i, i < 13 → PySem.W.kitOne K (.ref (cl i)) (.type "ValueError") = some true
  bV : PySem.W.kitOne K (.ref cb) (.type "ValueError") = some true
  bk : ∀ j, j < 13 → PySem.W.kitOne K (.ref cb) (.ref (cl j)) = some false
section
variable {P : Program} {w : World} {K : PySem.W.Frag} {mg : Str → Option Value} {base : Heap} {cl : Nat → Addr} {cb : Addr}
def MadeAt (cl : Nat → Addr) (H : Hp) (l : Addr) (v : V) : Prop := ∃ ps : List Addr, H l = some (.lst (ps.map V.ref)) ∧ ps.length = 13 ∧ ∀ i p, ps[i]? = some p → PairAt H p (cl i) (dC v i) (dueC v i)
def spMade (cl : Nat → Addr) : Sp := fun vs H Q _ => ∃ v, vs = [v] ∧ ∀ (H' : Hp) (l : Addr), Same H H' → H l = none → MadeAt cl H' l v → Q (.ref l) H'
theorem scMade : FnScope ["_law_value", "_law_found"] ["_law_value"] (defScope sMade) := fnScope_by (by decide +kernel)
theorem okMade {f : Addr} {fd : FuncData} (F : Fun K "_law_made" "_law_made" sMade f fd) (E : Errs P w K mg base cl cb) : FnOk P w K mg base CX0 3 f fd ["_law_value"] (spMade cl) := by
  refine F.ok scMade (fun vs H Q E h => ?_) (fun cdv A outer s H vs Q Ex hr h => ?_)
  · obtain ⟨v, rfl, _⟩ := h
    rfl
  obtain ⟨v, rfl, q⟩ := h
  refine ⟨_, pss_cons (ps_set (i := 1) scMade.nd rfl (.inl rfl) (pe_lst (pa_cons (pairW (C := cl 0) (d := fun v => dC v 0) (due := fun v => dueC v 0) (hd := fun v => dueLen v 0) (pe_new (E.e 0 (by decide)) (by decide) (hr.mono (by decide)) (by rfl) (pa_cons (pv 0) (pa_cons pe_int (pa_cons pe_str pa_nil))) (wsf := fun v => [v, .int 5, .str "why"]) (hta := fun σ H Q v hv z => ⟨v, hv, z⟩) (hl := fun v => rfl) (hs := by decide)) (pa_cons (pv 0) (pa_cons pe_int (pa_cons pe_str pa_nil))) (fun σ H Q v hv z => ⟨v, hv, z⟩)) (pa_cons (pairW (C := cl 1) (d := fun v => dC v 1) (due := fun v => dueC v 1) (hd := fun v => dueLen v 1) (pe_new (E.e 1 (by decide)) (by decide) (hr.mono (by decide)) (by rfl) (pa_cons (pv 0) pa_nil) (wsf := fun v => [v]) (hta := fun σ H Q v hv z => ⟨v, hv, z⟩) (hl := fun v => rfl) (hs := by decide)) (pa_cons (pv 0) pa_nil) (fun σ H Q v hv z => ⟨v, hv, z⟩)) (pa_cons (pairW (C := cl 2) (d := fun v => dC v 2) (due := fun v => dueC v 2) (hd := fun v => dueLen v 2) (pe_new (E.e 2 (by decide)) (by decide) (hr.mono (by decide)) (by rfl) (pa_cons (pv 0) pa_nil) (wsf := fun v => [v]) (hta := fun σ H Q v hv z => ⟨v, hv, z⟩) (hl := fun v => rfl) (hs := by decide)) (pa_cons (pv 0) pa_nil) (fun σ H Q v hv z => ⟨v, hv, z⟩)) pa_nil)))))
    (pss_cons (ps_set (i := 1) scMade.nd rfl (.inl rfl) (pe_op op_cat (pv 1) (pe_lst (pa_cons (pairW (C := cl 3) (d := fun v => dC v 3) (due := fun v => dueC v 3) (hd := fun v => dueLen v 3) (pe_new (E.e 3 (by decide)) (by decide) (hr.mono (by decide)) (by rfl) (pa_cons (pv 0) pa_nil) (wsf := fun v => [v]) (hta := fun σ H Q v hv z => ⟨v, hv, z⟩) (hl := fun v => rfl) (hs := by decide)) (pa_cons (pv 0) pa_nil) (fun σ H Q v hv z => ⟨v, hv, z⟩)) (pa_cons (pairW (C := cl 4) (d := fun v => dC v 4) (due := fun v => dueC v 4) (hd := fun v => dueLen v 4) (PEimp (pe_new0 (E.e 4 (by decide)) (hr.mono (by decide)) (by rfl)) fun σ H Q h => h.elim fun _ z => z.2) pa_nil (fun σ H Q v _ z => z)) (pa_cons (pairW (C := cl 5) (d := fun v => dC v 5) (due := fun v => dueC v 5) (hd := fun v => dueLen v 5) (pe_new (E.e 5 (by decide)) (by decide) (hr.mono (by decide)) (by rfl) (pa_cons (pv 0) pa_nil) (wsf := fun v => [v]) (hta := fun σ H Q v hv z => ⟨v, hv, z⟩) (hl := fun v => rfl) (hs := by decide)) (pa_cons (pv 0) pa_nil) (fun σ H Q v hv z => ⟨v, hv, z⟩)) pa_nil))))))
    (pss_cons (ps_set (i := 1) scMade.nd rfl (.inl rfl) (pe_op op_cat (pv 1) (pe_lst (pa_cons (pairW (C := cl 6) (d := fun v => dC v 6) (due := fun v => dueC v 6) (hd := fun v => dueLen v 6) (pe_new (E.e 6 (by decide)) (by decide) (hr.mono (by decide)) (by rfl) (pa_cons (pv 0) pa_nil) (wsf := fun v => [v]) (hta := fun σ H Q v hv z => ⟨v, hv, z⟩) (hl := fun v => rfl) (hs := by decide)) (pa_cons (pv 0) pa_nil) (fun σ H Q v hv z => ⟨v, hv, z⟩)) (pa_cons (pairW (C := cl 7) (d := fun v => dC v 7) (due := fun v => dueC v 7) (hd := fun v => dueLen v 7) (PEimp (pe_new0 (E.e 7 (by decide)) (hr.mono (by decide)) (by rfl)) fun σ H Q h => h.elim fun _ z => z.2) pa_nil (fun σ H Q v _ z => z)) (pa_cons (pairW (C := cl 8) (d := fun v => dC v 8) (due := fun v => dueC v 8) (hd := fun v => dueLen v 8) (pe_new (E.e 8 (by decide)) (by decide) (hr.mono (by decide)) (by rfl) (pa_cons (pv 0) (pa_cons pe_str pa_nil)) (wsf := fun v => [v, .str "why"]) (hta := fun σ H Q v hv z => ⟨v, hv, z⟩) (hl := fun v => rfl) (hs := by decide)) (pa_cons (pv 0) (pa_cons pe_str pa_nil)) (fun σ H Q v hv z => ⟨v, hv, z⟩)) pa_nil))))))
    (pss_cons (ps_set (i := 1) scMade.nd rfl (.inl rfl) (pe_op op_cat (pv 1) (pe_lst (pa_cons (pairW (C := cl 9) (d := fun v => dC v 9) (due := fun v => dueC v 9) (hd := fun v => dueLen v 9) (pe_new (E.e 9 (by decide)) (by decide) (hr.mono (by decide)) (by rfl) (pa_cons (pv 0) pa_nil) (wsf := fun v => [v]) (hta := fun σ H Q v hv z => ⟨v, hv, z⟩) (hl := fun v => rfl) (hs := by decide)) (pa_cons (pv 0) pa_nil) (fun σ H Q v hv z => ⟨v, hv, z⟩)) (pa_cons (pairW (C := cl 10) (d := fun v => dC v 10) (due := fun v => dueC v 10) (hd := fun v => dueLen v 10) (pe_new (E.e 10 (by decide)) (by decide) (hr.mono (by decide)) (by rfl) (pa_cons (pv 0) pa_nil) (wsf := fun v => [v]) (hta := fun σ H Q v hv z => ⟨v, hv, z⟩) (hl := fun v => rfl) (hs := by decide)) (pa_cons (pv 0) pa_nil) (fun σ H Q v hv z => ⟨v, hv, z⟩)) (pa_cons (pairW (C := cl 11) (d := fun v => dC v 11) (due := fun v => dueC v 11) (hd := fun v => dueLen v 11) (PEimp (pe_new0 (E.e 11 (by decide)) (hr.mono (by decide)) (by rfl)) fun σ H Q h => h.elim fun _ z => z.2) pa_nil (fun σ H Q v _ z => z)) pa_nil))))))
    (pss_cons (ps_expr (pe_bm PySem.F.plainAttrs_list PySem.F.slot_list_append PySem.F.type_list_append mt_append (pv 1) (pa_cons (pairW (C := cl 12) (d := fun v => dC v 12) (due := fun v => dueC v 12) (hd := fun v => dueLen v 12) (pe_new (E.e 12 (by decide)) (by decide) (hr.mono (by decide)) (by rfl) (pa_cons (pv 0) pa_nil) (wsf := fun v => [v]) (hta := fun σ H Q v hv z => ⟨v, hv, z⟩) (hl := fun v => rfl) (hs := by decide)) (pa_cons (pv 0) pa_nil) (fun σ H Q v hv z => ⟨v, hv, z⟩)) pa_nil)))
    (pss_one (ps_ret (pv 1))))))), ?_⟩
  refine ⟨v, rfl, fun H0 q0 s0 A0 => ⟨v, rfl, fun H1 q1 s1 A1 => ⟨v, rfl, fun H2 q2 s2 A2 => ⟨by show 3 ≤ sizeLine; decide, fun l1 n1 => ?_⟩⟩⟩⟩
  have t1 := same_upd (o := .lst [.ref q0, .ref q1, .ref q2]) n1
  refine ⟨_, rfl, v, rfl, fun H3 q3 s3 A3 => ⟨v, rfl, fun H4 q4 s4 A4 => ⟨v, rfl, fun H5 q5 s5 A5 => ⟨by show 3 ≤ sizeLine; decide, fun l2 n2 => ?_⟩⟩⟩⟩
  have t2 := same_upd (o := .lst [.ref q3, .ref q4, .ref q5]) n2
  refine ⟨l1, l2, _, _, rfl, rfl, t2 _ _ (s5 _ _ (s4 _ _ (s3 _ _ upd_same))), upd_same, by show 6 ≤ sizeLine; decide, fun l3 n3 => ?_⟩
  have t3 := same_upd (o := .lst ([.ref q0, .ref q1, .ref q2] ++ [.ref q3, .ref q4, .ref q5])) n3
  refine ⟨_, rfl, v, rfl, fun H6 q6 s6 A6 => ⟨v, rfl, fun H7 q7 s7 A7 => ⟨v, rfl, fun H8 q8 s8 A8 => ⟨by show 3 ≤ sizeLine; decide, fun l4 n4 => ?_⟩⟩⟩⟩
  have t4 := same_upd (o := .lst [.ref q6, .ref q7, .ref q8]) n4
  refine ⟨l3, l4, _, _, rfl, rfl, t4 _ _ (s8 _ _ (s7 _ _ (s6 _ _ upd_same))), upd_same, by show 9 ≤ sizeLine; decide, fun l5 n5 => ?_⟩
  have t5 := same_upd (o := .lst (([.ref q0, .ref q1, .ref q2] ++ [.ref q3, .ref q4, .ref q5]) ++ [.ref q6, .ref q7, .ref q8])) n5
  refine ⟨_, rfl, v, rfl, fun H9 q9 s9 A9 => ⟨v, rfl, fun H10 q10 s10 A10 => ⟨v, rfl, fun H11 q11 s11 A11 => ⟨by show 3 ≤ sizeLine; decide, fun l6 n6 => ?_⟩⟩⟩⟩
  have t6 := same_upd (o := .lst [.ref q9, .ref q10, .ref q11]) n6
  refine ⟨l5, l6, _, _, rfl, rfl, t6 _ _ (s11 _ _ (s10 _ _ (s9 _ _ upd_same))), upd_same, by show 12 ≤ sizeLine; decide, fun l7 n7 => ?_⟩
  have t7 := same_upd (o := .lst ((([.ref q0, .ref q1, .ref q2] ++ [.ref q3, .ref q4, .ref q5]) ++ [.ref q6, .ref q7, .ref q8]) ++ [.ref q9, .ref q10, .ref q11])) n7
  refine ⟨_, rfl, .inl ⟨rfl, _, .inl (.inl upd_same)⟩, v, rfl, fun H12 q12 s12 A12 => ⟨l7, _, _, rfl, rfl, s12 _ _ upd_same, by show 12 < sizeLine; decide, _, rfl, ?_⟩⟩
  have U2 := (s0.trans (s1.trans s2)).trans t1
  have U5 := (U2.trans (s3.trans (s4.trans s5))).trans (t2.trans t3)
  have U8 := (U5.trans (s6.trans (s7.trans s8))).trans (t4.trans t5)
  have U11 := (U8.trans (s9.trans (s10.trans s11))).trans t6
  have hl7 : H l7 = none := U11.free n7
  have T11 := t6.trans (t7.trans s12)
  have T10 := s11.trans T11
  have T9 := s10.trans T10
  have T8 := t4.trans (t5.trans (s9.trans T9))
  have T7 := s8.trans T8
  have T6 := s7.trans T7
  have T5 := t2.trans (t3.trans (s6.trans T6))
  have T4 := s5.trans T5
  have T3 := s4.trans T4
  have T2 := t1.trans (s3.trans T3)
  have T1 := s2.trans T2
  have T0 := s1.trans T1
  have e7 := s12 _ _ (upd_same (H := upd H11 l6 (.lst [.ref q9, .ref q10, .ref q11])) (a := l7) (o := .lst ((([.ref q0, .ref q1, .ref q2] ++ [.ref q3, .ref q4, .ref q5]) ++ [.ref q6, .ref q7, .ref q8]) ++ [.ref q9, .ref q10, .ref q11])))
  have nd : ∀ i, dueC v i ≠ ((([.ref q0, .ref q1, .ref q2] ++ [.ref q3, .ref q4, .ref q5]) ++ [.ref q6, .ref q7, .ref q8]) ++ [.ref q9, .ref q10, .ref q11] : List V) := fun i z => by
    have h := dueLen3 v i
    rw [z] at h
    simp at h
  refine q _ l7 (fun b o e => ?_) hl7 ⟨[q0, q1, q2, q3, q4, q5, q6, q7, q8, q9, q10, q11, q12], upd_same, rfl, fun i p hp => ?_⟩
  · rw [upd_ne (ne_of_none e hl7)]
    exact T0 _ _ (s0 _ _ e)
  · match i, hp with
    | 0, hp => cases hp; exact (A0.mono T0).upd e7 (nd 0)
    | 1, hp => cases hp; exact (A1.mono T1).upd e7 (nd 1)
    | 2, hp => cases hp; exact (A2.mono T2).upd e7 (nd 2)
    | 3, hp => cases hp; exact (A3.mono T3).upd e7 (nd 3)
    | 4, hp => cases hp; exact (A4.mono T4).upd e7 (nd 4)
    | 5, hp => cases hp; exact (A5.mono T5).upd e7 (nd 5)
    | 6, hp => cases hp; exact (A6.mono T6).upd e7 (nd 6)
    | 7, hp => cases hp; exact (A7.mono T7).upd e7 (nd 7)
    | 8, hp => cases hp; exact (A8.mono T8).upd e7 (nd 8)
    | 9, hp => cases hp; exact (A9.mono T9).upd e7 (nd 9)
    | 10, hp => cases hp; exact (A10.mono T10).upd e7 (nd 10)
    | 11, hp => cases hp; exact (A11.mono T11).upd e7 (nd 11)
    | 12, hp => cases hp; exact A12.upd e7 (nd 12)
    | n + 13, hp => simp at hp
/-! ### _law_marks_of -/
def rowB (r : Nat → Bool) : List V := (List.range 13).map fun j => V.bl (r j)
def spMarks (K : PySem.W.Frag) (cl : Nat → Addr) : Sp := fun vs H Q _ => ∃ (e C : Addr) (dd : Option (Addr × List (Str × V))) (r : Nat → Bool), vs = [.ref e] ∧ ExAt H e C dd ∧ ErrC K C ∧ (∀ j, j < 13 → PySem.W.kitOne K (.ref C) (.ref (cl j)) = some (r j)) ∧
  ∀ (H' : Hp) (l : Addr), Same H H' → H l = none → H' l = some (.lst (rowB r)) → Q (.ref l) H'
theorem scMarks : FnScope ["_law_error", "_law_found"] ["_law_error"] (defScope sMarks) := fnScope_by (by decide +kernel)
theorem okMarks {f : Addr} {fd : FuncData} (F : Fun K "_law_marks_of" "_law_marks_of" sMarks f fd) (E : Errs P w K mg base cl cb) (mi : mg "isinstance" = none) : FnOk P w K mg base CX0 1 f fd ["_law_error"] (spMarks K cl) := by
  refine F.ok scMarks (fun vs H Q E h => ?_) (fun cdv A outer s H vs Q Ex hr h => ?_)
  · obtain ⟨e, C, dd, r, rfl, _⟩ := h
    rfl
  obtain ⟨e, C, dd, r, rfl, hx, T, hk, q⟩ := h
  refine ⟨_, pss_cons (ps_set (i := 1) scMarks.nd rfl (.inl rfl) (pe_lst (pa_cons (pe_callB call_isX (by rfl) mi boot_isinstance (pa_cons (pv 0) (pa_cons (pe_glob (v := .ref (cl 0)) (by rfl) (E.e 0 (by decide)).g rfl) pa_nil))) (pa_cons (pe_callB call_isX (by rfl) mi boot_isinstance (pa_cons (pv 0) (pa_cons (pe_glob (v := .ref (cl 1)) (by rfl) (E.e 1 (by decide)).g rfl) pa_nil))) (pa_cons (pe_callB call_isX (by rfl) mi boot_isinstance (pa_cons (pv 0) (pa_cons (pe_glob (v := .ref (cl 2)) (by rfl) (E.e 2 (by decide)).g rfl) pa_nil))) pa_nil)))))
    (pss_cons (ps_set (i := 1) scMarks.nd rfl (.inl rfl) (pe_op op_cat (pv 1) (pe_lst (pa_cons (pe_callB call_isX (by rfl) mi boot_isinstance (pa_cons (pv 0) (pa_cons (pe_glob (v := .ref (cl 3)) (by rfl) (E.e 3 (by decide)).g rfl) pa_nil))) (pa_cons (pe_callB call_isX (by rfl) mi boot_isinstance (pa_cons (pv 0) (pa_cons (pe_glob (v := .ref (cl 4)) (by rfl) (E.e 4 (by decide)).g rfl) pa_nil))) (pa_cons (pe_callB call_isX (by rfl) mi boot_isinstance (pa_cons (pv 0) (pa_cons (pe_glob (v := .ref (cl 5)) (by rfl) (E.e 5 (by decide)).g rfl) pa_nil))) pa_nil))))))
    (pss_cons (ps_set (i := 1) scMarks.nd rfl (.inl rfl) (pe_op op_cat (pv 1) (pe_lst (pa_cons (pe_callB call_isX (by rfl) mi boot_isinstance (pa_cons (pv 0) (pa_cons (pe_glob (v := .ref (cl 6)) (by rfl) (E.e 6 (by decide)).g rfl) pa_nil))) (pa_cons (pe_callB call_isX (by rfl) mi boot_isinstance (pa_cons (pv 0) (pa_cons (pe_glob (v := .ref (cl 7)) (by rfl) (E.e 7 (by decide)).g rfl) pa_nil))) (pa_cons (pe_callB call_isX (by rfl) mi boot_isinstance (pa_cons (pv 0) (pa_cons (pe_glob (v := .ref (cl 8)) (by rfl) (E.e 8 (by decide)).g rfl) pa_nil))) pa_nil))))))
    (pss_cons (ps_set (i := 1) scMarks.nd rfl (.inl rfl) (pe_op op_cat (pv 1) (pe_lst (pa_cons (pe_callB call_isX (by rfl) mi boot_isinstance (pa_cons (pv 0) (pa_cons (pe_glob (v := .ref (cl 9)) (by rfl) (E.e 9 (by decide)).g rfl) pa_nil))) (pa_cons (pe_callB call_isX (by rfl) mi boot_isinstance (pa_cons (pv 0) (pa_cons (pe_glob (v := .ref (cl 10)) (by rfl) (E.e 10 (by decide)).g rfl) pa_nil))) (pa_cons (pe_callB call_isX (by rfl) mi boot_isinstance (pa_cons (pv 0) (pa_cons (pe_glob (v := .ref (cl 11)) (by rfl) (E.e 11 (by decide)).g rfl) pa_nil))) pa_nil))))))
    (pss_one (ps_ret (pe_op op_cat (pv 1) (pe_lst (pa_cons (pe_callB call_isX (by rfl) mi boot_isinstance (pa_cons (pv 0) (pa_cons (pe_glob (v := .ref (cl 12)) (by rfl) (E.e 12 (by decide)).g rfl) pa_nil))) pa_nil)))))))), ?_⟩
  refine ⟨_, rfl, e, C, dd, _, _, r 0, rfl, ExAt.mono hx (Same.refl H), T.e, .own _, hk 0 (by decide), ⟨_, rfl, e, C, dd, _, _, r 1, rfl, ExAt.mono hx (Same.refl H), T.e, .own _, hk 1 (by decide), ⟨_, rfl, e, C, dd, _, _, r 2, rfl, ExAt.mono hx (Same.refl H), T.e, .own _, hk 2 (by decide), ⟨(by show 3 ≤ sizeLine; decide), fun l1 n1 => ?_⟩⟩⟩⟩
  have t1 := same_upd (o := .lst [.bl (r 0), .bl (r 1), .bl (r 2)]) n1
  refine ⟨_, rfl, ⟨_, rfl, e, C, dd, _, _, r 3, rfl, ExAt.mono hx t1, T.e, .own _, hk 3 (by decide), ⟨_, rfl, e, C, dd, _, _, r 4, rfl, ExAt.mono hx t1, T.e, .own _, hk 4 (by decide), ⟨_, rfl, e, C, dd, _, _, r 5, rfl, ExAt.mono hx t1, T.e, .own _, hk 5 (by decide), ⟨(by show 3 ≤ sizeLine; decide), fun l2 n2 => ?_⟩⟩⟩⟩⟩
  have t2 := t1.trans (same_upd (o := .lst [.bl (r 3), .bl (r 4), .bl (r 5)]) n2)
  refine ⟨l1, l2, _, _, rfl, rfl, same_upd n2 _ _ upd_same, upd_same, by show 6 ≤ sizeLine; decide, fun l3 n3 => ?_⟩
  have t3 := t2.trans (same_upd (o := .lst ([.bl (r 0), .bl (r 1), .bl (r 2)] ++ [.bl (r 3), .bl (r 4), .bl (r 5)])) n3)
  refine ⟨_, rfl, ⟨_, rfl, e, C, dd, _, _, r 6, rfl, ExAt.mono hx t3, T.e, .own _, hk 6 (by decide), ⟨_, rfl, e, C, dd, _, _, r 7, rfl, ExAt.mono hx t3, T.e, .own _, hk 7 (by decide), ⟨_, rfl, e, C, dd, _, _, r 8, rfl, ExAt.mono hx t3, T.e, .own _, hk 8 (by decide), ⟨(by show 3 ≤ sizeLine; decide), fun l4 n4 => ?_⟩⟩⟩⟩⟩
  have t4 := t3.trans (same_upd (o := .lst [.bl (r 6), .bl (r 7), .bl (r 8)]) n4)
  refine ⟨l3, l4, _, _, rfl, rfl, same_upd n4 _ _ upd_same, upd_same, by show 9 ≤ sizeLine; decide, fun l5 n5 => ?_⟩
  have t5 := t4.trans (same_upd (o := .lst (([.bl (r 0), .bl (r 1), .bl (r 2)] ++ [.bl (r 3), .bl (r 4), .bl (r 5)]) ++ [.bl (r 6), .bl (r 7), .bl (r 8)])) n5)
  refine ⟨_, rfl, ⟨_, rfl, e, C, dd, _, _, r 9, rfl, ExAt.mono hx t5, T.e, .own _, hk 9 (by decide), ⟨_, rfl, e, C, dd, _, _, r 10, rfl, ExAt.mono hx t5, T.e, .own _, hk 10 (by decide), ⟨_, rfl, e, C, dd, _, _, r 11, rfl, ExAt.mono hx t5, T.e, .own _, hk 11 (by decide), ⟨(by show 3 ≤ sizeLine; decide), fun l6 n6 => ?_⟩⟩⟩⟩⟩
  have t6 := t5.trans (same_upd (o := .lst [.bl (r 9), .bl (r 10), .bl (r 11)]) n6)
  refine ⟨l5, l6, _, _, rfl, rfl, same_upd n6 _ _ upd_same, upd_same, by show 12 ≤ sizeLine; decide, fun l7 n7 => ?_⟩
  have t7 := t6.trans (same_upd (o := .lst ((([.bl (r 0), .bl (r 1), .bl (r 2)] ++ [.bl (r 3), .bl (r 4), .bl (r 5)]) ++ [.bl (r 6), .bl (r 7), .bl (r 8)]) ++ [.bl (r 9), .bl (r 10), .bl (r 11)])) n7)
  refine ⟨_, rfl, ⟨_, rfl, e, C, dd, _, _, r 12, rfl, ExAt.mono hx t7, T.e, .own _, hk 12 (by decide), ⟨(by show 1 ≤ sizeLine; decide), fun l8 n8 => ?_⟩⟩⟩
  have t8 := t7.trans (same_upd (o := .lst [.bl (r 12)]) n8)
  refine ⟨l7, l8, _, _, rfl, rfl, same_upd n8 _ _ upd_same, upd_same, by show 13 ≤ sizeLine; decide, fun l9 n9 => ?_⟩
  exact q _ l9 (t8.trans (same_upd n9)) (t8.free n9) upd_same
end
end Lm

namespace Lm
open PySem PySem.Spec PyProof.Rows L2
open C8 (fnScope_by)
section
variable {P : Program} {w : World} {K : PySem.W.Frag} {mg : Str → Option Value} {base : Heap} {cl : Nat → Addr} {cb : Addr}
/-! ### _law_shown -/
def spShown (K : PySem.W.Frag) (cl : Nat → Addr) : Sp := fun vs H Q _ => ∃ (e i : Nat) (dd : Option (Addr × List (Str × V))) (v : V), vs = [.ref e] ∧ i < 13 ∧ ExAt H e (cl i) dd ∧ dd.map (·.2) = dC v i ∧
  ∀ (H' : Hp) (l : Addr), Same H H' → H l = none → H' l = some (.lst (dueC v i)) → Q (.ref l) H'
theorem scShown : FnScope ["_law_error"] ["_law_error"] (defScope sShown) := fnScope_by (by decide +kernel)
theorem okShown {f : Addr} {fd : FuncData} (F : Fun K "_law_shown" "_law_shown" sShown f fd) (E : Errs P w K mg base cl cb) (mi : mg "isinstance" = none) : FnOk P w K mg base CX0 1 f fd ["_law_error"] (spShown K cl) := by
  refine F.ok scShown (fun vs H Q E h => ?_) (fun cdv A outer s H vs Q Ex hr h => ?_)
  · obtain ⟨e, i, dd, v, rfl, _⟩ := h
    rfl
  obtain ⟨e, i, dd, v, rfl, hi, hx, hd, q⟩ := h
  have gl : ∀ j, j < 13 → mg (nmC j) = some (.ref (cl j)) := fun j hj => (E.e j hj).g
  refine ⟨_, pss_cons (ps_if (pt_val (pe_callB call_isX (by rfl) mi boot_isinstance (pa_cons (pv 0) (pa_cons (pe_glob (v := .ref (cl 0)) (by rfl) (gl 0 (by decide)) rfl) pa_nil)))) (pss_one (ps_ret (pe_lst (pa_cons (pe_xfv (pv 0)) (pa_cons (pe_xfv (pv 0)) (pa_cons (pe_xfv (pv 0)) pa_nil)))))) pss_nil)
    (pss_cons (ps_if (pt_val (pe_callB call_isXT (by rfl) mi boot_isinstance (pa_cons (pv 0) (pa_cons (pe_tup (pa_cons (pe_glob (v := .ref (cl 1)) (by rfl) (gl 1 (by decide)) rfl) (pa_cons (pe_glob (v := .ref (cl 3)) (by rfl) (gl 3 (by decide)) rfl) (pa_cons (pe_glob (v := .ref (cl 6)) (by rfl) (gl 6 (by decide)) rfl) (pa_cons (pe_glob (v := .ref (cl 9)) (by rfl) (gl 9 (by decide)) rfl) pa_nil))))) pa_nil)))) (pss_one (ps_ret (pe_lst (pa_cons (pe_xfv (pv 0)) pa_nil)))) pss_nil)
    (pss_cons (ps_if (pt_val (pe_callB call_isXT (by rfl) mi boot_isinstance (pa_cons (pv 0) (pa_cons (pe_tup (pa_cons (pe_glob (v := .ref (cl 2)) (by rfl) (gl 2 (by decide)) rfl) (pa_cons (pe_glob (v := .ref (cl 12)) (by rfl) (gl 12 (by decide)) rfl) pa_nil))) pa_nil)))) (pss_one (ps_ret (pe_lst (pa_cons (pe_xfv (pv 0)) pa_nil)))) pss_nil)
    (pss_cons (ps_if (pt_val (pe_callB call_isX (by rfl) mi boot_isinstance (pa_cons (pv 0) (pa_cons (pe_glob (v := .ref (cl 8)) (by rfl) (gl 8 (by decide)) rfl) pa_nil)))) (pss_one (ps_ret (pe_lst (pa_cons (pe_xfv (pv 0)) (pa_cons (pe_xfv (pv 0)) pa_nil))))) pss_nil)
    (pss_cons (ps_if (pt_val (pe_callB call_isX (by rfl) mi boot_isinstance (pa_cons (pv 0) (pa_cons (pe_glob (v := .ref (cl 5)) (by rfl) (gl 5 (by decide)) rfl) pa_nil)))) (pss_one (ps_ret (pe_lst (pa_cons (pe_xfv (pv 0)) pa_nil)))) pss_nil)
    (pss_one (ps_ret (pe_ifExp (pt_val (pe_callB call_isX (by rfl) mi boot_isinstance (pa_cons (pv 0) (pa_cons (pe_glob (v := .ref (cl 10)) (by rfl) (gl 10 (by decide)) rfl) pa_nil)))) (pe_lst (pa_cons (pe_xfv (pv 0)) pa_nil)) (pe_lst pa_nil)))))))), ?_⟩
  have T := fun j hj => (E.e j hj).c
  have no : ∀ f ∈ fdC i, PySem.W.findIn K (.ref (cl i)) f = some none := (E.e i hi).no
  have kany : ∀ l : List Nat, (∀ j ∈ l, j < 13) → PySem.W.kitAny K (.ref (cl i)) (l.map fun j => .ref (cl j)) = some (l.any fun j => decide (j = i)) := by
    intro l
    induction l with
    | nil => intro _; rfl
    | cons j r ih =>
      intro h
      have h1 := E.kit i j hi (h j (List.mem_cons_self ..))
      have h2 := ih fun y hy => h y (List.mem_cons_of_mem _ hy)
      exact kitAny_cons h1 (fun e => by rw [h2, List.any_cons, e, Bool.false_or]) (fun e => by rw [List.any_cons, e, Bool.true_or])
  match i, hi, hd, no, kany, hx, q with
  | 0, hi, hd, no, kany, hx, q =>
    obtain ⟨⟨dx, fs⟩, rfl, hfs⟩ := Option.map_eq_some_iff.mp hd
    have hfs : fs = ((fdC 0).zip (dueC v 0)).reverse := hfs
    subst hfs
    refine ⟨_, rfl, e, cl 0, _, _, _, true, rfl, ExAt.mono hx (Same.refl H), (T 0 (by decide)).e, .own _, E.kit 0 0 (by decide) (by decide), _, rfl, iteT ?_⟩
    refine ⟨_, rfl, e, cl 0, dx, _, _, rfl, ExAt.mono hx (Same.refl H), (T 0 (by decide)).x, no "where" (by simp [fdC]), (by show List.lookup ("where" : Str) ([("why", .str "why"), ("at", .int 5), ("where", v)] : List (Str × V)) = _; rw [L2.lookup_put, if_neg (by decide +kernel), L2.lookup_put, if_neg (by decide +kernel), L2.lookup_put, if_pos rfl]), ⟨_, rfl, e, cl 0, dx, _, _, rfl, ExAt.mono hx (Same.refl H), (T 0 (by decide)).x, no "at" (by simp [fdC]), (by show List.lookup ("at" : Str) ([("why", .str "why"), ("at", .int 5), ("where", v)] : List (Str × V)) = _; rw [L2.lookup_put, if_neg (by decide +kernel), L2.lookup_put, if_pos rfl]), ⟨_, rfl, e, cl 0, dx, _, _, rfl, ExAt.mono hx (Same.refl H), (T 0 (by decide)).x, no "why" (by simp [fdC]), (by show List.lookup ("why" : Str) ([("why", .str "why"), ("at", .int 5), ("where", v)] : List (Str × V)) = _; rw [L2.lookup_put, if_pos rfl]), ⟨by show 3 ≤ sizeLine; decide, fun l nl => q _ l ((Same.refl H).trans (same_upd nl)) ((Same.refl H).free nl) upd_same⟩⟩⟩⟩
  | 1, hi, hd, no, kany, hx, q =>
    obtain ⟨⟨dx, fs⟩, rfl, hfs⟩ := Option.map_eq_some_iff.mp hd
    have hfs : fs = ((fdC 1).zip (dueC v 1)).reverse := hfs
    subst hfs
    refine ⟨_, rfl, e, cl 1, _, _, _, false, rfl, ExAt.mono hx (Same.refl H), (T 1 (by decide)).e, .own _, E.kit 1 0 (by decide) (by decide), _, rfl, iteF ?_⟩
    refine ⟨_, rfl, by show 4 ≤ sizeLine; decide, fun p1 np1 => ?_⟩
    have t1 := (Same.refl H).trans (same_upd (o := .tup [V.ref (cl 1), V.ref (cl 3), V.ref (cl 6), V.ref (cl 9)]) np1)
    refine ⟨e, cl 1, p1, _, _, _, true, rfl, ExAt.mono hx t1, (T 1 (by decide)).e, upd_same, (.cons (.own _) (.cons (.own _) (.cons (.own _) (.cons (.own _) (.nil))))), kany [1, 3, 6, 9] (by simp), _, rfl, iteT ?_⟩
    refine ⟨_, rfl, e, cl 1, dx, _, _, rfl, ExAt.mono hx t1, (T 1 (by decide)).x, no "at" (by simp [fdC]), (by show List.lookup ("at" : Str) ([("at", v)] : List (Str × V)) = _; rw [L2.lookup_put, if_pos rfl]), ⟨by show 1 ≤ sizeLine; decide, fun l nl => q _ l (t1.trans (same_upd nl)) (t1.free nl) upd_same⟩⟩
  | 2, hi, hd, no, kany, hx, q =>
    obtain ⟨⟨dx, fs⟩, rfl, hfs⟩ := Option.map_eq_some_iff.mp hd
    have hfs : fs = ((fdC 2).zip (dueC v 2)).reverse := hfs
    subst hfs
    refine ⟨_, rfl, e, cl 2, _, _, _, false, rfl, ExAt.mono hx (Same.refl H), (T 2 (by decide)).e, .own _, E.kit 2 0 (by decide) (by decide), _, rfl, iteF ?_⟩
    refine ⟨_, rfl, by show 4 ≤ sizeLine; decide, fun p1 np1 => ?_⟩
    have t1 := (Same.refl H).trans (same_upd (o := .tup [V.ref (cl 1), V.ref (cl 3), V.ref (cl 6), V.ref (cl 9)]) np1)
    refine ⟨e, cl 2, p1, _, _, _, false, rfl, ExAt.mono hx t1, (T 2 (by decide)).e, upd_same, (.cons (.own _) (.cons (.own _) (.cons (.own _) (.cons (.own _) (.nil))))), kany [1, 3, 6, 9] (by simp), _, rfl, iteF ?_⟩
    refine ⟨_, rfl, by show 2 ≤ sizeLine; decide, fun p2 np2 => ?_⟩
    have t2 := t1.trans (same_upd (o := .tup [V.ref (cl 2), V.ref (cl 12)]) np2)
    refine ⟨e, cl 2, p2, _, _, _, true, rfl, ExAt.mono hx t2, (T 2 (by decide)).e, upd_same, (.cons (.own _) (.cons (.own _) (.nil))), kany [2, 12] (by simp), _, rfl, iteT ?_⟩
    refine ⟨_, rfl, e, cl 2, dx, _, _, rfl, ExAt.mono hx t2, (T 2 (by decide)).x, no "name" (by simp [fdC]), (by show List.lookup ("name" : Str) ([("name", v)] : List (Str × V)) = _; rw [L2.lookup_put, if_pos rfl]), ⟨by show 1 ≤ sizeLine; decide, fun l nl => q _ l (t2.trans (same_upd nl)) (t2.free nl) upd_same⟩⟩
  | 3, hi, hd, no, kany, hx, q =>
    obtain ⟨⟨dx, fs⟩, rfl, hfs⟩ := Option.map_eq_some_iff.mp hd
    have hfs : fs = ((fdC 3).zip (dueC v 3)).reverse := hfs
    subst hfs
    refine ⟨_, rfl, e, cl 3, _, _, _, false, rfl, ExAt.mono hx (Same.refl H), (T 3 (by decide)).e, .own _, E.kit 3 0 (by decide) (by decide), _, rfl, iteF ?_⟩
    refine ⟨_, rfl, by show 4 ≤ sizeLine; decide, fun p1 np1 => ?_⟩
    have t1 := (Same.refl H).trans (same_upd (o := .tup [V.ref (cl 1), V.ref (cl 3), V.ref (cl 6), V.ref (cl 9)]) np1)
    refine ⟨e, cl 3, p1, _, _, _, true, rfl, ExAt.mono hx t1, (T 3 (by decide)).e, upd_same, (.cons (.own _) (.cons (.own _) (.cons (.own _) (.cons (.own _) (.nil))))), kany [1, 3, 6, 9] (by simp), _, rfl, iteT ?_⟩
    refine ⟨_, rfl, e, cl 3, dx, _, _, rfl, ExAt.mono hx t1, (T 3 (by decide)).x, no "at" (by simp [fdC]), (by show List.lookup ("at" : Str) ([("at", v)] : List (Str × V)) = _; rw [L2.lookup_put, if_pos rfl]), ⟨by show 1 ≤ sizeLine; decide, fun l nl => q _ l (t1.trans (same_upd nl)) (t1.free nl) upd_same⟩⟩
  | 4, hi, hd, no, kany, hx, q =>
    refine ⟨_, rfl, e, cl 4, _, _, _, false, rfl, ExAt.mono hx (Same.refl H), (T 4 (by decide)).e, .own _, E.kit 4 0 (by decide) (by decide), _, rfl, iteF ?_⟩
    refine ⟨_, rfl, by show 4 ≤ sizeLine; decide, fun p1 np1 => ?_⟩
    have t1 := (Same.refl H).trans (same_upd (o := .tup [V.ref (cl 1), V.ref (cl 3), V.ref (cl 6), V.ref (cl 9)]) np1)
    refine ⟨e, cl 4, p1, _, _, _, false, rfl, ExAt.mono hx t1, (T 4 (by decide)).e, upd_same, (.cons (.own _) (.cons (.own _) (.cons (.own _) (.cons (.own _) (.nil))))), kany [1, 3, 6, 9] (by simp), _, rfl, iteF ?_⟩
    refine ⟨_, rfl, by show 2 ≤ sizeLine; decide, fun p2 np2 => ?_⟩
    have t2 := t1.trans (same_upd (o := .tup [V.ref (cl 2), V.ref (cl 12)]) np2)
    refine ⟨e, cl 4, p2, _, _, _, false, rfl, ExAt.mono hx t2, (T 4 (by decide)).e, upd_same, (.cons (.own _) (.cons (.own _) (.nil))), kany [2, 12] (by simp), _, rfl, iteF ?_⟩
    refine ⟨_, rfl, e, cl 4, _, _, _, false, rfl, ExAt.mono hx t2, (T 4 (by decide)).e, .own _, E.kit 4 8 (by decide) (by decide), _, rfl, iteF ?_⟩
    refine ⟨_, rfl, e, cl 4, _, _, _, false, rfl, ExAt.mono hx t2, (T 4 (by decide)).e, .own _, E.kit 4 5 (by decide) (by decide), _, rfl, iteF ?_⟩
    refine ⟨_, rfl, e, cl 4, _, _, _, false, rfl, ExAt.mono hx t2, (T 4 (by decide)).e, .own _, E.kit 4 10 (by decide) (by decide), _, rfl, iteF ?_⟩
    exact ⟨by show 0 ≤ sizeLine; decide, fun l nl => q _ l (t2.trans (same_upd nl)) (t2.free nl) upd_same⟩
  | 5, hi, hd, no, kany, hx, q =>
    obtain ⟨⟨dx, fs⟩, rfl, hfs⟩ := Option.map_eq_some_iff.mp hd
    have hfs : fs = ((fdC 5).zip (dueC v 5)).reverse := hfs
    subst hfs
    refine ⟨_, rfl, e, cl 5, _, _, _, false, rfl, ExAt.mono hx (Same.refl H), (T 5 (by decide)).e, .own _, E.kit 5 0 (by decide) (by decide), _, rfl, iteF ?_⟩
    refine ⟨_, rfl, by show 4 ≤ sizeLine; decide, fun p1 np1 => ?_⟩
    have t1 := (Same.refl H).trans (same_upd (o := .tup [V.ref (cl 1), V.ref (cl 3), V.ref (cl 6), V.ref (cl 9)]) np1)
    refine ⟨e, cl 5, p1, _, _, _, false, rfl, ExAt.mono hx t1, (T 5 (by decide)).e, upd_same, (.cons (.own _) (.cons (.own _) (.cons (.own _) (.cons (.own _) (.nil))))), kany [1, 3, 6, 9] (by simp), _, rfl, iteF ?_⟩
    refine ⟨_, rfl, by show 2 ≤ sizeLine; decide, fun p2 np2 => ?_⟩
    have t2 := t1.trans (same_upd (o := .tup [V.ref (cl 2), V.ref (cl 12)]) np2)
    refine ⟨e, cl 5, p2, _, _, _, false, rfl, ExAt.mono hx t2, (T 5 (by decide)).e, upd_same, (.cons (.own _) (.cons (.own _) (.nil))), kany [2, 12] (by simp), _, rfl, iteF ?_⟩
    refine ⟨_, rfl, e, cl 5, _, _, _, false, rfl, ExAt.mono hx t2, (T 5 (by decide)).e, .own _, E.kit 5 8 (by decide) (by decide), _, rfl, iteF ?_⟩
    refine ⟨_, rfl, e, cl 5, _, _, _, true, rfl, ExAt.mono hx t2, (T 5 (by decide)).e, .own _, E.kit 5 5 (by decide) (by decide), _, rfl, iteT ?_⟩
    refine ⟨_, rfl, e, cl 5, dx, _, _, rfl, ExAt.mono hx t2, (T 5 (by decide)).x, no "faults" (by simp [fdC]), (by show List.lookup ("faults" : Str) ([("faults", v)] : List (Str × V)) = _; rw [L2.lookup_put, if_pos rfl]), ⟨by show 1 ≤ sizeLine; decide, fun l nl => q _ l (t2.trans (same_upd nl)) (t2.free nl) upd_same⟩⟩
  | 6, hi, hd, no, kany, hx, q =>
    obtain ⟨⟨dx, fs⟩, rfl, hfs⟩ := Option.map_eq_some_iff.mp hd
    have hfs : fs = ((fdC 6).zip (dueC v 6)).reverse := hfs
    subst hfs
    refine ⟨_, rfl, e, cl 6, _, _, _, false, rfl, ExAt.mono hx (Same.refl H), (T 6 (by decide)).e, .own _, E.kit 6 0 (by decide) (by decide), _, rfl, iteF ?_⟩
    refine ⟨_, rfl, by show 4 ≤ sizeLine; decide, fun p1 np1 => ?_⟩
    have t1 := (Same.refl H).trans (same_upd (o := .tup [V.ref (cl 1), V.ref (cl 3), V.ref (cl 6), V.ref (cl 9)]) np1)
    refine ⟨e, cl 6, p1, _, _, _, true, rfl, ExAt.mono hx t1, (T 6 (by decide)).e, upd_same, (.cons (.own _) (.cons (.own _) (.cons (.own _) (.cons (.own _) (.nil))))), kany [1, 3, 6, 9] (by simp), _, rfl, iteT ?_⟩
    refine ⟨_, rfl, e, cl 6, dx, _, _, rfl, ExAt.mono hx t1, (T 6 (by decide)).x, no "at" (by simp [fdC]), (by show List.lookup ("at" : Str) ([("at", v)] : List (Str × V)) = _; rw [L2.lookup_put, if_pos rfl]), ⟨by show 1 ≤ sizeLine; decide, fun l nl => q _ l (t1.trans (same_upd nl)) (t1.free nl) upd_same⟩⟩
  | 7, hi, hd, no, kany, hx, q =>
    refine ⟨_, rfl, e, cl 7, _, _, _, false, rfl, ExAt.mono hx (Same.refl H), (T 7 (by decide)).e, .own _, E.kit 7 0 (by decide) (by decide), _, rfl, iteF ?_⟩
    refine ⟨_, rfl, by show 4 ≤ sizeLine; decide, fun p1 np1 => ?_⟩
    have t1 := (Same.refl H).trans (same_upd (o := .tup [V.ref (cl 1), V.ref (cl 3), V.ref (cl 6), V.ref (cl 9)]) np1)
    refine ⟨e, cl 7, p1, _, _, _, false, rfl, ExAt.mono hx t1, (T 7 (by decide)).e, upd_same, (.cons (.own _) (.cons (.own _) (.cons (.own _) (.cons (.own _) (.nil))))), kany [1, 3, 6, 9] (by simp), _, rfl, iteF ?_⟩
    refine ⟨_, rfl, by show 2 ≤ sizeLine; decide, fun p2 np2 => ?_⟩
    have t2 := t1.trans (same_upd (o := .tup [V.ref (cl 2), V.ref (cl 12)]) np2)
    refine ⟨e, cl 7, p2, _, _, _, false, rfl, ExAt.mono hx t2, (T 7 (by decide)).e, upd_same, (.cons (.own _) (.cons (.own _) (.nil))), kany [2, 12] (by simp), _, rfl, iteF ?_⟩
    refine ⟨_, rfl, e, cl 7, _, _, _, false, rfl, ExAt.mono hx t2, (T 7 (by decide)).e, .own _, E.kit 7 8 (by decide) (by decide), _, rfl, iteF ?_⟩
    refine ⟨_, rfl, e, cl 7, _, _, _, false, rfl, ExAt.mono hx t2, (T 7 (by decide)).e, .own _, E.kit 7 5 (by decide) (by decide), _, rfl, iteF ?_⟩
    refine ⟨_, rfl, e, cl 7, _, _, _, false, rfl, ExAt.mono hx t2, (T 7 (by decide)).e, .own _, E.kit 7 10 (by decide) (by decide), _, rfl, iteF ?_⟩
    exact ⟨by show 0 ≤ sizeLine; decide, fun l nl => q _ l (t2.trans (same_upd nl)) (t2.free nl) upd_same⟩
  | 8, hi, hd, no, kany, hx, q =>
    obtain ⟨⟨dx, fs⟩, rfl, hfs⟩ := Option.map_eq_some_iff.mp hd
    have hfs : fs = ((fdC 8).zip (dueC v 8)).reverse := hfs
    subst hfs
    refine ⟨_, rfl, e, cl 8, _, _, _, false, rfl, ExAt.mono hx (Same.refl H), (T 8 (by decide)).e, .own _, E.kit 8 0 (by decide) (by decide), _, rfl, iteF ?_⟩
    refine ⟨_, rfl, by show 4 ≤ sizeLine; decide, fun p1 np1 => ?_⟩
    have t1 := (Same.refl H).trans (same_upd (o := .tup [V.ref (cl 1), V.ref (cl 3), V.ref (cl 6), V.ref (cl 9)]) np1)
    refine ⟨e, cl 8, p1, _, _, _, false, rfl, ExAt.mono hx t1, (T 8 (by decide)).e, upd_same, (.cons (.own _) (.cons (.own _) (.cons (.own _) (.cons (.own _) (.nil))))), kany [1, 3, 6, 9] (by simp), _, rfl, iteF ?_⟩
    refine ⟨_, rfl, by show 2 ≤ sizeLine; decide, fun p2 np2 => ?_⟩
    have t2 := t1.trans (same_upd (o := .tup [V.ref (cl 2), V.ref (cl 12)]) np2)
    refine ⟨e, cl 8, p2, _, _, _, false, rfl, ExAt.mono hx t2, (T 8 (by decide)).e, upd_same, (.cons (.own _) (.cons (.own _) (.nil))), kany [2, 12] (by simp), _, rfl, iteF ?_⟩
    refine ⟨_, rfl, e, cl 8, _, _, _, true, rfl, ExAt.mono hx t2, (T 8 (by decide)).e, .own _, E.kit 8 8 (by decide) (by decide), _, rfl, iteT ?_⟩
    refine ⟨_, rfl, e, cl 8, dx, _, _, rfl, ExAt.mono hx t2, (T 8 (by decide)).x, no "name" (by simp [fdC]), (by show List.lookup ("name" : Str) ([("why", .str "why"), ("name", v)] : List (Str × V)) = _; rw [L2.lookup_put, if_neg (by decide +kernel), L2.lookup_put, if_pos rfl]), ⟨_, rfl, e, cl 8, dx, _, _, rfl, ExAt.mono hx t2, (T 8 (by decide)).x, no "why" (by simp [fdC]), (by show List.lookup ("why" : Str) ([("why", .str "why"), ("name", v)] : List (Str × V)) = _; rw [L2.lookup_put, if_pos rfl]), ⟨by show 2 ≤ sizeLine; decide, fun l nl => q _ l (t2.trans (same_upd nl)) (t2.free nl) upd_same⟩⟩⟩
  | 9, hi, hd, no, kany, hx, q =>
    obtain ⟨⟨dx, fs⟩, rfl, hfs⟩ := Option.map_eq_some_iff.mp hd
    have hfs : fs = ((fdC 9).zip (dueC v 9)).reverse := hfs
    subst hfs
    refine ⟨_, rfl, e, cl 9, _, _, _, false, rfl, ExAt.mono hx (Same.refl H), (T 9 (by decide)).e, .own _, E.kit 9 0 (by decide) (by decide), _, rfl, iteF ?_⟩
    refine ⟨_, rfl, by show 4 ≤ sizeLine; decide, fun p1 np1 => ?_⟩
    have t1 := (Same.refl H).trans (same_upd (o := .tup [V.ref (cl 1), V.ref (cl 3), V.ref (cl 6), V.ref (cl 9)]) np1)
    refine ⟨e, cl 9, p1, _, _, _, true, rfl, ExAt.mono hx t1, (T 9 (by decide)).e, upd_same, (.cons (.own _) (.cons (.own _) (.cons (.own _) (.cons (.own _) (.nil))))), kany [1, 3, 6, 9] (by simp), _, rfl, iteT ?_⟩
    refine ⟨_, rfl, e, cl 9, dx, _, _, rfl, ExAt.mono hx t1, (T 9 (by decide)).x, no "at" (by simp [fdC]), (by show List.lookup ("at" : Str) ([("at", v)] : List (Str × V)) = _; rw [L2.lookup_put, if_pos rfl]), ⟨by show 1 ≤ sizeLine; decide, fun l nl => q _ l (t1.trans (same_upd nl)) (t1.free nl) upd_same⟩⟩
  | 10, hi, hd, no, kany, hx, q =>
    obtain ⟨⟨dx, fs⟩, rfl, hfs⟩ := Option.map_eq_some_iff.mp hd
    have hfs : fs = ((fdC 10).zip (dueC v 10)).reverse := hfs
    subst hfs
    refine ⟨_, rfl, e, cl 10, _, _, _, false, rfl, ExAt.mono hx (Same.refl H), (T 10 (by decide)).e, .own _, E.kit 10 0 (by decide) (by decide), _, rfl, iteF ?_⟩
    refine ⟨_, rfl, by show 4 ≤ sizeLine; decide, fun p1 np1 => ?_⟩
    have t1 := (Same.refl H).trans (same_upd (o := .tup [V.ref (cl 1), V.ref (cl 3), V.ref (cl 6), V.ref (cl 9)]) np1)
    refine ⟨e, cl 10, p1, _, _, _, false, rfl, ExAt.mono hx t1, (T 10 (by decide)).e, upd_same, (.cons (.own _) (.cons (.own _) (.cons (.own _) (.cons (.own _) (.nil))))), kany [1, 3, 6, 9] (by simp), _, rfl, iteF ?_⟩
    refine ⟨_, rfl, by show 2 ≤ sizeLine; decide, fun p2 np2 => ?_⟩
    have t2 := t1.trans (same_upd (o := .tup [V.ref (cl 2), V.ref (cl 12)]) np2)
    refine ⟨e, cl 10, p2, _, _, _, false, rfl, ExAt.mono hx t2, (T 10 (by decide)).e, upd_same, (.cons (.own _) (.cons (.own _) (.nil))), kany [2, 12] (by simp), _, rfl, iteF ?_⟩
    refine ⟨_, rfl, e, cl 10, _, _, _, false, rfl, ExAt.mono hx t2, (T 10 (by decide)).e, .own _, E.kit 10 8 (by decide) (by decide), _, rfl, iteF ?_⟩
    refine ⟨_, rfl, e, cl 10, _, _, _, false, rfl, ExAt.mono hx t2, (T 10 (by decide)).e, .own _, E.kit 10 5 (by decide) (by decide), _, rfl, iteF ?_⟩
    refine ⟨_, rfl, e, cl 10, _, _, _, true, rfl, ExAt.mono hx t2, (T 10 (by decide)).e, .own _, E.kit 10 10 (by decide) (by decide), _, rfl, iteT ?_⟩
    refine ⟨_, rfl, e, cl 10, dx, _, _, rfl, ExAt.mono hx t2, (T 10 (by decide)).x, no "spare" (by simp [fdC]), (by show List.lookup ("spare" : Str) ([("spare", v)] : List (Str × V)) = _; rw [L2.lookup_put, if_pos rfl]), ⟨by show 1 ≤ sizeLine; decide, fun l nl => q _ l (t2.trans (same_upd nl)) (t2.free nl) upd_same⟩⟩
  | 11, hi, hd, no, kany, hx, q =>
    refine ⟨_, rfl, e, cl 11, _, _, _, false, rfl, ExAt.mono hx (Same.refl H), (T 11 (by decide)).e, .own _, E.kit 11 0 (by decide) (by decide), _, rfl, iteF ?_⟩
    refine ⟨_, rfl, by show 4 ≤ sizeLine; decide, fun p1 np1 => ?_⟩
    have t1 := (Same.refl H).trans (same_upd (o := .tup [V.ref (cl 1), V.ref (cl 3), V.ref (cl 6), V.ref (cl 9)]) np1)
    refine ⟨e, cl 11, p1, _, _, _, false, rfl, ExAt.mono hx t1, (T 11 (by decide)).e, upd_same, (.cons (.own _) (.cons (.own _) (.cons (.own _) (.cons (.own _) (.nil))))), kany [1, 3, 6, 9] (by simp), _, rfl, iteF ?_⟩
    refine ⟨_, rfl, by show 2 ≤ sizeLine; decide, fun p2 np2 => ?_⟩
    have t2 := t1.trans (same_upd (o := .tup [V.ref (cl 2), V.ref (cl 12)]) np2)
    refine ⟨e, cl 11, p2, _, _, _, false, rfl, ExAt.mono hx t2, (T 11 (by decide)).e, upd_same, (.cons (.own _) (.cons (.own _) (.nil))), kany [2, 12] (by simp), _, rfl, iteF ?_⟩
    refine ⟨_, rfl, e, cl 11, _, _, _, false, rfl, ExAt.mono hx t2, (T 11 (by decide)).e, .own _, E.kit 11 8 (by decide) (by decide), _, rfl, iteF ?_⟩
    refine ⟨_, rfl, e, cl 11, _, _, _, false, rfl, ExAt.mono hx t2, (T 11 (by decide)).e, .own _, E.kit 11 5 (by decide) (by decide), _, rfl, iteF ?_⟩
    refine ⟨_, rfl, e, cl 11, _, _, _, false, rfl, ExAt.mono hx t2, (T 11 (by decide)).e, .own _, E.kit 11 10 (by decide) (by decide), _, rfl, iteF ?_⟩
    exact ⟨by show 0 ≤ sizeLine; decide, fun l nl => q _ l (t2.trans (same_upd nl)) (t2.free nl) upd_same⟩
  | 12, hi, hd, no, kany, hx, q =>
    obtain ⟨⟨dx, fs⟩, rfl, hfs⟩ := Option.map_eq_some_iff.mp hd
    have hfs : fs = ((fdC 12).zip (dueC v 12)).reverse := hfs
    subst hfs
    refine ⟨_, rfl, e, cl 12, _, _, _, false, rfl, ExAt.mono hx (Same.refl H), (T 12 (by decide)).e, .own _, E.kit 12 0 (by decide) (by decide), _, rfl, iteF ?_⟩
    refine ⟨_, rfl, by show 4 ≤ sizeLine; decide, fun p1 np1 => ?_⟩
    have t1 := (Same.refl H).trans (same_upd (o := .tup [V.ref (cl 1), V.ref (cl 3), V.ref (cl 6), V.ref (cl 9)]) np1)
    refine ⟨e, cl 12, p1, _, _, _, false, rfl, ExAt.mono hx t1, (T 12 (by decide)).e, upd_same, (.cons (.own _) (.cons (.own _) (.cons (.own _) (.cons (.own _) (.nil))))), kany [1, 3, 6, 9] (by simp), _, rfl, iteF ?_⟩
    refine ⟨_, rfl, by show 2 ≤ sizeLine; decide, fun p2 np2 => ?_⟩
    have t2 := t1.trans (same_upd (o := .tup [V.ref (cl 2), V.ref (cl 12)]) np2)
    refine ⟨e, cl 12, p2, _, _, _, true, rfl, ExAt.mono hx t2, (T 12 (by decide)).e, upd_same, (.cons (.own _) (.cons (.own _) (.nil))), kany [2, 12] (by simp), _, rfl, iteT ?_⟩
    refine ⟨_, rfl, e, cl 12, dx, _, _, rfl, ExAt.mono hx t2, (T 12 (by decide)).x, no "name" (by simp [fdC]), (by show List.lookup ("name" : Str) ([("name", v)] : List (Str × V)) = _; rw [L2.lookup_put, if_pos rfl]), ⟨by show 1 ≤ sizeLine; decide, fun l nl => q _ l (t2.trans (same_upd nl)) (t2.free nl) upd_same⟩⟩
  | n + 13, hi, hd, no, kany, hx, q => exact absurd hi (by omega)
end
end Lm

namespace Lm
open PySem PySem.Spec PyProof.Rows L2
open C8 (fnScope_by)
/-- a datum that equals itself -/
def Okd (K : PySem.W.Frag) (H : Hp) (x : V) : Prop := ∃ d, Dp K H x d ∧ d.canLay0 = true ∧ d.depth ≤ 60 ∧ PyData.eqv d d = true
section
variable {P : Program} {w : World} {K : PySem.W.Frag} {mg : Str → Option Value} {base : Heap} {cl : Nat → Addr} {cb : Addr}
mutual
theorem dp_mono {H H' : Hp} (e : Same H H') : ∀ {v : V} {d : PyData}, Dp K H v d → Dp K H' v d
  | _, _, .non => .non
  | _, _, .bl b => .bl b
  | _, _, .int i => .int i
  | _, _, .str x => .str x
  | _, _, .lst h a => .lst (e.seq h) (dpAll_mono e a)
  | _, _, .tup h a => .tup (sqt_same e h) (dpAll_mono e a)
theorem dpAll_mono {H H' : Hp} (e : Same H H') : ∀ {vs : List V} {ds : List PyData}, DpAll K H vs ds → DpAll K H' vs ds
  | _, _, .nil => .nil
  | _, _, .cons h a => .cons (dp_mono e h) (dpAll_mono e a)
end
theorem Okd.mono {H H' : Hp} {x : V} (h : Okd K H x) (s : Same H H') : Okd K H' x := by
  obtain ⟨d, h1, h2⟩ := h
  exact ⟨d, dp_mono s h1, h2⟩
theorem okd_int {H : Hp} (i : Int) : Okd K H (.int i) := ⟨.int i, .int i, rfl, Nat.zero_le _, by show (i == i) = true; exact beq_self_eq_true i⟩
theorem due_ok {H : Hp} {v : V} {i : Nat} (h : Okd K H v) : ∃ e, SeqAt.shaped e = true ∧ PyData.eqv e e = true ∧ ∀ l, H l = some (.lst (dueC v i)) → Dp K H (.ref l) e := by
  obtain ⟨d, h1, h2, h3, h4⟩ := h
  have w1 : (PyData.str "why").canLay0 = true := by decide +kernel
  have w2 : PyData.eqv (.str "why") (.str "why") = true := by decide +kernel
  have key : ∃ ds, DpAll K H (dueC v i) ds ∧ PyData.canLayAll0 ds = true ∧ PyData.depthAll ds ≤ 60 ∧ PyData.eqvAll ds ds = true := by
    unfold dueC
    split
    · exact ⟨[d, .int 5, .str "why"], .cons h1 (.cons (.int 5) (.cons (.str _) .nil)), by show (d.canLay0 && (true && ((PyData.str "why").canLay0 && true))) = true; rw [h2, w1]; rfl, by show max d.depth (max 0 (max 0 0)) ≤ 60; omega, by show (PyData.eqv d d && (((5 : Int) == 5) && (PyData.eqv (.str "why") (.str "why") && true))) = true; rw [h4, w2]; rfl⟩
    · exact ⟨[], .nil, rfl, Nat.zero_le _, rfl⟩
    · exact ⟨[], .nil, rfl, Nat.zero_le _, rfl⟩
    · exact ⟨[d, .str "why"], .cons h1 (.cons (.str _) .nil), by show (d.canLay0 && ((PyData.str "why").canLay0 && true)) = true; rw [h2, w1]; rfl, by show max d.depth (max 0 0) ≤ 60; omega, by show (PyData.eqv d d && (PyData.eqv (.str "why") (.str "why") && true)) = true; rw [h4, w2]; rfl⟩
    · exact ⟨[], .nil, rfl, Nat.zero_le _, rfl⟩
    · exact ⟨[d], .cons h1 .nil, by show (d.canLay0 && true) = true; rw [h2]; rfl, by show max d.depth 0 ≤ 60; omega, by show (PyData.eqv d d && true) = true; rw [h4]; rfl⟩
  obtain ⟨ds, g1, g2, g3, g4⟩ := key
  refine ⟨.list ds, ?_, g4, fun l hl => .lst (.inl (.inl hl)) g1⟩
  show (PyData.canLayAll0 ds && decide (PyData.depthAll ds + 1 ≤ 64)) = true
  rw [g2, decide_eq_true (by omega)]
  rfl
theorem bl_ok {H : Hp} : ∀ bs : List Bool, DpAll K H (bs.map V.bl) (bs.map PyData.bool) ∧ PyData.canLayAll0 (bs.map PyData.bool) = true ∧ PyData.depthAll (bs.map PyData.bool) = 0 ∧ PyData.eqvAll (bs.map PyData.bool) (bs.map PyData.bool) = true
  | [] => ⟨.nil, rfl, rfl, rfl⟩
  | b :: r => by
    obtain ⟨h1, h2, h3, h4⟩ := bl_ok (H := H) r
    refine ⟨.cons (.bl b) h1, h2, ?_, ?_⟩
    · show max 0 (PyData.depthAll (r.map PyData.bool)) = 0
      rw [h3]
      rfl
    · show ((b == b) && PyData.eqvAll (r.map PyData.bool) (r.map PyData.bool)) = true
      rw [h4, beq_self_eq_true]
      rfl
theorem bl_list {H : Hp} {l : Addr} {bs : List Bool} (hl : H l = some (.lst (bs.map V.bl))) : Dp K H (.ref l) (.list (bs.map PyData.bool)) ∧ SeqAt.shaped (.list (bs.map PyData.bool)) = true ∧ PyData.eqv (.list (bs.map PyData.bool)) (.list (bs.map PyData.bool)) = true := by
  obtain ⟨h1, h2, h3, h4⟩ := bl_ok (K := K) (H := H) bs
  refine ⟨.lst (.inl (.inl hl)) h1, ?_, h4⟩
  show (PyData.canLayAll0 (bs.map PyData.bool) && decide (PyData.depthAll (bs.map PyData.bool) + 1 ≤ 64)) = true
  rw [h2, h3]
  rfl
structure Bt42 (mg : Str → Option Value) : Prop where
  isi : mg "isinstance" = none
  ve : mg "ValueError" = none
  int : mg "int" = none
  enu : mg "enumerate" = none
  rng : mg "range" = none
abbrev nsLaw : List Str := ["_law_script", "_law_base", "_law_value", "_law_at", "_law_error", "_law_due", "_law_cell", "_law_k"]
theorem scLaw : FnScope nsLaw ["_law_script"] (defScope sLaw) := fnScope_by (by decide +kernel)
def spLaw (K : PySem.W.Frag) : Sp := fun vs H Q _ => ∃ (a : Addr) (ns : List Int), vs = [.ref a] ∧ SqL K H a (ns.map V.int) ∧ ns.length ≤ 63 ∧ ∀ H', Q (.bl true) H'
theorem okLaw {f fA fB fC : Addr} {fd fdA fdB fdC : FuncData} (F : Fun K "law" "law" sLaw f fd) (E : Errs P w K mg base cl cb) (B : Bt42 mg)
    (FA : Fun K "_law_made" "_law_made" sMade fA fdA) (gA : mg "_law_made" = some (.ref fA)) (bA : Binds K fdA ["_law_value"] [])
    (FB : Fun K "_law_marks_of" "_law_marks_of" sMarks fB fdB) (gB : mg "_law_marks_of" = some (.ref fB)) (bB : Binds K fdB ["_law_error"] [])
    (FC : Fun K "_law_shown" "_law_shown" sShown fC fdC) (gC : mg "_law_shown" = some (.ref fC)) (bC : Binds K fdC ["_law_error"] []) :
    FnOk P w K mg base CX0 4 f fd ["_law_script"] (spLaw K) := by
  have GA : FnOk P w K mg base CX0 3 fA fdA ["_law_value"] (spMade cl) := okMade FA E
  have GB : FnOk P w K mg base CX0 1 fB fdB ["_law_error"] (spMarks K cl) := okMarks FB E B.isi
  have GC : FnOk P w K mg base CX0 1 fC fdC ["_law_error"] (spShown K cl) := okShown FC E B.isi
  refine F.ok scLaw (fun vs H Q E h => ?_) (fun cdv A outer s H vs Q Ex hr h => ?_)
  · obtain ⟨a, ns, rfl, _⟩ := h
    rfl
  obtain ⟨a, ns, rfl, hS, hlen, q⟩ := h
  have hr1 : Room 1 _ := hr.mono (by decide)
  have hu : (A.deeper (envOfC "law" (defScope sLaw) s.heap.objs.size f cdv)).units + 64 < cLine := hr.units
  refine ⟨_, pss_cons (ps_set (i := 1) scLaw.nd rfl (.inl rfl) (pe_new0 E.b (hr.mono (by decide)) (by rfl)))
    (pss_cons (ps_if (PW.pt (pw_or (pt_not (pt_val (pe_callB call_isX (by rfl) B.isi boot_isinstance (pa_cons (pv 1) (pa_cons (pe_bltn (v := .ty "ValueError") (by rfl) B.ve boot_ValueError rfl) pa_nil)))))
        (pw_or1 (pt_cmpR op_in_seq pe_bl (pe_call GB hr1 rfl gB FB.kp bB .nil pass0 (pa_cons (pv 1) pa_nil)) (by rfl))))) (pss_one (ps_ret pe_bl)) pss_nil)
    (pss_cons (ps_for PassesOwn.never rfl (pi_list (pe_op op_cat (pe_lst (pa_cons pe_str (pa_cons pe_int (pa_cons pe_non (pa_cons (pe_tup (pa_cons pe_str (pa_cons pe_str pa_nil))) (pa_cons (pe_lst (pa_cons pe_int (pa_cons pe_int pa_nil))) (pa_cons (pe_op op_pow pe_int pe_int) pa_nil)))))))
          (pe_lc (own := [("_law_cell", 6)]) (g := gName 6) (tt := tYes) rfl scLaw.nd (pi_list (pe_slice sl_list (pv 0) po_none (po_some pe_int))) (blkOk_by (N := nsLaw) (sc := defScope sLaw) (by decide +kernel)) (fun _ _ _ _ _ => pg_name (i := 6) scLaw.nd rfl (Or.inl rfl)) (fun _ _ _ _ _ => pts_nil)
            (fun _ _ _ _ _ => pe_op op_mod (pe_callTy call_int1 (by rfl) B.int boot_int (pa_cons (pv 6) pa_nil)) (pe_op op_pow pe_int pe_int))))) (pg_name (i := 2) scLaw.nd rfl (Or.inl rfl))
        (pss_one (ps_for PassesOwn.never rfl (pi_enum (by rfl) B.enu (pa_cons (pe_call GA (hr.mono (by decide)) rfl gA FA.kp bA .nil pass0 (pa_cons (pv 2) pa_nil)) pa_nil))
          (pg_tup rfl (pgs_cons (pg_name (i := 3) scLaw.nd rfl (Or.inr rfl)) (pgs_cons (pg_tup rfl (pgs_cons (pg_name (i := 4) scLaw.nd rfl (Or.inl rfl)) (pgs_cons (pg_name (i := 5) scLaw.nd rfl (Or.inl rfl)) pgs_nil))) pgs_nil)))
          (pss_cons (ps_if (PW.pt (pw_or (pt_not (pt_val (pe_callB call_isX (by rfl) B.isi boot_isinstance (pa_cons (pv 4) (pa_cons (pe_glob (v := .ref cb) (by rfl) E.b.g rfl) pa_nil)))))
              (pw_or1 (pt_not (pt_val (pe_callB call_isX (by rfl) B.isi boot_isinstance (pa_cons (pv 4) (pa_cons (pe_bltn (v := .ty "ValueError") (by rfl) B.ve boot_ValueError rfl) pa_nil)))))))) (pss_one (ps_ret pe_bl)) pss_nil)
          (pss_one (ps_if (PW.pt (pw_or (pt_cmpR (op_neD hu) (pe_call GB hr1 rfl gB FB.kp bB .nil pass0 (pa_cons (pv 4) pa_nil))
                (pe_lc (own := [("_law_k", 7)]) (g := gName 7) (tt := tYes) rfl scLaw.nd (pi_range1 (by rfl) B.rng (pa_cons pe_int pa_nil)) (blkOk_by (N := nsLaw) (sc := defScope sLaw) (by decide +kernel)) (fun _ _ _ _ _ => pg_name (i := 7) scLaw.nd rfl (Or.inl rfl)) (fun _ _ _ _ _ => pts_nil)
                  (fun _ _ _ _ _ => pe_cmpR op_eq (pv 7) (pv 3) (nomark _))) (nomark _))
              (pw_or1 (pt_cmpR (op_neD hu) (pe_call GC hr1 rfl gC FC.kp bC .nil pass0 (pa_cons (pv 4) pa_nil)) (pv 5) (nomark _))))) (pss_one (ps_ret pe_bl)) pss_nil))))))
    (pss_one (ps_ret pe_bl)))), ?_⟩
  -- the base
  refine fun H1 eb db s1 nb xb hdb => ?_
  have s1' : Same H H1 := s1
  refine ⟨_, rfl, eb, cb, db, _, _, true, rfl, xb, E.b.c.e, .ty _, E.bV, _, rfl, iteF ?_⟩
  refine ⟨_, rfl, eb, cb, db, fun _ => false, rfl, xb, E.b.c, E.bk, fun H2 lm s2 nlm hlm => ?_⟩
  refine ⟨lm, rowB (fun _ => false), rfl, .inl (.inl (.inl hlm)), rfl, by decide, _, rfl, iteF ?_⟩
  -- the values
  have x2 := ExAt.mono xb s2
  have S2 : Same H H2 := s1.trans s2
  refine ⟨by show 2 ≤ sizeLine; decide, fun tp ntp => ⟨by show 2 ≤ sizeLine; decide, fun lp nlp => ⟨_, _, rfl, rfl, ⟨by decide, by decide, by decide⟩, by show 6 ≤ sizeLine; decide, fun lv nlv => ?_⟩⟩⟩
  have t1 := same_upd (o := .tup [.str "first", .str "main"]) ntp
  have t2 := same_upd (o := .lst [.int 1, .int 2]) nlp
  have t3 := same_upd (o := .lst [.str "why", .int 5, .non, .ref tp, .ref lp, .int ((10 : Int) ^ (20 : Int).toNat)]) nlv
  have S3 : Same H (upd (upd (upd H2 tp (.tup [.str "first", .str "main"])) lp (.lst [.int 1, .int 2])) lv (.lst [.str "why", .int 5, .non, .ref tp, .ref lp, .int ((10 : Int) ^ (20 : Int).toNat)])) := S2.trans (t1.trans (t2.trans t3))
  refine ⟨_, rfl, _, rfl, a, ns.map V.int, rfl, S3.seq hS, fun sl nsl => ?_⟩
  obtain ⟨cs, ecs⟩ : ∃ cs : List Int, cutV (ns.map V.int) none (some 3) = cs.map V.int := ⟨(ns.drop _).take _, by unfold cutV; rw [List.map_take, List.map_drop]⟩
  rw [ecs]
  refine ⟨sl, rfl, ⟨_, .inl (.inl upd_same)⟩, fun D nD => lc_it (walk_list (xs := cs.map V.int)) (fun i H' => ∃ zs : List Int, zs.length = i ∧ H' D = some (.lst (zs.map V.int)) ∧ Same _ H') ⟨[], rfl, upd_same, same_upd nD⟩ (fun i H' _ ⟨zs, _, _, sm⟩ => sm.seq (.inl (.inl upd_same))) ?_ ?_⟩
  · rintro i x H3 H4 hi ⟨zs, hz, e3, sm⟩ ⟨rfl, hx⟩
    obtain ⟨z, rfl⟩ : ∃ z, x = V.int z := by
      rw [List.getElem?_map] at hx
      obtain ⟨z, _, e⟩ := Option.map_eq_some_iff.mp hx
      exact ⟨z, e.symm⟩
    have hcs : cs.length ≤ 63 := by
      have h1 := congrArg List.length ecs
      rw [List.length_map] at h1
      have h2 : (cutV (ns.map V.int) none (some 3)).length ≤ (ns.map V.int).length := by
        unfold cutV
        rw [List.length_take, List.length_drop]
        omega
      rw [List.length_map] at h2
      omega
    rw [List.length_map] at hi
    refine ⟨rfl, tyes ?_⟩
    refine ⟨_, rfl, .inl ⟨z, rfl, _, _, rfl, rfl, ⟨by decide, by decide, by decide⟩, _, _, rfl, rfl, (by show (0 : Int) < 10 ^ Int.toNat 30; decide), _, e3, small1000 (by rw [List.length_map]; omega), zs ++ [z % (10 : Int) ^ (30 : Int).toNat], by rw [List.length_append, hz]; rfl, ?_, fun b o e => ?_⟩⟩
    · rw [upd_same, List.map_append]
      rfl
    · have nb : b ≠ D := ne_of_none e nD
      rw [upd_ne nb]
      exact sm b o e
  rintro H3 ⟨zs, hz, e3, sm⟩
  have hzs : zs.length ≤ 63 := by
    have h1 := congrArg List.length ecs
    rw [List.length_map] at h1
    have h2 : (cutV (ns.map V.int) none (some 3)).length ≤ (ns.map V.int).length := by
      unfold cutV
      rw [List.length_take, List.length_drop]
      omega
    rw [List.length_map] at h2
    rw [List.length_map] at hz
    omega
  refine ⟨lv, D, _, _, rfl, rfl, sm _ _ ((same_upd nsl) _ _ upd_same), e3, Nat.le_of_lt (small1000 (by rw [List.length_map]; show 6 + zs.length ≤ 1000; omega)), fun lc nlc => ?_⟩
  have ok0 : ∀ x ∈ ([.str "why", .int 5, .non, .ref tp, .ref lp, .int ((10 : Int) ^ (20 : Int).toNat)] ++ zs.map V.int : List V), Okd K (upd H3 lc (.lst ([.str "why", .int 5, .non, .ref tp, .ref lp, .int ((10 : Int) ^ (20 : Int).toNat)] ++ zs.map V.int))) x := by
    intro x hx
    have etp : (upd H3 lc (.lst ([.str "why", .int 5, .non, .ref tp, .ref lp, .int ((10 : Int) ^ (20 : Int).toNat)] ++ zs.map V.int))) tp = some (.tup [.str "first", .str "main"]) := same_upd nlc _ _ (sm _ _ (same_upd nsl _ _ (t3 _ _ (t2 _ _ upd_same))))
    have elp : (upd H3 lc (.lst ([.str "why", .int 5, .non, .ref tp, .ref lp, .int ((10 : Int) ^ (20 : Int).toNat)] ++ zs.map V.int))) lp = some (.lst [.int 1, .int 2]) := same_upd nlc _ _ (sm _ _ (same_upd nsl _ _ (t3 _ _ upd_same)))
    rcases List.mem_append.mp hx with hx | hx
    · simp only [List.mem_cons, List.not_mem_nil, or_false] at hx
      rcases hx with rfl | rfl | rfl | rfl | rfl | rfl
      · exact ⟨.str "why", .str _, by decide +kernel, by decide +kernel, by decide +kernel⟩
      · exact okd_int _
      · exact ⟨.none, .non, rfl, by decide, rfl⟩
      · exact ⟨.tuple [.str "first", .str "main"], .tup (.inl (.inl etp)) (.cons (.str _) (.cons (.str _) .nil)), by decide +kernel, by decide +kernel, by decide +kernel⟩
      · exact ⟨.list [.int 1, .int 2], .lst (.inl (.inl elp)) (.cons (.int _) (.cons (.int _) .nil)), by decide +kernel, by decide +kernel, by decide +kernel⟩
      · exact okd_int _
    · obtain ⟨z, _, rfl⟩ := List.mem_map.mp hx
      exact okd_int z
  refine ⟨lc, rfl, ⟨_, .inl (.inl upd_same)⟩, for_it (walk_list (xs := [.str "why", .int 5, .non, .ref tp, .ref lp, .int ((10 : Int) ^ (20 : Int).toNat)] ++ zs.map V.int)) (fun _ σ H' => ∃ y2 y3 y4 y5 y6 y7, σ = [some (.ref a), some (.ref eb), y2, y3, y4, y5, y6, y7] ∧ Same (upd H3 lc (.lst ([.str "why", .int 5, .non, .ref tp, .ref lp, .int ((10 : Int) ^ (20 : Int).toNat)] ++ zs.map V.int))) H')
    ⟨_, _, _, _, _, _, rfl, Same.refl _⟩ (fun i σ H' _ ⟨_, _, _, _, _, _, _, s⟩ => s.seq (.inl (.inl upd_same))) ?_ (fun σ H' _ => q H')⟩
  rintro i x σ H6 H7 hi ⟨y2, y3, y4, y5, y6, y7, rfl, sm6⟩ ⟨rfl, hx⟩
  have okx := (ok0 x (List.mem_of_getElem? hx)).mono sm6
  refine ⟨_, rfl, x, rfl, fun H8 lm2 s8 nl8 hm => ?_⟩
  obtain ⟨ps, hps, hlen8, hpair⟩ := hm
  refine ⟨lm2, _, rfl, .inl (.inl hps), for_it (walk_enum (xs := ps.map V.ref)) (fun _ σ H' => ∃ y3 y4 y5 y6 y7, σ = [some (.ref a), some (.ref eb), some x, y3, y4, y5, y6, y7] ∧ Same H8 H')
    ⟨_, _, _, _, _, rfl, Same.refl _⟩ (fun i σ H' _ ⟨_, _, _, _, _, _, s⟩ => s.seq (.inl (.inl hps))) ?_ (fun σ H' ⟨_, _, _, _, _, e, s⟩ => ⟨_, _, _, _, _, _, e, sm6.trans (s8.trans s)⟩)⟩
  rintro j z σ H9 H10 hj ⟨z3, z4, z5, z6, z7, rfl, sm9⟩ ⟨T, u1, u2, rfl, nT, rfl, f1, f2⟩
  cases f1
  obtain ⟨p, hp, rfl⟩ : ∃ p, ps[j]? = some p ∧ u2 = V.ref p := by
    have f2 : (ps.map V.ref)[j]? = some u2 := f2
    rw [List.getElem?_map] at f2
    obtain ⟨p, h1, h2⟩ := Option.map_eq_some_iff.mp f2
    exact ⟨p, h1, h2.symm⟩
  have hj13 : j < 13 := by
    rw [List.length_map] at hj
    omega
  have sT := same_upd (o := .tup [.int (j : Int), .ref p]) nT
  obtain ⟨e, l, dd, h1, hx2, hd2, hl2⟩ := (hpair j p hp).mono (sm9.trans sT)
  have okx8 := (okx.mono s8).mono (sm9.trans sT)
  refine ⟨T, _, rfl, .inl (.inl upd_same), rfl, _, _, rfl, _, _, rfl, p, _, rfl, .inl (.inl h1), rfl, _, _, rfl, _, _, rfl, rfl, rfl, ?_⟩
  refine ⟨_, rfl, e, cl j, dd, _, _, true, rfl, hx2, (E.e j hj13).c.e, .own _, E.kitB j hj13, _, rfl, iteF ?_⟩
  refine ⟨_, rfl, e, cl j, dd, _, _, true, rfl, hx2, (E.e j hj13).c.e, .ty _, E.kitV j hj13, _, rfl, iteF ?_⟩
  refine ⟨_, rfl, e, cl j, dd, fun k => decide (k = j), rfl, hx2, (E.e j hj13).c, fun k hk => E.kit j k hj13 hk, fun H11 lm s11 nlm2 hlm2 => ?_⟩
  refine ⟨13, rfl, by decide, by decide, fun D2 nD2 => lc_it walk_range (fun k H' => H' D2 = some (.lst (((List.range k).map fun i => decide (i = j)).map V.bl)) ∧ Same H11 H') ⟨upd_same, same_upd nD2⟩ (fun _ _ _ _ => trivial) ?_ ?_⟩
  · rintro k x H12 H13 hk ⟨e12, s12⟩ ⟨rfl, rfl⟩
    have hk' : k < 13 := hk
    refine ⟨rfl, tyes ?_⟩
    refine ⟨_, rfl, _, rfl, rfl, _, e12, small1000 (by rw [List.length_map, List.length_map, List.length_range]; omega), ?_, fun b o eb => ?_⟩
    · rw [upd_same, List.range_succ, List.map_append, List.map_append]
      refine congrArg (fun z => some (HO.lst (_ ++ [V.bl z]))) ?_
      exact decide_eq_decide.mpr ⟨fun h => by have := V.int.inj h; omega, fun h => by subst h; exact congrArg V.int (Int.zero_add _)⟩
    · rw [upd_ne (ne_of_none eb nD2)]
      exact s12 b o eb
  rintro H12 ⟨e12, s12⟩
  have b1 := bl_list (K := K) (H := H12) (l := lm) (bs := (List.range 13).map fun i => decide (i = j)) (by rw [List.map_map]; exact s12 _ _ hlm2)
  have b2 := bl_list (K := K) (H := H12) (l := D2) (bs := (List.range 13).map fun i => decide (i = j)) e12
  refine ⟨_, _, b1.1, b2.1, b1.2.1, b1.2.1, false, by rw [b1.2.2]; rfl, iteF ?_⟩
  have sA := s11.trans s12
  refine ⟨_, rfl, e, j, dd, x, rfl, hj13, ExAt.mono hx2 sA, hd2, fun H13 ls s13 nls hls => ?_⟩
  obtain ⟨ed, g1, g2, g3⟩ := due_ok (K := K) (i := j) ((okx8.mono sA).mono s13)
  refine ⟨_, rfl, ed, ed, g3 _ hls, g3 _ (s13 _ _ (sA _ _ hl2)), g1, g1, false, by rw [g2]; rfl, iteF ?_⟩
  exact ⟨_, _, _, _, _, rfl, sm9.trans (sT.trans (sA.trans s13))⟩
end
end Lm

namespace Lm
open PySem PySem.Spec PyProof.Rows L2
def clK (K : PySem.W.Frag) (i : Nat) : Addr := He.ga K (nmC i)
def cbK (K : PySem.W.Frag) : Addr := He.ga K "MarkError"
def inK (K : PySem.W.Frag) (i : Nat) : Addr := if fdC i = [] then He.ma K (cbK K) "__init__" else He.ma K (clK K i) "__init__"
def ck1 (K : PySem.W.Frag) (i : Nat) : Bool := He.eqO (PySem.W.nsIn K mainGlobals (nmC i)) (some (some (.ref (clK K i)))) && (errB K (clK K i) && ((fdC i).all (fun f => He.eqO (PySem.W.findIn K (.ref (clK K i)) f) (some none)) &&
  (decide (PySem.W.kitOne K (.ref (clK K i)) (.ref (cbK K)) = some true) && (decide (PySem.W.kitOne K (.ref (clK K i)) (.type "ValueError") = some true) && (decide (PySem.W.kitOne K (.ref (cbK K)) (.ref (clK K i)) = some false) &&
  ((List.range 13).all (fun j => decide (PySem.W.kitOne K (.ref (clK K i)) (.ref (clK K j)) = some (decide (j = i)))) && (He.eqO (PySem.W.findIn K (.ref (clK K i)) "__init__") (some (some (.ref (inK K i)))) && decide (PySem.W.typeIn K (.ref (inK K i)) = some (.type "function")))))))))
def ck2 (K : PySem.W.Frag) : Bool := He.eqO (PySem.W.nsIn K mainGlobals "MarkError") (some (some (.ref (cbK K)))) && (errB K (cbK K) && (decide (PySem.W.kitOne K (.ref (cbK K)) (.type "ValueError") = some true) &&
  (He.eqO (PySem.W.findIn K (.ref (cbK K)) "__init__") (some (some (.ref (He.ma K (cbK K) "__init__")))) && decide (PySem.W.typeIn K (.ref (He.ma K (cbK K) "__init__")) = some (.type "function")))))
def ck (K : PySem.W.Frag) : Bool := (List.range 13).all (ck1 K) && (ck2 K && ((["isinstance", "ValueError", "int", "enumerate", "range"] : List Str).all (fun x => He.eqO (PySem.W.nsIn K mainGlobals x) (some none)) &&
  (["_law_made", "_law_marks_of", "_law_shown", "law"] : List Str).all (fun x => He.eqO (PySem.W.nsIn K mainGlobals x) (some (some (.ref (He.ga K x)))))))
def dI (i : Nat) (x q : Str) : He.DefD := ⟨(x, some "__init__"), "__init__", q, defArgs (sIn i), defBody (sIn i), defScope (sIn i), [], []⟩
def dF (x : Str) (st : Stmt) : He.DefD := ⟨(x, none), x, x, defArgs st, defBody st, defScope st, [], []⟩
def fn : List He.DefD := [dI 1 "MarkError" "MarkError.__init__", dI 2 "NoProgram" "NoProgram.__init__", dI 3 "NoText" "NoText.__init__", dI 4 "NoFunction" "NoFunction.__init__", dI 5 "NoPoint" "NoPoint.__init__", dI 7 "HasFaults" "HasFaults.__init__", dI 8 "NoChoices" "NoChoices.__init__",
  dI 10 "NoLowered" "NoLowered.__init__", dI 11 "NoWrites" "NoWrites.__init__", dI 12 "NoSpare" "NoSpare.__init__", dI 14 "NoModule" "NoModule.__init__", dF "_law_made" sMade, dF "_law_marks_of" sMarks, dF "_law_shown" sShown, dF "law" sLaw]
section
variable {P : Program} {w : World} {K : PySem.W.Frag} {mg : Str → Option Value} {h : Heap}
theorem errs (X : K.In h) (G : h.Ns mainGlobals mg) (c : He.SaysQ ck fn K) (base : Heap) : Errs P w K mg base (clK K) (cbK K) := by
  have c0 := c.look
  unfold ck at c0
  simp only [Bool.and_eq_true] at c0
  obtain ⟨c1, c2, _, _⟩ := c0
  have r1 : ∀ i, i < 13 → ck1 K i = true := fun i hi => List.all_eq_true.mp c1 i (List.mem_range.mpr hi)
  unfold ck2 at c2
  simp only [Bool.and_eq_true, decide_eq_true_eq] at c2
  obtain ⟨b1, b2, b3, b4, b5⟩ := c2
  have u1 : ∀ i, i < 13 → _ := fun i hi => by
    have z := r1 i hi
    unfold ck1 at z
    simp only [Bool.and_eq_true, decide_eq_true_eq, List.all_eq_true] at z
    exact z
  obtain ⟨fB, FB⟩ := c.def_ 0 (d := dI 1 "MarkError" "MarkError.__init__") rfl
  have GB : FnOk P w K mg base CX0 1 (He.ma K (cbK K) "__init__") fB ["self"] spI0 := okI0 (Fun.ofD (st := sIn 1) FB)
  have bB : Binds K fB ["self"] [] := (Fun.ofD (st := sIn 1) FB).binds fun _ _ _ _ _ _ us hl => match us, hl with | [_], _ => rfl
  have zero : ∀ i, i < 13 → fdC i = [] → ClsE P w K mg base (nmC i) (clK K i) (fdC i) := fun i hi he => by
    obtain ⟨z1, z2, z3, z4, z5, z6, z7, z8, z9⟩ := u1 i hi
    refine ⟨errB_ok z2, PySem.W.mg_of X G (He.eqO_ok z1), fun f hf => He.eqO_ok (z3 f hf), He.ma K (cbK K) "__init__", fB, ["self"], by rw [if_pos he]; exact GB, ?_, ?_, bB⟩
    · have := He.eqO_ok z8
      unfold inK at this
      rw [if_pos he] at this
      exact this
    · unfold inK at z9
      rw [if_pos he] at z9
      exact z9
  have some_ : ∀ i (fd : FuncData) (ps : List Str), i < 13 → fdC i ≠ [] → FnOk P w K mg base CX0 1 (He.ma K (clK K i) "__init__") fd ps (spI K (fdC i)) → Binds K fd ps [] → ClsE P w K mg base (nmC i) (clK K i) (fdC i) := fun i fd ps hi he hF hb => by
    obtain ⟨z1, z2, z3, z4, z5, z6, z7, z8, z9⟩ := u1 i hi
    refine ⟨errB_ok z2, PySem.W.mg_of X G (He.eqO_ok z1), fun f hf => He.eqO_ok (z3 f hf), He.ma K (clK K i) "__init__", fd, ps, by rw [if_neg he]; exact hF, ?_, ?_, hb⟩
    · have := He.eqO_ok z8
      unfold inK at this
      rw [if_neg he] at this
      exact this
    · unfold inK at z9
      rw [if_neg he] at z9
      exact z9
  refine ⟨fun i hi => ?_, ⟨errB_ok b2, PySem.W.mg_of X G (He.eqO_ok b1), (fun f hf => nomatch hf), _, fB, ["self"], by rw [if_pos rfl]; exact GB, He.eqO_ok b4, b5, bB⟩, fun i j hi hj => (u1 i hi).2.2.2.2.2.2.1 j (List.mem_range.mpr hj), fun i hi => (u1 i hi).2.2.2.1, fun i hi => (u1 i hi).2.2.2.2.1, b3, fun j hj => (u1 j hj).2.2.2.2.2.1⟩
  match i, hi with
  | 0, hi => obtain ⟨fd, Fd⟩ := c.def_ 1 (d := dI 2 "NoProgram" "NoProgram.__init__") rfl; exact some_ 0 fd ["self", "where", "at", "why"] hi (by decide) (okI2 (Fun.ofD (st := sIn 2) Fd)) ((Fun.ofD (st := sIn 2) Fd).binds fun _ _ _ _ _ _ us hl => match us, hl with | [_, _, _, _], _ => rfl)
  | 1, hi => obtain ⟨fd, Fd⟩ := c.def_ 2 (d := dI 3 "NoText" "NoText.__init__") rfl; exact some_ 1 fd ["self", "at"] hi (by decide) (okI3 (Fun.ofD (st := sIn 3) Fd)) ((Fun.ofD (st := sIn 3) Fd).binds fun _ _ _ _ _ _ us hl => match us, hl with | [_, _], _ => rfl)
  | 2, hi => obtain ⟨fd, Fd⟩ := c.def_ 3 (d := dI 4 "NoFunction" "NoFunction.__init__") rfl; exact some_ 2 fd ["self", "name"] hi (by decide) (okI4 (Fun.ofD (st := sIn 4) Fd)) ((Fun.ofD (st := sIn 4) Fd).binds fun _ _ _ _ _ _ us hl => match us, hl with | [_, _], _ => rfl)
  | 3, hi => obtain ⟨fd, Fd⟩ := c.def_ 4 (d := dI 5 "NoPoint" "NoPoint.__init__") rfl; exact some_ 3 fd ["self", "at"] hi (by decide) (okI5 (Fun.ofD (st := sIn 5) Fd)) ((Fun.ofD (st := sIn 5) Fd).binds fun _ _ _ _ _ _ us hl => match us, hl with | [_, _], _ => rfl)
  | 4, hi => exact zero 4 hi rfl
  | 5, hi => obtain ⟨fd, Fd⟩ := c.def_ 5 (d := dI 7 "HasFaults" "HasFaults.__init__") rfl; exact some_ 5 fd ["self", "faults"] hi (by decide) (okI7 (Fun.ofD (st := sIn 7) Fd)) ((Fun.ofD (st := sIn 7) Fd).binds fun _ _ _ _ _ _ us hl => match us, hl with | [_, _], _ => rfl)
  | 6, hi => obtain ⟨fd, Fd⟩ := c.def_ 6 (d := dI 8 "NoChoices" "NoChoices.__init__") rfl; exact some_ 6 fd ["self", "at"] hi (by decide) (okI8 (Fun.ofD (st := sIn 8) Fd)) ((Fun.ofD (st := sIn 8) Fd).binds fun _ _ _ _ _ _ us hl => match us, hl with | [_, _], _ => rfl)
  | 7, hi => exact zero 7 hi rfl
  | 8, hi => obtain ⟨fd, Fd⟩ := c.def_ 7 (d := dI 10 "NoLowered" "NoLowered.__init__") rfl; exact some_ 8 fd ["self", "name", "why"] hi (by decide) (okI10 (Fun.ofD (st := sIn 10) Fd)) ((Fun.ofD (st := sIn 10) Fd).binds fun _ _ _ _ _ _ us hl => match us, hl with | [_, _, _], _ => rfl)
  | 9, hi => obtain ⟨fd, Fd⟩ := c.def_ 8 (d := dI 11 "NoWrites" "NoWrites.__init__") rfl; exact some_ 9 fd ["self", "at"] hi (by decide) (okI11 (Fun.ofD (st := sIn 11) Fd)) ((Fun.ofD (st := sIn 11) Fd).binds fun _ _ _ _ _ _ us hl => match us, hl with | [_, _], _ => rfl)
  | 10, hi => obtain ⟨fd, Fd⟩ := c.def_ 9 (d := dI 12 "NoSpare" "NoSpare.__init__") rfl; exact some_ 10 fd ["self", "spare"] hi (by decide) (okI12 (Fun.ofD (st := sIn 12) Fd)) ((Fun.ofD (st := sIn 12) Fd).binds fun _ _ _ _ _ _ us hl => match us, hl with | [_, _], _ => rfl)
  | 11, hi => exact zero 11 hi rfl
  | 12, hi => obtain ⟨fd, Fd⟩ := c.def_ 10 (d := dI 14 "NoModule" "NoModule.__init__") rfl; exact some_ 12 fd ["self", "name"] hi (by decide) (okI14 (Fun.ofD (st := sIn 14) Fd)) ((Fun.ofD (st := sIn 14) Fd).binds fun _ _ _ _ _ _ us hl => match us, hl with | [_, _], _ => rfl)
  | n + 13, hi => exact absurd hi (by omega)
theorem facts {f : Addr} (X : K.In h) (G : h.Ns mainGlobals mg) (hfa : mg ("law" : Str) = some (.ref f)) (c : He.SaysQ ck fn K) :
    ∃ fd : FuncData, (∀ (s : Shared) (v : Value), BindsTo s fd ⟨[v], []⟩ [("_law_script", v)]) ∧ ∀ base : Heap, K.In base → base.Ns mainGlobals mg → FnOk P w K mg base CX0 4 f fd ["_law_script"] (spLaw K) := by
  have c0 := c.look
  unfold ck at c0
  simp only [Bool.and_eq_true, List.all_eq_true] at c0
  obtain ⟨_, _, c3, c4⟩ := c0
  have gl : ∀ x : Str, x ∈ (["_law_made", "_law_marks_of", "_law_shown", "law"] : List Str) → mg x = some (.ref (He.ga K x)) := fun x hx => PySem.W.mg_of X G (He.eqO_ok (c4 x hx))
  have fr : ∀ x : Str, x ∈ (["isinstance", "ValueError", "int", "enumerate", "range"] : List Str) → mg x = none := fun x hx => PySem.W.mg_none_of X G (He.eqO_ok (c3 x hx))
  obtain ⟨fA, FA⟩ := c.def_ 11 (d := dF "_law_made" sMade) rfl
  obtain ⟨fB, FB⟩ := c.def_ 12 (d := dF "_law_marks_of" sMarks) rfl
  obtain ⟨fC, FC⟩ := c.def_ 13 (d := dF "_law_shown" sShown) rfl
  obtain ⟨fd, F⟩ := c.def_ 14 (d := dF "law" sLaw) rfl
  have e := hfa.symm.trans (gl "law" (by simp))
  cases e
  have b := FunD.bindsA (ps := ["_law_script"]) F fun _ _ _ _ _ _ us hl => match us, hl with | [_], _ => rfl
  have FA' := Fun.ofD (st := sMade) FA
  have FB' := Fun.ofD (st := sMarks) FB
  have FC' := Fun.ofD (st := sShown) FC
  exact ⟨fd, fun s v => b s [v] rfl, fun base _ _ => okLaw (Fun.ofD (st := sLaw) F) (errs X G c base) ⟨fr _ (by simp), fr _ (by simp), fr _ (by simp), fr _ (by simp), fr _ (by simp)⟩
    FA' (gl _ (by simp)) (FA'.binds fun _ _ _ _ _ _ us hl => match us, hl with | [_], _ => rfl)
    FB' (gl _ (by simp)) (FB'.binds fun _ _ _ _ _ _ us hl => match us, hl with | [_], _ => rfl)
    FC' (gl _ (by simp)) (FC'.binds fun _ _ _ _ _ _ us hl => match us, hl with | [_], _ => rfl)⟩
end
/-! ### the head -/
abbrev R : PySem.W.OpenRow := PySem.W.OpenLaw.row PySem.Challenge.rw_leastmarks_k42_errors_of_one_family
abbrev hk : PySem.W.Hook := He.hookQ 6 ck fn
def ob (s : PySem.W.SharedT) : He.AlD := He.obsQG 6 ck fn (HandSHeadRun.getT s)
theorem ob_eq (s : PySem.W.SharedT) : ob s = hk.obs s.abs := He.obsQG_eq (HandSHeadRun.getT_eq s)
def loose : List Str := ["__name__", "MarkError", "NoProgram", "NoText", "NoFunction", "NoPoint", "NoPlan", "HasFaults", "NoChoices", "NoStops", "NoLowered", "NoWrites", "NoSpare", "NoImage", "NoModule", "_law_made", "_law_marks_of", "_law_shown"]
theorem run (w : World) : HandSHeadRun.RunEq R (PySem.W.view R.prog [19]) hk ob 6000 loose w := by
  intro os
  kernel_rfl
end Lm
open PySem PySem.W PySem.Calls PyProof.Rows
theorem PySem.Challenge.cw_leastmarks_k42_errors_of_one_family_holds : PySem.Challenge.rw_leastmarks_k42_errors_of_one_family.Holds := by
  w_on; o_law
  refine HandSHeadRun.head_any (r := OpenLaw.row PySem.Challenge.rw_leastmarks_k42_errors_of_one_family) (q := view (OpenLaw.row PySem.Challenge.rw_leastmarks_k42_errors_of_one_family).prog [19]) (H := Lm.hk) (ob := Lm.ob) (M := 6000) (loose := Lm.loose) (d := HandSHeadRun.topDef (OpenLaw.row PySem.Challenge.rw_leastmarks_k42_errors_of_one_family).prog 19) (kwd := []) Lm.ob_eq
    (by kernel_rfl) (fun s => by kernel_rfl) Lm.run (by kernel_rfl) (by kernel_rfl) (by kernel_rfl) (by rfl) (by first | assumption | decide +kernel) (by decide +kernel) ⟨rfl, rfl, rfl, rfl, rfl, by decide +kernel⟩ ?hw ?hc
  case hw => w_witness2
  case hc =>
    refine L2.walk_ofE (l := PySem.Challenge.rw_leastmarks_k42_errors_of_one_family) (n := 63) (k := 4) (x := "_law_script") (CX := L2.CX0) rfl (by decide) (by kernel_rfl) ⟨rfl, by decide, by decide⟩ ?F (fun _ _ _ _ z => z)
    intro w mg fa h Y G hmg0
    obtain ⟨K, KX, c⟩ := Y
    have hmg : mg ("law" : PySem.Str) = some (.ref fa) := by
      have e : (HandSHeadRun.topDef (OpenLaw.row PySem.Challenge.rw_leastmarks_k42_errors_of_one_family).prog 19).name = ("law" : PySem.Str) := by kernel_rfl
      rw [← e]
      exact hmg0
    obtain ⟨fd, hb, hF⟩ := Lm.facts (P := (PySem.Challenge.rw_leastmarks_k42_errors_of_one_family).prog) (w := w) KX G hmg c
    exact ⟨K, fd, Lm.spLaw K, KX, hb, fun H a ns hl _ hS => ⟨a, ns, rfl, hS, hl, fun _ => rfl⟩, hF⟩
