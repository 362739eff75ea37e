import PyProof.Rows.All
import Wide.All
import OpenK.AllK
import Wide.FinOn
import HandS.ForMost
import HandS.ForExc
import HandS.IsInst
import HandS.Walk
import HandS.Deep
import HandS.Conv
import HandS.NoneIn
import HandS.DictComp
import HandS.TupAny
import HandS.Star
import HandS.Codes
import HandS.Flow
import HandS.Ends
import HandS.HeadEnd
import PyProof.ReprRoads
import KE.KExcIs
import HandS.ExcInit
import HandS.ExcIs
import HandS.ExcField
import HandS.Defaults
import HandS.HeadHook1
import HandS.HeadHook2
import PyProof.Draws
import KE.GoesMore
import KE.GoesEnum
import PyProof.DictUpdate
import KE.KDictItemsList
import KE.KDictExact
import HandS.Iter
import HandS.SortInts
import HandS.WordsDict
import KE.KStateDown
import HandS.Head0
import HandS.Head1
import HandS.Head2
import PySem.Challenge.RW_leastmarks_k39_writes_done_one_by_one
set_option Elab.async false
set_option linter.all false
set_option maxRecDepth 100000
set_option maxHeartbeats 0
/-! Data as a whole: what isinstance, a walk, a part of it say, whatever it is made of. -/
namespace L2
open PySem PySem.Spec PyProof.Rows
theorem same_upd {H : Hp} {p : Addr} {o : HO} (h : H p = none) : Same H (upd H p o) := fun b x e => by
  rw [upd_ne (ne_of_none e h)]
  exact e
section
variable {K : PySem.W.Frag} {H H' : Hp}
theorem sqt_same {a : Addr} {xs : List V} (e : Same H H') (h : SqT K H a xs) : SqT K H' a xs := by
  rcases h with (h | ⟨o, h⟩) | h
  · exact .inl (.inl (e _ _ h))
  · exact .inl (.inr ⟨o, e _ _ h⟩)
  · exact .inr h
/-! ### data: none, bools, ints, texts, lists, tuples of such, and dicts into which nobody looks -/
mutual
inductive Dx (K : PySem.W.Frag) (H : Hp) : V → PyData → Prop
  | non : Dx K H .non .none
  | bl (b : Bool) : Dx K H (.bl b) (.bool b)
  | int (i : Int) : Dx K H (.int i) (.int i)
  | str (x : Str) : Dx K H (.str x) (.str x)
  | lst {a : Addr} {xs : List V} {ds : List PyData} : H a = some (.lst xs) → DxAll K H xs ds → Dx K H (.ref a) (.list ds)
  | tup {a : Addr} {xs : List V} {ds : List PyData} : H a = some (.tup xs) → DxAll K H xs ds → Dx K H (.ref a) (.tuple ds)
  | dic {a : Addr} {kvs : List (Key × V)} : H a = some (.dK kvs) → Dx K H (.ref a) (.dict [])
inductive DxAll (K : PySem.W.Frag) (H : Hp) : List V → List PyData → Prop
  | nil : DxAll K H [] []
  | cons {v : V} {vs : List V} {d : PyData} {ds : List PyData} : Dx K H v d → DxAll K H vs ds → DxAll K H (v :: vs) (d :: ds)
end
mutual
theorem Dx.mono (e : Same H H') : ∀ {v : V} {d : PyData}, Dx K H v d → Dx K H' v d
  | _, _, .non => .non
  | _, _, .bl b => .bl b
  | _, _, .int i => .int i
  | _, _, .str x => .str x
  | _, _, .lst h a => .lst (e _ _ h) (DxAll.mono e a)
  | _, _, .tup h a => .tup (e _ _ h) (DxAll.mono e a)
  | _, _, .dic h => .dic (e _ _ h)
theorem DxAll.mono (e : Same H H') : ∀ {vs : List V} {ds : List PyData}, DxAll K H vs ds → DxAll K H' vs ds
  | _, _, .nil => .nil
  | _, _, .cons h a => .cons (Dx.mono e h) (DxAll.mono e a)
end
mutual
theorem Dx.dp : ∀ {v : V} {d : PyData}, Dx K H v d → d.canLay0 = true → Dp K H v d
  | _, _, .non, _ => .non
  | _, _, .bl b, _ => .bl b
  | _, _, .int i, _ => .int i
  | _, _, .str x, _ => .str x
  | _, _, .lst h a, c => .lst (.inl (.inl h)) (DxAll.dp a c)
  | _, _, .tup h a, c => .tup (.inl (.inl h)) (DxAll.dp a c)
theorem DxAll.dp : ∀ {vs : List V} {ds : List PyData}, DxAll K H vs ds → PyData.canLayAll0 ds = true → DpAll K H vs ds
  | _, _, .nil, _ => .nil
  | _, _, .cons (d := d) (ds := ds) h a, c => by
    have c' : (d.canLay0 && PyData.canLayAll0 ds) = true := c
    rw [Bool.and_eq_true] at c'
    exact .cons (Dx.dp h c'.1) (DxAll.dp a c'.2)
end
theorem DxAll.len : ∀ {vs : List V} {ds : List PyData}, DxAll K H vs ds → vs.length = ds.length
  | _, _, .nil => rfl
  | _, _, .cons _ a => by rw [List.length_cons, List.length_cons, DxAll.len a]
theorem DxAll.get : ∀ {vs : List V} {ds : List PyData} {i : Nat} {v : V}, DxAll K H vs ds → vs[i]? = some v → ∃ d, ds[i]? = some d ∧ Dx K H v d
  | _, _, i, v, .nil, e => by simp at e
  | _, _, 0, v, .cons h a, e => by simp at e; subst e; exact ⟨_, rfl, h⟩
  | _, _, i + 1, v, .cons h a, e => DxAll.get (i := i) a (by simpa using e)
theorem DxAll.at : ∀ {vs : List V} {ds : List PyData} {i : Nat} {d : PyData}, DxAll K H vs ds → ds[i]? = some d → ∃ v, vs[i]? = some v ∧ Dx K H v d
  | _, _, i, d, .nil, e => by simp at e
  | _, _, 0, d, .cons h a, e => by simp at e; subst e; exact ⟨_, rfl, h⟩
  | _, _, i + 1, d, .cons h a, e => DxAll.at (i := i) a (by simpa using e)
theorem DxAll.snoc : ∀ {vs : List V} {ds : List PyData} {v : V} {d : PyData}, DxAll K H vs ds → Dx K H v d → DxAll K H (vs ++ [v]) (ds ++ [d])
  | _, _, _, _, .nil, h => .cons h .nil
  | _, _, _, _, .cons h a, g => .cons h (DxAll.snoc a g)
/-! ### data of a bounded size -/
mutual
def fit : PyData → Bool
  | .str x => PyData.canLay0 (.str x) && decide (x.length ≤ 1000)
  | .list xs => decide (xs.length ≤ 1000) && fitAll xs
  | .tuple xs => decide (xs.length ≤ 1000) && fitAll xs
  | _ => true
def fitAll : List PyData → Bool
  | [] => true
  | x :: xs => fit x && fitAll xs
end
theorem fitAll_at : ∀ {ds : List PyData} {i : Nat} {d : PyData}, fitAll ds = true → ds[i]? = some d → fit d = true
  | [], i, d, _, e => by simp at e
  | x :: xs, 0, d, h, e => by
    have h' : (fit x && fitAll xs) = true := h
    rw [Bool.and_eq_true] at h'
    simp at e
    rw [← e]
    exact h'.1
  | x :: xs, i + 1, d, h, e => by
    have h' : (fit x && fitAll xs) = true := h
    rw [Bool.and_eq_true] at h'
    exact fitAll_at (i := i) h'.2 (by simpa using e)
def items : PyData → List PyData
  | .list xs => xs | .tuple xs => xs | _ => []
theorem fit_items {d : PyData} (h : fit d = true) : fitAll (items d) = true := by
  cases d with
  | list xs =>
    have h' : (decide (xs.length ≤ 1000) && fitAll xs) = true := h
    rw [Bool.and_eq_true] at h'
    exact h'.2
  | tuple xs =>
    have h' : (decide (xs.length ≤ 1000) && fitAll xs) = true := h
    rw [Bool.and_eq_true] at h'
    exact h'.2
  | _ => rfl
theorem fit_len {d : PyData} (h : fit d = true) : (items d).length ≤ 1000 := by
  cases d with
  | list xs =>
    have h' : (decide (xs.length ≤ 1000) && fitAll xs) = true := h
    rw [Bool.and_eq_true] at h'
    exact of_decide_eq_true h'.1
  | tuple xs =>
    have h' : (decide (xs.length ≤ 1000) && fitAll xs) = true := h
    rw [Bool.and_eq_true] at h'
    exact of_decide_eq_true h'.1
  | _ => exact Nat.zero_le _
theorem fit_str {x : Str} (h : fit (.str x) = true) : x.length ≤ sizeLine := by
  have h' : (PyData.canLay0 (.str x) && decide (x.length ≤ 1000)) = true := h
  rw [Bool.and_eq_true] at h'
  exact Nat.le_of_lt (small1000 (of_decide_eq_true h'.2))
/-! ### what a datum is -/
def tyD : PyData → String
  | .none => "NoneType" | .bool _ => "bool" | .int _ => "int" | .str _ => "str" | .list _ => "list" | .tuple _ => "tuple" | .dict _ => "dict"
theorem Dx.ty : ∀ {v : V} {d : PyData}, Dx K H v d → TyX K H v (.type (tyD d))
  | _, _, .non => .base .non
  | _, _, .bl b => .base (.bl b)
  | _, _, .int i => .base (.int i)
  | _, _, .str x => .base (.str x)
  | _, _, .lst h _ => .base (.lst h)
  | _, _, .tup h _ => .base (.tup h)
  | _, _, .dic h => .base (.dK h)
def isRow : PyData → Bool
  | .list _ => true | .tuple _ => true | _ => false
def isTup : PyData → Bool
  | .tuple _ => true | _ => false
def isStr : PyData → Bool
  | .str _ => true | _ => false
theorem kit_row : ∀ d : PyData, PySem.W.kitAny K (.type (tyD d)) [.type "list", .type "tuple"] = some (isRow d)
  | .none => kitAny_cons (b := false) (kit_ty (a := "NoneType") (b := "list") (by decide +kernel)) (fun _ => kitAny_cons (b := false) (kit_ty (a := "NoneType") (b := "tuple") (by decide +kernel)) (fun _ => kitAny_nil) (fun h => nomatch h)) (fun h => nomatch h)
  | .bool _ => kitAny_cons (b := false) (kit_ty (a := "bool") (b := "list") (by decide +kernel)) (fun _ => kitAny_cons (b := false) (kit_ty (a := "bool") (b := "tuple") (by decide +kernel)) (fun _ => kitAny_nil) (fun h => nomatch h)) (fun h => nomatch h)
  | .int _ => kitAny_cons (b := false) (kit_ty (a := "int") (b := "list") (by decide +kernel)) (fun _ => kitAny_cons (b := false) (kit_ty (a := "int") (b := "tuple") (by decide +kernel)) (fun _ => kitAny_nil) (fun h => nomatch h)) (fun h => nomatch h)
  | .str _ => kitAny_cons (b := false) (kit_ty (a := "str") (b := "list") (by decide +kernel)) (fun _ => kitAny_cons (b := false) (kit_ty (a := "str") (b := "tuple") (by decide +kernel)) (fun _ => kitAny_nil) (fun h => nomatch h)) (fun h => nomatch h)
  | .list _ => kitAny_cons (b := true) (kit_ty (a := "list") (b := "list") (by decide +kernel)) (fun h => nomatch h) (fun _ => rfl)
  | .tuple _ => kitAny_cons (b := false) (kit_ty (a := "tuple") (b := "list") (by decide +kernel)) (fun _ => kitAny_cons (b := true) (kit_ty (a := "tuple") (b := "tuple") (by decide +kernel)) (fun h => nomatch h) (fun _ => rfl)) (fun h => nomatch h)
  | .dict _ => kitAny_cons (b := false) (kit_ty (a := "dict") (b := "list") (by decide +kernel)) (fun _ => kitAny_cons (b := false) (kit_ty (a := "dict") (b := "tuple") (by decide +kernel)) (fun _ => kitAny_nil) (fun h => nomatch h)) (fun h => nomatch h)
theorem kit_tup : ∀ d : PyData, PySem.W.kitOne K (.type (tyD d)) (.type "tuple") = some (isTup d)
  | .none => kit_ty (a := "NoneType") (b := "tuple") (r := false) (by decide +kernel)
  | .bool _ => kit_ty (a := "bool") (b := "tuple") (r := false) (by decide +kernel)
  | .int _ => kit_ty (a := "int") (b := "tuple") (r := false) (by decide +kernel)
  | .str _ => kit_ty (a := "str") (b := "tuple") (r := false) (by decide +kernel)
  | .list _ => kit_ty (a := "list") (b := "tuple") (r := false) (by decide +kernel)
  | .tuple _ => kit_ty (a := "tuple") (b := "tuple") (r := true) (by decide +kernel)
  | .dict _ => kit_ty (a := "dict") (b := "tuple") (r := false) (by decide +kernel)
theorem kit_str : ∀ d : PyData, PySem.W.kitOne K (.type (tyD d)) (.type "str") = some (isStr d)
  | .none => kit_ty (a := "NoneType") (b := "str") (r := false) (by decide +kernel)
  | .bool _ => kit_ty (a := "bool") (b := "str") (r := false) (by decide +kernel)
  | .int _ => kit_ty (a := "int") (b := "str") (r := false) (by decide +kernel)
  | .str _ => kit_ty (a := "str") (b := "str") (r := true) (by decide +kernel)
  | .list _ => kit_ty (a := "list") (b := "str") (r := false) (by decide +kernel)
  | .tuple _ => kit_ty (a := "tuple") (b := "str") (r := false) (by decide +kernel)
  | .dict _ => kit_ty (a := "dict") (b := "str") (r := false) (by decide +kernel)
/-- a row stands as a list or as a tuple -/
theorem Dx.row {v : V} {d : PyData} (h : Dx K H v d) (r : isRow d = true) : ∃ a xs, v = .ref a ∧ (SqL K H a xs ∧ (∃ ds, d = .list ds) ∨ SqT K H a xs ∧ (∃ ds, d = .tuple ds)) ∧ DxAll K H xs (items d) := by
  cases h with
  | lst h a => exact ⟨_, _, rfl, .inl ⟨.inl (.inl h), _, rfl⟩, a⟩
  | tup h a => exact ⟨_, _, rfl, .inr ⟨.inl (.inl h), _, rfl⟩, a⟩
  | _ => cases r
theorem Dx.tupOf {v : V} {ds : List PyData} (h : Dx K H v (.tuple ds)) : ∃ a xs, v = .ref a ∧ SqT K H a xs ∧ DxAll K H xs ds := by
  cases h with
  | tup h a => exact ⟨_, _, rfl, .inl (.inl h), a⟩
theorem Dx.tupAt {v : V} {ds : List PyData} (h : Dx K H v (.tuple ds)) : ∃ a xs, v = .ref a ∧ H a = some (.tup xs) ∧ DxAll K H xs ds := by
  cases h with
  | tup h a => exact ⟨_, _, rfl, h, a⟩
theorem Dx.strOf {v : V} {x : Str} (h : Dx K H v (.str x)) : v = .str x := by cases h; rfl
end
theorem lk_cons {α : Type} (f g : Str) (y : α) (fs : List (Str × α)) : ((f, y) :: fs).lookup g = if g = f then some y else fs.lookup g := by
  by_cases h : g = f
  · subst h
    simp [List.lookup]
  · have e : (g == f) = false := by simpa using h
    rw [if_neg h]
    simp [List.lookup, e]
/-! ### rules joined -/
section
variable {X : Cx}
theorem pi_or {tg it : Expr} {w1 w2 : TI} (h1 : PI X tg it w1) (h2 : PI X tg it w2) : PI X tg it (fun σ H R => w1 σ H R ∨ w2 σ H R) :=
  ⟨fun pins s σ H R I h => h.elim (h1.run pins s σ H R I) (h2.run pins s σ H R I)⟩
theorem pe_or2 {e : Expr} {t1 t2 : TE} (h1 : PE X e t1) (h2 : PE X e t2) : PE X e (fun σ H Q => t1 σ H Q ∨ t2 σ H Q) :=
  ⟨fun pins s σ H Q I h => h.elim (h1.run pins s σ H Q I) (h2.run pins s σ H Q I)⟩
theorem pt_or2 {e : Expr} {t1 t2 : TT} (h1 : PT X e t1) (h2 : PT X e t2) : PT X e (fun σ H Q => t1 σ H Q ∨ t2 σ H Q) :=
  ⟨fun pins s σ H Q I h => h.elim (h1.run pins s σ H Q I) (h2.run pins s σ H Q I)⟩
/-- a row is walked -/
theorem pi_row {tg e : Expr} {t : TE} (h : PE X e t) : PI X tg e (fun σ H R => iList X.K t σ H R ∨ iTup X.K t σ H R) := pi_or (pi_list h) (pi_tup h)
theorem pe_ixt (K : PySem.W.Frag) (hK : X.K = K) {a b : Expr} {ta tb : TE} {pos : Pos} (ha : PE X a ta) (hb : PE X b tb) (hs : PlainIx b := by exact fun _ _ => rfl) : PE X (.Subscript a b pos) (tOp (rIxT K) ta tb) := by
  subst hK
  exact pe_ix ix_tup ha hb hs
theorem pg_tupk (K : PySem.W.Frag) (hK : X.K = K) {es : List Expr} {k n : Nat} {pos : Pos} {t : TGs} (hc : X.calm = true) (h : PGs X es t) (hn : (assignEach es X.env).length = n := by rfl) (hst : (assignEach es X.env).findIdx? (·.1) = none := by rfl) : PG X (.Tuple es k pos) (gTup K n t) := by
  subst hK
  exact pg_tup hc h hn hst
theorem tyes {σ : L2.St} {H : Hp} {A B : Hp → Prop} (h : A H) : tYes σ H (fun b H3 => if b = true then A H3 else B H3) := by
  show (if true = true then A H else B H)
  rw [if_pos rfl]
  exact h
theorem for_row {K : PySem.W.Frag} {H Hb : Hp} {σ : L2.St} {t : TE} {R : It → Hp → Prop} {a : Addr} {xs : List V} (e : SqL K Hb a xs ∨ SqT K Hb a xs) (sm : Same Hb H) (ht : ∀ k : VK, k (.ref a) H → t σ H k)
    (go : ∀ (J : It) (G : Hp → Prop), (∀ H', Same Hb H' → G H') → Walk J xs.length G (YAt xs) → R J H) : iList K t σ H R ∨ iTup K t σ H R := by
  rcases e with e | e
  · exact .inl (ht _ ⟨a, rfl, ⟨xs, sm.seq e⟩, go _ _ (fun H' s => s.seq e) walk_list⟩)
  · exact .inr (ht _ ⟨a, rfl, ⟨xs, sqt_same sm e⟩, go _ _ (fun H' s => sqt_same s e) walk_tup⟩)
end
end L2

/-! defs that run where nothing is being shown (repr), and the end of a law of such a def -/
namespace L2
open PySem PySem.Spec PyProof.Rows
structure FnG (P : Program) (w : World) (K : PySem.W.Frag) (mg : Str → Option Value) (base : Heap) (k : Nat) (f : Addr) (fd : FuncData) (ps : List Str) (sp : Sp) : Prop where
  len : ∀ vs H Q E, sp vs H Q E → vs.length = ps.length
  run : ∀ (A : Around) (outer : List Env) (s : Shared) (H : Hp) (args : Args) (us : List Value) (vs : List V) (Q : VK) (E : XK), Room k A → A.guards = some [] → Env0 P w K mg base A outer s H → BindsTo s fd args (ps.zip us) → Vals vs us → sp vs H Q E →
    codeAny (model P w) A (.call (.ref f) args) (CR CX0 outer P w H s Q E) s
section
variable {P : Program} {w : World} {K : PySem.W.Frag} {mg : Str → Option Value} {base : Heap}
theorem FnG.of {x q : Str} {st : Stmt} {f : Addr} {fd : FuncData} {N ps : List Str} {k : Nat} {sp : Sp} (F : Fun K x q st f fd) (S : FnScope N ps (defScope st)) (len : ∀ vs H Q E, sp vs H Q E → vs.length = ps.length)
    (hb : ∀ (cdv : Value) (A : Around) (outer : List Env) (s : Shared) (H : Hp) (vs : List V) (Q : VK) (E : XK), Room k (A.deeper (envOfC q (defScope st) s.heap.objs.size f cdv)) → A.guards = some [] → sp vs H Q E →
      ∃ t, PSs (cxOf CX0 P w K mg base N q (defScope st) f cdv A outer s H E).nox (defBody st) t ∧ t { nx := fun _ H' => Q .non H', rt := Q } (start N vs) H) : FnG P w K mg base (k + 1) f fd ps sp := by
  obtain ⟨oc, od, kV, doc, pm, an, cdv, ct, osl, rfl, lk, hcd⟩ := F.ex
  refine ⟨len, fun A outer s H args us vs Q E hr gd e0 hbi r hsp => ?_⟩
  have hl := len _ _ _ _ hsp
  have old : ∀ b o, base.get? b = some o → s.heap.get? b = some o := fun b o e => (e0.bs b o e).1
  have KX : K.In s.heap := e0.mod.kin.keeps old
  refine codeAny_call_function hr.depth (KX _ _ lk) rfl S.co S.gen rfl (PySem.W.codeRec_of KX hcd) (hbi _ _ _ _ ?_)
  refine wpAny_newFunctionEnv_cells S.kind (fun ⟨n, v⟩ hy => (S.par n (List.of_mem_zip hy).1).imp id fun z => ⟨z, PySem.W.cellsFrom_some _ _ _ (.inl z)⟩) fun env he s1 y => ?_
  subst he
  refine ⟨(e0.mod.nolimit.keeps old).keeps y.toInCall.keep, codeAny_func ?_⟩
  obtain ⟨t, ht, hq⟩ := hb cdv A outer s H vs Q E (hr.deeper _) gd hsp
  have I := inv_start (CX := CX0) (E := E) S hr.hd e0 hl r y
  refine wpAny_mono (ht.nox.run [] s1 (start N vs) H _ I hq) (fun fl s' hs => ?_) fun e s' hs => hs
  cases fl with
  | ret u => obtain ⟨v, _, H', J, rv, z⟩ := hs; exact ⟨v, H', J.os, J.bare, J.base, J.hok, rv, z⟩
  | next => obtain ⟨_, H', J, z⟩ := hs; exact ⟨V.non, H', J.os, J.bare, J.base, J.hok, rfl, z⟩
  | brk => obtain ⟨_, _, _, z⟩ := hs; exact False.elim z
  | cont => obtain ⟨_, _, _, z⟩ := hs; exact False.elim z
/-- such a def called in a suite that runs where nothing is shown -/
theorem pe_callG {X : Cx} {f : Addr} {fd : FuncData} {ps : List Str} {k : Nat} {sp : Sp} {x : Str} {e : Expr} {es : List Expr} {t : TA} {p pos : Pos} {E : XK} (F : FnG X.prog X.w X.K X.mg X.base k f fd ps sp) (hr : Room k X.A) (gd : X.A.guards = some []) (hg : Gl X x) (hm : X.mg x = some (.ref f)) (hk : PySem.W.keepIn X.K (.ref f) = true) (hb : Binds X.K fd ps [])
    (ha : PA X (e :: es) t) (hdb : (x == ("__debug__" : Str)) = false := by decide) (he : starEach (e :: es) X.env = (false, eval e X.env) :: starEach es X.env := by rfl) (hpl : (backTo pos (starEach es X.env)).any (·.1) = false := by rfl) :
    PE X (.Call (.Name x p) (e :: es) [] pos) (tCall sp [] E t) := by
  refine ⟨fun pins s σ H Q I h => ?_⟩
  refine wpAny_Call_Name_kw (ld_glob I hg hm ?_ hdb)
  refine PySem.W.callWith_K (h₀ := X.base) I.ok.mod.kin hk (thn (ha.run pos pins s σ H _ I h) fun us s1 ⟨vs, H1, I1, r, q⟩ => ⟨I1.kIn, ?_⟩) he hpl
  have q : sp vs H1 Q E := by have z : sp (vs ++ []) H1 Q E := q; rwa [List.append_nil] at z
  have b := hb s1 us I1.kIn (by rw [List.append_nil, ← r.length]; exact F.len _ _ _ _ q)
  rw [List.append_nil] at b
  refine wpAny_call (codeAny_mono (F.run X.A X.stack s1 H1 ⟨us, []⟩ us vs Q E hr gd I1.env0 b r q) fun r s' hq => ?_)
  match r, hq with
  | .error e, hq => exact hq.elim
  | .ok (.ret u), hq => exact I1.after hq
  | .ok .next, hq => exact hq.elim
  | .ok .brk, hq => exact hq.elim
  | .ok .cont, hq => exact hq.elim
/-! ### the end of a law -/
/-- what law_call asks of a heap H that tracks at most the script -/
structure ScrH (P : Program) (w : World) (K : PySem.W.Frag) (h : Heap) (a : Addr) (H : Hp) : Prop where
  hok : HOk P w H h
  one : ∀ b o, H b = some o → b = a ∧ K.lookup a = none ∧ ∃ ob xs, o = .frz ob (.lst xs)
theorem ScrH.only {P : Program} {w : World} {K : PySem.W.Frag} {h : Heap} {a : Addr} {H : Hp} (S : ScrH P w K h a H) : Only H := fun b => by
  cases e : H b with
  | none => exact .inl rfl
  | some o => obtain ⟨_, _, ob, xs, rfl⟩ := S.one b o e; exact .inr ⟨ob, xs, rfl⟩
theorem end_G {P : Program} {w : World} {K : PySem.W.Frag} {mg mb : Str → Option Value} {k : Nat} {fa a : Addr} {fd : FuncData} {x : Str} {sp : Sp} {s₁ : Shared} {o₁ : Obj} {H : Hp}
    (KX : K.In s₁.heap) (hns : s₁.heap.Ns mainGlobals mg) (hb : s₁.heap.Ns builtinsNs mb) (hbb : ∀ x : Str, x ≠ "__name__" → mb x = bootBuiltins x) (hlim : s₁.heap.NoLimit) (hg : s₁.gens = #[])
    (ha : s₁.heap.get? a = some o₁) (hd : ∀ es n, o₁.data ≠ .dict es n) (hr : Room k callerA)
    (F : ∀ base : Heap, K.In base → base.Ns mainGlobals mg → FnG P w K mg base k fa fd [x] sp) (hbind : ∀ (s : Shared) (u : Value), BindsTo s fd ⟨[u], []⟩ [(x, u)])
    (S : ScrH P w K s₁.heap a H) (hsp : sp [.ref a] H (fun v _ => v = .bl true) fun _ _ _ => False) :
    codeAny (model P w) callerA (.call (.ref fa) ⟨[.ref a], []⟩) (fun r s' => r = .ok (.ret (.bool true)) ∧ OldK s₁.heap s'.heap ∧ s'.os = s₁.os ∧ AllBare s'.gens) s₁ := by
  have away : ∀ {b : Addr}, b ≠ a → H b = none := fun {b} n => by
    cases e : H b with
    | none => rfl
    | some o => exact absurd (S.one b o e).1 n
  have nsB : ∀ {b : Addr} {m : Str → Option Value}, s₁.heap.Ns b m → (hidT s₁.heap H).Ns b m := fun {b m} ⟨o, es, n, e, d, z⟩ => ⟨o, es, n, hidT_get e (away fun q => by rw [q, ha] at e; cases e; exact hd _ _ d), d, z⟩
  have inB : K.In (hidT s₁.heap H) := fun b o e => hidT_get (KX b o e) (by
    cases q : H b with
    | none => rfl
    | some u => obtain ⟨z, nk, _⟩ := S.one b u q; rw [z, nk] at e; cases e)
  have env : Env0 P w K mg (hidT s₁.heap H) callerA [] s₁ H :=
    ⟨rfl, ⟨inB, nsB hns, ⟨mb, nsB hb, hbb⟩, hlim.imp fun _ z => ⟨nsB z.1, z.2⟩⟩, fun _ _ e => of_hidT e, Nat.le_of_eq (hidT_size _ _), trivial, fun _ hb => (nomatch hb), S.hok, AllBare.of_eq hg⟩
  refine codeAny_mono ((F _ inB (nsB hns)).run callerA [] s₁ H ⟨[.ref a], []⟩ [.ref a] [.ref a] _ _ hr rfl env (hbind s₁ (.ref a)) (.cons rfl .nil) hsp) fun r s' z => ?_
  match r, z with
  | .error e, z => exact z.elim
  | .ok .next, z => exact z.elim
  | .ok .brk, z => exact z.elim
  | .ok .cont, z => exact z.elim
  | .ok (.ret u), z =>
    obtain ⟨v, H', os, bare, un, hok', rv, q⟩ := z
    cases (show v = .bl true from q)
    cases (show u = Value.bool true from rv)
    refine ⟨rfl, .of_keep fun b o e => ?_, os, bare⟩
    cases q : H b with
    | none => exact un.keep b o e q (fun z => nomatch z) (fun z => nomatch z)
    | some u =>
      obtain ⟨_, _, ob, xs, rfl⟩ := S.one b u q
      obtain ⟨h1, _⟩ := S.hok b _ q
      obtain ⟨h2, _⟩ := hok' b _ (un.frzs b _ _ q)
      rw [h1] at e
      cases e
      exact h2
end
/-- the goal of the head, from a law that runs where nothing is shown -/
theorem walk_ofG {l : PySem.W.OpenLaw} {n k : Nat} {q : Program} {loose : List Str} {XP : (Str → Option Value) → Heap → Prop} {YP : World → Heap → Prop} {d : DefRec} {x : Str}
    (hn : l.most = some n) (hn2 : n ≤ sizeLine) (hdf : d.params.defaults = []) (hr : Room k callerA)
    (F : ∀ (w : World) (mg : Str → Option Value) (fa : Addr) (h : Heap), YP w h → h.Ns mainGlobals mg → mg d.name = some (.ref fa) →
      ∃ (K : PySem.W.Frag) (fd : FuncData) (sp : Sp), K.In h ∧ (∀ (s : Shared) (u : Value), BindsTo s fd ⟨[u], []⟩ [(x, u)]) ∧
        (∀ (H : Hp) (a : Addr) (ns : List Int), ns.length ≤ n → SqL K H a (ns.map V.int) → sp [.ref a] H (fun v _ => v = .bl true) fun _ _ _ => False) ∧
        ∀ base : Heap, K.In base → base.Ns mainGlobals mg → FnG l.prog w K mg base k fa fd [x] sp) :
    PySem.W.WalkO q loose XP YP l.row.toRowW d [] (fun f vs => PySem.call f vs) := by
  refine Att.attach_call hn hdf fun w s₀ s₁ mg mb fa o pm cd doc a vs ns G Y ho hd hcd hmg hobj hints hlen hg => ?_
  obtain ⟨K, fd, sp, KX, hb, hsp, hF⟩ := F w mg fa _ Y G.T.g hmg
  have rel := vals_ints hints
  have len := hints.length
  have noD : ∀ es n, (⟨.type "list", none, .seq vs.toArray, #[]⟩ : Obj).data ≠ .dict es n := fun _ _ z => nomatch z
  cases hk : K.lookup a with
  | some o =>
    have e := KX a o hk
    rw [hobj] at e
    cases e
    have S : ScrH l.prog w K s₁.heap a (fun _ => none) := ⟨fun b u z => (nomatch (show (none : Option HO) = some u from z)), fun b u z => (nomatch (show (none : Option HO) = some u from z))⟩
    exact end_G KX G.T.g G.T.b G.T.builtins G.T.nolimit hg hobj noD hr hF hb S (hsp _ a ns hlen (.inr ⟨_, vs.toArray, _, hk, rfl, rfl, rfl, by rw [List.size_toArray, len]; omega, by simpa using rel⟩))
  | none =>
    obtain ⟨fz, efz⟩ : ∃ fz : HO, fz = .frz ⟨.type "list", none, .seq vs.toArray, #[]⟩ (.lst (ns.map V.int)) := ⟨_, rfl⟩
    have S : ScrH l.prog w K s₁.heap a (upd (fun _ => none) a fz) := by
      have only : ∀ b u, upd (fun _ => none) a fz b = some u → b = a ∧ u = fz := fun b u z => by
        by_cases e : b = a
        · rw [e, upd_same] at z; cases z; exact ⟨e, rfl⟩
        · rw [upd_ne e] at z; cases z
      refine ⟨fun b u z => ?_, fun b u z => ?_⟩
      · obtain ⟨rfl, rfl⟩ := only b u z
        rw [efz]
        exact ⟨hobj, by rw [List.length_map]; omega, vs, _, rel, hobj⟩
      · obtain ⟨e1, e2⟩ := only b u z
        exact ⟨e1, hk, _, _, e2.trans efz⟩
    exact end_G KX G.T.g G.T.b G.T.builtins G.T.nolimit hg hobj noD hr hF hb S (hsp _ a ns hlen (.inl (.inr ⟨_, by rw [upd_same, efz]⟩)))
end L2

/-! repr(x), x data -/
namespace L2
open PySem PySem.Spec PyProof.Rows
mutual
theorem Dp.noDict {K : PySem.W.Frag} {H : Hp} : ∀ {v : V} {d : PyData}, Dp K H v d → d.hasDict = false
  | _, _, .non => rfl
  | _, _, .bl _ => rfl
  | _, _, .int _ => rfl
  | _, _, .str _ => rfl
  | _, _, .lst _ a => DpAll.noDict a
  | _, _, .tup _ a => DpAll.noDict a
theorem DpAll.noDict {K : PySem.W.Frag} {H : Hp} : ∀ {vs : List V} {ds : List PyData}, DpAll K H vs ds → PyData.hasDictAll ds = false
  | _, _, .nil => rfl
  | _, _, .cons h a => by
    show (_ || _) = false
    rw [Dp.noDict h, DpAll.noDict a]
    rfl
end
section
variable {X : Cx}
theorem call_reprD (gd : X.A.guards = some []) (hu : X.A.units + 70 < cLine) : CallR X (.builtin "repr") (fun xs H Q => ∃ a d, xs = [.ref a] ∧ Dp X.K H (.ref a) d ∧ d.showable = true ∧ d.depth ≤ 60 ∧ d.shown.length ≤ sizeLine ∧ Q (.str d.shown) H) := by
  intro pins s σ H xs us Q I r h
  obtain ⟨a, d, rfl, hd, hs, hdp, hz, q⟩ := h
  obtain ⟨u, rfl, ru⟩ := vals1 r
  cases (show u = Value.ref a from ru)
  obtain ⟨as, rd⟩ := Dp.reads I d (.ref a) (.ref a) hd rfl
  exact repr_of_reads' rd hs (fun z => by rw [hd.noDict] at z; cases z) gd (by omega) (fun _ _ e => e) (fun h' u tk k => ⟨.str d.shown, H, I.kept k, ⟨_, rfl⟩, q⟩) hz
end
end L2

/-! Errors of one's own as values: made by a call, asked for their class and their fields. -/
namespace L2
open PySem PySem.Spec PyProof.Rows
section
variable {X : Cx} {CX : CXT} {k : Nat} {fI C : Addr} {fd : FuncData} {ps : List Str} {sp : Sp} {ds : List Value} {dvs : List V} {x : Str} {p pos : Pos} {e : Expr} {es : List Expr} {ta te : TE} {t : TA}
theorem run_oex {pins : List (Addr × Obj)} {σ : L2.St} {H1 : Hp} {s1 : Shared} {Q : VK} {us : List Value} {vs : List V} (T : OexC X.K C) (iC : PySem.W.findIn X.K (.ref C) "__init__" = some (some (.ref fI))) (tI : PySem.W.typeIn X.K (.ref fI) = some (.type "function"))
    (F1 : FnOk X.prog X.w X.K X.mg X.base CX k fI fd ps sp) (hr : Room (k + 1) X.A) (hb : Binds X.K fd ps ds) (hd : Vals dvs ds) (hx : Passes CX X (fun _ _ _ => False)) (I1 : Inv X pins σ H1 s1) (r1 : Vals vs us) (hz : vs.length ≤ 1000)
    (q1 : ∀ a, H1 a = none → sp (.ref a :: (vs ++ dvs)) (upd H1 a (exo a C none)) (fun v H2 => v = .non ∧ Q (.ref a) H2) (fun _ _ _ => False)) :
    wpAny (model X.prog X.w) X.A (call (.ref C) us) (EP X pins σ Q) X.xe s1 := by
  obtain ⟨nm, q, N, bs, bm, sn, sub, ab, col, dd, k0, k1, k2, k3, k5, hC, hbm⟩ := T.cls
  obtain ⟨hp, g, dr, tk, os⟩ := s1
  have hsz : hp.objs.size ≤ hp.objs.size + 1 := Nat.le_succ _
  have hn : H1 (hp.objs.size + 1) = none := I1.hok.fresh hsz
  have hq := q1 (hp.objs.size + 1) hn
  have kk : ∀ b o, hp.get? b = some o → ((hp.push (PySem.W.kdv_tup us)).push (PySem.HandSPX.excO C hp.objs.size)).get? b = some o := fun b o e => Heap.get?_push_of_some _ (Heap.get?_push_of_some _ e)
  have hget : ((hp.push (PySem.W.kdv_tup us)).push (PySem.HandSPX.excO C hp.objs.size)).get? (hp.objs.size + 1) = some (PySem.HandSPX.excO C hp.objs.size) := by heap_get
  have I2 : Inv X pins σ (upd H1 (hp.objs.size + 1) (exo (hp.objs.size + 1) C none)) ⟨(hp.push (PySem.W.kdv_tup us)).push (PySem.HandSPX.excO C hp.objs.size), g, dr, tk, os⟩ :=
    I1.laid (t' := tk) (a := hp.objs.size + 1) (o := exo (hp.objs.size + 1) C none) (h' := (hp.push (PySem.W.kdv_tup us)).push (PySem.HandSPX.excO C hp.objs.size)) kk hsz (exo_ok hget)
  have r2 : Vals (V.ref (hp.objs.size + 1) :: (vs ++ dvs)) (Value.ref (hp.objs.size + 1) :: (us ++ ds)) := .cons rfl (r1.append hd)
  have hl : (Value.ref (hp.objs.size + 1) :: us ++ ds).length = ps.length := by
    have e := r2.length
    rw [F1.len _ _ _ _ hq] at e
    exact e.symm
  have hus : us.length ≤ sizeLine := by
    rw [← Paired.length r1, sizeLine_eq]
    omega
  refine wpAny_call (PySem.HandSPX.call_own F.excBase_ValueError (fun Y => PySem.HandSPX.refsVE_contains Y bm hbm) (I1.kIn _ _ hC) (PySem.W.looks_findIn I1.kIn iC) (fun self => PySem.W.bind_fn I1.kIn self tI) hus
    (codeAny_mono (F1.run _ X.stack _ _ ⟨Value.ref (hp.objs.size + 1) :: us, []⟩ (Value.ref (hp.objs.size + 1) :: (us ++ ds)) _ _ (fun _ _ _ => False) (hr.make C us []) (I2.env0.make C us []) (hb _ (Value.ref (hp.objs.size + 1) :: us) I2.kIn hl) r2 hq) fun r s' hq' => ?_))
  cases r with
  | error er => exact hx pins σ _ _ er s' I2 hq'
  | ok fl =>
    cases fl with
    | ret u =>
      obtain ⟨v, H', I3, rv, ev, q3⟩ := I2.after hq'
      subst ev
      exact ⟨rv, ⟨V.ref (hp.objs.size + 1), H', I3, rfl, q3⟩⟩
    | next => exact False.elim hq'
    | brk => exact False.elim hq'
    | cont => exact False.elim hq'
/-- C(e, ..) as a value -/
def tMkV (C : Addr) (sp : Sp) (dvs : List V) (ta : TA) : TE := fun σ H Q => ta σ H fun vs H1 => vs.length ≤ 1000 ∧ ∀ a, H1 a = none → sp (.ref a :: (vs ++ dvs)) (upd H1 a (exo a C none)) (fun v H2 => v = .non ∧ Q (.ref a) H2) (fun _ _ _ => False)
theorem pe_oex (T : OexC X.K C) (iC : PySem.W.findIn X.K (.ref C) "__init__" = some (some (.ref fI))) (tI : PySem.W.typeIn X.K (.ref fI) = some (.type "function")) (F1 : FnOk X.prog X.w X.K X.mg X.base CX k fI fd ps sp) (hr : Room (k + 1) X.A) (hb : Binds X.K fd ps ds) (hd : Vals dvs ds)
    (hx : Passes CX X (fun _ _ _ => False)) (hg : Gl X x) (hm : X.mg x = some (.ref C)) (ha : PA X (e :: es) t)
    (hdb : (x == ("__debug__" : Str)) = false := by decide) (he : starEach (e :: es) X.env = (false, eval e X.env) :: starEach es X.env := by rfl) (hpl : (backTo pos (starEach es X.env)).any (·.1) = false := by rfl) :
    PE X (.Call (.Name x p) (e :: es) [] pos) (tMkV C sp dvs t) := by
  refine ⟨fun pins s σ H Q I h => ?_⟩
  refine wpAny_Call_Name_kw (ld_glob I hg hm ?_ hdb)
  exact PySem.W.callWith_K (h₀ := X.base) I.ok.mod.kin T.kC (thn (ha.run pos pins s σ H _ I h) fun us s1 ⟨vs, H1, I1, r1, hz, q1⟩ => ⟨I1.kIn, run_oex T iC tI F1 hr hb hd hx I1 r1 hz q1⟩) he hpl
theorem pe_oex0 (T : OexC X.K C) (iC : PySem.W.findIn X.K (.ref C) "__init__" = some (some (.ref fI))) (tI : PySem.W.typeIn X.K (.ref fI) = some (.type "function")) (F1 : FnOk X.prog X.w X.K X.mg X.base CX k fI fd ps sp) (hr : Room (k + 1) X.A) (hb : Binds X.K fd ps ds) (hd : Vals dvs ds)
    (hx : Passes CX X (fun _ _ _ => False)) (hg : Gl X x) (hm : X.mg x = some (.ref C)) (hdb : (x == ("__debug__" : Str)) = false := by decide) :
    PE X (.Call (.Name x p) [] [] pos) (tMkV C sp dvs tNil) := by
  refine ⟨fun pins s σ H Q I h => ?_⟩
  refine wpAny_Call_Name_kw (ld_glob I hg hm ?_ hdb)
  exact PySem.W.callWith_K0 I.kIn T.kC (run_oex (us := []) T iC tI F1 hr hb hd hx I .nil (Nat.zero_le _) h.2)
/-! ### asked -/
/-- the error at a is of the class at C; d: its dict -/
def ExAt (H : Hp) (a C : Addr) (d : Option (Addr × List (Str × V))) : Prop := H a = some (exo a C (d.map (·.1))) ∧ ∀ y, d = some y → H y.1 = some (exd y.1 y.2)
theorem inst_of {pins : List (Addr × Obj)} {σ : L2.St} {H : Hp} {s : Shared} {a C : Addr} {d : Option (Addr × List (Str × V))} (I : Inv X pins σ H s) (h : ExAt H a C d) :
    ∃ (ox : Obj) (od : Option Obj), PySem.W.InstAt s.heap a ox C od ∧ ∀ y, d = some y → ∃ (mA : Str → Option Value) (o : Obj), od = some o ∧ (∀ name, PySem.W.lookIn name o = some (mA name)) ∧ ∀ f, RelO (y.2.lookup f) (mA f) := by
  obtain ⟨t1, ho⟩ := exo_at I.hok h.1
  cases d with
  | none => exact ⟨_, none, ⟨ho, rfl, rfl, trivial⟩, fun y e => nomatch e⟩
  | some y =>
    obtain ⟨mA, hns, rel⟩ := exd_at I.hok (h.2 y rfl)
    obtain ⟨od, h1, h2⟩ := lookIn_ns hns
    exact ⟨_, some od, ⟨ho, rfl, rfl, h1⟩, fun z e => ⟨mA, od, rfl, h2, by cases e; exact rel⟩⟩
/-- isinstance(e, c) -/
def rIsX (K : PySem.W.Frag) : List V → Hp → VK → Prop := fun xs H Q => ∃ (a C : Addr) (d : Option (Addr × List (Str × V))) (c : V) (u : Value) (b : Bool), xs = [.ref a, c] ∧ ExAt H a C d ∧ ExcC K C ∧ ClsV c u ∧ PySem.W.kitOne K (.ref C) u = some b ∧ Q (.bl b) H
def rIsXT (K : PySem.W.Frag) : List V → Hp → VK → Prop := fun xs H Q => ∃ (a C tp : Addr) (d : Option (Addr × List (Str × V))) (cs : List V) (us : List Value) (b : Bool), xs = [.ref a, .ref tp] ∧ ExAt H a C d ∧ ExcC K C ∧ H tp = some (.tup cs) ∧ Paired ClsV cs us ∧ PySem.W.kitAny K (.ref C) us = some b ∧ Q (.bl b) H
theorem ExcC.kit {K : PySem.W.Frag} {D a : Addr} {ox : Obj} {od : Option Obj} (T : ExcC K D) : PySem.W.KitX K (.ref a) (.ref D) (fun h => PySem.W.InstAt h a ox D od) :=
  PySem.W.kitx_exc (by obtain ⟨cd, hc, _⟩ := PySem.W.any_some T.hd; rw [hc]; rfl) T.hg T.hk T.hs T.ha T.hn T.ht T.hm
theorem call_isX : CallR X (.builtin "isinstance") (rIsX X.K) := by
  intro pins s σ H xs us Q I r h
  obtain ⟨a, D, d, c, u, b, rfl, ha, T, k, e, q⟩ := h
  obtain ⟨u1, u2, rfl, ra, r2⟩ := vals2 r
  obtain rfl : u1 = Value.ref a := ra
  have e2 := k.eq r2
  subst e2
  obtain ⟨ox, od, J, _⟩ := inst_of I ha
  exact PySem.W.kia_one T.kit I.kIn J e (fun z => nomatch z) fun tk => ⟨.bl b, H, I.tok tk, rfl, q⟩
theorem call_isXT : CallR X (.builtin "isinstance") (rIsXT X.K) := by
  intro pins s σ H xs us Q I r h
  obtain ⟨a, D, tp, d, cs, ws, b, rfl, ha, T, hT, k, e, q⟩ := h
  obtain ⟨u1, u2, rfl, ra, r2⟩ := vals2 r
  obtain rfl : u1 = Value.ref a := ra
  cases (show u2 = Value.ref tp from r2)
  obtain ⟨ox, od, J, _⟩ := inst_of I ha
  obtain ⟨_, its, rv, o, h1, h2, n, h3⟩ := (show ObjOk X.prog X.w H s.heap tp (.tup cs) from I.hok tp _ hT)
  have e3 := ClsV.all k rv
  subst e3
  obtain ⟨oc, oddd, dt, sl⟩ := o
  simp only at h2 h3
  subst h2 h3
  exact PySem.W.kia_tup T.kit I.kIn J h1 e (fun z => nomatch z) fun tk => ⟨.bl b, H, I.tok tk, rfl, q⟩
/-- e.f -/
def tXfV (K : PySem.W.Frag) (f : Str) (te : TE) : TE := fun σ H Q => te σ H fun x H1 => ∃ (a C dx : Addr) (fs : List (Str × V)) (v : V), x = .ref a ∧ ExAt H1 a C (some (dx, fs)) ∧ XfC K C ∧ PySem.W.findIn K (.ref C) f = some none ∧ fs.lookup f = some v ∧ Q v H1
theorem pe_xfv {f : Str} (he : PE X e te) (hb : attributeBase e f X.env (eval e X.env) = eval e X.env := by rfl) : PE X (.Attribute e f pos) (tXfV X.K f te) := by
  refine ⟨fun pins s σ H Q I h => ?_⟩
  refine attr_of hb (thn (he.run pins s σ H _ I h) fun u s1 hh => ?_)
  obtain ⟨x, H1, I1, rx, a, D, dx, fs, v, ex, ha, T, hno, l, q⟩ := hh
  subst ex
  obtain rfl : u = Value.ref a := rx
  obtain ⟨ox, od, J, hd⟩ := inst_of I1 ha
  obtain ⟨mA, o, rfl, hl, hr⟩ := hd _ rfl
  obtain ⟨u, hu, ru⟩ := RelO.some_of (v := v) (o := mA f) (by rw [← l]; exact hr f)
  exact HandSPX.exc_get I1.kIn J T.ga T.gg T.exC (PySem.W.findObj_own T.hdC hno rfl (by rw [hl, hu])) (handed_of ru) ⟨v, H1, I1.tok _, ru, q⟩
end
end L2

/-! Facts of error classes by one look at the written part. -/
namespace L2
open PySem PySem.Spec PyProof.Rows
def oexB (K : PySem.W.Frag) (C : Addr) : Bool := (match K.lookup C with
  | some ⟨.type "type", _, .cls cd, sl⟩ => (match cd.mro, sl.toList with
    | .ref C' :: bm, [_, _, _, _, some (.builtin n), _] => C' == C && n == "ValueError.__new__" && cd.hasDict && !cd.hasDel && PySem.HandSPX.refsVE bm
    | _, _ => false)
  | _ => false)
theorem oexB_ok {K : PySem.W.Frag} {C : Addr} (q : oexB K C = true) : ∃ nm q N bs bm sn sub ab col dd k0 k1 k2 k3 k5, K.lookup C = some (excClassObj nm q C N bs bm true sn sub ab col dd k0 k1 k2 k3 k5 "ValueError.__new__") ∧ PySem.HandSPX.refsVE bm = true := by
  unfold oexB at q
  split at q
  · rename_i dd cd sl ho
    split at q
    · rename_i C' bm k0 k1 k2 k3 n k5 hm hs
      simp only [Bool.and_eq_true, beq_iff_eq, Bool.not_eq_true'] at q
      obtain ⟨⟨⟨⟨rfl, rfl⟩, hdct⟩, hdel⟩, ht⟩ := q
      obtain ⟨nm, bs, mro, ns, qn, hd, sn, sub, ab, col, del⟩ := cd
      dsimp only at hm hdel hdct
      subst hm hdel hdct
      have hsl : sl = #[k0, k1, k2, k3, some (.builtin "ValueError.__new__"), k5] := by
        obtain ⟨l⟩ := sl
        simp only at hs
        rw [hs]
      subst hsl
      exact ⟨nm, qn, ns, bs, bm, sn, sub, ab, col, dd, k0, k1, k2, k3, k5, ho, ht⟩
    · cases q
  · cases q
/-- all that is asked of a class of errors -/
structure ErrC (K : PySem.W.Frag) (C : Addr) : Prop where
  o : OexC K C
  e : ExcC K C
  x : XfC K C
def errB (K : PySem.W.Frag) (C : Addr) : Bool := oexB K C && decide (PySem.W.findIn K (.ref C) "__setattr__" = some (some (.builtin "object.__setattr__"))) && decide (PySem.W.subIn K (.ref C) (.type "BaseException") = some true) &&
  decide (PySem.W.typeIn K (.ref C) = some (.type "type")) && PySem.W.keepIn K (.ref C) && decide (PySem.W.findIn K (.ref C) "__getattribute__" = some (some (.builtin "BaseException.__getattribute__"))) && decide (PySem.W.findIn K (.ref C) "__getattr__" = some none) &&
  PySem.W.hasDictIn K C && decide (PySem.W.findIn K (.ref C) "__class__" = some (some (.builtin "object.__class__"))) && decide (PySem.W.specialIn K (.builtin "object.__class__") "__get__" = some (some (.builtin "getset_descriptor.__get__"))) &&
  decide (PySem.W.takesIn K (.builtin "object.__class__") = some true) && decide (PySem.W.mroIn K C (.type "object") = some true)
theorem errB_ok {K : PySem.W.Frag} {C : Addr} (h : errB K C = true) : ErrC K C := by
  unfold errB at h
  simp only [Bool.and_eq_true, decide_eq_true_eq] at h
  obtain ⟨⟨⟨⟨⟨⟨⟨⟨⟨⟨⟨h1, h2⟩, h3⟩, h4⟩, h5⟩, h6⟩, h7⟩, h8⟩, h9⟩, h10⟩, h11⟩, h12⟩ := h
  exact ⟨⟨oexB_ok h1, h2, h3, h4, h5⟩, ⟨h6, h7, h3, h8, h9, h10, h11, h12⟩, ⟨h6, h7, h3, h8⟩⟩
theorem Fun.ofD {K : PySem.W.Frag} {x q : Str} {st : Stmt} {f : Addr} {fd : FuncData} (F : FunD K x q (defArgs st) (defBody st) (defScope st) [] [] f fd) : Fun K x q st f fd := by
  obtain ⟨oc, od, dV, kV, doc, pm, an, cdv, ct, osl, rfl, lk, hcd, hD, hK⟩ := F.ex
  rcases hD with ⟨_, rfl⟩ | ⟨e, _⟩
  · exact ⟨⟨oc, od, kV, doc, pm, an, cdv, ct, osl, rfl, lk, hcd⟩, F.kp⟩
  · exact absurd rfl e
/-! ### the Hook, over any look of one's own -/
end L2
namespace He
open PySem PySem.Spec PyProof.Rows L2
def obsQ (ck : PySem.W.Frag → Bool) (fn : List DefD) (K : PySem.W.Frag) : AlD := (ck K && fn.all fun d => d.ok K, fn.map fun d => fnW K d.at_)
def SaysQ (ck : PySem.W.Frag → Bool) (fn : List DefD) (K : PySem.W.Frag) : Prop := obsQ ck fn K = valD fn
def obsQG (n : Nat) (ck : PySem.W.Frag → Bool) (fn : List DefD) (g : Addr → Option Obj) : AlD := obsQ ck fn (frG g (asD g n))
def hookQ (n : Nat) (ck : PySem.W.Frag → Bool) (fn : List DefD) : PySem.W.Hook where
  α := AlD
  obs := fun s => obsQG n ck fn s.heap.get?
  val := fun _ => valD fn
  says := fun _ h => ∃ K : PySem.W.Frag, K.In h ∧ SaysQ ck fn K
  of := fun _ _ e => ⟨_, frG_in, e⟩
  keeps := fun _ _ _ ⟨K, hK, c⟩ k => ⟨K, PySem.W.Frag.In.keeps hK k, c⟩
theorem obsQG_eq {n : Nat} {ck : PySem.W.Frag → Bool} {fn : List DefD} {g : Addr → Option Obj} {s : Shared} (h : ∀ a, g a = s.heap.get? a) : obsQG n ck fn g = (hookQ n ck fn).obs s := by
  have e : g = s.heap.get? := funext h
  rw [e] <;> rfl
section
variable {ck : PySem.W.Frag → Bool} {fn : List DefD} {K : PySem.W.Frag}
theorem SaysQ.look (c : SaysQ ck fn K) : ck K = true := (ba (show (ck K && fn.all fun d => d.ok K) = true from congrArg (fun z : AlD => z.1) c)).1
theorem SaysQ.def_ (c : SaysQ ck fn K) (i : Nat) {d : DefD} (h : fn[i]? = some d := by rfl) : ∃ fd, FunD K d.name d.qual d.params d.body d.scope (d.dvs K) (d.kws K) (fAd K d.at_) fd := by
  have c2 := (ba (show (ck K && fn.all fun d => d.ok K) = true from congrArg (fun z : AlD => z.1) c)).2
  have e : fn.map (fun d => fnW K d.at_) = fn.map DefD.val := congrArg (fun z : AlD => z.2) c
  have e2 : (fn.map fun d => fnW K d.at_)[i]? = (fn.map DefD.val)[i]? := by rw [e]
  rw [List.getElem?_map, List.getElem?_map, h] at e2
  exact DefD.funD (Option.some.inj e2) (List.all_eq_true.mp c2 d (List.mem_of_getElem? h))
end
end He

/-! The rows of writes that are done at once, told without the program: what holds at each turn, and how many they are. -/
namespace LmS
/-- what a mark gets: a constant, or what another one has -/
inductive Src (γ : Type) where
  | con (x : γ) : Src γ
  | mk (j : Int) : Src γ
section
variable {γ α : Type}
/-- what stands in the dict for a mark -/
def lk {β : Type} (S : List (Int × β)) (m : Int) : Option β := (S.find? fun p => p.1 == m).map (·.2)
def del {β : Type} (S : List (Int × β)) (m : Int) : List (Int × β) := S.filter fun p => !(p.1 == m)
theorem lk_nil {β : Type} (m : Int) : lk ([] : List (Int × β)) m = none := rfl
theorem lk_cons {β : Type} (k : Int) (v : β) (S : List (Int × β)) (m : Int) : lk ((k, v) :: S) m = if k = m then some v else lk S m := by
  unfold lk
  by_cases h : k = m
  · subst h; simp
  · have : (k == m) = false := by simpa using h
    simp [List.find?, this, h]
theorem lk_del {β : Type} (m x : Int) : ∀ S : List (Int × β), lk (del S m) x = if x = m then none else lk S x
  | [] => by simp [del, lk]
  | (k, v) :: S => by
    have ih := lk_del m x S
    by_cases h : k = m
    · have e : del ((k, v) :: S) m = del S m := by simp [del, h]
      rw [e, ih, lk_cons]
      by_cases hx : x = m
      · simp [hx]
      · simp [hx, show ¬ k = x from fun z => hx (by omega)]
    · have e : del ((k, v) :: S) m = (k, v) :: del S m := by simp [del, h]
      rw [e, lk_cons, lk_cons, ih]
      by_cases hx : x = m
      · simp [hx, show ¬ k = m from h]
      · simp [hx]
theorem lk_mem {β : Type} {m : Int} {v : β} : ∀ {S : List (Int × β)}, lk S m = some v → (m, v) ∈ S
  | [], h => by simp [lk] at h
  | (k, u) :: S, h => by
    rw [lk_cons] at h
    by_cases e : k = m
    · rw [if_pos e] at h
      cases h
      subst e
      exact List.mem_cons_self ..
    · rw [if_neg e] at h
      exact List.mem_cons_of_mem _ (lk_mem h)
theorem del_len {β : Type} {m : Int} {v : β} : ∀ {S : List (Int × β)}, (S.map (·.1)).Nodup → lk S m = some v → (del S m).length + 1 = S.length
  | [], _, h => by simp [lk] at h
  | (k, u) :: S, nd, h => by
    have nd' := List.nodup_cons.mp (show (k :: S.map (·.1)).Nodup from nd)
    rw [lk_cons] at h
    by_cases e : k = m
    · subst e
      have e2 : del ((k, u) :: S) k = S := by
        unfold del
        rw [List.filter_cons]
        simp only [BEq.rfl, Bool.not_true]
        refine List.filter_eq_self.mpr fun p hp => ?_
        have : p.1 ≠ k := fun z => nd'.1 (by rw [← z]; exact List.mem_map_of_mem hp)
        simpa using this
      rw [e2]
      rfl
    · rw [if_neg e] at h
      have e2 : del ((k, u) :: S) m = (k, u) :: del S m := by simp [del, e]
      rw [e2, List.length_cons, List.length_cons, del_len nd'.2 h]
theorem del_nodup {β : Type} (S : List (Int × β)) (m : Int) (nd : (S.map (·.1)).Nodup) : ((del S m).map (·.1)).Nodup :=
  (List.Sublist.map _ List.filter_sublist).nodup nd
end
/-! ### one turn -/
section
variable {γ α : Type}
def put (f : Int → α) (m : Int) (v : α) : Int → α := fun x => if x = m then v else f x
theorem put_same (f : Int → α) (m : Int) (v : α) : put f m v m = v := by unfold put; rw [if_pos rfl]
theorem put_ne (f : Int → α) {m x : Int} (v : α) (h : x ≠ m) : put f m v x = f x := by unfold put; rw [if_neg h]
/-- what is due -/
def ev (cst : γ → α) (f0 : Int → α) : Src γ → α
  | .con x => cst x
  | .mk j => f0 j
/-- S0: all writes that change; S: those that are left; C: where else a value stands; f: what the marks have; cur: the mark at hand; hs: the heads so far -/
structure Iv (cst : γ → α) (f0 : Int → α) (sp : Int) (S0 S : List (Int × Src γ)) (C : List (Int × Int)) (f : Int → α) (cur : Option Int) (hs : List Int) : Prop where
  sub : ∀ m s, lk S m = some s → lk S0 m = some s
  nd : (S.map (·.1)).Nodup
  i1 : ∀ m j, lk S0 m = some (.mk j) → lk S m = none → lk C j ≠ none
  i2 : ∀ x, lk C x ≠ none → lk S x = none ∨ cur = some x
  i3a : ∀ m, lk S m ≠ none ∨ lk S0 m = none → m ≠ sp → f m = f0 m
  i3b : ∀ m s, lk S0 m = some s → lk S m = none → f m = ev cst f0 s
  i4 : ∀ x c m, lk C x = some c → lk S m = some (.mk x) → f c = f0 x
  i4b : ∀ x c, lk C x = some c → lk S c = none
  i5 : ∀ m m', lk S0 m ≠ none → lk S m = none → lk S m' = some (.mk m) → lk C m ≠ none
  i7 : ∀ x, lk C x ≠ none → x ∈ hs ∨ ∃ m, lk S0 m = some (.mk x) ∧ lk S m = none
section
variable {cst : γ → α} {f0 : Int → α} {sp : Int} {S0 S : List (Int × Src γ)} {C : List (Int × Int)} {f : Int → α} {hs : List Int} {m j c : Int} {x : γ}
/-- the mark at hand may be written -/
def May (S : List (Int × Src γ)) (C : List (Int × Int)) (m : Int) : Prop := lk C m ≠ none ∨ ∀ m', lk S m' ≠ some (.mk m)
theorem Iv.start (nd : (S0.map (·.1)).Nodup) : Iv cst f0 sp S0 S0 [] f0 none [] :=
  ⟨fun _ _ h => h, nd, fun m j h n => (by rw [h] at n; cases n), fun x h => absurd rfl h, fun _ _ _ => rfl, fun m s h n => (by rw [h] at n; cases n), fun x c m h _ => (by cases h), fun x c h => (by cases h), fun m m' h n => absurd n h, fun x h => absurd rfl h⟩
/-- the loop is left: the mark at hand has been written -/
theorem Iv.leave (I : Iv cst f0 sp S0 S C f (some m) hs) (h : lk S m = none) : Iv cst f0 sp S0 S C f none hs :=
  ⟨I.sub, I.nd, I.i1, fun x hx => .inl ((I.i2 x hx).elim id fun e => by cases e; exact h), I.i3a, I.i3b, I.i4, I.i4b, I.i5, I.i7⟩
theorem Iv.take (I : Iv cst f0 sp S0 S C f none hs) (m : Int) : Iv cst f0 sp S0 S C f (some m) hs :=
  ⟨I.sub, I.nd, I.i1, fun x hx => .inl ((I.i2 x hx).elim id fun e => by cases e), I.i3a, I.i3b, I.i4, I.i4b, I.i5, I.i7⟩
/-- a mark gets what it must have, from a constant or from where that stands -/
theorem Iv.last {s : Src γ} (I : Iv cst f0 sp S0 S C f (some m) hs) (h : lk S m = some s) (ok : May S C m) (ns : m ≠ sp) {v : α} (hv : v = ev cst f0 s) (hj : ∀ j, s = .mk j → lk C j ≠ none) : Iv cst f0 sp S0 (del S m) C (put f m v) (some m) hs := by
  have dn : ∀ {y : Int}, lk (del S m) y = none ↔ y = m ∨ lk S y = none := fun {y} => by
    rw [lk_del]
    by_cases e : y = m <;> simp [e]
  have ds : ∀ {y : Int} {t : Src γ}, lk (del S m) y = some t → y ≠ m ∧ lk S y = some t := fun {y t} e => by
    rw [lk_del] at e
    by_cases g : y = m
    · rw [if_pos g] at e; cases e
    · rw [if_neg g] at e; exact ⟨g, e⟩
  refine ⟨fun y t e => I.sub y t (ds e).2, del_nodup S m I.nd, fun y j e n => ?_, fun y hy => ?_, fun y hy n => ?_, fun y t e n => ?_, fun y d z e1 e2 => ?_, fun y d e => ?_, fun y z e1 e2 e3 => ?_, fun y hy => ?_⟩
  · rcases dn.mp n with rfl | n
    · have e2 := I.sub _ _ h
      rw [e] at e2
      cases e2
      exact hj j rfl
    · exact I.i1 y j e n
  · exact (I.i2 y hy).imp (fun z => dn.mpr (.inr z)) id
  · have ny : y ≠ m := fun z => by
      subst z
      rcases hy with hy | hy
      · exact hy (dn.mpr (.inl rfl))
      · rw [I.sub _ _ h] at hy; cases hy
    rw [put_ne f v ny]
    exact I.i3a y (hy.imp (fun z w => z (dn.mpr (.inr w))) id) n
  · by_cases g : y = m
    · subst g
      rw [put_same, hv]
      have e2 := I.sub _ _ h
      rw [e] at e2
      cases e2
      rfl
    · rw [put_ne f v g]
      exact I.i3b y t e ((dn.mp n).resolve_left g)
  · have nd : d ≠ m := fun z => by
      subst z
      have := I.i4b y d e1
      rw [h] at this
      cases this
    rw [put_ne f v nd]
    exact I.i4 y d z e1 (ds e2).2
  · exact dn.mpr (.inr (I.i4b y d e))
  · rcases dn.mp e2 with rfl | n
    · rcases ok with o | o
      · exact o
      · exact absurd (ds e3).2 (o z)
    · exact I.i5 y z e1 n (ds e3).2
  · exact (I.i7 y hy).imp id fun ⟨z, h1, h2⟩ => ⟨z, h1, dn.mpr (.inr h2)⟩
/-- a mark gets what another one has, which may be written then -/
theorem Iv.copy (I : Iv cst f0 sp S0 S C f (some m) hs) (h : lk S m = some (.mk j)) (ok : May S C m) (ns : m ≠ sp) (nj : j ≠ sp) (hC : lk C j = none) :
    f j = f0 j ∧ Iv cst f0 sp S0 (del S m) ((j, m) :: C) (put f m (f j)) (some j) hs := by
  have hf : f j = f0 j := by
    by_cases w : lk S j = none
    · by_cases w0 : lk S0 j = none
      · exact I.i3a j (.inr w0) nj
      · exact absurd hC (I.i5 j m w0 w h)
    · exact I.i3a j (.inl w) nj
  refine ⟨hf, ?_⟩
  have dn : ∀ {y : Int}, lk (del S m) y = none ↔ y = m ∨ lk S y = none := fun {y} => by
    rw [lk_del]
    by_cases e : y = m <;> simp [e]
  have ds : ∀ {y : Int} {t : Src γ}, lk (del S m) y = some t → y ≠ m ∧ lk S y = some t := fun {y t} e => by
    rw [lk_del] at e
    by_cases g : y = m
    · rw [if_pos g] at e; cases e
    · rw [if_neg g] at e; exact ⟨g, e⟩
  have cn : ∀ {y : Int}, lk C y ≠ none → lk ((j, m) :: C) y ≠ none := fun {y} hy => by
    rw [lk_cons]
    by_cases e : j = y
    · rw [if_pos e]; exact fun z => nomatch z
    · rw [if_neg e]; exact hy
  have cj : lk ((j, m) :: C) j ≠ none := by rw [lk_cons, if_pos rfl]; exact fun z => nomatch z
  refine ⟨fun y t e => I.sub y t (ds e).2, del_nodup S m I.nd, fun y k e n => ?_, fun y hy => ?_, fun y hy n => ?_, fun y t e n => ?_, fun y d z e1 e2 => ?_, fun y d e => ?_, fun y z e1 e2 e3 => ?_, fun y hy => ?_⟩
  · rcases dn.mp n with rfl | n
    · have e2 := I.sub _ _ h
      rw [e] at e2
      cases e2
      exact cj
    · exact cn (I.i1 y k e n)
  · by_cases e : j = y
    · exact .inr (by rw [e])
    · rw [lk_cons, if_neg e] at hy
      rcases I.i2 y hy with z | z
      · exact .inl (dn.mpr (.inr z))
      · cases z
        exact .inl (dn.mpr (.inl rfl))
  · have ny : y ≠ m := fun z => by
      subst z
      rcases hy with hy | hy
      · exact hy (dn.mpr (.inl rfl))
      · rw [I.sub _ _ h] at hy; cases hy
    rw [put_ne f _ ny]
    exact I.i3a y (hy.imp (fun z w => z (dn.mpr (.inr w))) id) n
  · by_cases g : y = m
    · subst g
      rw [put_same, hf]
      have e2 := I.sub _ _ h
      rw [e] at e2
      cases e2
      rfl
    · rw [put_ne f _ g]
      exact I.i3b y t e ((dn.mp n).resolve_left g)
  · rw [lk_cons] at e1
    by_cases e : j = y
    · rw [if_pos e] at e1
      cases e1
      rw [put_same, hf, e]
    · rw [if_neg e] at e1
      have nd : d ≠ m := fun z => by
        subst z
        have := I.i4b y d e1
        rw [h] at this
        cases this
      rw [put_ne f _ nd]
      exact I.i4 y d z e1 (ds e2).2
  · rw [lk_cons] at e
    by_cases g : j = y
    · rw [if_pos g] at e
      cases e
      exact dn.mpr (.inl rfl)
    · rw [if_neg g] at e
      exact dn.mpr (.inr (I.i4b y d e))
  · rcases dn.mp e2 with rfl | n
    · rcases ok with o | o
      · exact cn o
      · exact absurd (ds e3).2 (o z)
    · exact cn (I.i5 y z e1 n (ds e3).2)
  · by_cases e : j = y
    · subst e
      exact .inr ⟨m, I.sub _ _ h, dn.mpr (.inl rfl)⟩
    · rw [lk_cons, if_neg e] at hy
      exact (I.i7 y hy).imp id fun ⟨z, h1, h2⟩ => ⟨z, h1, dn.mpr (.inr h2)⟩
/-- what is left is wanted by what is left: cycles -/
def Closed (S : List (Int × Src γ)) : Prop := ∀ m s, lk S m = some s → ∃ j, s = .mk j ∧ lk S j ≠ none
/-- a cycle is cut: its mark's value goes to the spare one -/
theorem Iv.head (I : Iv cst f0 sp S0 S C f none hs) (cl : Closed S) (n0 : lk S0 sp = none) (h : lk S m ≠ none) : Iv cst f0 sp S0 S ((m, sp) :: C) (put f sp (f m)) (some m) (m :: hs) := by
  have nS : lk S sp = none := by
    cases e : lk S sp with
    | none => rfl
    | some s => rw [I.sub _ _ e] at n0; cases n0
  have nm : m ≠ sp := fun z => h (by rw [z]; exact nS)
  have hf : f m = f0 m := I.i3a m (.inl h) nm
  have cn : ∀ {y : Int}, lk C y ≠ none → lk ((m, sp) :: C) y ≠ none := fun {y} hy => by
    rw [lk_cons]
    by_cases e : m = y
    · rw [if_pos e]; exact fun z => nomatch z
    · rw [if_neg e]; exact hy
  refine ⟨I.sub, I.nd, fun y j e n => cn (I.i1 y j e n), fun y hy => ?_, fun y hy n => ?_, fun y t e n => ?_, fun y d z e1 e2 => ?_, fun y d e => ?_, fun y z e1 e2 e3 => cn (I.i5 y z e1 e2 e3), fun y hy => ?_⟩
  · by_cases e : m = y
    · exact .inr (by rw [e])
    · rw [lk_cons, if_neg e] at hy
      exact .inl ((I.i2 y hy).elim id fun z => by cases z)
  · rw [put_ne f _ n]
    exact I.i3a y hy n
  · rw [put_ne f _ (fun z => by rw [z, n0] at e; cases e)]
    exact I.i3b y t e n
  · rw [lk_cons] at e1
    by_cases e : m = y
    · rw [if_pos e] at e1
      cases e1
      rw [put_same, hf, e]
    · rw [if_neg e] at e1
      obtain ⟨k, g1, g2⟩ := cl z _ e2
      cases g1
      exact absurd ((I.i2 y (by rw [e1]; exact fun z => nomatch z)).elim id fun z => by cases z) g2
  · rw [lk_cons] at e
    by_cases g : m = y
    · rw [if_pos g] at e
      cases e
      exact nS
    · rw [if_neg g] at e
      exact I.i4b y d e
  · by_cases e : m = y
    · exact .inl (by rw [e]; exact List.mem_cons_self ..)
    · rw [lk_cons, if_neg e] at hy
      exact (I.i7 y hy).imp (List.mem_cons_of_mem _) id
end
end
/-! ### what is left behind the first walk is cycles -/
section
variable {γ α : Type} {S S0 : List (Int × Src γ)}
theorem lk_key {β : Type} {m : Int} : ∀ {S : List (Int × β)}, m ∈ S.map (·.1) ↔ lk S m ≠ none
  | [] => by simp [lk]
  | (k, v) :: S => by
    rw [List.map_cons, List.mem_cons, lk_cons, lk_key (S := S)]
    by_cases e : k = m
    · simp [e]
    · simp [e, show ¬ m = k from fun z => e z.symm]
theorem perm_of_all : ∀ {ks : List Int} {L : List (Src γ)}, ks.Nodup → L.length = ks.length → (∀ k ∈ ks, Src.mk k ∈ L) → L.Perm (ks.map Src.mk)
  | [], L, _, hl, _ => by
    rw [List.eq_nil_of_length_eq_zero hl]
    exact List.Perm.refl _
  | k :: r, L, nd, hl, h => by
    obtain ⟨a, b, rfl⟩ := List.append_of_mem (h k (List.mem_cons_self ..))
    have nd' := List.nodup_cons.mp nd
    have e : (a ++ Src.mk k :: b).Perm (Src.mk k :: (a ++ b)) := List.perm_middle
    refine e.trans (List.Perm.cons _ (perm_of_all nd'.2 (by simp at hl ⊢; omega) fun x hx => ?_))
    have := h x (List.mem_cons_of_mem _ hx)
    rcases List.mem_append.mp this with z | z
    · exact List.mem_append_left _ z
    · rcases List.mem_cons.mp z with z | z
      · cases z
        exact absurd hx nd'.1
      · exact List.mem_append_right _ z
theorem snd_inj {β : Type} {a b : Int} {s : β} : ∀ {S : List (Int × β)}, (S.map (·.2)).Nodup → (a, s) ∈ S → (b, s) ∈ S → a = b
  | (k, v) :: S, nd, h1, h2 => by
    have nd' := List.nodup_cons.mp (show (v :: S.map (·.2)).Nodup from nd)
    rcases List.mem_cons.mp h1 with e1 | g1 <;> rcases List.mem_cons.mp h2 with e2 | g2
    · cases e1; cases e2; rfl
    · cases e1
      exact absurd (List.mem_map_of_mem (f := (·.2)) g2) nd'.1
    · cases e2
      exact absurd (List.mem_map_of_mem (f := (·.2)) g1) nd'.1
    · exact snd_inj nd'.2 g1 g2
theorem nodup_map_mk : ∀ {ks : List Int}, ks.Nodup → (ks.map (Src.mk (γ := γ))).Nodup
  | [], _ => List.nodup_nil
  | k :: r, nd => by
    have nd' := List.nodup_cons.mp nd
    rw [List.map_cons]
    refine List.nodup_cons.mpr ⟨fun h => ?_, nodup_map_mk nd'.2⟩
    obtain ⟨x, hx, e⟩ := List.mem_map.mp h
    cases e
    exact nd'.1 hx
/-- each mark that is left is wanted by one that is left -/
def Sur (S : List (Int × Src γ)) : Prop := ∀ m, lk S m ≠ none → ∃ m', lk S m' = some (.mk m)
theorem Sur.perm (nd : (S.map (·.1)).Nodup) (h : Sur S) : (S.map (·.2)).Perm ((S.map (·.1)).map Src.mk) :=
  perm_of_all nd (by simp) fun k hk => by
    obtain ⟨m', e⟩ := h k (lk_key.mp hk)
    exact List.mem_map_of_mem (f := (·.2)) (lk_mem e)
theorem Sur.closed (nd : (S.map (·.1)).Nodup) (h : Sur S) : Closed S := fun m s e => by
  have := (h.perm nd).mem_iff.mp (List.mem_map_of_mem (f := (·.2)) (lk_mem e))
  obtain ⟨j, hj, ej⟩ := List.mem_map.mp this
  exact ⟨j, ej.symm, lk_key.mp hj⟩
theorem Sur.inj (nd : (S.map (·.1)).Nodup) (h : Sur S) {a b x : Int} (h1 : lk S a = some (.mk x)) (h2 : lk S b = some (.mk x)) : a = b :=
  snd_inj ((h.perm nd).nodup_iff.mpr (nodup_map_mk nd)) (lk_mem h1) (lk_mem h2)
/-- at a boundary whoever wants what is left is left -/
theorem Iv.want {cst : γ → α} {f0 : Int → α} {sp : Int} {C : List (Int × Int)} {f : Int → α} {hs : List Int} (I : Iv cst f0 sp S0 S C f none hs) {m m' : Int} (h : lk S m ≠ none) (e : lk S0 m' = some (.mk m)) : lk S m' = some (.mk m) := by
  cases w : lk S m' with
  | none => exact absurd ((I.i2 m (I.i1 m' m e w)).elim id fun z => by cases z) h
  | some s =>
    have := I.sub _ _ w
    rw [e] at this
    rw [this]
theorem Iv.sur {cst : γ → α} {f0 : Int → α} {sp : Int} {C : List (Int × Int)} {f : Int → α} {hs : List Int} (I : Iv cst f0 sp S0 S C f none hs) (free : ∀ m, lk S m ≠ none → ∃ m', lk S0 m' = some (.mk m)) : Sur S := fun m h => by
  obtain ⟨m', e⟩ := free m h
  exact ⟨m', I.want h e⟩
/-! ### cycles -/
/-- n steps to what a mark gets -/
def go (S : List (Int × Src γ)) : Nat → Int → Option Int
  | 0, m => some m
  | n + 1, m => match lk S m with
    | some (.mk j) => go S n j
    | _ => none
theorem go_add (S : List (Int × Src γ)) : ∀ (a b : Nat) (m : Int), go S (a + b) m = (go S a m).bind (go S b)
  | 0, b, m => by rw [Nat.zero_add]; rfl
  | a + 1, b, m => by
    rw [show a + 1 + b = (a + b) + 1 by omega]
    simp only [go]
    cases lk S m with
    | none => rfl
    | some s =>
      cases s with
      | con x => rfl
      | mk j => exact go_add S a b j
theorem go_succ (S : List (Int × Src γ)) {n : Nat} {m x y : Int} (h : go S n m = some x) (e : lk S x = some (.mk y)) : go S (n + 1) m = some y := by
  rw [go_add S n 1, h]
  show (match lk S x with | some (.mk j) => go S 0 j | _ => none) = _
  rw [e]
  rfl
/-- m is on a cycle of copies from which no mark outside copies -/
def Iso (S : List (Int × Src γ)) (m : Int) : Prop := (∃ n, go S (n + 1) m = some m) ∧ ∀ k x y, go S k m = some x → lk S y = some (.mk x) → ∃ k', go S k' m = some y
def Reach (S : List (Int × Src γ)) (m x : Int) : Prop := ∃ k, go S k m = some x
theorem Reach.refl (S : List (Int × Src γ)) (m : Int) : Reach S m m := ⟨0, rfl⟩
theorem Reach.trans {a b c : Int} (h : Reach S a b) (g : Reach S b c) : Reach S a c := by
  obtain ⟨k, h⟩ := h
  obtain ⟨l, g⟩ := g
  exact ⟨k + l, by rw [go_add, h]; exact g⟩
theorem go_turns {m : Int} {n : Nat} (h : go S n m = some m) : ∀ t, go S (n * t) m = some m
  | 0 => rfl
  | t + 1 => by rw [Nat.mul_succ, go_add, go_turns h t]; exact h
/-- on a cycle one comes back -/
theorem Iso.back {m x : Int} (i : Iso S m) (h : Reach S m x) : Reach S x m := by
  obtain ⟨⟨n, e⟩, _⟩ := i
  obtain ⟨k, h⟩ := h
  have t := go_turns e k
  have le : k ≤ (n + 1) * k := by rw [Nat.succ_mul]; omega
  refine ⟨(n + 1) * k - k, ?_⟩
  have := go_add S k ((n + 1) * k - k) m
  rw [show k + ((n + 1) * k - k) = (n + 1) * k by omega, t, h] at this
  exact this.symm
theorem Iso.of_reach {m x : Int} (i : Iso S m) (h : Reach S m x) : Iso S x := by
  have b := i.back h
  obtain ⟨⟨n, e⟩, w⟩ := i
  obtain ⟨k, hk⟩ := h
  obtain ⟨l, hl⟩ := b
  refine ⟨⟨l + n + k, ?_⟩, fun k2 z y h2 e2 => ?_⟩
  · rw [show l + n + k + 1 = l + ((n + 1) + k) by omega, go_add, hl]
    show go S (n + 1 + k) m = some x
    rw [go_add, e]
    exact hk
  · obtain ⟨k3, h3⟩ := w (k + k2) z y (by rw [go_add, hk]; exact h2) e2
    exact ⟨l + k3, by rw [go_add, hl]; exact h3⟩
end
/-! ### the heads -/
section
variable {γ α : Type} {S S0 : List (Int × Src γ)}
theorem go_last (S : List (Int × Src γ)) {n : Nat} {m y : Int} (h : go S (n + 1) m = some y) : ∃ x, go S n m = some x ∧ lk S x = some (.mk y) := by
  rw [go_add S n 1] at h
  cases e : go S n m with
  | none => rw [e] at h; cases h
  | some x =>
    rw [e] at h
    refine ⟨x, rfl, ?_⟩
    have h : (match lk S x with | some (.mk j) => some j | _ => none) = some y := h
    cases w : lk S x with
    | none => rw [w] at h; cases h
    | some s =>
      rw [w] at h
      cases s with
      | con c => cases h
      | mk j => cases h; rfl
theorem sub_len {β : Type} : ∀ {ks ls : List β}, ks.Nodup → (∀ k ∈ ks, k ∈ ls) → ks.length ≤ ls.length
  | [], _, _, _ => Nat.zero_le _
  | k :: r, ls, nd, h => by
    obtain ⟨a, b, rfl⟩ := List.append_of_mem (h k (List.mem_cons_self ..))
    have nd' := List.nodup_cons.mp nd
    have := sub_len (ls := a ++ b) nd'.2 fun x hx => by
      rcases List.mem_append.mp (h x (List.mem_cons_of_mem _ hx)) with z | z
      · exact List.mem_append_left _ z
      · rcases List.mem_cons.mp z with rfl | z
        · exact absurd hx nd'.1
        · exact List.mem_append_right _ z
    simp at this ⊢
    omega
theorem twice (f : Nat → Int) (ks : List Int) (h : ∀ i, f i ∈ ks) : ∃ i j, i < j ∧ f i = f j := by
  refine Classical.byContradiction fun no => ?_
  have inj : ∀ i j, f i = f j → i = j := fun i j e => by
    rcases Nat.lt_trichotomy i j with g | g | g
    · exact absurd ⟨i, j, g, e⟩ no
    · exact g
    · exact absurd ⟨j, i, g, e.symm⟩ no
  have nd : ∀ n, ((List.range n).map f).Nodup := fun n => by
    refine List.Pairwise.map f (R := fun a b => a ≠ b) (fun a b hab e => hab (inj a b e)) ?_
    exact List.nodup_range
  have := sub_len (nd (ks.length + 1)) fun k hk => by
    obtain ⟨i, _, rfl⟩ := List.mem_map.mp hk
    exact h i
  simp at this
  omega
/-- what is left is cycles of their own -/
theorem Iv.iso {cst : γ → α} {f0 : Int → α} {sp : Int} {C : List (Int × Int)} {f : Int → α} {hs : List Int} (I : Iv cst f0 sp S0 S C f none hs) (su : Sur S) {m : Int} (h : lk S m ≠ none) : Iso S0 m ∧ ∀ x, Reach S0 m x → lk S x ≠ none := by
  have cl := su.closed I.nd
  have stay : ∀ k, ∃ x, go S0 k m = some x ∧ lk S x ≠ none := fun k => by
    induction k with
    | zero => exact ⟨m, rfl, h⟩
    | succ k ih =>
      obtain ⟨x, e, w⟩ := ih
      cases z : lk S x with
      | none => exact absurd z w
      | some s =>
        obtain ⟨j, rfl, w2⟩ := cl x s z
        exact ⟨j, go_succ S0 e (I.sub _ _ z), w2⟩
  have step : ∀ k x, go S0 k m = some x → ∃ y, lk S x = some (.mk y) ∧ go S0 (k + 1) m = some y := fun k x e => by
    obtain ⟨x', e', w⟩ := stay k
    rw [e] at e'
    cases e'
    cases z : lk S x with
    | none => exact absurd z w
    | some s =>
      obtain ⟨j, rfl, w2⟩ := cl x s z
      exact ⟨j, rfl, go_succ S0 e (I.sub _ _ z)⟩
  have per : ∃ n, go S0 (n + 1) m = some m := by
    obtain ⟨i, j, lt, e⟩ := twice (fun k => (go S0 k m).getD 0) (S.map (·.1)) fun k => by
      obtain ⟨x, e, w⟩ := stay k
      show (go S0 k m).getD 0 ∈ _
      rw [e]
      exact lk_key.mpr w
    have back : ∀ i d : Nat, (go S0 i m).getD 0 = (go S0 (i + d) m).getD 0 → go S0 d m = some m := by
      intro i
      induction i with
      | zero =>
        intro d e
        obtain ⟨x, ex, _⟩ := stay d
        rw [Nat.zero_add, ex] at e
        have : m = x := e
        rw [ex, this]
      | succ i ih =>
        intro d e
        obtain ⟨x, ex, _⟩ := stay i
        obtain ⟨y, ey, _⟩ := stay (i + d)
        obtain ⟨x1, a1, a2⟩ := step i x ex
        obtain ⟨y1, b1, b2⟩ := step (i + d) y ey
        rw [a2, show i + 1 + d = i + d + 1 by omega, b2] at e
        have e : x1 = y1 := e
        subst e
        have := su.inj I.nd a1 b1
        refine ih d ?_
        rw [ex, ey, this]
    have := back i (j - i) (by rw [show i + (j - i) = j by omega]; exact e)
    exact ⟨j - i - 1, by rw [show j - i - 1 + 1 = j - i by omega]; exact this⟩
  obtain ⟨n, en⟩ := per
  refine ⟨⟨⟨n, en⟩, fun k x y ex ey => ?_⟩, fun x ⟨k, ek⟩ => ?_⟩
  · obtain ⟨x', e', w⟩ := stay k
    rw [ex] at e'
    cases e'
    have e2 : go S0 (n + k + 1) m = some x := by
      rw [show n + k + 1 = (n + 1) + k by omega, go_add, en]
      exact ex
    obtain ⟨z, ez, wz⟩ := go_last S0 e2
    have hz := I.want w wz
    have hy := I.want w ey
    have := su.inj I.nd hy hz
    exact ⟨n + k, by rw [ez, this]⟩
  · obtain ⟨x', e', w⟩ := stay k
    rw [ek] at e'
    cases e'
    exact w
/-- what is known of the heads -/
structure Hd (S0 S : List (Int × Src γ)) (cur : Option Int) (hs : List Int) : Prop where
  h1 : ∀ h ∈ hs, Iso S0 h
  h2 : hs.Pairwise fun a b => ¬ Reach S0 a b
  h3 : ∀ m, Iso S0 m → lk S m = none → ∃ h ∈ hs, Reach S0 h m
  h4 : ∀ h ∈ hs, lk S h = none ∨ cur = some h
theorem Hd.start : Hd S0 S0 none [] := by
  refine ⟨fun _ h => (nomatch h), .nil, fun m i h => ?_, fun _ h => (nomatch h)⟩
  obtain ⟨⟨n, e⟩, _⟩ := i
  exfalso
  simp only [go] at e
  rw [h] at e
  cases e
theorem Hd.leave {m : Int} {hs : List Int} (d : Hd S0 S (some m) hs) (h : lk S m = none) : Hd S0 S none hs :=
  ⟨d.h1, d.h2, d.h3, fun x hx => .inl ((d.h4 x hx).elim id fun e => by cases e; exact h)⟩
theorem Hd.take {hs : List Int} (d : Hd S0 S none hs) (m : Int) : Hd S0 S (some m) hs :=
  ⟨d.h1, d.h2, d.h3, fun x hx => .inl ((d.h4 x hx).elim id fun e => by cases e)⟩
/-- a mark is written -/
theorem Hd.write {cst : γ → α} {f0 : Int → α} {sp : Int} {C : List (Int × Int)} {f : Int → α} {hs : List Int} {m : Int} {cur : Option Int} (I : Iv cst f0 sp S0 S C f (some m) hs) (d : Hd S0 S (some m) hs) (ok : May S C m) : Hd S0 (del S m) cur hs := by
  refine ⟨d.h1, d.h2, fun y iy hy => ?_, fun h hh => .inl ?_⟩
  · by_cases e : y = m
    · subst e
      have key : ∀ p, lk S0 p = some (.mk y) → lk S p = none → ∃ h ∈ hs, Reach S0 h y := fun p e1 e2 => by
        obtain ⟨k, hk⟩ := iy.2 0 y p rfl e1
        obtain ⟨h, hh, hr⟩ := d.h3 p (iy.of_reach ⟨k, hk⟩) e2
        exact ⟨h, hh, hr.trans ⟨1, by simp only [go]; rw [e1]⟩⟩
      rcases ok with o | o
      · rcases I.i7 y o with z | ⟨p, e1, e2⟩
        · exact ⟨y, z, Reach.refl ..⟩
        · exact key p e1 e2
      · obtain ⟨⟨n, en⟩, _⟩ := id iy
        obtain ⟨p, _, ep⟩ := go_last S0 en
        refine key p ep ?_
        cases w : lk S p with
        | none => rfl
        | some s =>
          have := I.sub _ _ w
          rw [ep] at this
          cases this
          exact absurd w (o p)
    · rw [lk_del, if_neg e] at hy
      exact d.h3 y iy hy
  · rw [lk_del]
    by_cases e : h = m
    · rw [if_pos e]
    · rw [if_neg e]
      exact (d.h4 h hh).elim id fun z => by cases z; exact absurd rfl e
/-- a cycle is cut at m -/
theorem Hd.head {cst : γ → α} {f0 : Int → α} {sp : Int} {C : List (Int × Int)} {f : Int → α} {hs : List Int} {m : Int} (I : Iv cst f0 sp S0 S C f none hs) (d : Hd S0 S none hs) (su : Sur S) (h : lk S m ≠ none) : Hd S0 S (some m) (m :: hs) := by
  obtain ⟨iso, st⟩ := I.iso su h
  refine ⟨fun x hx => ?_, .cons (fun x hx r => ?_) d.h2, fun y iy hy => ?_, fun x hx => ?_⟩
  · rcases List.mem_cons.mp hx with rfl | hx
    · exact iso
    · exact d.h1 x hx
  · exact st x r ((d.h4 x hx).elim id fun z => by cases z)
  · obtain ⟨x, hx, r⟩ := d.h3 y iy hy
    exact ⟨x, List.mem_cons_of_mem _ hx, r⟩
  · rcases List.mem_cons.mp hx with rfl | hx
    · exact .inr rfl
    · exact .inl ((d.h4 x hx).elim id fun z => by cases z)
/-- one mark of each such cycle, none twice -/
structure Reps (S0 : List (Int × Src γ)) (hs : List Int) : Prop where
  iso : ∀ h ∈ hs, Iso S0 h
  two : hs.Pairwise fun a b => ¬ Reach S0 a b
  all : ∀ m, Iso S0 m → ∃ h ∈ hs, Reach S0 h m
theorem Hd.done {hs : List Int} (d : Hd S0 [] none hs) : Reps S0 hs := ⟨d.h1, d.h2, fun m i => d.h3 m i rfl⟩
theorem reps_le : ∀ {hs rs : List Int}, (∀ h ∈ hs, Iso S0 h) → (hs.Pairwise fun a b => ¬ Reach S0 a b) → (∀ r ∈ rs, Iso S0 r) → (∀ h ∈ hs, ∃ r ∈ rs, Reach S0 r h) → hs.length ≤ rs.length
  | [], _, _, _, _, _ => Nat.zero_le _
  | h :: t, rs, hi, hp, ri, ha => by
    obtain ⟨r, hr, rr⟩ := ha h (List.mem_cons_self ..)
    have rb := (ri r hr).back rr
    obtain ⟨a, b, rfl⟩ := List.append_of_mem hr
    have hp' := List.pairwise_cons.mp hp
    have := reps_le (hs := t) (rs := a ++ b) (fun x hx => hi x (List.mem_cons_of_mem _ hx)) hp'.2
      (fun x hx => ri x ((List.mem_append.mp hx).elim (List.mem_append_left _) fun z => List.mem_append_right _ (List.mem_cons_of_mem _ z))) fun x hx => by
        obtain ⟨r2, hr2, rr2⟩ := ha x (List.mem_cons_of_mem _ hx)
        rcases List.mem_append.mp hr2 with z | z
        · exact ⟨r2, List.mem_append_left _ z, rr2⟩
        · rcases List.mem_cons.mp z with rfl | z
          · exact absurd (rb.trans rr2) (hp'.1 x hx)
          · exact ⟨r2, List.mem_append_right _ z, rr2⟩
    simp at this ⊢
    omega
/-- however one counts them, they are as many -/
theorem Reps.len {hs rs : List Int} (h : Reps S0 hs) (r : Reps S0 rs) : hs.length = rs.length :=
  Nat.le_antisymm (reps_le h.iso h.two r.iso fun x hx => r.all x (h.iso x hx)) (reps_le r.iso r.two h.iso fun x hx => h.all x (r.iso x hx))
end
end LmS

/-! Rows.write_from -/
namespace Lm
open PySem PySem.Spec PyProof.Rows L2 LmS
open C8 (fnScope_by pe_gc pss_cut tCut Cal pe_c)
def top (i : Nat) : Stmt := PySem.Challenge.pw_leastmarks_k39_writes_done_one_by_one.main.body.getD i (.Pass ⟨0, 0, 0, 0⟩)
def mth (i j : Nat) : Stmt := match top i with
  | .ClassDef (body := b) .. => b.getD j (.Pass ⟨0, 0, 0, 0⟩)
  | _ => .Pass ⟨0, 0, 0, 0⟩
abbrev mRwInit : Stmt := mth 16 0
abbrev mWriteAll : Stmt := mth 16 1
abbrev mWriteFrom : Stmt := mth 16 2
/-! ### what stands in the heap -/
abbrev Sr := Src Str
def vS : Sr → V
  | .con x => .str x
  | .mk j => .int j
/-- a row that is written -/
inductive Rw where
  | con (x : Str) (m : Int)
  | cp (m j : Int)
def rwV : Rw → List V
  | .con x m => [.str x, .int m]
  | .cp m j => [.str "copy", .int m, .int j]
def doRw (f : Int → Sr) : Rw → Int → Sr
  | .con x m => put f m (.con x)
  | .cp m j => put f m (f j)
def runs (W : List Rw) : Int → Sr := W.foldl doRw Src.mk
theorem runs_snoc (W : List Rw) (r : Rw) : runs (W ++ [r]) = doRw (runs W) r := by unfold runs; rw [List.foldl_append]; rfl
def kvS (S : List (Int × Sr)) : List (Key × V) := S.map fun p => (Sum.inl p.1, vS p.2)
theorem kvS_look (m : Int) : ∀ S : List (Int × Sr), valV (kvS S) (Sum.inl m) = (lk S m).map vS
  | [] => rfl
  | (k, s) :: S => by
    rw [LmS.lk_cons]
    show valV ((Sum.inl k, vS s) :: kvS S) (Sum.inl m) = _
    by_cases e : k = m
    · subst e
      rw [valV_pos rfl, if_pos rfl]
      rfl
    · rw [valV_neg (fun h => e (Sum.inl.inj h)), if_neg e]
      exact kvS_look m S
def RwAt (H : Hp) (v : V) (r : Rw) : Prop := ∃ t, v = .ref t ∧ H t = some (.tup (rwV r))
def RowsAt (H : Hp) : List V → List Rw → Prop
  | [], [] => True
  | v :: vs, r :: rs => RwAt H v r ∧ RowsAt H vs rs
  | _, _ => False
theorem RowsAt.mono {H H' : Hp} (k : ∀ t l, H t = some (.tup l) → H' t = some (.tup l)) : ∀ {vs : List V} {rs : List Rw}, RowsAt H vs rs → RowsAt H' vs rs
  | [], [], _ => trivial
  | v :: vs, r :: rs, h => ⟨let ⟨t, e, z⟩ := h.1; ⟨t, e, k _ _ z⟩, RowsAt.mono k h.2⟩
  | [], _ :: _, h => h.elim
  | _ :: _, [], h => h.elim
theorem RowsAt.snoc {H : Hp} {v : V} {r : Rw} (g : RwAt H v r) : ∀ {vs : List V} {rs : List Rw}, RowsAt H vs rs → RowsAt H (vs ++ [v]) (rs ++ [r])
  | [], [], _ => ⟨g, trivial⟩
  | u :: vs, q :: rs, h => ⟨h.1, RowsAt.snoc g h.2⟩
  | [], _ :: _, h => h.elim
  | _ :: _, [], h => h.elim
theorem RowsAt.len {H : Hp} : ∀ {vs : List V} {rs : List Rw}, RowsAt H vs rs → vs.length = rs.length
  | [], [], _ => rfl
  | v :: vs, r :: rs, h => by rw [List.length_cons, List.length_cons, RowsAt.len h.2]
  | [], _ :: _, h => h.elim
  | _ :: _, [], h => h.elim
theorem kvS_del (S : List (Int × Sr)) (m : Int) : dropK (kvS S) (Sum.inl m) = kvS (del S m) := by
  unfold dropK kvS LmS.del
  rw [List.filter_map]
  congr 1
  refine List.filter_congr fun p _ => ?_
  by_cases e : p.1 = m
  · simp [e]
  · simp [e]
def rwF (s w c : Addr) : List (Str × V) := [("sources", .ref s), ("written", .ref w), ("copies", .ref c)]
structure RwC (K : PySem.W.Frag) (C : Addr) : Prop where
  cl : Cls K C
  sources : NoAttr K C "sources"
  written : NoAttr K C "written"
  copies : NoAttr K C "copies"
/-- what is written and what a mark gets is of a kind G -/
def Gs (G : Int → Prop) (m : Int) (s : Sr) : Prop := G m ∧ (∀ x, s = .con x → x = "on" ∨ x = "off") ∧ ∀ j, s = .mk j → G j
def Gr (G : Int → Prop) : Rw → Prop
  | .con x m => (x = "on" ∨ x = "off") ∧ G m
  | .cp m j => G m ∧ G j
/-- the object of the rows -/
structure RwObj (G : Int → Prop) (C : Addr) (H : Hp) (a s w c : Addr) (S : List (Int × Sr)) (Cp : List (Int × Int)) (W : List Rw) : Prop where
  ob : ∃ dx, H a = some (.ins C dx (rwF s w c))
  src : H s = some (.dK (kvS S))
  wr : ∃ ws, H w = some (.lst ws) ∧ RowsAt H ws W
  ne : s ≠ c
  cpy : ∃ kvs, H c = some (.dK kvs) ∧ kvs.length ≤ W.length ∧ ∀ x, valV kvs (Sum.inl x) = (lk Cp x).map V.int
  gs : ∀ m s, lk S m = some s → Gs G m s
  gw : ∀ r ∈ W, Gr G r
  gc : ∀ x d, lk Cp x = some d → G d
/-- a row more, and what is left of the sources -/
theorem RwObj.row {G : Int → Prop} {C : Addr} {H : Hp} {a s w c p : Addr} {S S' : List (Int × Sr)} {Cp : List (Int × Int)} {W : List Rw} {ws : List V} {r : Rw} (h : RwObj G C H a s w c S Cp W) (hw : H w = some (.lst ws)) (hr : RowsAt H ws W) (np : upd H s (.dK (kvS S')) p = none) (sub : ∀ m t, lk S' m = some t → lk S m = some t) (g : Gr G r) :
    RwObj G C (upd (upd (upd H s (.dK (kvS S'))) p (.tup (rwV r))) w (.lst (ws ++ [.ref p]))) a s w c S' Cp (W ++ [r]) := by
  obtain ⟨⟨dx, ho⟩, hs, _, ne, ⟨kvs, hc, hl, hx⟩, gs, gw, gc⟩ := h
  have e1 : s ≠ w := fun e => by rw [e, hw] at hs; cases hs
  have e2 : c ≠ w := fun e => by rw [e, hw] at hc; cases hc
  have e3 : a ≠ w := fun e => by rw [e, hw] at ho; cases ho
  have e4 : a ≠ s := fun e => by rw [e, hs] at ho; cases ho
  have ps : p ≠ s := fun e => by rw [e, upd_same] at np; cases np
  have pn : H p = none := by rw [upd_ne ps] at np; exact np
  have pw : w ≠ p := ne_of_none hw pn
  refine ⟨⟨dx, ?_⟩, ?_, ⟨_, upd_same, ?_⟩, ne, ⟨kvs, ?_, by rw [List.length_append]; omega, hx⟩, fun m t e => gs m t (sub m t e), fun q hq => (List.mem_append.mp hq).elim (gw q) fun z => by rw [List.mem_singleton.mp z]; exact g, gc⟩
  · rw [upd_ne e3, upd_ne (ne_of_none ho pn), upd_ne e4]; exact ho
  · rw [upd_ne e1, upd_ne ps.symm, upd_same]
  · refine RowsAt.snoc ⟨p, rfl, by rw [upd_ne pw.symm, upd_same]⟩ (RowsAt.mono (fun t l e => ?_) hr)
    have t1 : t ≠ w := fun z => by rw [z, hw] at e; cases e
    have t2 : t ≠ s := fun z => by rw [z, hs] at e; cases e
    rw [upd_ne t1, upd_ne (ne_of_none e pn), upd_ne t2]
    exact e
  · rw [upd_ne e2, upd_ne (ne_of_none hc pn), upd_ne ne.symm]; exact hc
theorem putK_len {κ : Type} [DecidableEq κ] (kvs : List (κ × V)) (k : κ) (v : V) : (putK kvs k v).length ≤ kvs.length + 1 := by
  unfold putK
  split
  · rw [List.length_map]; omega
  · rw [List.length_append]; show kvs.length + 1 ≤ _; omega
/-- a value stands elsewhere too -/
theorem RwObj.cput {G : Int → Prop} {C : Addr} {H : Hp} {a s w c : Addr} {S : List (Int × Sr)} {Cp : List (Int × Int)} {W : List Rw} {kvs : List (Key × V)} {j m : Int} (h : RwObj G C H a s w c S Cp W) (g : G m) (hc : H c = some (.dK kvs)) (hl : kvs.length < W.length) (hx : ∀ x, valV kvs (Sum.inl x) = (lk Cp x).map V.int) :
    RwObj G C (upd H c (.dK (putK kvs (Sum.inl j) (.int m)))) a s w c S ((j, m) :: Cp) W := by
  obtain ⟨⟨dx, ho⟩, hs, ⟨ws, hw, hr⟩, ne, _, gs, gw, gc⟩ := h
  have e2 : w ≠ c := fun e => by rw [e, hc] at hw; cases hw
  have e3 : a ≠ c := fun e => by rw [e, hc] at ho; cases ho
  refine ⟨⟨dx, by rw [upd_ne e3]; exact ho⟩, by rw [upd_ne ne]; exact hs, ⟨ws, by rw [upd_ne e2]; exact hw, RowsAt.mono (fun t l e => ?_) hr⟩, ne, ⟨_, upd_same, ?_, fun x => ?_⟩, gs, gw, fun x d e => ?_⟩
  · rw [upd_ne (fun z => by rw [z, hc] at e; cases e)]
    exact e
  · have := putK_len kvs (Sum.inl j) (V.int m)
    omega
  · rw [valV_put, LmS.lk_cons]
    by_cases e : x = j
    · rw [if_pos (by rw [e]), if_pos e.symm]
      rfl
    · rw [if_neg (fun z => e (Sum.inl.inj z)), if_neg (fun z => e z.symm)]
      exact hx x
  · rw [LmS.lk_cons] at e
    by_cases z : j = x
    · rw [if_pos z] at e
      cases e
      exact g
    · rw [if_neg z] at e
      exact gc x d e
section
variable {P : Program} {w : World} {K : PySem.W.Frag} {mg : Str → Option Value} {base : Heap} {C : Addr}
def spWf (K : PySem.W.Frag) (C : Addr) : Sp := fun vs H Q _ => ∃ (G : Int → Prop) (a s w c : Addr) (m sp : Int) (S0 S : List (Int × Sr)) (Cp : List (Int × Int)) (W : List Rw) (hs : List Int) (N : Nat), vs = [.ref a, .int m] ∧ RwObj G C H a s w c S Cp W ∧
  Iv Src.con Src.mk sp S0 S Cp (runs W) (some m) hs ∧ Hd S0 S (some m) hs ∧ (lk S m ≠ none → May S Cp m) ∧ lk S0 sp = none ∧ (∀ y, lk S0 y ≠ some (.mk sp)) ∧ W.length + S.length = N ∧ N ≤ 500 ∧
  ∀ H' S' Cp' W', (∀ b o, b ≠ s → b ≠ w → b ≠ c → H b = some o → H' b = some o) → RwObj G C H' a s w c S' Cp' W' → Iv Src.con Src.mk sp S0 S' Cp' (runs W') none hs → Hd S0 S' none hs → W'.length + S'.length = N → (∀ x, lk S x = none → lk S' x = none) → lk S' m = none → Q .non H'
abbrev nsWf : List Str := ["self", "mark", "what"]
theorem scWf : FnScope nsWf ["self", "mark"] (defScope mWriteFrom) := fnScope_by (by decide +kernel)
theorem kWf {f : Addr} {fd : FuncData} (F : Fun K "write_from" "Rows.write_from" mWriteFrom f fd) (k : RwC K C) (mi : mg "isinstance" = none) (ms : mg "str" = none) : FnOk P w K mg base CX0 1 f fd ["self", "mark"] (spWf K C) := by
  refine F.ok scWf (fun vs H Q E h => ?_) (fun cdv A outer s H vs Q E hr h => ?_)
  · obtain ⟨G, a, s, w, c, m, sp, S0, S, Cp, W, hs, N, rfl, _⟩ := h
    rfl
  obtain ⟨G, a, sa, wa, ca, m, sp, S0, S, Cp, W, hs, N, rfl, ho, iv, hd, may, n0, nsp, hN, hN2, q⟩ := h
  have hu := hu_of hr
  refine ⟨_, pss_one (ps_while PassesOwn.never (pt_cmp (pc_din hu (pv 1) (pe_fld (pv 0) rfl)) (by rfl))
    (pss_cons (ps_set (i := 2) scWf.nd rfl (.inl rfl) (pe_dpop1 (pe_fld (pv 0) rfl) (pv 1) ⟨rfl, rfl, rfl, rfl⟩))
    (pss_one (ps_if (pt_val (pe_callB call_isi (by rfl) mi boot_isinstance (pa_cons (pv 2) (pa_cons (pe_bltn (v := .ty "str") (by rfl) ms boot_str rfl) pa_nil))))
      (pss_one (ps_expr (pe_bm PySem.F.plainAttrs_list PySem.F.slot_list_append PySem.F.type_list_append mt_append (pe_fld (pv 0) rfl) (pa_cons (pe_tup (pa_cons (pv 2) (pa_cons (pv 1) pa_nil))) pa_nil))))
      (pss_one (ps_if (pt_cmp (pc_din hu (pv 2) (pe_fld (pv 0) rfl)) (by rfl))
        (pss_one (ps_expr (pe_bm PySem.F.plainAttrs_list PySem.F.slot_list_append PySem.F.type_list_append mt_append (pe_fld (pv 0) rfl) (pa_cons (pe_tup (pa_cons pe_str (pa_cons (pv 1) (pa_cons (pe_dget hu (pe_fld (pv 0) rfl) (pv 2) (fun _ _ => rfl)) pa_nil)))) pa_nil))))
        (pss_cons (ps_expr (pe_bm PySem.F.plainAttrs_list PySem.F.slot_list_append PySem.F.type_list_append mt_append (pe_fld (pv 0) rfl) (pa_cons (pe_tup (pa_cons pe_str (pa_cons (pv 1) (pa_cons (pv 2) pa_nil)))) pa_nil)))
        (pss_cons (ps_dput hu (pe_fld (pv 0) rfl) (pv 2) (pv 1) rfl)
        (pss_one (ps_set (i := 1) scWf.nd rfl (.inl rfl) (pv 2))))))))))), ?_⟩
  refine ⟨fun n σ H1 => ∃ mk S1 Cp1 W1 u, n = S1.length ∧ σ = [some (.ref a), some (.int mk), u] ∧ RwObj G C H1 a sa wa ca S1 Cp1 W1 ∧ Iv Src.con Src.mk sp S0 S1 Cp1 (runs W1) (some mk) hs ∧ Hd S0 S1 (some mk) hs ∧ (lk S1 mk ≠ none → May S1 Cp1 mk) ∧ W1.length + S1.length = N ∧ (∀ x, lk S x = none → lk S1 x = none) ∧ (mk = m ∨ lk S1 m = none) ∧ (∀ b o, b ≠ sa → b ≠ wa → b ≠ ca → H b = some o → H1 b = some o),
    ⟨_, m, S, Cp, W, none, rfl, rfl, ho, iv, hd, may, hN, fun _ z => z, .inl rfl, fun _ _ _ _ _ e => e⟩, ?_⟩
  rintro n σ H1 ⟨mk, S1, Cp1, W1, u, rfl, rfl, ho1, iv1, hd1, may1, hN1, hle, hm, hfr⟩
  obtain ⟨dx, hob⟩ := ho1.ob
  refine ⟨_, rfl, _, rfl, a, C, dx, _, _, rfl, hob, k.cl, k.sources, by rfl, sa, _, rfl, .inl ⟨kvS S1, Sum.inl mk, .inl ho1.src, rfl, rfl⟩, _, rfl, ?_⟩
  rw [kvS_look]
  cases e : lk S1 mk with
  | none => exact q H1 S1 Cp1 W1 hfr ho1 (iv1.leave e) (hd1.leave e) hN1 hle (hm.elim (fun z => by rw [← z]; exact e) id)
  | some s =>
    have ok := may1 (by rw [e]; exact fun z => nomatch z)
    refine iteT ⟨_, fun _ _ h => h, ?_⟩
    refine ⟨_, rfl, a, C, dx, _, _, rfl, hob, k.cl, k.sources, by rfl, sa, rfl, .inl ⟨_, .inl ho1.src⟩, _, rfl, kvS S1, Sum.inl mk, vS s, ho1.src, rfl, by rw [kvS_look, e]; rfl, ?_⟩
    obtain ⟨ws, hw, hws⟩ := ho1.wr
    have esw : wa ≠ sa := fun z => by have := ho1.src; rw [← z, hw] at this; cases this
    have eas : a ≠ sa := fun z => by have := ho1.src; rw [← z, hob] at this; cases this
    rw [kvS_del]
    have dl := del_len iv1.nd e
    have g1 := ho1.gs _ _ e
    have sb : ∀ y t, lk (del S1 mk) y = some t → lk S1 y = some t := fun y t z => by
      rw [lk_del] at z
      by_cases g : y = mk
      · rw [if_pos g] at z; cases z
      · rw [if_neg g] at z; exact z
    have hwl := hws.len
    have dn : ∀ y, y = mk ∨ lk S1 y = none → lk (del S1 mk) y = none := fun y h => by
      rw [lk_del]
      by_cases g : y = mk
      · rw [if_pos g]
      · rw [if_neg g]; exact h.resolve_left g
    have ns : mk ≠ sp := fun z => by have := iv1.sub _ _ e; rw [z, n0] at this; cases this
    have hob2 : (upd H1 sa (.dK (kvS (del S1 mk)))) a = some (.ins C dx (rwF sa wa ca)) := by rw [upd_ne eas]; exact hob
    have hw2 : (upd H1 sa (.dK (kvS (del S1 mk)))) wa = some (.lst ws) := by rw [upd_ne esw]; exact hw
    cases s with
    | con x =>
      refine ⟨_, rfl, .str x, _, _, _, _, rfl, .ty _, (Dx.str x).ty, kit_str (.str x), _, rfl, iteT ?_⟩
      refine ⟨_, rfl, a, C, dx, _, .ref wa, rfl, hob2, k.cl, k.written, by rfl, .inl ⟨rfl, _, SqL.of hw2⟩, _, rfl, _, rfl, by show 2 ≤ sizeLine; decide, fun p np => ?_⟩
      refine ⟨wa, ws, .ref p, rfl, rfl, by rw [upd_ne (ne_of_none hw2 np)]; exact hw2, small1000 (by omega), ⟨_, ?_, mk, del S1 mk, Cp1, W1 ++ [Rw.con x mk], _, rfl, rfl, RwObj.row (r := .con x mk) ho1 hw hws np sb ⟨g1.2.1 x rfl, g1.1⟩, ?_, Hd.write iv1 hd1 ok, fun z => absurd (dn mk (.inl rfl)) z, by rw [List.length_append]; show W1.length + 1 + _ = N; omega, fun x z => dn x (.inr (hle x z)), .inr (dn m (hm.imp (fun z => z.symm) id)), fun b o b1 b2 b3 hb => ?_⟩⟩
      · show (del S1 mk).length < S1.length
        omega
      · rw [runs_snoc]
        exact iv1.last e ok ns rfl (fun j z => by cases z)
      · have hb1 := hfr b o b1 b2 b3 hb
        have hb2 : (upd H1 sa (.dK (kvS (del S1 mk)))) b = some o := by rw [upd_ne b1]; exact hb1
        rw [upd_ne b2, upd_ne (ne_of_none hb2 np)]
        exact hb2
    | mk j =>
      obtain ⟨kvs, hc, hkl, hkx⟩ := ho1.cpy
      have hc2 : (upd H1 sa (.dK (kvS (del S1 mk)))) ca = some (.dK kvs) := by rw [upd_ne ho1.ne.symm]; exact hc
      refine ⟨_, rfl, .int j, _, _, _, _, rfl, .ty _, (Dx.int j).ty, kit_str (.int j), _, rfl, iteF ?_⟩
      refine ⟨_, rfl, _, rfl, a, C, dx, _, .ref ca, rfl, hob2, k.cl, k.copies, by rfl, ca, _, rfl, .inl ⟨kvs, Sum.inl j, .inl hc2, rfl, rfl⟩, _, rfl, ?_⟩
      rw [hkx]
      cases hcj : lk Cp1 j with
      | some c =>
        refine iteT ⟨_, rfl, a, C, dx, _, .ref wa, rfl, hob2, k.cl, k.written, by rfl, .inl ⟨rfl, _, SqL.of hw2⟩, _, rfl, _, rfl, a, C, dx, _, .ref ca, rfl, hob2, k.cl, k.copies, by rfl, _, rfl, ca, .int c, rfl, .inl ⟨kvs, Sum.inl j, .inl hc2, rfl, by rw [hkx, hcj]; rfl⟩, by show 3 ≤ sizeLine; decide, fun p np => ?_⟩
        refine ⟨wa, ws, .ref p, rfl, rfl, by rw [upd_ne (ne_of_none hw2 np)]; exact hw2, small1000 (by omega), ⟨_, ?_, mk, del S1 mk, Cp1, W1 ++ [Rw.cp mk c], _, rfl, rfl, RwObj.row (r := .cp mk c) ho1 hw hws np sb ⟨g1.1, ho1.gc _ _ hcj⟩, ?_, Hd.write iv1 hd1 ok, fun z => absurd (dn mk (.inl rfl)) z, by rw [List.length_append]; show W1.length + 1 + _ = N; omega, fun x z => dn x (.inr (hle x z)), .inr (dn m (hm.imp (fun z => z.symm) id)), fun b o b1 b2 b3 hb => ?_⟩⟩
        · show (del S1 mk).length < S1.length
          omega
        · rw [runs_snoc]
          exact iv1.last e ok ns (iv1.i4 j c mk hcj e) (fun j' z => by cases z; rw [hcj]; exact fun q => nomatch q)
        · have hb1 := hfr b o b1 b2 b3 hb
          have hb2 : (upd H1 sa (.dK (kvS (del S1 mk)))) b = some o := by rw [upd_ne b1]; exact hb1
          rw [upd_ne b2, upd_ne (ne_of_none hb2 np)]
          exact hb2
      | none =>
        have nj : j ≠ sp := fun z => nsp mk (by rw [← z]; exact iv1.sub _ _ e)
        obtain ⟨_, ivc⟩ := iv1.copy e ok ns nj hcj
        refine iteF ⟨_, rfl, a, C, dx, _, .ref wa, rfl, hob2, k.cl, k.written, by rfl, .inl ⟨rfl, _, SqL.of hw2⟩, _, rfl, _, rfl, by show 3 ≤ sizeLine; decide, fun p np => ?_⟩
        refine ⟨wa, ws, .ref p, rfl, rfl, by rw [upd_ne (ne_of_none hw2 np)]; exact hw2, small1000 (by omega), ?_⟩
        have o4 := RwObj.row (r := .cp mk j) ho1 hw hws np sb ⟨g1.1, g1.2.2 j rfl⟩
        have fr4 : ∀ b o, b ≠ sa → b ≠ wa → H1 b = some o → (upd (upd (upd H1 sa (.dK (kvS (del S1 mk)))) p (.tup (rwV (.cp mk j)))) wa (.lst (ws ++ [.ref p]))) b = some o := fun b o b1 b2 hb1 => by
          have hb2 : (upd H1 sa (.dK (kvS (del S1 mk)))) b = some o := by rw [upd_ne b1]; exact hb1
          rw [upd_ne b2, upd_ne (ne_of_none hb2 np)]
          exact hb2
        have ewc : ca ≠ wa := fun z => by rw [z, hw] at hc; cases hc
        have ewa : a ≠ wa := fun z => by rw [z, hw] at hob; cases hob
        have hob4 := fr4 a _ eas ewa hob
        have hc4 := fr4 ca _ ho1.ne.symm ewc hc
        refine ⟨_, rfl, _, rfl, a, C, dx, _, .ref ca, rfl, hob4, k.cl, k.copies, by rfl, _, rfl, ca, _, rfl, .inl ⟨kvs, Sum.inl j, hc4, rfl, small1000 (by omega), rfl⟩, ?_⟩
        refine ⟨_, rfl, _, ?_, j, del S1 mk, (j, mk) :: Cp1, W1 ++ [Rw.cp mk j], _, rfl, rfl, RwObj.cput o4 g1.1 hc4 (by rw [List.length_append]; show kvs.length < W1.length + 1; omega) hkx, ?_, Hd.write iv1 hd1 ok, fun _ => .inl (by rw [LmS.lk_cons, if_pos rfl]; exact fun z => nomatch z), by rw [List.length_append]; show W1.length + 1 + _ = N; omega, fun x z => dn x (.inr (hle x z)), .inr (dn m (hm.imp (fun z => z.symm) id)), fun b o b1 b2 b3 hb => ?_⟩
        · show (del S1 mk).length < S1.length
          omega
        · rw [runs_snoc]
          exact ivc
        · rw [upd_ne b3]
          exact fr4 b o b1 b2 (hfr b o b1 b2 b3 hb)
end
end Lm

namespace Lm
open PySem PySem.Spec PyProof.Rows L2
open C8 (fnScope_by pe_gc pss_cut tCut Cal pe_c)
/-- a dict comprehension over a walk -/
theorem dc_it {J : It} {n : Nat} {G : Hp → Prop} {Y : Nat → Hp → V → Hp → Prop} (wk : Walk J n G Y) {g : TG} {tt : TT} {tk tv : TE} {vs : List Nat} {σ : L2.St} {HA : Hp} {D : Addr} {Qd : Hp → Prop} (R : Nat → Hp → Prop) (start : R 0 (upd HA D (.dK [])))
    (stay : ∀ j h, j ≤ n → R j h → G h)
    (one : ∀ j x h h', j < n → R j h → Y j h x h' → g x (wipe σ vs) h' fun τ h2 => wipe τ vs = wipe σ vs ∧ tt τ h2 fun b h3 => if b = true then tk τ h3 fun y h4 => tv τ h4 fun z h5 => ∃ kvs k, y = kV k ∧ h5 D = some (.dK kvs) ∧ kvs.length < sizeLine ∧ R (j + 1) (upd h5 D (.dK (putK kvs k z))) else R (j + 1) h3)
    (done : ∀ h, R n h → Qd h) :
    ∃ W : Nat → Nat → Hp → Prop, (∃ m, W 0 m (upd HA D (.dK []))) ∧ ∀ i m H, W i m H → (J.stop i H ∧ Qd H) ∨ (J.go i H ∧ ∃ Nx : Hp → Prop, (∀ H', Nx H' → ∃ m', m' < m ∧ W (i + 1) m' H') ∧
      ∀ x H', J.yld i H x H' → g x (wipe σ vs) H' fun σ2 H2 => wipe σ2 vs = wipe σ vs ∧ tt σ2 H2 fun b H3 => if b = true then tk σ2 H3 fun y H4 => tv σ2 H4 fun z H5 => ∃ kvs k, y = kV k ∧ H5 D = some (.dK kvs) ∧ kvs.length < sizeLine ∧ Nx (upd H5 D (.dK (putK kvs k z))) else Nx H3) := by
  refine ⟨fun i m h => i + m = n ∧ R i h, ⟨n, Nat.zero_add n, start⟩, ?_⟩
  rintro i m h ⟨e, r⟩
  have gg := stay i h (by omega) r
  cases m with
  | zero =>
    obtain rfl : i = n := e
    exact .inl ⟨wk.stops h gg, done h r⟩
  | succ m =>
    have il : i < n := by omega
    exact .inr ⟨wk.goes i h il gg, R (i + 1), fun h' r' => ⟨m, Nat.lt_succ_self m, by omega, r'⟩, fun x h' y => one i x h h' il r (wk.yields i h x h' il gg y)⟩

section
variable {X : Cx}
abbrev AtBlk (X : Cx) (sc : Scope) (F : Cx → Prop) : Prop := ∀ (s : Shared) (H : Hp) (C : Addr) (cl : List (Str × Addr)) (fp : List Addr), F (X.blk s H sc (compEnvC sc cl C X.env) fp)
/-- name = {k: v for ..} on one line, the name a local -/
theorem ps_setDc {i : Nat} {x : Str} {px pc ps : Pos} {ek ev tg it : Expr} {cs : List Expr} {sc : Scope} {own : List (Str × Nat)} {wi : TI} {g : TG} {tt : TT} {tk tv : TE}
    (sw : swapsWith (.DictComp ek ev [⟨tg, it, cs, 0⟩] sc pc) (some (.Name x px)) ps.line X.env = pure true) (calm : X.calm = true) (nd : X.N.Nodup) (xi : X.N[i]? = some x) (xl : X.env.scope.names.lookup x = some .local) (wk : PI X tg it wi) (ok : BlkOk X.N X.env.scope sc own)
    (hg : AtBlk X sc fun Y => PG Y tg g) (ht : AtBlk X sc fun Y => PTs Y cs tt) (hk : AtBlk X sc fun Y => PE Y ek tk) (hv : AtBlk X sc fun Y => PE Y ev tv) (hs : ∀ z, foldedSetIterable it X.env z = pure z := by intro _; rfl) :
    PS X (.Assign [.Name x px] (.DictComp ek ev [⟨tg, it, cs, 0⟩] sc pc) ps) (tAsg (tDc wi g tt tk tv (own.map (·.2))) (gName i)) := by
  refine ⟨fun pins s σ H D inv red => ?_⟩
  have red' : tDc wi g tt tk tv (own.map (·.2)) σ H (fun y H1 => gName i y σ H1 D.nx) := red
  rw [exec_Assign_Name_used _ _ _ _ sw]
  refine wpAny_bind (wpAny_standAt (wpAny_bind ?_))
  show wpAny _ X.A (do
    let _ ← comprehension (.DictComp ek ev [⟨tg, it, cs, 0⟩] sc pc) sc X.env (firstIterPos [⟨tg, it, cs, 0⟩] pc) newDict false (eval it X.env) (some (assign (.Name x px) X.env))) _ _ s
  refine wpAny_bind (thn (dc_core (Qf := fun _ z => SP X pins D .next z) calm nd inv wk ok hg ht hk hv hs red' fun L C s2 m H2 inv2 q ns fp => ?_) fun _ z hz => wpAny_pure (wpAny_pure hz))
  show wpAny _ _ (assign (.Name x px) X.env (.ref L)) _ _ _
  refine wpAny_assign_Name (store_ok2 (v := V.ref L) inv2 nd xi (.inl xl) rfl (fun s3 inv3 ⟨a, sb, ha⟩ => ?_) (.inr xl))
  obtain ⟨f0, f1, f2, f3, f4, f5⟩ := fp
  have ca : C ≠ a := ha.elim (fun z => by rw [z]; exact f1) fun z e => f4 x a z e.symm
  exact ⟨m, ns.sameBut sb ca, fun h4 sb4 => ⟨_, H2, inv3.turned (t' := s3.toks) (fun b o hb e => (sb4.2 b hb).trans e) f0 f1 f3 f4 f5, q⟩⟩
theorem sw_dict {ek ev : Expr} {gs : List Comprehension} {sc : Scope} {pc px : Pos} {x : Str} {l : Nat} {env : Env} (fk : env.scope.kind = .function) (xl : env.scope.names.lookup x = some .local) (el : (px.line == pc.line) = true)
    (no : (sc.names.any fun (n, k) => n == x && (k == .local || k == .cell)) = false) : swapsWith (.DictComp ek ev gs sc pc) (some (.Name x px)) l env = pure true := by
  have e1 : env.kindOf x = some .local := xl
  have e2 : env.blockKind = .function := by
    show Env.blockKind env = _
    unfold Env.blockKind
    rw [fk]
    rfl
  unfold swapsWith
  simp only [e2, e1, no, Expr.pos, el]
  rfl
end
theorem putK_new {kvs : List (Key × V)} {k : Key} {v : V} (h : valV kvs k = none) : putK kvs k v = kvs ++ [(k, v)] := by
  unfold putK
  have e : (kvs.any fun kv => decide (kv.1 = k)) = false := by
    rw [List.any_eq_false]
    intro kv hk hh
    unfold valV at h
    rw [Option.map_eq_none_iff, List.find?_eq_none] at h
    exact h kv hk hh
  rw [e]
  rfl
end Lm

/-! Rows.write_all -/
namespace Lm
open PySem PySem.Spec PyProof.Rows L2 LmS
open C8 (fnScope_by pe_gc pss_cut tCut Cal pe_c)
theorem upd_id {H : Hp} {a : Addr} {o : HO} (h : H a = some o) : upd H a o = H := by
  funext b
  unfold upd
  by_cases e : b = a
  · rw [if_pos e, e, h]
  · rw [if_neg e]
theorem mem_lk {β : Type} {m : Int} {v : β} : ∀ {S : List (Int × β)}, (S.map (·.1)).Nodup → (m, v) ∈ S → lk S m = some v
  | (k, u) :: S, nd, h => by
    have nd' := List.nodup_cons.mp (show (k :: S.map (·.1)).Nodup from nd)
    rw [LmS.lk_cons]
    rcases List.mem_cons.mp h with e | h
    · cases e
      rw [if_pos rfl]
    · have : k ≠ m := fun e => nd'.1 (by rw [e]; exact List.mem_map_of_mem (f := (·.1)) h)
      rw [if_neg this]
      exact mem_lk nd'.2 h
def keyS : Sr → Key
  | .con x => Sum.inr x
  | .mk j => Sum.inl j
theorem vS_key (s : Sr) : vS s = kV (keyS s) := by cases s <;> rfl
theorem keyS_mk {s : Sr} {m : Int} : keyS s = Sum.inl m ↔ s = .mk m := by
  cases s with
  | con x => exact ⟨fun h => (nomatch h), fun h => (nomatch h)⟩
  | mk j => exact ⟨fun h => by cases h; rfl, fun h => by cases h; rfl⟩
theorem kvS_at {S : List (Int × Sr)} {j : Nat} {k : Key} {x : V} (h : (kvS S)[j]? = some (k, x)) : ∃ p, S[j]? = some p ∧ k = Sum.inl p.1 ∧ x = vS p.2 := by
  unfold kvS at h
  rw [List.getElem?_map] at h
  cases e : S[j]? with
  | none => rw [e] at h; cases h
  | some p => rw [e] at h; cases h; exact ⟨p, rfl, rfl, rfl⟩
theorem kvS_len (S : List (Int × Sr)) : (kvS S).length = S.length := by unfold kvS; rw [List.length_map]
theorem empty_of {β : Type} {S : List (Int × β)} (h : ∀ m, lk S m = none) : S = [] := by
  cases S with
  | nil => rfl
  | cons p r =>
    obtain ⟨k, v⟩ := p
    have := h k
    rw [LmS.lk_cons, if_pos rfl] at this
    cases this
theorem take_get {β : Type} {xs : List β} {j : Nat} {p x : β} (h : xs[j]? = some p) : x ∈ xs.take (j + 1) ↔ x ∈ xs.take j ∨ x = p := by
  rw [List.take_add_one, h, List.mem_append]
  simp
section
variable {P : Program} {w : World} {K : PySem.W.Frag} {mg : Str → Option Value} {base : Heap} {C : Addr}
abbrev nsWa : List Str := ["self", "spare", "wanted", "free", "mark", "what"]
theorem scWa : FnScope nsWa ["self", "spare"] (defScope mWriteAll) := fnScope_by (by decide +kernel)
def spWa (C : Addr) : Sp := fun vs H Q _ => ∃ (G : Int → Prop) (a s w c : Addr) (sp : Int) (S0 : List (Int × Sr)), vs = [.ref a, .int sp] ∧ RwObj G C H a s w c S0 [] [] ∧ (S0.map (·.1)).Nodup ∧ lk S0 sp = none ∧ (∀ y, lk S0 y ≠ some (.mk sp)) ∧ G sp ∧ S0.length ≤ 200 ∧
  ∀ H' Cp' W' hs, (∀ b o, b ≠ s → b ≠ w → b ≠ c → H b = some o → H' b = some o) → RwObj G C H' a s w c [] Cp' W' → (∀ m, m ≠ sp → runs W' m = (lk S0 m).getD (.mk m)) → Reps S0 hs → W'.length = S0.length + hs.length → Q .non H'
theorem kWa {f fW : Addr} {fd fdW : FuncData} (F : Fun K "write_all" "Rows.write_all" mWriteAll f fd) (k : RwC K C) (MW : Meth K C "write_from" fW) (FW : FnOk P w K mg base CX0 1 fW fdW ["self", "mark"] (spWf K C)) (BW : Binds K fdW ["self", "mark"] []) (ml : mg "list" = none) : FnOk P w K mg base CX0 2 f fd ["self", "spare"] (spWa C) := by
  refine F.ok scWa (fun vs H Q E h => ?_) (fun cdv A outer s H vs Q E hr h => ?_)
  · obtain ⟨G, a, s, w, c, sp, S0, rfl, _⟩ := h
    rfl
  obtain ⟨G, a, sa, wa, ca, sp, S0, rfl, ho, nd, n0, nsp, gsp, hz, q⟩ := h
  have hu := hu_of hr
  refine ⟨_, pss_cons (ps_set (i := 2) scWa.nd rfl (.inr rfl) (pe_lock (pe_dc (own := [("what", 5)]) (tt := tYes) rfl scWa.nd (pi_values (pe_fld (pv 0) rfl)) (blkOk_by (N := nsWa) (sc := defScope mWriteAll) (by decide +kernel))
      (fun _ _ _ _ _ => pg_name (i := 5) scWa.nd rfl (Or.inl rfl)) (fun _ _ _ _ _ => pts_nil) (fun _ _ _ _ _ => pv 5) (fun _ _ _ _ _ => pe_bl))))
    (pss_cons (ps_lock (ps_setLc (i := 3) (own := [("mark", 4)]) (g := gName 4) rfl scWa.nd rfl (by rfl) (sw_true rfl (by rfl) (by rfl) (by rfl)) (pi_keys (pe_fld (pv 0) rfl)) (blkOk_by (N := nsWa) (sc := defScope mWriteAll) (by decide +kernel)) (fun _ _ _ _ _ => pg_name (i := 4) scWa.nd rfl (Or.inl rfl))
      (fun _ _ _ _ _ => pts_one (pt_cmp (pc_dnotin hu (pv 4) (pv 2)) (by rfl))) (fun _ _ _ _ _ => pv 4)))
    (pss_cons (ps_for PassesOwn.never rfl (pi_list (pv 3)) (pg_name (i := 4) scWa.nd rfl (Or.inl rfl)) (pss_one (ps_expr (pe_meth (pv 0) k.cl MW FW hr BW .nil pass0 (pa_cons (pv 4) pa_nil)))))
    (pss_one (ps_for PassesOwn.never rfl (pi_list (pe_callTy (call_listD rfl) (by rfl) ml boot_list (pa_cons (pe_fld (pv 0) rfl) pa_nil))) (pg_name (i := 4) scWa.nd rfl (Or.inl rfl))
      (pss_one (ps_if (pt_cmp (pc_din hu (pv 4) (pe_fld (pv 0) rfl)) (by rfl))
        (pss_cons (ps_expr (pe_bm PySem.F.plainAttrs_list PySem.F.slot_list_append PySem.F.type_list_append mt_append (pe_fld (pv 0) rfl) (pa_cons (pe_tup (pa_cons pe_str (pa_cons (pv 1) (pa_cons (pv 4) pa_nil)))) pa_nil)))
        (pss_cons (ps_dput hu (pe_fld (pv 0) rfl) (pv 4) (pv 1) rfl)
        (pss_one (ps_expr (pe_meth (pv 0) k.cl MW FW hr BW .nil pass0 (pa_cons (pv 4) pa_nil)))))) pss_nil)))))), ?_⟩
  obtain ⟨dx, hob⟩ := ho.ob
  have eas : a ≠ sa := fun z => by have := ho.src; rw [← z, hob] at this; cases this
  refine ⟨sa, .dK (kvS S0), ho.src, trivial, fun od => ?_⟩
  have hobF : (upd H sa (.frz od (.dK (kvS S0)))) a = some (.ins C dx (rwF sa wa ca)) := by rw [upd_ne eas]; exact hob
  refine ⟨_, rfl, a, C, dx, _, .ref sa, rfl, hobF, k.cl, k.sources, by rfl, sa, od, kvS S0, rfl, upd_same, fun D nD => ?_⟩
  refine dc_it walk_values (fun i H' => (∃ kvs, H' D = some (.dK kvs) ∧ kvs.length ≤ i ∧ ∀ m, valV kvs (Sum.inl m) ≠ none ↔ ∃ p ∈ S0.take i, p.2 = .mk m) ∧ Same (upd H sa (.frz od (.dK (kvS S0)))) H') ⟨⟨[], upd_same, Nat.le_refl _, fun m => ?_⟩, same_upd nD⟩ (fun j h _ r => r.2 _ _ upd_same) ?_ ?_
  · constructor
    · exact fun z => absurd rfl z
    · rintro ⟨p, hp, _⟩
      cases hp
  · rintro j x h h' hj ⟨⟨kvs, h1, hl, hk⟩, hs⟩ ⟨rfl, kk, hx⟩
    obtain ⟨p, hp, rfl, rfl⟩ := kvS_at hx
    refine ⟨rfl, tyes ?_⟩
    refine ⟨_, rfl, kvs, keyS p.2, vS_key _, h1, small1000 (by rw [kvS_len] at hj; omega), ⟨_, upd_same, ?_, fun m => ?_⟩, fun b o e => ?_⟩
    · have := putK_len kvs (keyS p.2) (V.bl true)
      omega
    · rw [valV_put]
      by_cases e : Sum.inl m = keyS p.2
      · rw [if_pos e]
        exact ⟨fun _ => ⟨p, (take_get hp).mpr (.inr rfl), keyS_mk.mp e.symm⟩, fun _ z => by cases z⟩
      · rw [if_neg e, hk m]
        constructor
        · rintro ⟨p', h1, h2⟩
          exact ⟨p', (take_get hp).mpr (.inl h1), h2⟩
        · rintro ⟨p', h1, h2⟩
          rcases (take_get hp).mp h1 with z | rfl
          · exact ⟨p', z, h2⟩
          · exact absurd (keyS_mk.mpr h2).symm e
    · rw [upd_ne (ne_of_none e nD)]
      exact hs _ _ e
  rintro H1 ⟨⟨kvs, h1, hl1, hk1⟩, hs1⟩
  refine ⟨hs1 _ _ upd_same, ?_⟩
  rw [kvS_len, List.take_length] at hk1
  have want : ∀ m, valV kvs (Sum.inl m) ≠ none ↔ ∃ y, lk S0 y = some (.mk m) := fun m => by
    rw [hk1 m]
    constructor
    · rintro ⟨p, h1, h2⟩
      obtain ⟨y, t⟩ := p
      exact ⟨y, by rw [mem_lk nd h1]; exact congrArg some h2⟩
    · rintro ⟨y, e⟩
      exact ⟨(y, .mk m), lk_mem e, rfl⟩
  have nDs : D ≠ sa := fun z => by rw [z, upd_same] at nD; cases nD
  obtain ⟨HB, eHB⟩ : ∃ HB, HB = upd H1 sa (.dK (kvS S0)) := ⟨_, rfl⟩
  have fB : ∀ b o, H b = some o → HB b = some o := fun b o e => by
    rw [eHB]
    by_cases z : b = sa
    · rw [z, upd_same, ← ho.src, ← e, z]
    · rw [upd_ne z]
      exact hs1 b o (by rw [upd_ne z]; exact e)
  have hD : HB D = some (.dK kvs) := by rw [eHB, upd_ne nDs]; exact h1
  have hsB := fB _ _ ho.src
  rw [← eHB]
  change tSeq _ _ { nx := fun _ H' => Q .non H', rt := Q } [some (.ref a), some (.int sp), some (.ref D), none, none, none] _
  refine ⟨sa, .dK (kvS S0), hsB, trivial, fun od2 => ?_⟩
  have hobG : (upd HB sa (.frz od2 (.dK (kvS S0)))) a = some (.ins C dx (rwF sa wa ca)) := by rw [upd_ne eas]; exact fB _ _ hob
  refine ⟨_, rfl, a, C, dx, _, .ref sa, rfl, hobG, k.cl, k.sources, by rfl, sa, od2, rfl, .inl ⟨kvS S0, upd_same, fun D2 nD2 => ?_⟩⟩
  refine lc_it walk_keys (fun i H' => (∃ fs : List Int, H' D2 = some (.lst (fs.map V.int)) ∧ fs.length ≤ i ∧ ∀ m, m ∈ fs ↔ (∃ t, (m, t) ∈ S0.take i) ∧ ∀ y, lk S0 y ≠ some (.mk m)) ∧ Same (upd HB sa (.frz od2 (.dK (kvS S0)))) H') ⟨⟨[], upd_same, Nat.le_refl _, fun m => ⟨fun z => (nomatch z), fun z => by obtain ⟨⟨t, ht⟩, _⟩ := z; cases ht⟩⟩, same_upd nD2⟩ (fun j h _ r => r.2 _ _ upd_same) ?_ ?_
  · rintro j x h h' hj ⟨⟨fs, g1, gl, gk⟩, gs⟩ ⟨rfl, kk, vv, hx, rfl⟩
    obtain ⟨p, hp, rfl, rfl⟩ := kvS_at hx
    obtain ⟨m, t⟩ := p
    have hDh : h' D = some (.dK kvs) := gs _ _ (by rw [upd_ne nDs]; exact hD)
    have hm : ∀ m', (∃ t, (m', t) ∈ S0.take (j + 1)) ↔ (∃ t, (m', t) ∈ S0.take j) ∨ m' = m := fun m' => by
      constructor
      · rintro ⟨t', h'⟩
        rcases (take_get hp).mp h' with z | z
        · exact .inl ⟨t', z⟩
        · cases z; exact .inr rfl
      · rintro (⟨t', h'⟩ | rfl)
        · exact ⟨t', (take_get hp).mpr (.inl h')⟩
        · exact ⟨t, (take_get hp).mpr (.inr rfl)⟩
    refine ⟨rfl, _, rfl, _, rfl, D, _, rfl, .inl ⟨kvs, Sum.inl m, .inl hDh, rfl, rfl⟩, _, rfl, ?_⟩
    cases hv : valV kvs (Sum.inl m) with
    | some v =>
      obtain ⟨y, hy⟩ := (want m).mp (by rw [hv]; exact fun z => nomatch z)
      refine ⟨⟨fs, g1, by omega, fun m' => ?_⟩, gs⟩
      rw [gk m', hm m']
      constructor
      · exact fun z => ⟨.inl z.1, z.2⟩
      · rintro ⟨z | rfl, z2⟩
        · exact ⟨z, z2⟩
        · exact absurd hy (z2 y)
    | none =>
      have hn : ∀ y, lk S0 y ≠ some (.mk m) := fun y e => (want m).mpr ⟨y, e⟩ hv
      refine ⟨_, rfl, _, g1, small1000 (by rw [List.length_map]; rw [kvS_len] at hj; omega), ⟨fs ++ [m], by rw [upd_same, List.map_append]; rfl, by rw [List.length_append]; show fs.length + 1 ≤ _; omega, fun m' => ?_⟩, fun b o e => ?_⟩
      · rw [List.mem_append, List.mem_singleton, gk m', hm m']
        constructor
        · rintro (z | rfl)
          · exact ⟨.inl z.1, z.2⟩
          · exact ⟨.inr rfl, hn⟩
        · rintro ⟨z | rfl, z2⟩
          · exact .inl ⟨z, z2⟩
          · exact .inr rfl
      · rw [upd_ne (ne_of_none e nD2)]
        exact gs _ _ e
  rintro H2 ⟨⟨fs, g1, gl, gk⟩, gs⟩
  rw [kvS_len, List.take_length] at gk
  rw [kvS_len] at gl
  refine ⟨gs _ _ upd_same, ?_⟩
  have nD2s : D2 ≠ sa := fun z => by rw [z, upd_same] at nD2; cases nD2
  obtain ⟨HC, eHC⟩ : ∃ HC, HC = upd H2 sa (.dK (kvS S0)) := ⟨_, rfl⟩
  have fC : ∀ b o, H b = some o → HC b = some o := fun b o e => by
    rw [eHC]
    by_cases z : b = sa
    · rw [z, upd_same, ← ho.src, ← e, z]
    · rw [upd_ne z]
      exact gs b o (by rw [upd_ne z]; exact fB b o e)
  have hD2 : HC D2 = some (.lst (fs.map V.int)) := by rw [eHC, upd_ne nD2s]; exact g1
  rw [← eHC]
  change tSeq _ _ { nx := fun _ H' => Q .non H', rt := Q } [some (.ref a), some (.int sp), some (.ref D), some (.ref D2), none, none] _
  have oC : RwObj G C HC a sa wa ca S0 [] [] := by
    obtain ⟨ws, hw, hr⟩ := ho.wr
    obtain ⟨cs, hc, hcl, hcx⟩ := ho.cpy
    exact ⟨⟨dx, fC _ _ hob⟩, fC _ _ ho.src, ⟨ws, fC _ _ hw, RowsAt.mono (fun t l e => fC _ _ e) hr⟩, ho.ne, ⟨cs, fC _ _ hc, hcl, hcx⟩, ho.gs, ho.gw, ho.gc⟩
  have nH : ∀ b, (b = sa ∨ b = wa ∨ b = ca) → H b ≠ none := fun b hb => by
    obtain ⟨ws, hw, _⟩ := ho.wr
    obtain ⟨cs, hc, _⟩ := ho.cpy
    rcases hb with rfl | rfl | rfl
    · rw [ho.src]; exact fun z => nomatch z
    · rw [hw]; exact fun z => nomatch z
    · rw [hc]; exact fun z => nomatch z
  have nD2H : H D2 = none := by
    rw [upd_ne nD2s] at nD2
    cases e : H D2 with
    | none => rfl
    | some o => rw [fB _ _ e] at nD2; cases nD2
  have d2n : D2 ≠ sa ∧ D2 ≠ wa ∧ D2 ≠ ca := ⟨fun z => nH D2 (.inl z) nD2H, fun z => nH D2 (.inr (.inl z)) nD2H, fun z => nH D2 (.inr (.inr z)) nD2H⟩
  refine ⟨_, rfl, D2, rfl, ⟨fs.map V.int, SqL.of hD2⟩, ?_⟩
  refine for_it (walk_list (K := K) (xs := fs.map V.int)) (fun i σ H3 => ∃ S Cp W u, σ = [some (.ref a), some (.int sp), some (.ref D), some (.ref D2), u, none] ∧ RwObj G C H3 a sa wa ca S Cp W ∧ Iv Src.con Src.mk sp S0 S Cp (runs W) none [] ∧ Hd S0 S none [] ∧ W.length + S.length = S0.length ∧ (∀ m ∈ fs.take i, lk S m = none) ∧ (∀ b o, b ≠ sa → b ≠ wa → b ≠ ca → HC b = some o → H3 b = some o))
    ⟨S0, [], [], _, rfl, oC, Iv.start nd, Hd.start, Nat.zero_add _, fun m h => (nomatch h), fun _ _ _ _ _ e => e⟩ ?_ ?_ ?_
  · rintro i σ H3 hi ⟨S, Cp, W, u, rfl, o3, iv, hd, hN, hf, fr⟩
    exact SqL.of (fr _ _ d2n.1 d2n.2.1 d2n.2.2 hD2)
  · rintro i x σ H3 H4 hi ⟨S, Cp, W, u, rfl, o3, iv, hd, hN, hf, fr⟩ ⟨rfl, hx⟩
    rw [List.getElem?_map] at hx
    obtain ⟨m, hm, rfl⟩ : ∃ m, fs[i]? = some m ∧ x = .int m := by
      cases e : fs[i]? with
      | none => rw [e] at hx; cases hx
      | some m => rw [e] at hx; cases hx; exact ⟨m, rfl, rfl⟩
    have hfr := ((gk m).mp (List.mem_of_getElem? hm)).2
    obtain ⟨dx3, hob3⟩ := o3.ob
    change tDrop _ _ [some (.ref a), some (.int sp), some (.ref D), some (.ref D2), some (.int m), none] _
    refine ⟨_, rfl, a, dx3, _, rfl, hob3, rfl, _, rfl, G, a, sa, wa, ca, m, sp, S0, S, Cp, W, [], S0.length, rfl, o3, iv.take m, hd.take m, fun _ => .inr fun m' e => hfr m' (iv.sub _ _ e), n0, nsp, hN, by omega, fun H' S' Cp' W' fr' o' iv' hd' hN' sub' hm' => ?_⟩
    refine ⟨S', Cp', W', _, rfl, o', iv', hd', hN', fun m' h' => ?_, fun b o b1 b2 b3 e => fr' b o b1 b2 b3 (fr b o b1 b2 b3 e)⟩
    rcases (take_get hm).mp h' with z | rfl
    · exact sub' _ (hf _ z)
    · exact hm'
  rintro σ H3 ⟨S, Cp, W, u, rfl, o3, iv, hd, hN, hf, fr⟩
  rw [List.length_map, List.take_length] at hf
  have free : ∀ m, lk S m ≠ none → ∃ m', lk S0 m' = some (.mk m) := fun m hm => by
    refine Classical.byContradiction fun no => hm (hf m ((gk m).mpr ⟨?_, fun y e => no ⟨y, e⟩⟩))
    cases e : lk S m with
    | none => exact absurd e hm
    | some t => exact ⟨t, lk_mem (iv.sub _ _ e)⟩
  obtain ⟨dx3, hob3⟩ := o3.ob
  refine ⟨_, rfl, a, C, dx3, _, .ref sa, rfl, hob3, k.cl, k.sources, by rfl, sa, kvS S, rfl, .inl o3.src, fun p np => ?_⟩
  have hks : ((kvS S).map fun kv => kV kv.1) = S.map fun q => V.int q.1 := by unfold kvS; rw [List.map_map]; rfl
  rw [hks]
  obtain ⟨HD, eHD⟩ : ∃ HD, HD = upd H3 p (.lst (S.map fun q => V.int q.1)) := ⟨_, rfl⟩
  rw [← eHD]
  have fD : ∀ b o, H3 b = some o → HD b = some o := fun b o e => by rw [eHD, upd_ne (ne_of_none e np)]; exact e
  have hp : HD p = some (.lst (S.map fun q => V.int q.1)) := by rw [eHD, upd_same]
  have oD : RwObj G C HD a sa wa ca S Cp W := by
    obtain ⟨ws, hw, hr⟩ := o3.wr
    obtain ⟨cs, hc, hcl, hcx⟩ := o3.cpy
    exact ⟨⟨dx3, fD _ _ hob3⟩, fD _ _ o3.src, ⟨ws, fD _ _ hw, RowsAt.mono (fun t l e => fD _ _ e) hr⟩, o3.ne, ⟨cs, fD _ _ hc, hcl, hcx⟩, o3.gs, o3.gw, o3.gc⟩
  have pn : p ≠ sa ∧ p ≠ wa ∧ p ≠ ca := by
    obtain ⟨ws, hw, hr⟩ := o3.wr
    obtain ⟨cs, hc, hcl, hcx⟩ := o3.cpy
    exact ⟨(ne_of_none o3.src np).symm, (ne_of_none hw np).symm, (ne_of_none hc np).symm⟩
  refine ⟨p, rfl, ⟨_, SqL.of hp⟩, ?_⟩
  refine for_it (walk_list (K := K) (xs := S.map fun q => V.int q.1)) (fun i σ H4 => ∃ S' Cp' W' hs v, σ = [some (.ref a), some (.int sp), some (.ref D), some (.ref D2), v, none] ∧ RwObj G C H4 a sa wa ca S' Cp' W' ∧ Iv Src.con Src.mk sp S0 S' Cp' (runs W') none hs ∧ Hd S0 S' none hs ∧ W'.length + S'.length = S0.length + hs.length ∧ hs.length ≤ i ∧ (∀ x, lk S x = none → lk S' x = none) ∧ (∀ q ∈ S.take i, lk S' q.1 = none) ∧ (∀ b o, b ≠ sa → b ≠ wa → b ≠ ca → HD b = some o → H4 b = some o))
    ⟨S, Cp, W, [], _, rfl, oD, iv, hd, hN, Nat.le_refl _, fun _ e => e, fun q h => (nomatch h), fun _ _ _ _ _ e => e⟩ ?_ ?_ ?_
  · rintro i σ H4 hi ⟨S', Cp', W', hs, v, rfl, o4, iv4, hd4, hN4, hl4, su4, hf4, fr4⟩
    exact SqL.of (fr4 _ _ pn.1 pn.2.1 pn.2.2 hp)
  · rintro i x σ H4 H5 hi ⟨S', Cp', W', hs, v, rfl, o4, iv4, hd4, hN4, hl4, su4, hf4, fr4⟩ ⟨rfl, hx⟩
    rw [List.getElem?_map] at hx
    obtain ⟨y, hy, rfl⟩ : ∃ y, S[i]? = some y ∧ x = .int y.1 := by
      cases e : S[i]? with
      | none => rw [e] at hx; cases hx
      | some m => rw [e] at hx; cases hx; exact ⟨m, rfl, rfl⟩
    obtain ⟨m, t⟩ := y
    obtain ⟨dx4, hob4⟩ := o4.ob
    rw [List.length_map] at hi
    have hSl : S.length ≤ S0.length := by omega
    change tIfS _ _ _ _ [some (.ref a), some (.int sp), some (.ref D), some (.ref D2), some (.int m), none] _
    refine ⟨_, rfl, _, rfl, a, C, dx4, _, .ref sa, rfl, hob4, k.cl, k.sources, by rfl, sa, _, rfl, .inl ⟨kvS S', Sum.inl m, .inl o4.src, rfl, rfl⟩, _, rfl, ?_⟩
    rw [kvS_look]
    cases e : lk S' m with
    | none =>
      refine iteF ⟨S', Cp', W', hs, _, rfl, o4, iv4, hd4, hN4, by omega, su4, fun q hq => ?_, fr4⟩
      rcases (take_get hy).mp hq with z | rfl
      · exact hf4 _ z
      · exact e
    | some t' =>
      have ne : lk S' m ≠ none := by rw [e]; exact fun z => nomatch z
      have free4 : ∀ m, lk S' m ≠ none → ∃ m', lk S0 m' = some (.mk m) := fun m hm => free m fun z => hm (su4 m z)
      have su := iv4.sur free4
      have cl := su.closed iv4.nd
      obtain ⟨ws, hw, hws⟩ := o4.wr
      obtain ⟨cs, hc, hcl, hcx⟩ := o4.cpy
      have gm := (o4.gs _ _ e).1
      have hwl := hws.len
      refine iteT ⟨_, rfl, a, C, dx4, _, .ref wa, rfl, hob4, k.cl, k.written, by rfl, .inl ⟨rfl, _, SqL.of hw⟩, _, rfl, _, rfl, by show 3 ≤ sizeLine; decide, fun r nr => ?_⟩
      have e0 := upd_id o4.src
      have o5 := RwObj.row (r := .cp sp m) o4 hw hws (by rw [e0]; exact nr) (fun _ _ z => z) ⟨gsp, gm⟩
      rw [e0] at o5
      have fr5 : ∀ b o, b ≠ wa → H5 b = some o → (upd (upd H5 r (.tup (rwV (.cp sp m)))) wa (.lst (ws ++ [.ref r]))) b = some o := fun b o b1 e => by
        rw [upd_ne b1, upd_ne (ne_of_none e nr)]
        exact e
      have ewc : ca ≠ wa := fun z => by rw [z, hw] at hc; cases hc
      have ewa : a ≠ wa := fun z => by rw [z, hw] at hob4; cases hob4
      refine ⟨wa, ws, .ref r, rfl, rfl, by rw [upd_ne (ne_of_none hw nr)]; exact hw, small1000 (by omega), ?_⟩
      have hob5 := fr5 a _ ewa hob4
      have hc5 := fr5 ca _ ewc hc
      have o6 := RwObj.cput (j := m) o5 gsp hc5 (by rw [List.length_append]; show cs.length < W'.length + 1; omega) hcx
      refine ⟨_, rfl, _, rfl, a, C, dx4, _, .ref ca, rfl, hob5, k.cl, k.copies, by rfl, _, rfl, ca, _, rfl, .inl ⟨cs, Sum.inl m, hc5, rfl, small1000 (by omega), rfl⟩, ?_⟩
      obtain ⟨dx6, hob6⟩ := o6.ob
      have iv6 := iv4.head cl n0 ne
      have hd6 := hd4.head iv4 su ne
      refine ⟨_, rfl, a, dx6, _, rfl, hob6, rfl, _, rfl, G, a, sa, wa, ca, m, sp, S0, S', (m, sp) :: Cp', W' ++ [Rw.cp sp m], m :: hs, S0.length + hs.length + 1, rfl, o6, by rw [runs_snoc]; exact iv6, hd6, fun _ => .inl (by rw [LmS.lk_cons, if_pos rfl]; exact fun z => nomatch z), n0, nsp, by rw [List.length_append]; show W'.length + 1 + _ = _; omega, by omega, fun H' S'' Cp'' W'' fr' o' iv' hd' hN' sub' hm' => ?_⟩
      refine ⟨S'', Cp'', W'', m :: hs, _, rfl, o', iv', hd', by rw [hN', List.length_cons]; omega, by rw [List.length_cons]; omega, fun x z => sub' x (su4 x z), fun q hq => ?_, fun b o b1 b2 b3 z => fr' b o b1 b2 b3 ?_⟩
      · rcases (take_get hy).mp hq with z | rfl
        · exact sub' _ (hf4 _ z)
        · exact hm'
      · rw [upd_ne b3]
        exact fr5 b o b2 (fr4 b o b1 b2 b3 z)
  rintro σ H4 ⟨S', Cp', W', hs, v, rfl, o4, iv4, hd4, hN4, hl4, su4, hf4, fr4⟩
  rw [List.length_map, List.take_length] at hf4
  have hnil : S' = [] := empty_of fun m => by
    cases e : lk S m with
    | none => exact su4 m e
    | some t => exact hf4 _ (lk_mem e)
  subst hnil
  refine q H4 Cp' W' hs (fun b o b1 b2 b3 e => fr4 b o b1 b2 b3 (fD _ _ (fr b o b1 b2 b3 (fC b o e)))) o4 (fun m hm => ?_) hd4.done (by simpa using hN4)
  cases e : lk S0 m with
  | none => exact iv4.i3a m (.inr e) hm
  | some t => rw [iv4.i3b m t e rfl]; cases t <;> rfl
end
end Lm

/-! enumerate of a tuple. -/
namespace L2
open PySem PySem.Spec PyProof.Rows
set_option maxHeartbeats 1000000 in
theorem meets_enum1 {v : Value} {ob : Obj} {G : Heap → Prop} (B : Begins v ob G) :
    Meets (Builtin.«enumerate.__new__» ⟨[.type "enumerate", v], []⟩) (fun _ R s => G s.heap ∧
      R (.ok (.ret (.ref (s.heap.push ob).objs.size))) { s with heap := (s.heap.push ob).push { cls := .type "enumerate", data := .fields #[.none, .bool false, .ref s.heap.objs.size, rawInt 0, .none, .none] } }) :=
  .of_wp fun prog w A R st0 hyp => by
    obtain ⟨h0, gens0, dr0, tok0, os0⟩ := st0; obtain ⟨hg, hyp⟩ := hyp
    have hsub := sub_enumerate
    have nxt : ∀ {A' : Around} {E : Value → Shared → Prop} {Q : Value → Shared → Prop}, Q (.ref h0.objs.size) ⟨h0.push ob, gens0, dr0, tok0, os0⟩ → wpAny (model prog w) A' (pyIter v) Q E ⟨h0, gens0, dr0, tok0, os0⟩ := fun q => B.iter prog w _ _ ⟨h0, gens0, dr0, tok0, os0⟩ _ hg q
    wp_walk using nxt
    refine wpAny_stack_any (fun stk => wpAny_pure ?_)
    split
    · rename_i c _ _ _ _ _
      cases (c == Value.type "enumerate") <;> (wp_walk using nxt; exact ⟨_, rfl, hyp⟩)
    · wp_walk using nxt
      exact ⟨_, rfl, hyp⟩
theorem call_enumT {prog : Program} {w : World} {A : Around} {E : Value → Shared → Prop} {s : Shared} {v : Value} {ob : Obj} {G : Heap → Prop} {Q : Value → Shared → Prop} (B : Begins v ob G) (hg : G s.heap)
    (h : ∀ h', IsEnum h' (s.heap.objs.size + 1) s.heap.objs.size 0 .none → h'.get? s.heap.objs.size = some ob → (∀ b x, s.heap.get? b = some x → h'.get? b = some x) → Q (.ref (s.heap.objs.size + 1)) { s with heap := h' }) : wpAny (model prog w) A (call (.type "enumerate") [v]) Q E s := by
  refine callType_new F.called_enumerate (by decide) (F.typeCall_enumerate_1 _) (F.newCall_enumerate_1 _) (fun obj => F.args_object_init_2 obj _) F.entry_enumerate_new (meets_enum1 B) ⟨hg, ?_⟩
  have sz : (s.heap.push ob).objs.size = s.heap.objs.size + 1 := Heap.size_push ..
  have en : ((s.heap.push ob).push { cls := .type "enumerate", data := .fields #[.none, .bool false, .ref s.heap.objs.size, rawInt 0, .none, .none] }).get? (s.heap.objs.size + 1) = some { cls := .type "enumerate", data := .fields #[.none, .bool false, .ref s.heap.objs.size, rawInt 0, .none, .none] } := by
    rw [← sz]
    exact Heap.get?_push_size _ rfl
  show _ ∧ _
  rw [sz]
  exact ⟨⟨_, en, rfl⟩, h _ en (Heap.get?_push_of_some _ (Heap.get?_push_size _ B.free)) fun b x e => Heap.get?_push_of_some _ (Heap.get?_push_of_some _ e)⟩
/-- the tuple at a, each item in a new pair behind its number -/
def IteT (K : PySem.W.Frag) (a : Addr) : It := ⟨fun i H => ∃ (xs : List V) (x : V), SqT K H a xs ∧ xs[i]? = some x,
  fun i H v H' => ∃ T x, v = .ref T ∧ H T = none ∧ H' = upd H T (.tup [.int (i : Nat), x]) ∧ ∀ xs, SqT K H a xs → xs[i]? = some x, fun i H => ∃ xs : List V, SqT K H a xs ∧ xs.length ≤ i⟩
theorem walk_enumT {K : PySem.W.Frag} {a : Addr} {xs : List V} : Walk (IteT K a) xs.length (fun H => SqT K H a xs) (YPair (fun i => some (.int (i : Nat))) (fun i => xs[i]?)) := by
  refine ⟨fun i _ hi q => ⟨xs, xs[i], q, by simp [hi]⟩, fun _ q => ⟨xs, q, Nat.le_refl _⟩, fun i H v H' hi q y => ?_⟩
  obtain ⟨T, x, rfl, h2, h3, h4⟩ := y
  exact ⟨T, _, x, rfl, h2, h3, rfl, h4 xs q⟩
theorem turn_enumT {P : Program} {w : World} {K : PySem.W.Frag} {elts : List Expr} {kk : Nat} {tpos : Pos} (a e it : Addr) :
    Turn P w K (.Tuple elts kk tpos) (IteT K a) [e, it] e (fun i h => (∃ old, IsEnum h e it ((i : Nat) : Int) old) ∧ h.IsTupleIter it a i ∧ (e ≠ it ∧ it ≠ a ∧ e ≠ a)) where
  mem := List.mem_cons_self ..
  obj := fun i h st b hb => by
    obtain ⟨⟨old, he⟩, ⟨o, ho, _, hd⟩, _⟩ := st
    rcases List.mem_cons.mp hb with z | z
    · subst z
      exact ⟨_, he, fun v q => nomatch q⟩
    · have z := List.mem_singleton.mp z
      subst z
      exact ⟨o, ho, fun v q => by rw [hd] at q; cases q⟩
  keep := fun i h h' ⟨⟨old, he⟩, hi, hne⟩ k => ⟨⟨old, k e (List.mem_cons_self ..) _ he⟩, hi.at fun o q => k it (List.mem_cons_of_mem _ (List.mem_cons_self ..)) o q, hne⟩
  item := by
    rintro X rfl rfl rfl calm i pins s σ H E inv hf ⟨⟨old, he⟩, hit, hne, hia, hea⟩ ⟨xs, x, hq, hx⟩
    obtain ⟨its, rv, p, hz⟩ := inv.tuple hq
    obtain ⟨u, hu, ru⟩ := rv.get hx
    have le : e < s.heap.objs.size := Heap.lt_size he
    have li : it < s.heap.objs.size := by obtain ⟨_, q, _⟩ := hit; exact Heap.lt_size q
    have tp : s.heap.IsTuple a its.toArray := p
    have il : i < its.toArray.size := by
      have z := (List.getElem?_eq_some_iff.mp hu).1
      rw [List.size_toArray]
      exact z
    refine wpAny_pyNext_enum_itemD (fp := [it, a]) (St := fun i h => h.IsTupleIter it a i ∧ h.IsTuple a its.toArray) (Draws.tuple (show X.A.in1.handled = none from inv.ok.hd calm) it a (Ne.symm hia) its.toArray) he ⟨hit, tp⟩ il hne (fun q => ?_) fun y h1 tk hy ho st1 hT hsz hk => ?_
    · rcases List.mem_cons.mp q with q | q
      · exact hne q
      · exact hea (List.mem_singleton.mp q)
    have ey : y = u := by
      have z : its[i]? = some y := by simpa using hy
      rw [hu] at z
      exact (Option.some.inj z).symm
    subst ey
    refine ⟨_, rfl, wpAny_letOwnedTupleGo_enum (s := { s with heap := h1, toks := tk + 1 }) ho fun h2 he2 sb => ?_⟩
    have hT2 : h2.get? s.heap.objs.size = some { cls := .type "tuple", data := .seq #[.int i tk, y] } := (sb.2 _ (Nat.ne_of_gt le)).trans hT
    have nob : ObjOk X.prog X.w (upd H s.heap.objs.size (.tup [.int (i : Nat), x])) h2 s.heap.objs.size (.tup [.int (i : Nat), x]) := ⟨by show 2 ≤ sizeLine; decide, [.int i tk, y], .cons ⟨_, rfl⟩ (.cons ru .nil), ⟨_, hT2, rfl, _, rfl⟩⟩
    have mem1 : ∀ {b : Addr}, b ∉ [e, it] → b ≠ e ∧ b ≠ it := fun {b} hb => ⟨fun q => hb (by rw [q]; exact List.mem_cons_self ..), fun q => hb (by rw [q]; exact List.mem_cons_of_mem _ (List.mem_cons_self ..))⟩
    have I1 : Inv X pins σ (upd H s.heap.objs.size (.tup [.int (i : Nat), x])) { s with heap := h2, toks := tk + 1 } := inv.turnedNew (ch := [e, it]) (fun b ob hb q => (sb.2 b (mem1 hb).1).trans (hk b ob (mem1 hb).1 (mem1 hb).2 q)) hf (Nat.le_refl _) nob
    refine ⟨.ref s.heap.objs.size, _, I1, rfl, ⟨_, x, rfl, inv.hok.fresh (Nat.le_refl _), rfl, fun ys hy => by rw [inv.tuple_inj hy hq]; exact hx⟩, ⟨⟨y, he2⟩, st1.1.at fun o q => (sb.2 it (Ne.symm hne)).trans q, hne, hia, hea⟩, fun b hb => ?_⟩
    have lb : b < s.heap.objs.size := (List.mem_cons.mp hb).elim (fun z => by rw [z]; exact le) fun z => by rw [List.mem_singleton.mp z]; exact li
    rw [upd_ne (Nat.ne_of_lt lb)]
    exact (hf b hb).1
  done := by
    rintro X rfl rfl rfl calm i pins s σ H E inv hf ⟨⟨old, he⟩, hit, hne, hia, hea⟩ ⟨xs, hq, hx⟩
    obtain ⟨its, rv, p, hz⟩ := inv.tuple hq
    have tp : s.heap.IsTuple a its.toArray := p
    obtain ⟨f0, f1, f2, f3, f4, f5⟩ := hf it (List.mem_cons_of_mem _ (List.mem_cons_self ..))
    have hl := rv.length
    have D : Draws X.prog X.w X.A.in1 it [it, a] i (fun _ _ => True) (fun j h => j = i ∧ h.IsTupleIter it a i ∧ h.IsTuple a its.toArray) := ⟨fun _ _ st => let ⟨o, ho, _⟩ := st.2.1; ⟨o, ho⟩,
      fun _ _ _ st k => ⟨st.1, st.2.1.at fun o q => k it (List.mem_cons_self ..) o q, st.2.2.at fun o q => k a (List.mem_cons_of_mem _ (List.mem_cons_self ..)) o q⟩, fun j _ _ _ hj st _ => absurd st.1 (Nat.ne_of_lt hj),
      fun s Q E st hE => wpAny_nextOf_tuple_end (show X.A.in1.handled = none from inv.ok.hd calm) st.2.1 st.2.2 (by simp; omega) hE⟩
    exact wpAny_pyNext_enum_endD D he ⟨rfl, hit, tp⟩ fun h' eb => ⟨rfl, inv.turned (t' := s.toks) (fun b o hb q => eb b o hb q) f0 f1 f3 f4 f5⟩
  self := fun A i s Q E ⟨⟨_, he⟩, _⟩ q => wpAny_pyIter_enum he q
def iEnumT (K : PySem.W.Frag) (ta : TA) : TI := fun σ H R => ta σ H fun vs H1 => ∃ a xs, vs = [.ref a] ∧ SqT K H1 a xs ∧ R (IteT K a) H1
theorem pi_enumT {X : Cx} {e : Expr} {ta : TA} {p pos tpos : Pos} {elts : List Expr} {kk : Nat} (hg : Gl X "enumerate") (hm : X.mg "enumerate" = none) (ha : PA X [e] ta) (one : starEach [e] X.env = [(false, eval e X.env)] := by rfl) :
    PI X (.Tuple elts kk tpos) (.Call (.Name "enumerate" p) [e] [] pos) (iEnumT X.K ta) := by
  refine ⟨fun pins s σ H R inv red => ?_⟩
  refine Call_ (ld_blt inv hg hm boot_enumerate (PyProof.Rows.callWith_type1 (thn (ha.run pos pins s σ H _ inv red) fun us s1 ⟨vs, H1, I1, r1, a, xs, ex, hq, q⟩ => ?_) one rfl))
  subst ex
  obtain ⟨u, rfl, ru⟩ := vals1 r1
  obtain rfl : u = Value.ref a := ru
  obtain ⟨its, rv, tp, hz⟩ := I1.tuple hq
  have tp' : s1.heap.IsTuple a its.toArray := tp
  have la : a < s1.heap.objs.size := by obtain ⟨_, z, _⟩ := tp'; exact Heap.lt_size z
  refine call_enumT (begins_tuple a its.toArray) tp' fun h' he hit hk => wpAny_pyIter_enum he ?_
  have I2 : Inv X pins σ H1 { s1 with heap := h' } := I1.kept (t' := s1.toks) hk
  refine ⟨s1.heap.objs.size + 1, [s1.heap.objs.size + 1, s1.heap.objs.size], _, _, H1, rfl, I2, turn_enumT a (s1.heap.objs.size + 1) s1.heap.objs.size, ⟨⟨.none, he⟩, ⟨_, hit, rfl, rfl⟩, Nat.succ_ne_self _, Nat.ne_of_gt la, Nat.ne_of_gt (Nat.lt_succ_of_lt la)⟩, fun b hb => ?_, q⟩
  have le : s1.heap.objs.size ≤ b := (List.mem_cons.mp hb).elim (fun z => by rw [z]; exact Nat.le_succ _) fun z => Nat.le_of_eq (List.mem_singleton.mp z).symm
  exact I1.fpOk le (I1.hok.fresh le)
/-- enumerate(row) -/
theorem pi_enumR {X : Cx} {e : Expr} {ta : TA} {p pos tpos : Pos} {elts : List Expr} {kk : Nat} (hg : Gl X "enumerate") (hm : X.mg "enumerate" = none) (ha : PA X [e] ta) (one : starEach [e] X.env = [(false, eval e X.env)] := by rfl) :
    PI X (.Tuple elts kk tpos) (.Call (.Name "enumerate" p) [e] [] pos) (fun σ H R => iEnum X.K ta σ H R ∨ iEnumT X.K ta σ H R) := pi_or (pi_enum hg hm ha one) (pi_enumT hg hm ha one)
end L2

/-! What a write is. -/
namespace Lm
open PySem PySem.Spec PyProof.Rows L2 LmS
open C8 (fnScope_by pe_gc pss_cut tCut Cal pe_c)
abbrev sIsRow : Stmt := top 5
abbrev sIsTuple : Stmt := top 6
abbrev sIsInt : Stmt := top 7
abbrev sIsMark : Stmt := top 9
abbrev sIsWrite : Stmt := top 10
abbrev sMarksOf : Stmt := top 11
structure Bn (mg : Str → Option Value) : Prop where
  isi : mg "isinstance" = none
  lst : mg "list" = none
  tup : mg "tuple" = none
  str : mg "str" = none
  int : mg "int" = none
  bool : mg "bool" = none
  len : mg "len" = none
  any : mg "any" = none
  enu : mg "enumerate" = none
  dct : mg "dict" = none
  zip : mg "zip" = none
  rng : mg "range" = none
  min : mg "min" = none
/-! ### mirrors -/
def at0 (d : PyData) : PyData := (items d).getD 0 .none
def at1 (d : PyData) : PyData := (items d).getD 1 .none
def isTupN (d : PyData) (n : Int) : Bool := isTup d && decide (((items d).length : Int) = n)
def isIb : PyData → Bool
  | .int _ => true | .bool _ => true | _ => false
def isBb : PyData → Bool
  | .bool _ => true | _ => false
def isIntD : PyData → Bool
  | .int _ => true | _ => false
def isMarkD : PyData → Bool
  | .int i => decide (0 ≤ i) | _ => false
def isWhat : PyData → Bool
  | .str x => decide (x = "on") || decide (x = "off")
  | d => isMarkD d
def isWr (d : PyData) : Bool := isTupN d 2 && (isMarkD (at0 d) && isWhat (at1 d))
theorem isTup_of {d : PyData} {n : Int} (h : isTupN d n = true) : ∃ ds, d = .tuple ds ∧ (ds.length : Int) = n := by
  unfold isTupN at h
  rw [Bool.and_eq_true] at h
  cases d with
  | tuple ds => exact ⟨ds, rfl, of_decide_eq_true h.2⟩
  | _ => exact nomatch h.1
section
variable {P : Program} {w : World} {K : PySem.W.Frag} {mg : Str → Option Value} {base : Heap}
theorem kit_int : ∀ d : PyData, PySem.W.kitOne K (.type (tyD d)) (.type "int") = some (isIb d)
  | .none => kit_ty (a := "NoneType") (b := "int") (r := false) (by decide +kernel)
  | .bool _ => kit_ty (a := "bool") (b := "int") (r := true) (by decide +kernel)
  | .int _ => kit_ty (a := "int") (b := "int") (r := true) (by decide +kernel)
  | .str _ => kit_ty (a := "str") (b := "int") (r := false) (by decide +kernel)
  | .list _ => kit_ty (a := "list") (b := "int") (r := false) (by decide +kernel)
  | .tuple _ => kit_ty (a := "tuple") (b := "int") (r := false) (by decide +kernel)
  | .dict _ => kit_ty (a := "dict") (b := "int") (r := false) (by decide +kernel)
theorem kit_bool : ∀ d : PyData, PySem.W.kitOne K (.type (tyD d)) (.type "bool") = some (isBb d)
  | .none => kit_ty (a := "NoneType") (b := "bool") (r := false) (by decide +kernel)
  | .bool _ => kit_ty (a := "bool") (b := "bool") (r := true) (by decide +kernel)
  | .int _ => kit_ty (a := "int") (b := "bool") (r := false) (by decide +kernel)
  | .str _ => kit_ty (a := "str") (b := "bool") (r := false) (by decide +kernel)
  | .list _ => kit_ty (a := "list") (b := "bool") (r := false) (by decide +kernel)
  | .tuple _ => kit_ty (a := "tuple") (b := "bool") (r := false) (by decide +kernel)
  | .dict _ => kit_ty (a := "dict") (b := "bool") (r := false) (by decide +kernel)
def spB1 (K : PySem.W.Frag) (g : PyData → Bool) : Sp := fun vs H Q _ => ∃ v d, vs = [v] ∧ Dx K H v d ∧ ∀ H', Same H H' → Q (.bl (g d)) H'
def spTupN (K : PySem.W.Frag) : Sp := fun vs H Q _ => ∃ v d n, vs = [v, .int n] ∧ Dx K H v d ∧ Q (.bl (isTupN d n)) H
theorem len1 {g : PyData → Bool} : ∀ vs H Q E, spB1 K g vs H Q E → vs.length = 1 := fun vs H Q E h => by
  obtain ⟨v, d, rfl, _⟩ := h
  rfl
theorem calOf {x : Str} {st : Stmt} {f : Addr} {fd : FuncData} {ps : List Str} {k : Nat} {sp : Sp} (F : Fun K x x st f fd) (g : mg x = some (.ref f)) (b : Binds K fd ps []) (ok : FnOk P w K mg base CX0 k f fd ps sp) : Cal P w K mg base k x sp [] := ⟨f, fd, ps, [], ok, g, F.kp, b, .nil⟩
theorem scIsRow : FnScope ["value"] ["value"] (defScope sIsRow) := fnScope_by (by decide +kernel)
theorem cIsRow {f : Addr} {fd : FuncData} (F : Fun K "is_row" "is_row" sIsRow f fd) (B : Bn mg) : FnOk P w K mg base CX0 1 f fd ["value"] (spB1 K isRow) := by
  refine F.ok scIsRow len1 (fun cdv A outer s H vs Q E hr h => ?_)
  obtain ⟨v, d, rfl, hd, q⟩ := h
  refine ⟨_, pss_one (ps_ret (pe_callB call_isiT (by rfl) B.isi boot_isinstance (pa_cons (pv 0) (pa_cons (pe_tup (pa_cons (pe_bltn (v := .ty "list") (by rfl) B.lst boot_list rfl) (pa_cons (pe_bltn (v := .ty "tuple") (by rfl) B.tup boot_tuple rfl) pa_nil))) pa_nil)))), ?_⟩
  refine ⟨_, rfl, (by show 2 ≤ sizeLine; decide), fun p np => ?_⟩
  exact ⟨v, p, _, _, _, _, rfl, upd_same, .cons (.ty _) (.cons (.ty _) .nil), (Dx.mono (same_upd np) hd).ty, kit_row d, q _ (same_upd np)⟩
theorem scIsTuple : FnScope ["value", "size"] ["value", "size"] (defScope sIsTuple) := fnScope_by (by decide +kernel)
theorem cIsTuple {f : Addr} {fd : FuncData} (F : Fun K "is_tuple" "is_tuple" sIsTuple f fd) (B : Bn mg) : FnOk P w K mg base CX0 1 f fd ["value", "size"] (spTupN K) := by
  refine F.ok scIsTuple (fun vs H Q E h => ?_) (fun cdv A outer s H vs Q E hr h => ?_)
  · obtain ⟨v, d, n, rfl, _⟩ := h
    rfl
  obtain ⟨v, d, n, rfl, hd, q⟩ := h
  refine ⟨_, pss_one (ps_ret (pe_and (pe_callB call_isi (by rfl) B.isi boot_isinstance (pa_cons (pv 0) (pa_cons (pe_bltn (v := .ty "tuple") (by rfl) B.tup boot_tuple rfl) pa_nil)))
    (pe_one (pe_cmpR op_eq (pe_callB call_len_seq (by rfl) B.len boot_len (pa_cons (pv 0) pa_nil)) (pv 1) (nomark _))))), ?_⟩
  refine ⟨_, rfl, v, _, _, _, _, rfl, .ty _, hd.ty, kit_tup d, _, rfl, ?_⟩
  cases ht : isTup d with
  | false =>
    refine iteF ?_
    have e : isTupN d n = false := by unfold isTupN; rw [ht]; rfl
    rw [e] at q
    exact q
  | true =>
    refine iteT ?_
    cases d with
    | tuple ds =>
      obtain ⟨a, xs, rfl, hs, ha⟩ := hd.tupOf
      refine ⟨_, rfl, a, xs, rfl, .inr hs, _, rfl, rfl, ?_⟩
      have e : isTupN (.tuple ds) n = decide ((V.int (xs.length : Int)) = V.int n) := by
        unfold isTupN
        rw [ht, ha.len, Bool.true_and]
        exact decide_eq_decide.mpr ⟨fun h => congrArg V.int h, fun h => V.int.inj h⟩
      rw [e] at q
      exact q
    | _ => cases ht
theorem scIsInt : FnScope ["value"] ["value"] (defScope sIsInt) := fnScope_by (by decide +kernel)
theorem cIsInt {f : Addr} {fd : FuncData} (F : Fun K "is_integer" "is_integer" sIsInt f fd) (B : Bn mg) : FnOk P w K mg base CX0 1 f fd ["value"] (spB1 K isIntD) := by
  refine F.ok scIsInt len1 (fun cdv A outer s H vs Q E hr h => ?_)
  obtain ⟨v, d, rfl, hd, q⟩ := h
  refine ⟨_, pss_one (ps_ret (pe_and (pe_callB call_isi (by rfl) B.isi boot_isinstance (pa_cons (pv 0) (pa_cons (pe_bltn (v := .ty "int") (by rfl) B.int boot_int rfl) pa_nil)))
    (pe_one (pe_not (pe_callB call_isi (by rfl) B.isi boot_isinstance (pa_cons (pv 0) (pa_cons (pe_bltn (v := .ty "bool") (by rfl) B.bool boot_bool rfl) pa_nil))))))), ?_⟩
  refine ⟨_, rfl, v, _, _, _, _, rfl, .ty _, hd.ty, kit_int d, _, rfl, ?_⟩
  have qq := q H (Same.refl H)
  cases hd with
  | bl b => exact iteT ⟨_, rfl, _, _, _, _, _, rfl, .ty _, (Dx.bl b).ty, kit_bool (.bool b), _, rfl, qq⟩
  | int i => exact iteT ⟨_, rfl, _, _, _, _, _, rfl, .ty _, (Dx.int i).ty, kit_bool (.int i), _, rfl, qq⟩
  | _ => exact iteF qq
theorem scIsMark : FnScope ["value"] ["value"] (defScope sIsMark) := fnScope_by (by decide +kernel)
theorem cIsMark {f : Addr} {fd : FuncData} (F : Fun K "is_mark" "is_mark" sIsMark f fd) (c : Cal P w K mg base 1 "is_integer" (spB1 K isIntD) []) : FnOk P w K mg base CX0 2 f fd ["value"] (spB1 K isMarkD) := by
  refine F.ok scIsMark len1 (fun cdv A outer s H vs Q E hr h => ?_)
  obtain ⟨v, d, rfl, hd, q⟩ := h
  refine ⟨_, pss_one (ps_ret (pe_and (pe_c c hr (by decide) (by rfl) (pa_cons (pv 0) pa_nil)) (pe_one (pe_cmpR op_ge (pv 0) pe_int (nomark _))))), ?_⟩
  refine ⟨_, rfl, v, d, rfl, hd, fun H1 s1 => ⟨_, rfl, ?_⟩⟩
  have qq := q H1 s1
  cases hd with
  | int i => exact iteT ⟨_, rfl, _, _, rfl, rfl, qq⟩
  | _ => exact iteF qq
/-- the parts of a pair -/
theorem pair_at {H : Hp} {v : V} {d : PyData} (h : Dx K H v d) (e : isTupN d 2 = true) : ∃ a z0 z1, v = .ref a ∧ SqT K H a [z0, z1] ∧ Dx K H z0 (at0 d) ∧ Dx K H z1 (at1 d) := by
  obtain ⟨ds, rfl, hl⟩ := isTup_of e
  obtain ⟨a, xs, rfl, hs, ha⟩ := h.tupOf
  cases ha with
  | nil => exact absurd hl (by decide)
  | cons h0 ha =>
    cases ha with
    | nil => exact absurd hl (by simp)
    | cons h1 ha =>
      cases ha with
      | nil => exact ⟨a, _, _, rfl, hs, h0, h1⟩
      | cons h2 ha => exact absurd hl (by simp only [List.length_cons]; omega)
theorem in_strs (x : Str) (ns : List Str) : inV (.str x) (ns.map V.str) = ns.contains x := by
  unfold inV
  rw [List.any_map]
  show ns.any (fun y => y == x) = ns.contains x
  rw [← List.any_beq']
theorem in_two (x a b : Str) : inV (.str x) ([a, b].map V.str) = (decide (x = a) || decide (x = b)) := by
  rw [in_strs, List.contains_cons, List.contains_cons, List.contains_nil, Bool.or_false]
  rfl
theorem scIsWrite : FnScope ["value"] ["value"] (defScope sIsWrite) := fnScope_by (by decide +kernel)
theorem cIsWrite {f : Addr} {fd : FuncData} (F : Fun K "is_write" "is_write" sIsWrite f fd) (B : Bn mg) (c1 : Cal P w K mg base 1 "is_tuple" (spTupN K) []) (c2 : Cal P w K mg base 2 "is_mark" (spB1 K isMarkD) []) : FnOk P w K mg base CX0 3 f fd ["value"] (spB1 K isWr) := by
  refine F.ok scIsWrite len1 (fun cdv A outer s H vs Q E hr h => ?_)
  obtain ⟨v, d, rfl, hd, q⟩ := h
  refine ⟨_, pss_cons (ps_if (PW.pt (pw_or (pt_not (pt_val (pe_c c1 hr (by decide) (by rfl) (pa_cons (pv 0) (pa_cons pe_int pa_nil))))) (pw_or1 (pt_not (pt_val (pe_c c2 hr (by decide) (by rfl) (pa_cons (pe_ix ix_tup (pv 0) pe_int (fun _ _ => rfl)) pa_nil))))))) (pss_one (ps_ret pe_bl)) pss_nil)
    (pss_cons (ps_if (pt_val (pe_callB call_isi (by rfl) B.isi boot_isinstance (pa_cons (pe_ix ix_tup (pv 0) pe_int (fun _ _ => rfl)) (pa_cons (pe_bltn (v := .ty "str") (by rfl) B.str boot_str rfl) pa_nil))))
      (pss_one (ps_ret (pe_cmpR op_in_seq (pe_ix ix_tup (pv 0) pe_int (fun _ _ => rfl)) (pe_tup (pa_cons pe_str (pa_cons pe_str pa_nil))) (by rfl)))) pss_nil)
    (pss_one (ps_ret (pe_c c2 hr (by decide) (by rfl) (pa_cons (pe_ix ix_tup (pv 0) pe_int (fun _ _ => rfl)) pa_nil))))), ?_⟩
  refine ⟨_, rfl, v, d, 2, rfl, hd, _, rfl, ?_⟩
  have qe : ∀ {b : Bool} {H' : Hp}, isWr d = b → Same H H' → Q (.bl b) H' := fun e s' => by rw [← e]; exact q _ s'
  cases h1 : isTupN d 2 with
  | false => exact iteT (iteT (qe (by unfold isWr; rw [h1]; rfl) (Same.refl H)))
  | true =>
    obtain ⟨a, z0, z1, rfl, hs, h0, h2⟩ := pair_at hd h1
    have ew : isWr d = (isMarkD (at0 d) && isWhat (at1 d)) := by unfold isWr; rw [h1]; rfl
    refine iteF ⟨_, rfl, a, _, 0, z0, rfl, rfl, hs, rfl, z0, _, rfl, h0, fun H1 s1 => ⟨_, rfl, ?_⟩⟩
    have hs1 := sqt_same s1 hs
    have h21 := Dx.mono s1 h2
    cases h3 : isMarkD (at0 d) with
    | false => exact iteT (qe (by rw [ew, h3]; rfl) s1)
    | true =>
      rw [h3, Bool.true_and] at ew
      refine iteF ⟨_, rfl, a, _, 1, z1, rfl, rfl, hs1, rfl, z1, _, _, _, _, rfl, .ty _, h21.ty, kit_str _, _, rfl, ?_⟩
      cases h4 : at1 d with
      | str x =>
        rw [h4] at h21 ew
        obtain rfl := h21.strOf
        refine iteT ⟨_, rfl, a, _, 1, _, rfl, rfl, hs1, rfl, by show 2 ≤ sizeLine; decide, fun p np => ⟨p, (["on", "off"] : List Str).map V.str, rfl, .inr (.inl (.inl upd_same)), rfl, rfl, ?_⟩⟩
        rw [in_two]
        exact qe ew (s1.trans (same_upd np))
      | _ =>
        rw [h4] at h21
        refine iteF ⟨_, rfl, a, _, 1, z1, rfl, rfl, hs1, rfl, z1, _, rfl, h21, fun H2 s2 => ?_⟩
        rw [h4] at ew
        exact qe ew (s1.trans s2)
/-- a write as data -/
def dS : Sr → PyData
  | .con x => .str x
  | .mk j => .int j
def wD (p : Int × Sr) : PyData := .tuple [.int p.1, dS p.2]
def Ws : Sr → Prop
  | .con x => x = "on" ∨ x = "off"
  | .mk j => 0 ≤ j
theorem isWr_of {d : PyData} (h : isWr d = true) : ∃ m s, d = wD (m, s) ∧ 0 ≤ m ∧ Ws s := by
  unfold isWr at h
  rw [Bool.and_eq_true, Bool.and_eq_true] at h
  obtain ⟨h1, h2, h3⟩ := h
  obtain ⟨ds, rfl, hl⟩ := isTup_of h1
  match ds, hl with
  | [d0, d1], _ =>
    have e0 : at0 (.tuple [d0, d1]) = d0 := rfl
    have e1 : at1 (.tuple [d0, d1]) = d1 := rfl
    rw [e0] at h2
    rw [e1] at h3
    cases d0 with
    | int m =>
      refine ⟨m, ?_⟩
      have hm : 0 ≤ m := of_decide_eq_true h2
      cases d1 with
      | str x =>
        refine ⟨.con x, rfl, hm, ?_⟩
        have h3 : (decide (x = "on") || decide (x = "off")) = true := h3
        rw [Bool.or_eq_true, decide_eq_true_eq, decide_eq_true_eq] at h3
        exact h3
      | int j =>
        have h4 : decide (0 ≤ j) = true := h3
        have h5 : 0 ≤ j := of_decide_eq_true h4
        exact ⟨.mk j, rfl, hm, h5⟩
      | _ => exact nomatch h3
    | _ => exact nomatch h2
theorem wr_of {p : Int × Sr} (h0 : 0 ≤ p.1) (h1 : Ws p.2) : isWr (wD p) = true := by
  obtain ⟨m, s⟩ := p
  unfold isWr
  have e1 : isTupN (wD (m, s)) 2 = true := rfl
  have e2 : isMarkD (at0 (wD (m, s))) = true := decide_eq_true h0
  rw [e1, e2]
  cases s with
  | con x => exact show (decide (x = "on") || decide (x = "off")) = true by
              rw [Bool.or_eq_true, decide_eq_true_eq, decide_eq_true_eq]; exact h1
  | mk j =>
    have h2 : 0 ≤ j := h1
    show decide (0 ≤ j) = true
    exact decide_eq_true h2
theorem wd_at {H : Hp} {v : V} {p : Int × Sr} (h : Dx K H v (wD p)) : ∃ a, v = .ref a ∧ SqT K H a [.int p.1, vS p.2] := by
  obtain ⟨m, s⟩ := p
  obtain ⟨a, xs, rfl, hs, ha⟩ := h.tupOf
  refine ⟨a, rfl, ?_⟩
  cases ha with
  | cons h0 ha =>
    cases ha with
    | cons h1 ha =>
      cases ha
      cases h0
      cases s <;> cases h1 <;> exact hs
def marksS (p : Int × Sr) : List Int := p.1 :: match p.2 with
  | .mk j => [j]
  | .con _ => []
theorem call_isiK {X : Cx} (K : PySem.W.Frag) (h : X.K = K) : CallR X (.builtin "isinstance") (rIsi K) := by
  subst h
  exact call_isi
def spMarks (K : PySem.W.Frag) : Sp := fun vs H Q _ => ∃ v p, vs = [v] ∧ Dx K H v (wD p) ∧ ∀ H' l, Same H H' → H l = none → H' l = some (.lst ((marksS p).map V.int)) → Q (.ref l) H'
theorem scMarksOf : FnScope ["write", "part"] ["write"] (defScope sMarksOf) := fnScope_by (by decide +kernel)
theorem cMarksOf {f : Addr} {fd : FuncData} (F : Fun K "marks_of" "marks_of" sMarksOf f fd) (B : Bn mg) : FnOk P w K mg base CX0 1 f fd ["write"] (spMarks K) := by
  refine F.ok scMarksOf (fun vs H Q E h => ?_) (fun cdv A outer s H vs Q E hr h => ?_)
  · obtain ⟨v, p, rfl, _⟩ := h
    rfl
  obtain ⟨v, p, rfl, hd, q⟩ := h
  refine ⟨_, pss_one (ps_ret (pe_lc (own := [("part", 1)]) (g := gName 1) rfl scMarksOf.nd (pi_tup (pv 0)) (blkOk_by (N := ["write", "part"]) (sc := defScope sMarksOf) (by decide +kernel)) (fun _ _ _ _ _ => pg_name (i := 1) scMarksOf.nd rfl (Or.inl rfl))
    (fun _ _ _ _ _ => pts_one (pt_not (pt_val (pe_callB (call_isiK K rfl) (by rfl) B.isi boot_isinstance (pa_cons (pv 1) (pa_cons (pe_bltn (v := .ty "str") (by rfl) B.str boot_str rfl) pa_nil)))))) (fun _ _ _ _ _ => pv 1))), ?_⟩
  obtain ⟨a, rfl, hs⟩ := wd_at hd
  obtain ⟨m, s⟩ := p
  refine ⟨_, rfl, a, rfl, ⟨_, hs⟩, fun D nD => ?_⟩
  refine lc_it (walk_tup (K := K) (xs := [V.int m, vS s])) (fun i H' => H' D = some (.lst (((marksS (m, s)).take i).map V.int)) ∧ Same H H') ⟨upd_same, same_upd nD⟩ (fun i H' _ h => sqt_same h.2 hs) ?_ ?_
  · rintro i x H2 H3 hi ⟨h1, h2⟩ ⟨rfl, hx⟩
    have up : ∀ o, Same H (upd H3 D o) := fun o b e => by
      intro eb
      rw [upd_ne (ne_of_none eb nD)]
      exact h2 _ _ eb
    match i, hi with
    | 0, _ =>
      cases hx
      refine ⟨rfl, _, rfl, _, _, _, _, _, rfl, .ty _, (Dx.int (K := K) (H := H3) m).ty, kit_str (.int m), _, rfl, ?_⟩
      exact ⟨_, rfl, _, h1, by show 0 < sizeLine; decide, by rw [upd_same]; rfl, up _⟩
    | 1, _ =>
      cases hx
      cases s with
      | con y =>
        refine ⟨rfl, _, rfl, _, _, _, _, _, rfl, .ty _, (Dx.str (K := K) (H := H3) y).ty, kit_str (.str y), _, rfl, ?_⟩
        exact ⟨h1, h2⟩
      | mk j =>
        refine ⟨rfl, _, rfl, _, _, _, _, _, rfl, .ty _, (Dx.int (K := K) (H := H3) j).ty, kit_str (.int j), _, rfl, ?_⟩
        exact ⟨_, rfl, _, h1, by show 1 < sizeLine; decide, by rw [upd_same]; rfl, up _⟩
  · rintro H' ⟨h1, h2⟩
    refine q H' D h2 nD ?_
    rw [h1]
    cases s <;> rfl
end
end Lm

/-! check_writes, check_spare -/
namespace Lm
open PySem PySem.Spec PyProof.Rows L2 LmS
open C8 (fnScope_by pe_gc pss_cut tCut Cal pe_c)
abbrev sCheckW : Stmt := top 14
abbrev sCheckS : Stmt := top 15
abbrev mNwInit : Stmt := mth 2 0
abbrev mNsInit : Stmt := mth 3 0
section
variable {P : Program} {w : World} {K : PySem.W.Frag} {mg : Str → Option Value} {base : Heap} {CN CS : Addr}
/-! ### errors of one field -/
def spI (K : PySem.W.Frag) (fs : List Str) : Sp := fun vs H Q _ => ∃ (a C : Addr) (ws : List V), vs = .ref a :: ws ∧ ws.length = fs.length ∧ OexC K C ∧ (∀ f ∈ fs, PySem.W.findIn K (.ref C) f = some none) ∧ H a = some (exo a C none) ∧
  ∀ (H' : Hp) (dx : Addr), H dx = none → dx ≠ a → (∀ b, b ≠ a → b ≠ dx → H' b = H b) → H' a = some (exo a C (some dx)) → H' dx = some (exd dx (fs.zip ws).reverse) → Q .non H'
theorem lenI {fs : List Str} {n : Nat} (hn : n = fs.length + 1) : ∀ vs H Q E, spI K fs vs H Q E → vs.length = n := fun vs H Q E h => by
  obtain ⟨a, C, ws, rfl, hl, _⟩ := h
  rw [List.length_cons, hl, hn]
theorem end1 {H : Hp} {a C : Addr} {f : Str} {v : V} {Q : VK} (k : ∀ (H' : Hp) (dx : Addr), H dx = none → dx ≠ a → (∀ b, b ≠ a → b ≠ dx → H' b = H b) → H' a = some (exo a C (some dx)) → H' dx = some (exd dx ([f].zip [v]).reverse) → Q .non H') :
    ∀ dx, H dx = none → dx ≠ a → Q .non (upd (upd H dx (exd dx [(f, v)])) a (exo a C (some dx))) := fun dx nd ne =>
  k _ dx nd ne (fun b h1 h2 => by rw [upd_ne h1, upd_ne h2]) upd_same (by rw [upd_ne ne, upd_same]; rfl)
theorem scNw : FnScope ["self", "at"] ["self", "at"] (defScope mNwInit) := fnScope_by (by decide +kernel)
theorem kNw {f : Addr} {fd : FuncData} (F : Fun K "__init__" "NoWrites.__init__" mNwInit f fd) : FnOk P w K mg base CX0 1 f fd ["self", "at"] (spI K ["at"]) := by
  refine F.ok scNw (lenI rfl) (fun cdv A outer s H vs Q E hr h => ?_)
  obtain ⟨a, C, ws, rfl, hl, T, no, ha, k⟩ := h
  match ws, hl with
  | [v], _ => exact ⟨_, pss_one (ps_ost (pv 0) (pv 1)), _, rfl, _, rfl, a, C, rfl, T, no _ (List.mem_cons_self ..), .inl ⟨ha, end1 k⟩⟩
theorem scNs : FnScope ["self", "spare"] ["self", "spare"] (defScope mNsInit) := fnScope_by (by decide +kernel)
theorem kNs {f : Addr} {fd : FuncData} (F : Fun K "__init__" "NoSpare.__init__" mNsInit f fd) : FnOk P w K mg base CX0 1 f fd ["self", "spare"] (spI K ["spare"]) := by
  refine F.ok scNs (lenI rfl) (fun cdv A outer s H vs Q E hr h => ?_)
  obtain ⟨a, C, ws, rfl, hl, T, no, ha, k⟩ := h
  match ws, hl with
  | [v], _ => exact ⟨_, pss_one (ps_ost (pv 0) (pv 1)), _, rfl, _, rfl, a, C, rfl, T, no _ (List.mem_cons_self ..), .inl ⟨ha, end1 k⟩⟩
/-- what is known of an error class of one field -/
structure Er1 (P : Program) (w : World) (K : PySem.W.Frag) (mg : Str → Option Value) (base : Heap) (nm fld : Str) (CN : Addr) : Prop where
  g : mg nm = some (.ref CN)
  o : OexC K CN
  no : PySem.W.findIn K (.ref CN) fld = some none
  init : ∃ fI fd, PySem.W.findIn K (.ref CN) "__init__" = some (some (.ref fI)) ∧ PySem.W.typeIn K (.ref fI) = some (.type "function") ∧ FnOk P w K mg base CX0 1 fI fd ["self", fld] (spI K [fld]) ∧ Binds K fd ["self", fld] []
def tEr (CN : Addr) (fld : Str) (W : WX) (ta : TA) : TS := fun _ σ H => ta σ H fun vs H1 => ∃ v : V, vs = [v] ∧ ∀ (d : Addr) (H' : Hp), Same H1 H' → H1 d = none → H' d = some (.xd [(fld, v)]) → W (.ref CN) (some d) σ H'
theorem ps_er1 {X : Cx} {W : WX} {e1 : Expr} {ta : TA} {nm fld : Str} {p pos pos2 : Pos} (N : Er1 X.prog X.w X.K X.mg X.base nm fld CN) (hc : X.calm = true) (tk : Takes X W) {j : Nat} (hr : Room j X.A) (hj : 2 ≤ j) (ha : PA X [e1] ta) (hg : Gl X nm := by rfl) (hdb : (nm == ("__debug__" : Str)) = false := by decide)
    (he : starEach [e1] X.env = (false, eval e1 X.env) :: starEach [] X.env := by rfl) (hpl : (backTo pos (starEach [] X.env)).any (·.1) = false := by rfl) :
    PS X (.Raise (some (.Call (.Name nm p) [e1] [] pos)) none pos2) (tEr CN fld W ta) := by
  obtain ⟨fI, fd, i1, i2, i3, i4⟩ := N.init
  have ha2 : PA X [e1] (fun σ H Q => ∃ Q' : List V → Hp → Prop, ta σ H Q' ∧ ∀ vs H', Q' vs H' → Q vs H') := ⟨fun pos pins s σ H Q I ⟨Q', q, i⟩ => thn (ha.run pos pins s σ H Q' I q) fun us s1 ⟨vs, H1, I1, r1, q1⟩ => ⟨vs, H1, I1, r1, i _ _ q1⟩⟩
  have h := ps_raise (pos := pos2) hc tk (pmk_oex (p := p) (pos := pos) (CX := CX0) N.o i1 i2 i3 (hr.mono hj) i4 .nil pass0 hg N.g ha2 hdb he hpl)
  refine ⟨fun pins s σ H D I q => h.run pins s σ H D I ⟨_, q, fun vs H1 hv => ?_⟩⟩
  obtain ⟨v, rfl, q⟩ := hv
  refine ⟨(show 1 ≤ 1000 by decide), fun a na => ⟨a, CN, [v], rfl, rfl, N.o, (fun f hf => by rw [List.mem_singleton.mp hf]; exact N.no), upd_same, fun H' dx nd nda hk h1 h2 => ⟨rfl, dx, _, h1, h2, ?_, ?_⟩⟩⟩
  · rw [upd_ne nda] at nd
    exact nd
  · rw [upd_ne nda] at nd
    refine q dx _ (fun b o e => ?_) nd (by rw [upd_same]; rfl)
    have nb : b ≠ dx := ne_of_none e nd
    have nb2 : b ≠ a := ne_of_none e na
    rw [upd_ne nb, del_ne nb2, hk b nb2 nb, upd_ne nb2]
    exact e
theorem enum_row {K : PySem.W.Frag} {H Hb : Hp} {σ : L2.St} {ta : TA} {R : It → Hp → Prop} {a : Addr} {xs : List V} (e : SqL K Hb a xs ∨ SqT K Hb a xs) (sm : Same Hb H) (ht : ∀ k : List V → Hp → Prop, k [.ref a] H → ta σ H k)
    (go : ∀ (J : It) (G : Hp → Prop), (∀ H', Same Hb H' → G H') → Walk J xs.length G (YPair (fun i => some (.int (i : Nat))) (fun i => xs[i]?)) → R J H) : iEnum K ta σ H R ∨ iEnumT K ta σ H R := by
  rcases e with e | e
  · exact .inl (ht _ ⟨a, xs, rfl, sm.seq e, go _ _ (fun H' s => s.seq e) walk_enum⟩)
  · exact .inr (ht _ ⟨a, xs, rfl, sqt_same sm e, go _ _ (fun H' s => sqt_same s e) walk_enumT⟩)
theorem drop_at {α : Type} {xs : List α} {i : Nat} {x : α} (h : xs[i]? = some x) : xs.drop i = x :: xs.drop (i + 1) :=
  List.drop_eq_getElem_cons (List.getElem?_eq_some_iff.mp h).1 |>.trans (by rw [(List.getElem?_eq_some_iff.mp h).2])
/-! ### check_writes -/
def markOf : PyData → Int
  | d => match at0 d with
    | .int m => m
    | _ => 0
def chkGo (i : Nat) (known : List Int) : List PyData → Option Int
  | [] => none
  | e :: r => if isWr e = true ∧ markOf e ∉ known then chkGo (i + 1) (known ++ [markOf e]) r else some i
def chkW (d : PyData) : Option Int := if isRow d = true then chkGo 0 [] (items d) else some (-1)
def erX (CN : Addr) (fld : Str) (v : V) (H : Hp) (E : XK) : Prop := ∀ (dx : Addr) (H' : Hp), Same H H' → H dx = none → H' dx = some (.xd [(fld, v)]) → E (.ref CN) (some dx) H'
def spCW (K : PySem.W.Frag) (CN : Addr) : Sp := fun vs H Q E => ∃ v d, vs = [v] ∧ Dx K H v d ∧ (items d).length ≤ 1000 ∧ (chkW d = none → ∀ H', Same H H' → Q .non H') ∧ (∀ n, chkW d = some n → erX CN "at" (.int n) H E)
abbrev nsCW : List Str := ["writes", "known", "at", "write"]
theorem scCW : FnScope nsCW ["writes"] (defScope sCheckW) := fnScope_by (by decide +kernel)
theorem kCW {f : Addr} {fd : FuncData} (F : Fun K "check_writes" "check_writes" sCheckW f fd) (B : Bn mg) (N : Er1 P w K mg base "NoWrites" "at" CN) (c1 : Cal P w K mg base 1 "is_row" (spB1 K isRow) []) (c2 : Cal P w K mg base 3 "is_write" (spB1 K isWr) []) : FnOk P w K mg base (L2.CX P w) 4 f fd ["writes"] (spCW K CN) := by
  refine F.okX (k := 3) scCW (fun vs H Q E h => ?_) (fun cdv A outer s H vs Q E hr h => ?_)
  · obtain ⟨v, d, rfl, _⟩ := h
    rfl
  obtain ⟨v, d, rfl, hd, hz, q, qe⟩ := h
  have hu := hu_of hr
  refine ⟨_, pss_cons (ps_if (pt_not (pt_val (pe_c c1 hr (by decide) (by rfl) (pa_cons (pv 0) pa_nil)))) (pss_one (ps_er1 N rfl (takes_of rfl rfl rfl rfl) hr (by decide) (pa_cons (pe_un un_neg pe_int) pa_nil))) pss_nil)
    (pss_cons (ps_set (i := 1) scCW.nd rfl (.inl rfl) pe_dnewK)
    (pss_one (ps_for (passes_of rfl) rfl (pi_enumR (by rfl) B.enu (pa_cons (pv 0) pa_nil)) (pg_tupk K rfl (n := 2) rfl (pgs_cons (pg_name (i := 2) scCW.nd rfl (Or.inl rfl)) (pgs_cons (pg_name (i := 3) scCW.nd rfl (Or.inl rfl)) pgs_nil)))
      (pss_cons (ps_if (PW.pt (pw_or (pt_not (pt_val (pe_c c2 hr (by decide) (by rfl) (pa_cons (pv 3) pa_nil)))) (pw_or1 (pt_cmp (pc_din hu (pe_ix ix_tup (pv 3) pe_int (fun _ _ => rfl)) (pv 1)) (by rfl)))))
        (pss_one (ps_er1 N rfl (takes_of rfl rfl rfl rfl) hr (by decide) (pa_cons (pv 2) pa_nil))) pss_nil)
      (pss_one (ps_dput hu (pv 1) (pe_ix ix_tup (pv 3) pe_int (fun _ _ => rfl)) pe_bl rfl)))))), ?_⟩
  refine ⟨_, rfl, v, d, rfl, hd, fun H1 s1 => ⟨_, rfl, ?_⟩⟩
  have raise : ∀ (n : Int) (H' : Hp), Same H H' → chkW d = some n → ∀ (dd : Addr) (H2 : Hp), Same H' H2 → H' dd = none → H2 dd = some (.xd [("at", .int n)]) → E (.ref CN) (some dd) H2 := fun n H' s' e dd H2 s2 nd hh => qe n e dd H2 (s'.trans s2) (by
    cases z : H dd with
    | none => rfl
    | some o => rw [s' _ _ z] at nd; cases nd) hh
  cases hrow : isRow d with
  | false => exact iteT ⟨1, rfl, .int (-1), rfl, fun dd H2 s2 nd hh => raise (-1) H1 s1 (by unfold chkW; rw [hrow]; rfl) dd H2 s2 nd hh⟩
  | true =>
    refine iteF ?_
    have e0 : chkW d = chkGo 0 [] (items d) := by unfold chkW; rw [hrow, if_pos rfl]
    obtain ⟨ar, xs, rfl, hs, hax⟩ := (Dx.mono s1 hd).row hrow
    have hs' : SqL K H1 ar xs ∨ SqT K H1 ar xs := hs.imp (·.1) (·.1)
    have hl := hax.len
    refine fun p np => ?_
    have s2 := same_upd (o := .dK []) np
    refine enum_row hs' s2 (fun kk hk => ⟨_, rfl, hk⟩) fun J G gs wk => for_it wk
      (fun i σ H' => ∃ (kn : List Int) (kvs : List (Key × V)) (y2 y3 : Option V), σ = [some (.ref ar), some (.ref p), y2, y3] ∧ H' p = some (.dK kvs) ∧ kvs.length ≤ i ∧ (∀ m, valV kvs (Sum.inl m) ≠ none ↔ m ∈ kn) ∧ Same H1 H' ∧ chkW d = chkGo i kn ((items d).drop i))
      ⟨[], [], none, none, rfl, upd_same, Nat.le_refl _, fun m => ⟨fun z => absurd rfl z, fun z => (nomatch z)⟩, s2, e0⟩ ?_ ?_ ?_
    · rintro i σ H' hi ⟨kn, kvs, y2, y3, rfl, g1, g2, g3, g4, g5⟩
      exact gs _ g4
    · rintro i x σ H2 H3 hi ⟨kn, kvs, y2, y3, rfl, g1, g2, g3, g4, g5⟩ ⟨T, ti, te, rfl, nT, rfl, ht, hx⟩
      cases ht
      have sT := same_upd (o := .tup [V.int (i : Nat), te]) nT
      obtain ⟨e, he, hde⟩ := hax.get hx
      have s3 := g4.trans sT
      rw [drop_at he] at g5
      unfold chkGo at g5
      refine ⟨T, _, rfl, .inl (.inl upd_same), rfl, _, _, rfl, _, _, rfl, rfl, ?_⟩
      refine ⟨_, rfl, te, e, rfl, Dx.mono s3 hde, fun H4 s4 => ⟨_, rfl, ?_⟩⟩
      have s14 := (s1.trans s3).trans s4
      have hp4 : H4 p = some (.dK kvs) := s4 _ _ (sT _ _ g1)
      cases hm : isWr e with
      | false =>
        rw [if_neg (by rw [hm]; exact fun z => nomatch z.1)] at g5
        exact iteT (iteT ⟨_, rfl, _, rfl, fun dd H6 s6 nd hh => raise (i : Int) H4 s14 g5 dd H6 s6 nd hh⟩)
      | true =>
        obtain ⟨m, t, rfl, h0, h1⟩ := isWr_of hm
        obtain ⟨aw, rfl, haw⟩ := wd_at (Dx.mono s4 (Dx.mono s3 hde))
        have em : markOf (wD (m, t)) = m := rfl
        rw [em, hm] at g5
        refine iteF ⟨_, rfl, aw, _, 0, _, rfl, rfl, haw, rfl, _, rfl, p, _, rfl, .inl ⟨kvs, Sum.inl m, .inl hp4, rfl, rfl⟩, _, rfl, ?_⟩
        cases hv : valV kvs (Sum.inl m) with
        | some u =>
          have hk : m ∈ kn := (g3 m).mp (by rw [hv]; exact fun z => nomatch z)
          rw [if_neg (fun z => z.2 hk)] at g5
          exact iteT ⟨_, rfl, _, rfl, fun dd H6 s6 nd hh => raise (i : Int) H4 s14 g5 dd H6 s6 nd hh⟩
        | none =>
          have hk : m ∉ kn := fun z => (g3 m).mpr z hv
          rw [if_pos ⟨rfl, hk⟩] at g5
          refine iteF ⟨_, rfl, _, rfl, aw, _, 0, _, rfl, rfl, haw, rfl, p, _, rfl, .inl ⟨kvs, Sum.inl m, hp4, rfl, small1000 (by omega), rfl⟩, ?_⟩
          refine ⟨kn ++ [m], _, _, _, rfl, upd_same, ?_, fun m' => ?_, fun b o eb => ?_, g5⟩
          · have := putK_len kvs (Sum.inl m) (V.bl true)
            omega
          · rw [valV_put, List.mem_append, List.mem_singleton]
            by_cases z : m' = m
            · rw [if_pos (by rw [z])]
              exact ⟨fun _ => .inr z, fun _ w => nomatch w⟩
            · rw [if_neg (fun w => z (Sum.inl.inj w)), g3 m']
              exact ⟨.inl, fun w => w.resolve_right z⟩
          · rw [upd_ne (ne_of_none eb np)]
            exact s4 _ _ (s3 _ _ eb)
    · rintro σ H' ⟨kn, kvs, y2, y3, rfl, g1, g2, g3, g4, g5⟩
      rw [hl, List.drop_length] at g5
      exact q g5 H' (s1.trans g4)
end
end Lm

/-! How many cycles there are, counted by walks along the copies. -/
namespace LmS
section
variable {γ : Type} {D S0 : List (Int × Src γ)}
/-- what stands at the end of n steps -/
def gs (D : List (Int × Src γ)) : Nat → Int → Option (Src γ)
  | 0, m => some (.mk m)
  | n + 1, m => match gs D n m with
    | some (.mk j) => lk D j
    | _ => none
theorem gs_go (D : List (Int × Src γ)) : ∀ (n : Nat) (m x : Int), gs D n m = some (.mk x) ↔ go D n m = some x
  | 0, m, x => by simp [gs, go]
  | n + 1, m, x => by
    rw [go_add D n 1]
    show (match gs D n m with | some (.mk j) => lk D j | _ => none) = _ ↔ _
    cases e : go D n m with
    | none =>
      have : ∀ j, gs D n m ≠ some (.mk j) := fun j h => by rw [gs_go D n m j] at h; rw [e] at h; cases h
      constructor
      · intro h
        split at h
        · rename_i j hj; exact absurd hj (this j)
        · cases h
      · intro h; cases h
    | some z =>
      have e2 := (gs_go D n m z).mpr e
      rw [e2]
      show lk D z = _ ↔ (match lk D z with | some (.mk j) => some j | _ => none) = some x
      cases lk D z with
      | none => simp
      | some s =>
        cases s with
        | con c => simp
        | mk j => simp
/-- the marks that a walk from m has met, and what stands behind the last -/
structure Path (D : List (Int × Src γ)) (m : Int) (xs : List Int) (h : Src γ) : Prop where
  le : gs D xs.length m = some h
  at' : ∀ i x, xs[i]? = some x → go D i m = some x
  nd : xs.Nodup
theorem Path.start (m : Int) : Path D m [] (.mk m) := ⟨rfl, fun i x h => by simp at h, List.nodup_nil⟩
theorem Path.step {m y : Int} {xs : List Int} {s : Src γ} (p : Path D m xs (.mk y)) (ny : y ∉ xs) (e : lk D y = some s) : Path D m (xs ++ [y]) s := by
  refine ⟨?_, fun i x h => ?_, ?_⟩
  · rw [List.length_append]
    show (match gs D xs.length m with | some (.mk j) => lk D j | _ => none) = _
    rw [p.le]
    exact e
  · by_cases g : i < xs.length
    · rw [List.getElem?_append_left g] at h
      exact p.at' i x h
    · rw [List.getElem?_append_right (by omega)] at h
      have : i - xs.length = 0 := by
        cases k : i - xs.length with
        | zero => rfl
        | succ k => rw [k] at h; simp at h
      rw [this] at h
      have hx : y = x := by simpa using h
      have hi : i = xs.length := by omega
      rw [hi, ← hx]
      exact (gs_go D _ _ _).mp p.le
  · rw [List.nodup_append]
    refine ⟨p.nd, List.nodup_cons.mpr ⟨fun h => (nomatch h), List.nodup_nil⟩, fun a ha b hb => ?_⟩
    have : b = y := by simpa using hb
    rw [this]
    exact fun e => ny (by rw [← e]; exact ha)
theorem Path.next {m : Int} {xs : List Int} {h : Src γ} (p : Path D m xs h) {i : Nat} {x : Int} (e : xs[i]? = some x) : lk D x = if i + 1 = xs.length then some h else (xs[i + 1]?).map Src.mk := by
  have g := p.at' i x e
  have il : i < xs.length := by
    rcases Nat.lt_or_ge i xs.length with z | z
    · exact z
    · rw [List.getElem?_eq_none z] at e; cases e
  have k := (gs_go D _ _ _).mpr g
  have k2 : gs D (i + 1) m = lk D x := by
    show (match gs D i m with | some (.mk j) => lk D j | _ => none) = _
    rw [k]
  by_cases z : i + 1 = xs.length
  · rw [if_pos z, ← k2, z]
    exact p.le
  · rw [if_neg z, ← k2]
    have : i + 1 < xs.length := by omega
    rw [List.getElem?_eq_getElem this]
    exact (gs_go D _ _ _).mpr (p.at' (i + 1) _ (List.getElem?_eq_getElem this))
def Sub (D S0 : List (Int × Src γ)) : Prop := ∀ m s, lk S0 m = some s ↔ lk D m = some s ∧ s ≠ .mk m
theorem Iso.lk {m : Int} (i : Iso S0 m) : ∃ j, lk S0 m = some (.mk j) ∧ Iso S0 j := by
  obtain ⟨⟨n, e⟩, _⟩ := id i
  simp only [go] at e
  cases w : LmS.lk S0 m with
  | none => rw [w] at e; cases e
  | some s =>
    cases s with
    | con c => rw [w] at e; cases e
    | mk j => exact ⟨j, rfl, i.of_reach ⟨1, by simp only [go]; rw [w]⟩⟩
theorem Iso.all {m : Int} (i : Iso S0 m) (hS : Sub D S0) : ∀ n, ∃ x, go S0 n m = some x ∧ go D n m = some x ∧ Iso S0 x
  | 0 => ⟨m, rfl, rfl, i⟩
  | n + 1 => by
    obtain ⟨x, h1, h2, h3⟩ := i.all hS n
    obtain ⟨j, e, ij⟩ := h3.lk
    exact ⟨j, go_succ S0 h1 e, go_succ D h2 ((hS _ _).mp e).1, ij⟩
/-- from where a mark stands in the walk to its end -/
theorem Path.tail {m : Int} {xs : List Int} {h : Src γ} (p : Path D m xs h) {i : Nat} {x : Int} (e : xs[i]? = some x) (hS : Sub D S0) (iso : Iso S0 x) : ∃ y, h = .mk y ∧ Reach S0 x y ∧ Iso S0 y := by
  have il : i < xs.length := by
    rcases Nat.lt_or_ge i xs.length with z | z
    · exact z
    · rw [List.getElem?_eq_none z] at e; cases e
  obtain ⟨y, g1, g2, g3⟩ := iso.all hS (xs.length - i)
  have := go_add D i (xs.length - i) m
  rw [show i + (xs.length - i) = xs.length by omega, p.at' i x e] at this
  have e2 : go D xs.length m = some y := by rw [this]; exact g2
  have := (gs_go D _ _ _).mpr e2
  rw [p.le] at this
  cases this
  exact ⟨y, rfl, ⟨_, g1⟩, g3⟩
/-- no mark outside of the ring copies from it -/
def Away (D : List (Int × Src γ)) (ring : List Int) : Prop := ∀ a x, lk D a = some (.mk x) → x ∈ ring → a ∈ ring
section
variable {m y : Int} {a b : List Int}
theorem Path.ring_next (p : Path D m (a ++ y :: b) (.mk y)) {x : Int} (hx : x ∈ y :: b) : ∃ z, lk D x = some (.mk z) ∧ z ∈ y :: b := by
  obtain ⟨i, hi, e⟩ := List.getElem_of_mem hx
  have e1 : (a ++ y :: b)[a.length + i]? = some x := by
    rw [List.getElem?_append_right (by omega), show a.length + i - a.length = i by omega, List.getElem?_eq_getElem hi, e]
  have := p.next e1
  by_cases z : a.length + i + 1 = (a ++ y :: b).length
  · rw [if_pos z] at this
    exact ⟨y, this, List.mem_cons_self ..⟩
  · rw [if_neg z] at this
    have hl : (a ++ y :: b).length = a.length + (y :: b).length := List.length_append
    have hi2 : i + 1 < (y :: b).length := by omega
    rw [List.getElem?_append_right (by omega), show a.length + i + 1 - a.length = i + 1 by omega, List.getElem?_eq_getElem hi2] at this
    exact ⟨_, this, List.getElem_mem hi2⟩
theorem Path.in_ring (p : Path D m (a ++ y :: b) (.mk y)) : ∀ (k : Nat) (x z : Int), x ∈ y :: b → go D k x = some z → z ∈ y :: b
  | 0, x, z, hx, e => by cases e; exact hx
  | k + 1, x, z, hx, e => by
    obtain ⟨w, e1, hw⟩ := p.ring_next hx
    simp only [go] at e
    rw [e1] at e
    exact p.in_ring k w z hw e
theorem Path.of_ring (p : Path D m (a ++ y :: b) (.mk y)) {x : Int} (hx : x ∈ y :: b) : ∃ k, go D k y = some x := by
  obtain ⟨i, hi, e⟩ := List.getElem_of_mem hx
  have e0 : (a ++ y :: b)[a.length]? = some y := by rw [List.getElem?_append_right (by omega)]; simp
  have e1 : (a ++ y :: b)[a.length + i]? = some x := by
    rw [List.getElem?_append_right (by omega), show a.length + i - a.length = i by omega, List.getElem?_eq_getElem hi, e]
  have := go_add D a.length i m
  rw [p.at' _ _ e0, p.at' _ _ e1] at this
  exact ⟨i, this.symm⟩
theorem Path.turn (p : Path D m (a ++ y :: b) (.mk y)) : go D (b.length + 1) y = some y := by
  have e0 : (a ++ y :: b)[a.length]? = some y := by rw [List.getElem?_append_right (by omega)]; simp
  have := go_add D a.length (b.length + 1) m
  rw [p.at' _ _ e0] at this
  have e := (gs_go D _ _ _).mp p.le
  rw [show (a ++ y :: b).length = a.length + (b.length + 1) by simp, this] at e
  exact e
/-- on a ring of two or more nothing is copied to itself -/
theorem Path.ring_same (p : Path D m (a ++ y :: b) (.mk y)) (hS : Sub D S0) (lt : 1 < (y :: b).length) {x : Int} (hx : x ∈ y :: b) : ∃ z, lk D x = some (.mk z) ∧ lk S0 x = some (.mk z) ∧ z ∈ y :: b := by
  obtain ⟨z, e, hz⟩ := p.ring_next hx
  refine ⟨z, e, (hS _ _).mpr ⟨e, fun q => ?_⟩, hz⟩
  cases q
  have st : ∀ k, go D k x = some x := fun k => by
    induction k with
    | zero => rfl
    | succ k ih => exact go_succ D ih e
  obtain ⟨i, hi, ei⟩ := List.getElem_of_mem hx
  have nd2 : (y :: b).Nodup := (List.nodup_append.mp p.nd).2.1
  -- another mark of the ring is reached from x: none
  have key : ∀ w ∈ y :: b, w = x := fun w hw => by
    obtain ⟨k, hk⟩ := p.of_ring hw
    obtain ⟨l, hl⟩ := p.of_ring hx
    -- y goes to x after l steps and stays there; y comes back to itself after b.length + 1 steps
    have t := go_turns p.turn (l + 1)
    have le : l ≤ (b.length + 1) * (l + 1) := by
      rw [Nat.mul_comm, Nat.succ_mul]
      have : l * 1 ≤ l * (b.length + 1) := Nat.mul_le_mul_left _ (by omega)
      omega
    have := go_add D l ((b.length + 1) * (l + 1) - l) y
    rw [show l + ((b.length + 1) * (l + 1) - l) = (b.length + 1) * (l + 1) by omega, t, hl] at this
    have : some y = some x := this.trans (st _)
    cases this
    rw [st k] at hk
    cases hk
    rfl
  cases b with
  | nil => simp at lt
  | cons c r =>
    have h1 := key y (List.mem_cons_self ..)
    have h2 := key c (List.mem_cons_of_mem _ (List.mem_cons_self ..))
    exact (List.nodup_cons.mp nd2).1 (by rw [h1, ← h2]; exact List.mem_cons_self ..)
theorem Path.go_same (p : Path D m (a ++ y :: b) (.mk y)) (hS : Sub D S0) (lt : 1 < (y :: b).length) : ∀ (k : Nat) (x : Int), x ∈ y :: b → go S0 k x = go D k x
  | 0, _, _ => rfl
  | k + 1, x, hx => by
    obtain ⟨z, e1, e2, hz⟩ := p.ring_same hS lt hx
    simp only [go]
    rw [e1, e2]
    exact p.go_same hS lt k z hz
theorem Path.ring_iso (p : Path D m (a ++ y :: b) (.mk y)) (hS : Sub D S0) (lt : 1 < (y :: b).length) (aw : Away D (y :: b)) : Iso S0 y := by
  have hy : y ∈ y :: b := List.mem_cons_self ..
  refine ⟨⟨b.length, by rw [p.go_same hS lt _ _ hy]; exact p.turn⟩, fun k x z h e => ?_⟩
  rw [p.go_same hS lt _ _ hy] at h
  have hx := p.in_ring k y x hy h
  have hz := aw z x ((hS _ _).mp e).1 hx
  obtain ⟨k', h'⟩ := p.of_ring hz
  exact ⟨k', by rw [p.go_same hS lt _ _ hy]; exact h'⟩
theorem Path.iso_ring (p : Path D m (a ++ y :: b) (.mk y)) (hS : Sub D S0) {x : Int} (hx : x ∈ y :: b) (iso : Iso S0 x) : 1 < (y :: b).length ∧ Away D (y :: b) ∧ Reach S0 y x := by
  have e0 : (a ++ y :: b)[a.length]? = some y := by rw [List.getElem?_append_right (by omega)]; simp
  have ry : Iso S0 y ∧ Reach S0 x y := by
    obtain ⟨i, hi, e⟩ := List.getElem_of_mem hx
    have e1 : (a ++ y :: b)[a.length + i]? = some x := by
      rw [List.getElem?_append_right (by omega), show a.length + i - a.length = i by omega, List.getElem?_eq_getElem hi, e]
    obtain ⟨y', g1, g2, g3⟩ := p.tail e1 hS iso
    cases g1
    exact ⟨g3, g2⟩
  refine ⟨?_, fun c z e hz => ?_, iso.back ry.2⟩
  · cases b with
    | cons c r => simp
    | nil =>
      exfalso
      obtain ⟨j, e, _⟩ := ry.1.lk
      have e2 := (hS _ _).mp e
      have t := p.turn
      simp only [List.length_nil, go] at t
      rw [e2.1] at t
      have : j = y := by simpa [go] using t
      exact e2.2 (by rw [this])
  · obtain ⟨k, hk⟩ := p.of_ring hz
    obtain ⟨z', g1, g2, _⟩ := ry.1.all hS k
    rw [hk] at g2
    cases g2
    by_cases q : z = c
    · rw [← q]; exact hz
    · obtain ⟨k', h'⟩ := ry.1.2 k z c g1 ((hS _ _).mpr ⟨e, fun w => q (by cases w; rfl)⟩)
      obtain ⟨c', g3, g4, _⟩ := ry.1.all hS k'
      rw [h'] at g3
      cases g3
      exact p.in_ring k' y _ (List.mem_cons_self ..) g4
end
/-- M: what has been met; rs: the heads of the cycles so far; dn: the marks from which one has walked -/
structure Du (D S0 : List (Int × Src γ)) (M : Int → Prop) (rs : List Int) (dn : Int → Prop) : Prop where
  iso : ∀ r ∈ rs, Iso S0 r
  two : rs.Pairwise fun a b => ¬ Reach S0 a b
  met : ∀ m, M m → Iso S0 m → ∃ r ∈ rs, Reach S0 r m
  has : ∀ r ∈ rs, ∀ x, Reach S0 r x → M x
  dn : ∀ m, dn m → Iso S0 m → ∃ r ∈ rs, Reach S0 r m
theorem Du.start : Du D S0 (fun _ => False) [] (fun _ => False) := ⟨fun _ h => (nomatch h), .nil, fun _ h => h.elim, fun _ h => (nomatch h), fun _ h => h.elim⟩
theorem Du.miss {M M' : Int → Prop} {rs : List Int} {dn dn' : Int → Prop} {m : Int} {xs : List Int} {h : Src γ} (d : Du D S0 M rs dn) (hS : Sub D S0) (p : Path D m xs h) (no : ∀ y, h = .mk y → lk D y ≠ none → M y)
    (hM : ∀ x, M' x ↔ M x ∨ x ∈ xs) (hd : ∀ x, dn' x → dn x ∨ x = m) : Du D S0 M' rs dn' := by
  have cov : ∀ x ∈ xs, Iso S0 x → ∃ r ∈ rs, Reach S0 r x := fun x hx iso => by
    obtain ⟨i, hi, e⟩ := List.getElem_of_mem hx
    obtain ⟨y, rfl, r, iy⟩ := p.tail (by rw [List.getElem?_eq_getElem hi, e]) hS iso
    obtain ⟨j, ej, _⟩ := iy.lk
    obtain ⟨q, hq, rq⟩ := d.met y (no y rfl (by rw [((hS _ _).mp ej).1]; exact fun z => nomatch z)) iy
    exact ⟨q, hq, rq.trans (iso.back r)⟩
  refine ⟨d.iso, d.two, fun x hx => ((hM x).mp hx).elim (d.met x) (cov x), fun r hr x rx => (hM x).mpr (.inl (d.has r hr x rx)), fun x hx iso => (hd x hx).elim (fun z => d.dn x z iso) fun z => ?_⟩
  subst z
  cases xs with
  | nil =>
    have e : some (Src.mk x) = some h := p.le
    obtain ⟨j, ej, _⟩ := iso.lk
    exact d.met x (no x (Option.some.inj e).symm (by rw [((hS _ _).mp ej).1]; exact fun z => nomatch z)) iso
  | cons c r =>
    have := p.at' 0 c rfl
    cases this
    exact cov x (List.mem_cons_self ..) iso
theorem Du.ring {M M' : Int → Prop} {rs : List Int} {dn dn' : Int → Prop} {m y : Int} {a b : List Int} (d : Du D S0 M rs dn) (hS : Sub D S0) (p : Path D m (a ++ y :: b) (.mk y)) (nm : ∀ x ∈ y :: b, ¬ M x)
    (hM : ∀ x, M' x ↔ M x ∨ x ∈ y :: b) (hd : ∀ x, dn' x → dn x ∨ x = m) {rs' : List Int} (hr : (1 < (y :: b).length ∧ Away D (y :: b) ∧ rs' = y :: rs) ∨ (¬ (1 < (y :: b).length ∧ Away D (y :: b)) ∧ rs' = rs)) : Du D S0 M' rs' dn' := by
  have sub : ∀ r ∈ rs, r ∈ rs' := fun r h => by
    rcases hr with ⟨_, _, rfl⟩ | ⟨_, rfl⟩
    · exact List.mem_cons_of_mem _ h
    · exact h
  have cov : ∀ x ∈ y :: b, Iso S0 x → ∃ r ∈ rs', Reach S0 r x := fun x hx iso => by
    obtain ⟨g1, g2, g3⟩ := p.iso_ring hS hx iso
    rcases hr with ⟨_, _, rfl⟩ | ⟨n, _⟩
    · exact ⟨y, List.mem_cons_self .., g3⟩
    · exact absurd ⟨g1, g2⟩ n
  have hy : y ∈ y :: b := List.mem_cons_self ..
  have rch : 1 < (y :: b).length → ∀ x, Reach S0 y x → x ∈ y :: b := fun lt x ⟨k, hk⟩ => by
    rw [p.go_same hS lt _ _ hy] at hk
    exact p.in_ring k y x hy hk
  refine ⟨fun r h => ?_, ?_, fun x hx iso => ?_, fun r h x rx => ?_, fun x hx iso => ?_⟩
  · rcases hr with ⟨g1, g2, rfl⟩ | ⟨_, rfl⟩
    · rcases List.mem_cons.mp h with rfl | h
      · exact p.ring_iso hS g1 g2
      · exact d.iso r h
    · exact d.iso r h
  · rcases hr with ⟨g1, g2, rfl⟩ | ⟨_, rfl⟩
    · exact .cons (fun r h rx => nm r (rch g1 r rx) (d.has r h r (Reach.refl ..))) d.two
    · exact d.two
  · rcases (hM x).mp hx with z | z
    · obtain ⟨r, h, rx⟩ := d.met x z iso
      exact ⟨r, sub r h, rx⟩
    · exact cov x z iso
  · rcases hr with ⟨g1, g2, rfl⟩ | ⟨_, rfl⟩
    · rcases List.mem_cons.mp h with rfl | h
      · exact (hM x).mpr (.inr (rch g1 x rx))
      · exact (hM x).mpr (.inl (d.has r h x rx))
    · exact (hM x).mpr (.inl (d.has r h x rx))
  · rcases hd x hx with z | rfl
    · obtain ⟨r, h, rx⟩ := d.dn x z iso
      exact ⟨r, sub r h, rx⟩
    · have e0 : ∃ c, (a ++ y :: b)[0]? = some c := by
        cases a with
        | nil => exact ⟨y, rfl⟩
        | cons c r => exact ⟨c, rfl⟩
      obtain ⟨c, ec⟩ := e0
      have := p.at' 0 c ec
      cases this
      obtain ⟨y', g1, g2, g3⟩ := p.tail ec hS iso
      cases g1
      obtain ⟨r, h, rx⟩ := cov y hy g3
      exact ⟨r, h, rx.trans (iso.back g2)⟩
theorem Du.reps {M : Int → Prop} {rs : List Int} {dn : Int → Prop} (d : Du D S0 M rs dn) (hS : Sub D S0) (all : ∀ m, lk D m ≠ none → dn m) : Reps S0 rs :=
  ⟨d.iso, d.two, fun m i => by
    obtain ⟨j, e, _⟩ := i.lk
    exact d.dn m (all m (by rw [((hS _ _).mp e).1]; exact fun z => nomatch z)) i⟩
end
end LmS

/-! check_spare, Rows.__init__, sequence -/
namespace Lm
open PySem PySem.Spec PyProof.Rows L2 LmS
open C8 (fnScope_by pe_gc pss_cut tCut Cal pe_c)
abbrev sSeqn : Stmt := top 13
/-! ### what check_writes lets through -/
theorem chkGo_ok : ∀ {ds : List PyData} {i : Nat} {kn : List Int}, chkGo i kn ds = none → ∃ ws : List (Int × Sr), ds = ws.map wD ∧ (ws.map (·.1)).Nodup ∧ (∀ p ∈ ws, p.1 ∉ kn ∧ 0 ≤ p.1 ∧ Ws p.2)
  | [], i, kn, _ => ⟨[], rfl, List.nodup_nil, fun _ h => (nomatch h)⟩
  | e :: r, i, kn, h => by
    unfold chkGo at h
    split at h
    · rename_i hc
      obtain ⟨m, s, rfl, h0, h1⟩ := isWr_of hc.1
      obtain ⟨ws, rfl, nd, al⟩ := chkGo_ok h
      refine ⟨(m, s) :: ws, rfl, List.nodup_cons.mpr ⟨fun hm => ?_, nd⟩, fun p hp => ?_⟩
      · obtain ⟨p, hp, e⟩ := List.mem_map.mp hm
        exact (al p hp).1 (by rw [e]; exact List.mem_append_right _ (List.mem_singleton.mpr rfl))
      · rcases List.mem_cons.mp hp with rfl | hp
        · exact ⟨hc.2, h0, h1⟩
        · exact ⟨fun z => (al p hp).1 (List.mem_append_left _ z), (al p hp).2⟩
    · cases h
theorem chkGo_of : ∀ {ws : List (Int × Sr)} {i : Nat} {kn : List Int}, (ws.map (·.1)).Nodup → (∀ p ∈ ws, p.1 ∉ kn ∧ 0 ≤ p.1 ∧ Ws p.2) → chkGo i kn (ws.map wD) = none
  | [], i, kn, _, _ => rfl
  | (m, s) :: r, i, kn, nd, al => by
    have nd' := List.nodup_cons.mp nd
    have a := al (m, s) (List.mem_cons_self ..)
    rw [List.map_cons]
    unfold chkGo
    rw [if_pos ⟨wr_of a.2.1 a.2.2, a.1⟩]
    refine chkGo_of nd'.2 fun p hp => ?_
    have b := al p (List.mem_cons_of_mem _ hp)
    refine ⟨fun z => ?_, b.2⟩
    rcases List.mem_append.mp z with z | z
    · exact b.1 z
    · have e : p.1 = m := List.mem_singleton.mp z
      exact nd'.1 (by rw [← e]; exact List.mem_map_of_mem (f := (·.1)) hp)
section
variable {P : Program} {w : World} {K : PySem.W.Frag} {mg : Str → Option Value} {base : Heap} {CN CS C : Addr}
/-! ### check_spare -/
def spareIn (i : Int) (ws : List (Int × Sr)) : Bool := ws.any fun p => (marksS p).contains i
def spareBad (ds : PyData) (ws : List (Int × Sr)) : Bool := match ds with
  | .int i => !decide (0 ≤ i) || spareIn i ws
  | _ => true
def spCS (K : PySem.W.Frag) (CS : Addr) : Sp := fun vs H Q E => ∃ v d u ds ws, vs = [v, u] ∧ Dx K H v d ∧ Dx K H u ds ∧ isRow d = true ∧ items d = ws.map wD ∧ ws.length ≤ 1000 ∧ (spareBad ds ws = false → ∀ H', Same H H' → Q .non H') ∧ (spareBad ds ws = true → erX CS "spare" u H E)
theorem op_inK {X : Cx} (K : PySem.W.Frag) (h : X.K = K) : OpR X (compareOp .In) (rIn K false) := by
  subst h
  exact op_in_seq
theorem in_ints (i : Int) (ns : List Int) : inV (.int i) (ns.map V.int) = ns.contains i := by
  unfold inV
  rw [List.any_map, ← List.any_beq']
  rfl
theorem flat_ints (ns : List Int) : (ns.map V.int).all flatV = true := by
  rw [List.all_map]
  exact List.all_eq_true.mpr fun _ _ => rfl
abbrev nsCS : List Str := ["writes", "spare", "write"]
theorem scCS : FnScope nsCS ["writes", "spare"] (defScope sCheckS) := fnScope_by (by decide +kernel)
theorem kCS {f : Addr} {fd : FuncData} (F : Fun K "check_spare" "check_spare" sCheckS f fd) (B : Bn mg) (N : Er1 P w K mg base "NoSpare" "spare" CS) (c1 : Cal P w K mg base 2 "is_mark" (spB1 K isMarkD) []) (c2 : Cal P w K mg base 1 "marks_of" (spMarks K) []) : FnOk P w K mg base (L2.CX P w) 4 f fd ["writes", "spare"] (spCS K CS) := by
  refine F.okX (k := 3) scCS (fun vs H Q E h => ?_) (fun cdv A outer s H vs Q E hr h => ?_)
  · obtain ⟨v, d, u, ds, ws, rfl, _⟩ := h
    rfl
  obtain ⟨v, d, u, ds, ws, rfl, hd, hu2, hrow, hit, hz, q, qe⟩ := h
  refine ⟨_, pss_one (ps_if (PW.pt (pw_or (pt_not (pt_val (pe_c c1 hr (by decide) (by rfl) (pa_cons (pv 1) pa_nil)))) (pw_or1 (pt_val (pe_callB (cr_any rfl) (by rfl) B.any boot_any (pa_cons
    (pe_lc (own := [("write", 2)]) (g := gName 2) (tt := tYes) rfl scCS.nd (pi_row (pv 0)) (blkOk_by (N := nsCS) (sc := defScope sCheckS) (by decide +kernel)) (fun _ _ _ _ _ => pg_name (i := 2) scCS.nd rfl (Or.inl rfl)) (fun _ _ _ _ _ => pts_nil)
      (fun _ _ _ _ _ => pe_cmpR (op_inK K rfl) (pv 1) (pe_c c2 hr (by decide) (by rfl) (pa_cons (pv 2) pa_nil)) (by rfl))) pa_nil))))))
    (pss_one (ps_er1 N rfl (takes_of rfl rfl rfl rfl) hr (by decide) (pa_cons (pv 1) pa_nil))) pss_nil), ?_⟩
  have raise : ∀ (H' : Hp), Same H H' → spareBad ds ws = true → ∀ (dd : Addr) (H2 : Hp), Same H' H2 → H' dd = none → H2 dd = some (.xd [("spare", u)]) → E (.ref CS) (some dd) H2 := fun H' s' e dd H2 s2 nd hh => qe e dd H2 (s'.trans s2) (by
    cases z : H dd with
    | none => rfl
    | some o => rw [s' _ _ z] at nd; cases nd) hh
  refine ⟨_, rfl, u, ds, rfl, hu2, fun H1 s1 => ⟨_, rfl, ?_⟩⟩
  cases hm : isMarkD ds with
  | false => exact iteT (iteT ⟨_, rfl, u, rfl, raise H1 s1 (by
      cases ds with
      | int i =>
        have hm : decide (0 ≤ i) = false := hm
        show (!decide (0 ≤ i) || _) = true
        rw [hm]; rfl
      | _ => rfl)⟩)
  | true =>
    obtain ⟨i, rfl⟩ : ∃ i, ds = .int i := by cases ds with
      | int i => exact ⟨i, rfl⟩
      | _ => exact nomatch hm
    cases hu2
    have hb : spareBad (.int i) ws = spareIn i ws := by
      have hm : decide (0 ≤ i) = true := hm
      show (!decide (0 ≤ i) || _) = _
      rw [hm]; rfl
    refine iteF ?_
    obtain ⟨ar, xs, rfl, hs, hax⟩ := (Dx.mono s1 hd).row hrow
    have hs' : SqL K H1 ar xs ∨ SqT K H1 ar xs := hs.imp (·.1) (·.1)
    rw [hit] at hax
    have hl := hax.len
    rw [List.length_map] at hl
    refine for_row (a := ar) (xs := xs) hs' (Same.refl H1) (fun kk hk => ⟨_, rfl, hk⟩) fun J G gs wk D nD => lc_it wk (fun i' H' => H' D = some (.lst ((ws.take i').map fun p => V.bl ((marksS p).contains i))) ∧ Same H1 H') ⟨upd_same, same_upd nD⟩ (fun i' H' _ h => gs _ h.2) ?_ ?_
    · rintro j x H2 H3 hj ⟨h1, h2⟩ ⟨rfl, hx⟩
      obtain ⟨e, he, hde⟩ := hax.get hx
      rw [List.getElem?_map] at he
      obtain ⟨p, hp, rfl⟩ : ∃ p, ws[j]? = some p ∧ e = wD p := by
        cases z : ws[j]? with
        | none => rw [z] at he; cases he
        | some p => rw [z] at he; cases he; exact ⟨p, rfl, rfl⟩
      refine ⟨rfl, tyes ⟨_, rfl, _, rfl, x, p, rfl, Dx.mono h2 hde, fun H4 l s4 nl hl4 => ?_⟩⟩
      refine ⟨l, _, rfl, .inl (SqL.of hl4), rfl, flat_ints _, _, s4 _ _ h1, small1000 (by rw [List.length_map, List.length_take]; omega), ?_, fun b o eb => ?_⟩
      · rw [upd_same, in_ints, List.take_add_one, hp, List.map_append]
        rfl
      · rw [upd_ne (ne_of_none eb nD)]
        exact s4 _ _ (h2 _ _ eb)
    · rintro H' ⟨h1, h2⟩
      rw [hl, List.take_length] at h1
      refine ⟨D, ws.map fun p => (marksS p).contains i, rfl, .inl (.inl ?_), _, rfl, ?_⟩
      · rw [h1, List.map_map]
        rfl
      · have eb : ((ws.map fun p => (marksS p).contains i).any id) = spareIn i ws := by rw [List.any_map]; rfl
        rw [eb]
        cases z : spareIn i ws with
        | true => exact iteT ⟨_, rfl, _, rfl, raise H' (s1.trans h2) (by rw [hb, z])⟩
        | false => exact iteF (q (by rw [hb, z]) H' (s1.trans h2))
/-! ### Rows.__init__ -/
def spRI (C : Addr) : Sp := fun vs H Q _ => ∃ (a s dx : Addr), vs = [.ref a, .ref s] ∧ H a = some (.ins C dx []) ∧ H s ≠ none ∧ ∀ (w c : Addr) (H' : Hp), (∀ b o, b ≠ a → H b = some o → H' b = some o) → H w = none → H c = none → H' a = some (.ins C dx (rwF s w c)) → H' w = some (.lst []) → H' c = some (.dK []) → Q .non H'
theorem scRI : FnScope ["self", "sources"] ["self", "sources"] (defScope mRwInit) := fnScope_by (by decide +kernel)
theorem kRI {f : Addr} {fd : FuncData} (F : Fun K "__init__" "Rows.__init__" mRwInit f fd) (k : RwC K C) : FnOk P w K mg base CX0 1 f fd ["self", "sources"] (spRI C) := by
  refine F.ok scRI (fun vs H Q E h => ?_) (fun cdv A outer s H vs Q E hr h => ?_)
  · obtain ⟨a, s, dx, rfl, _⟩ := h
    rfl
  obtain ⟨a, sa, dx, rfl, ha, hs, q⟩ := h
  refine ⟨_, pss_cons (ps_fld (pv 0) (pv 1) rfl) (pss_cons (ps_fld (pv 0) (pe_lst pa_nil) rfl) (pss_one (ps_fld (pv 0) pe_dnewK rfl))), ?_⟩
  refine ⟨_, rfl, _, rfl, a, C, dx, _, rfl, ha, k.cl, k.sources, by decide, ?_⟩
  refine ⟨Nat.zero_le _, fun w nw => ?_⟩
  have naw : a ≠ w := fun e => by rw [← e, upd_same] at nw; cases nw
  have nw0 : H w = none := by rw [upd_ne naw.symm] at nw; exact nw
  refine ⟨_, rfl, a, C, dx, _, rfl, by rw [upd_ne naw]; exact upd_same, k.cl, k.written, by show 1 < 1000; decide, fun c nc => ?_⟩
  have nac : a ≠ c := fun e => by rw [← e, upd_same] at nc; cases nc
  rw [upd_ne nac.symm] at nc
  have nwc : w ≠ c := fun e => by rw [← e, upd_same] at nc; cases nc
  have nc0 : H c = none := by rw [upd_ne nwc.symm, upd_ne nac.symm] at nc; exact nc
  refine ⟨_, rfl, a, C, dx, _, rfl, by rw [upd_ne nac]; exact upd_same, k.cl, k.copies, by show 2 < 1000; decide, ?_⟩
  refine q w c _ (fun b o nb e => ?_) nw0 nc0 upd_same ?_ ?_
  · rw [upd_ne nb, upd_ne (ne_of_none e nc0), upd_ne nb, upd_ne (ne_of_none e nw0), upd_ne nb]
    exact e
  · rw [upd_ne naw.symm, upd_ne nwc, upd_ne naw.symm, upd_same]
  · rw [upd_ne nac.symm, upd_same]
/-! ### sequence -/
def chg (ws : List (Int × Sr)) : List (Int × Sr) := ws.filter fun p => !decide (vS p.2 = V.int p.1)
def marksIn (ws : List (Int × Sr)) (sp m : Int) : Prop := m = sp ∨ ∃ p ∈ ws, m ∈ marksS p
/-- rows that do what the writes do -/
structure Done (ws : List (Int × Sr)) (sp : Int) (W : List Rw) : Prop where
  due : ∀ m, m ≠ sp → runs W m = (lk ws m).getD (.mk m)
  gr : ∀ r ∈ W, Gr (marksIn ws sp) r
  len : ∃ hs, Reps (chg ws) hs ∧ W.length = (chg ws).length + hs.length
def spSq (K : PySem.W.Frag) (CN CS : Addr) : Sp := fun vs H Q E => ∃ v d u ds, vs = [v, u] ∧ Dx K H v d ∧ Dx K H u ds ∧ (items d).length ≤ 200 ∧ (∀ n, chkW d = some n → erX CN "at" (.int n) H E) ∧ (∀ ws, chkW d = none → items d = ws.map wD → spareBad ds ws = true → erX CS "spare" u H E) ∧
  (∀ ws sp, isRow d = true → items d = ws.map wD → (ws.map (·.1)).Nodup → (∀ p ∈ ws, 0 ≤ p.1 ∧ Ws p.2) → ds = .int sp → spareBad ds ws = false → ∀ H' l vs' W, Same H H' → H l = none → H' l = some (.lst vs') → RowsAt H' vs' W → Done ws sp W → Q (.ref l) H')
theorem sub_lk {ws : List (Int × Sr)} (nd : (ws.map (·.1)).Nodup) (f : Int × Sr → Bool) (m : Int) (s : Sr) : lk (ws.filter f) m = some s ↔ lk ws m = some s ∧ f (m, s) = true := by
  constructor
  · intro h
    have := List.mem_filter.mp (lk_mem h)
    exact ⟨mem_lk nd this.1, this.2⟩
  · rintro ⟨h, e⟩
    exact mem_lk ((List.Sublist.map _ List.filter_sublist).nodup nd) (List.mem_filter.mpr ⟨lk_mem h, e⟩)
theorem vS_int {s : Sr} {m : Int} : vS s = V.int m ↔ s = .mk m := by
  cases s with
  | con x => exact ⟨fun h => (nomatch h), fun h => (nomatch h)⟩
  | mk j => exact ⟨fun h => by cases h; rfl, fun h => by cases h; rfl⟩
theorem chg_sub {ws : List (Int × Sr)} (nd : (ws.map (·.1)).Nodup) : LmS.Sub ws (chg ws) := fun m s => by
  unfold chg
  rw [sub_lk nd]
  constructor
  · rintro ⟨h, e⟩
    refine ⟨h, fun z => ?_⟩
    rw [decide_eq_true (vS_int.mpr z)] at e
    cases e
  · rintro ⟨h, e⟩
    refine ⟨h, ?_⟩
    show (!decide (vS s = V.int m)) = true
    rw [decide_eq_false (fun z => e (vS_int.mp z))]
    rfl
abbrev nsSq : List Str := ["writes", "spare", "rows", "mark", "what"]
theorem scSq : FnScope nsSq ["writes", "spare"] (defScope sSeqn) := fnScope_by (by decide +kernel)
theorem kSq {f fCW fCS fI fW : Addr} {fd dCW dCS dI dW : FuncData} (F : Fun K "sequence" "sequence" sSeqn f fd) (k : RwC K C) (M : Mk K C fI) (gR : mg "Rows" = some (.ref C)) (FI : FnOk P w K mg base CX0 1 fI dI ["self", "sources"] (spRI C)) (bI : Binds K dI ["self", "sources"] [])
    (gCW : mg "check_writes" = some (.ref fCW)) (kCW' : PySem.W.keepIn K (.ref fCW) = true) (FCW : FnOk P w K mg base (L2.CX P w) 4 fCW dCW ["writes"] (spCW K CN)) (bCW : Binds K dCW ["writes"] [])
    (gCS : mg "check_spare" = some (.ref fCS)) (kCS' : PySem.W.keepIn K (.ref fCS) = true) (FCS : FnOk P w K mg base (L2.CX P w) 4 fCS dCS ["writes", "spare"] (spCS K CS)) (bCS : Binds K dCS ["writes", "spare"] [])
    (MW : Meth K C "write_all" fW) (FW : FnOk P w K mg base CX0 2 fW dW ["self", "spare"] (spWa C)) (BW : Binds K dW ["self", "spare"] []) : FnOk P w K mg base (L2.CX P w) 5 f fd ["writes", "spare"] (spSq K CN CS) := by
  refine F.okX (k := 4) scSq (fun vs H Q E h => ?_) (fun cdv A outer s H vs Q E hr h => ?_)
  · obtain ⟨v, d, u, ds, rfl, _⟩ := h
    rfl
  obtain ⟨v, d, u, ds, rfl, hd, hu2, hz, qw, qs, q⟩ := h
  refine ⟨_, pss_cons (ps_expr (pe_call FCW hr (by rfl) gCW kCW' bCW .nil (passes_call (takes_of rfl rfl rfl rfl) (fun _ _ _ _ h => h)) (pa_cons (pv 0) pa_nil)))
    (pss_cons (ps_expr (pe_call FCS hr (by rfl) gCS kCS' bCS .nil (passes_call (takes_of rfl rfl rfl rfl) (fun _ _ _ _ h => h)) (pa_cons (pv 0) (pa_cons (pv 1) pa_nil))))
    (pss_cons (ps_set (i := 2) scSq.nd rfl (.inl rfl) (pe_make M FI (hr.mono (by decide)) (by rfl) gR bI .nil pass0 (pa_cons
      (pe_dc (own := [("mark", 3), ("what", 4)]) rfl scSq.nd (pi_row (pv 0)) (blkOk_by (N := nsSq) (sc := defScope sSeqn) (by decide +kernel)) (fun _ _ _ _ _ => pg_tupk K rfl (n := 2) rfl (pgs_cons (pg_name (i := 3) scSq.nd rfl (Or.inl rfl)) (pgs_cons (pg_name (i := 4) scSq.nd rfl (Or.inl rfl)) pgs_nil)))
        (fun _ _ _ _ _ => pts_one (pt_cmpR op_ne (pv 4) (pv 3) (nomark _))) (fun _ _ _ _ _ => pv 3) (fun _ _ _ _ _ => pv 4)) pa_nil)))
    (pss_cons (ps_expr (pe_meth (pv 2) k.cl MW FW (hr.mono (by decide)) BW .nil pass0 (pa_cons (pv 1) pa_nil)))
    (pss_one (ps_ret (pe_fld (pv 2) rfl)))))), ?_⟩
  have up : ∀ {H' : Hp} {dd : Addr}, Same H H' → H' dd = none → H dd = none := fun {H' dd} s' nd => by
    cases z : H dd with
    | none => rfl
    | some o => rw [s' _ _ z] at nd; cases nd
  refine ⟨_, rfl, v, d, rfl, hd, by omega, fun hc H1 s1 => ?_, fun n hn dx H' s' nd hh => qw n hn dx H' s' nd hh⟩
  have hrow : isRow d = true := by
    cases z : isRow d with
    | true => rfl
    | false => unfold chkW at hc; rw [z] at hc; cases hc
  have hg : chkGo 0 [] (items d) = none := by unfold chkW at hc; rw [hrow, if_pos rfl] at hc; exact hc
  obtain ⟨ws, hit, nd, al⟩ := chkGo_ok hg
  have hlen : ws.length ≤ 200 := by rw [hit, List.length_map] at hz; exact hz
  refine ⟨_, rfl, _, rfl, v, d, u, ds, ws, rfl, Dx.mono s1 hd, Dx.mono s1 hu2, hrow, hit, by omega, fun hsb H2 s2 => ?_, fun hsb dx H' s' nd hh => qs ws hc hit hsb dx H' (s1.trans s') (up s1 nd) hh⟩
  obtain ⟨sp, rfl⟩ : ∃ sp, ds = .int sp := by
    cases ds with
    | int i => exact ⟨i, rfl⟩
    | _ => exact nomatch hsb
  cases hu2
  have hnot : ∀ p ∈ ws, sp ∉ marksS p := fun p hp hm => by
    have hsb : (!decide (0 ≤ sp) || spareIn sp ws) = false := hsb
    rw [Bool.or_eq_false_iff] at hsb
    have : spareIn sp ws = true := List.any_eq_true.mpr ⟨p, hp, List.contains_iff_mem.mpr hm⟩
    rw [this] at hsb
    exact nomatch hsb.2
  have s12 := s1.trans s2
  obtain ⟨ar, xs, rfl, hs, hax⟩ := (Dx.mono s12 hd).row hrow
  have hs' : SqL K H2 ar xs ∨ SqT K H2 ar xs := hs.imp (·.1) (·.1)
  rw [hit] at hax
  have hl := hax.len
  rw [List.length_map] at hl
  change tSeq _ _ _ [some (.ref ar), some (.int sp), none, none, none] _
  refine for_row (a := ar) (xs := xs) hs' (Same.refl H2) (fun kk hk => ⟨_, rfl, hk⟩) fun J G gs wk D nD => dc_it wk (fun i H' => H' D = some (.dK (kvS (chg (ws.take i)))) ∧ Same H2 H') ⟨upd_same, same_upd nD⟩ (fun i H' _ h => gs _ h.2) ?_ ?_
  · rintro j x H3 H4 hj ⟨h1, h2⟩ ⟨rfl, hx⟩
    obtain ⟨e, he, hde⟩ := hax.get hx
    rw [List.getElem?_map] at he
    obtain ⟨p, hp, rfl⟩ : ∃ p, ws[j]? = some p ∧ e = wD p := by
      cases z : ws[j]? with
      | none => rw [z] at he; cases he
      | some p => rw [z] at he; cases he; exact ⟨p, rfl, rfl⟩
    obtain ⟨m, t⟩ := p
    obtain ⟨aw, rfl, haw⟩ := wd_at (Dx.mono h2 hde)
    have hsc : scal (vS t) (V.int m) = true := by cases t <;> rfl
    have et : chg (ws.take (j + 1)) = chg (ws.take j) ++ chg [(m, t)] := by
      unfold chg
      rw [List.take_add_one, hp, List.filter_append]
      rfl
    refine ⟨aw, _, rfl, haw, rfl, _, _, rfl, _, _, rfl, rfl, rfl, _, rfl, _, rfl, hsc, _, rfl, ?_⟩
    cases hb : decide (vS t = V.int m) with
    | true =>
      have e1 : chg [(m, t)] = [] := by unfold chg; rw [List.filter_cons, hb]; rfl
      rw [e1, List.append_nil] at et
      show H4 D = _ ∧ _
      rw [et]
      exact ⟨h1, h2⟩
    | false =>
      have e1 : chg [(m, t)] = [(m, t)] := by unfold chg; rw [List.filter_cons, hb]; rfl
      rw [e1] at et
      have hnew : valV (kvS (chg (ws.take j))) (Sum.inl m) = none := by
        rw [kvS_look]
        cases z : lk (chg (ws.take j)) m with
        | none => rfl
        | some t' =>
          exfalso
          have := (List.mem_filter.mp (lk_mem z)).1
          obtain ⟨i, hi, ei⟩ := List.getElem_of_mem this
          rw [List.length_take] at hi
          rw [List.getElem_take] at ei
          have e1 : (ws.map (·.1))[i]? = some m := by rw [List.getElem?_map, List.getElem?_eq_getElem (by omega), ei]; rfl
          have e2 : (ws.map (·.1))[j]? = some m := by rw [List.getElem?_map, hp]; rfl
          have := (List.getElem?_inj (by rw [List.length_map]; omega) nd).mp (e1.trans e2.symm)
          omega
      have hkl : (kvS (chg (ws.take j))).length ≤ ws.length := by
        rw [kvS_len]
        have h1 : (chg (ws.take j)).length ≤ (ws.take j).length := List.length_filter_le ..
        rw [List.length_take] at h1
        omega
      refine ⟨_, rfl, _, rfl, _, Sum.inl m, rfl, h1, small1000 (by omega), ?_, fun b o eb => ?_⟩
      · rw [upd_same, putK_new hnew, et]
        unfold kvS
        rw [List.map_append]
        rfl
      · rw [upd_ne (ne_of_none eb nD)]
        exact h2 _ _ eb
  rintro H3 ⟨h1, h2⟩
  rw [hl, List.take_length] at h1
  have s3 := s12.trans h2
  refine fun x dx nx ndx hne => ?_
  have nx2 : (upd H3 dx (.own x)) x = none := by rw [upd_ne (Ne.symm hne)]; exact nx
  have s4 : Same H3 (upd (upd H3 dx (.own x)) x (.ins C dx [])) := (same_upd ndx).trans (same_upd nx2)
  obtain ⟨H4, e4⟩ : ∃ H4, H4 = upd (upd H3 dx (.own x)) x (.ins C dx []) := ⟨_, rfl⟩
  have h4x : H4 x = some (.ins C dx []) := by rw [e4, upd_same]
  rw [← e4] at s4 ⊢
  have h4D := s4 _ _ h1
  refine ⟨x, D, dx, rfl, h4x, by rw [h4D]; exact fun z => (nomatch z), fun wa ca H5 fr nw nc ha hw hcp => ⟨rfl, ?_⟩⟩
  change tSeq _ _ _ [some (.ref ar), some (.int sp), some (.ref x), none, none] _
  have hDx : D ≠ x := fun e => by rw [e, h4x] at h4D; cases h4D
  have h5D := fr _ _ hDx h4D
  have hlc : (chg ws).length ≤ ws.length := List.length_filter_le ..
  have ndc : ((chg ws).map (·.1)).Nodup := (List.Sublist.map _ List.filter_sublist).nodup nd
  have hin : ∀ m s, lk (chg ws) m = some s → (m, s) ∈ ws := fun m s e => lk_mem ((chg_sub nd m s).mp e).1
  have mk0 : ∀ p ∈ ws, p.1 ∈ marksS p := fun p _ => List.mem_cons_self ..
  have n0 : lk (chg ws) sp = none := by
    cases z : lk (chg ws) sp with
    | none => rfl
    | some t => exact absurd (mk0 _ (hin _ _ z)) (hnot _ (hin _ _ z))
  have nsp : ∀ y, lk (chg ws) y ≠ some (.mk sp) := fun y e => hnot _ (hin _ _ e) (List.mem_cons_of_mem _ (List.mem_cons_self ..))
  have ob : RwObj (marksIn ws sp) C H5 x D wa ca (chg ws) [] [] := by
    refine ⟨⟨dx, ha⟩, h5D, ⟨[], hw, trivial⟩, fun e => (by rw [← e, h4D] at nc; cases nc), ⟨[], hcp, Nat.le_refl _, fun y => rfl⟩, fun m s e => ?_, fun r hr => (nomatch hr), fun y c e => (nomatch e)⟩
    have hm := hin _ _ e
    have ok := (al _ hm).2.2
    refine ⟨.inr ⟨_, hm, mk0 _ hm⟩, fun y ey => ?_, fun j ej => ?_⟩
    · rw [ey] at ok
      exact ok
    · subst ej
      exact .inr ⟨_, hm, List.mem_cons_of_mem _ (List.mem_cons_self ..)⟩
  refine ⟨_, rfl, x, dx, _, rfl, ha, rfl, _, rfl, marksIn ws sp, x, D, wa, ca, sp, chg ws, rfl, ob, ndc, n0, nsp, .inl rfl, by omega, fun H6 Cp' W' hs fr6 o6 due6 reps6 len6 => ?_⟩
  obtain ⟨dx6, hob6⟩ := o6.ob
  obtain ⟨vs6, hw6, hr6⟩ := o6.wr
  refine ⟨_, rfl, x, C, dx6, _, .ref wa, rfl, hob6, k.cl, k.written, by rfl, ?_⟩
  have nwH : H wa = none := up (s3.trans s4) nw
  have ncH : H ca = none := up (s3.trans s4) nc
  have nDH : H D = none := up s12 nD
  have nxH : H x = none := up s3 nx
  refine q ws sp hrow hit nd (fun p hp => (al p hp).2) rfl hsb H6 wa vs6 W' (fun b o e => ?_) nwH hw6 hr6 ⟨fun m hm => ?_, o6.gw, hs, reps6, len6⟩
  · refine fr6 b o (ne_of_none e nDH) (ne_of_none e nwH) (ne_of_none e ncH) (fr b o (ne_of_none e nxH) (s4 _ _ (s3 _ _ e)))
  · rw [due6 m hm]
    cases z : lk (chg ws) m with
    | some t => rw [((chg_sub nd m t).mp z).1]
    | none =>
      cases z2 : lk ws m with
      | none => rfl
      | some t =>
        by_cases e : t = .mk m
        · rw [e]; rfl
        · have := (chg_sub nd m t).mpr ⟨z2, e⟩
          rw [z] at this
          cases this
end
end Lm

/-! Draws: what a source of drawn numbers hands out, by promise. -/
namespace Lm
open PySem PySem.Spec PyProof.Rows L2
abbrev sSrc : Stmt := top 18
abbrev sNext : Stmt := top 19
abbrev sOne : Stmt := top 20
abbrev sMix : Stmt := top 21
/-- all but one place is as it was -/
def But (a : Addr) (H H' : Hp) : Prop := ∀ b o, b ≠ a → H b = some o → H' b = some o
theorem But.upd (a : Addr) (H : Hp) (o : HO) : But a H (upd H a o) := fun b x hb e => by rw [upd_ne hb]; exact e
section
variable {P : Program} {w : World} {K : PySem.W.Frag} {mg : Str → Option Value} {base : Heap}
/-! ### _law_next -/
/-- a source at a: a list of three ints -/
def SrcAt (H : Hp) (a : Addr) : Prop := ∃ x y z : Int, H a = some (.lst [.int x, .int y, .int z])
def spNext : Sp := fun vs H Q _ => ∃ (a : Addr) (m : Int), vs = [.ref a, .int m] ∧ SrcAt H a ∧ 0 < m ∧ m < 1073741824 ∧
  ∀ (r x y z : Int), 0 ≤ r → r < m → Q (.int r) (upd H a (.lst [.int x, .int y, .int z]))
theorem scNext : FnScope ["_law_source", "_law_many", "_law_found", "_law_prime", "_law_number"] ["_law_source", "_law_many"] (defScope sNext) := ⟨rfl, rfl, rfl, by decide +kernel, rfl, by decide +kernel, by decide +kernel⟩

theorem atThree {x y z : V} : (atI [x, y, z] 0 = some x) ∧ (atI [x, y, z] 1 = some y) ∧ (atI [x, y, z] 2 = some z) := ⟨rfl, rfl, rfl⟩
theorem okNext {f : Addr} {fd : FuncData} {k : Nat} (F : Fun K "_law_next" "_law_next" sNext f fd) (mi : mg "int" = none) : FnOk P w K mg base CX0 (k + 1) f fd ["_law_source", "_law_many"] spNext := by
  refine F.ok scNext (fun vs H Q E h => ?_) (fun cdv A outer s H vs Q E hr h => ?_)
  · obtain ⟨a, m, rfl, _⟩ := h
    rfl
  · obtain ⟨a, m, rfl, ⟨x, y, z, hs⟩, m0, m1, q⟩ := h
    refine ⟨_, pss_cons (ps_if (pt_cmpR op_gt (pe_ix ix_list (pv 0) pe_int (fun _ _ => rfl)) pe_int (nomark _))
        (pss_cons (ps_set (i := 2) scNext.nd rfl (.inl rfl) (pe_op op_mod (pe_callTy call_int1 (by rfl) mi boot_int (pa_cons (pe_ix ix_list (pv 0) pe_int (fun _ _ => rfl)) pa_nil)) (pv 1)))
        (pss_cons (ps_asg (pe_op op_fdiv (pe_ix ix_list (pv 0) pe_int (fun _ _ => rfl)) (pv 1)) (pg_sub (pv 0) pe_int set_list))
        (pss_one (ps_ret (pv 2))))) pss_nil)
      (pss_cons (ps_asg (pe_op op_add (pe_ix ix_list (pv 0) pe_int (fun _ _ => rfl)) pe_int) (pg_sub (pv 0) pe_int set_list))
      (pss_cons (ps_set (i := 3) scNext.nd rfl (.inl rfl) pe_int)
      (pss_cons (ps_set (i := 4) scNext.nd rfl (.inl rfl) (pe_op op_mod (pe_callTy call_int1 (by rfl) mi boot_int (pa_cons (pe_op op_add (pe_op op_add (pe_ix ix_list (pv 0) pe_int (fun _ _ => rfl)) (pe_op op_mul pe_int (pe_ix ix_list (pv 0) pe_int (fun _ _ => rfl)))) pe_int) pa_nil)) (pv 3)))
      (pss_cons (ps_set (i := 4) scNext.nd rfl (.inl rfl) (pe_op op_mod (pe_callTy call_int1 (by rfl) mi boot_int (pa_cons (pe_op op_mul (pv 4) pe_int) pa_nil)) (pv 3)))
      (pss_cons (ps_set (i := 4) scNext.nd rfl (.inl rfl) (pe_op op_mod (pe_callTy call_int1 (by rfl) mi boot_int (pa_cons (pe_op op_mul (pv 4) (pe_op op_add (pe_op op_fdiv (pv 4) pe_int) pe_int)) pa_nil)) (pv 3)))
      (pss_cons (ps_set (i := 4) scNext.nd rfl (.inl rfl) (pe_op op_mod (pe_callTy call_int1 (by rfl) mi boot_int (pa_cons (pe_op op_mul (pv 4) (pe_op op_add (pe_op op_fdiv (pv 4) pe_int) pe_int)) pa_nil)) pe_int))
      (pss_one (ps_ret (pe_op op_mod (pe_callTy call_int1 (by rfl) mi boot_int (pa_cons (pe_op op_fdiv (pv 4) pe_int) pa_nil)) (pv 1)))))))))), ?_⟩
    have L : ∀ {H' : Hp} {l : List V}, H' a = some (.lst l) → SqL K H' a l := fun h => SqL.of h
    refine ⟨_, rfl, a, _, 0, _, rfl, rfl, L hs, rfl, _, _, rfl, rfl, _, rfl, ?_⟩
    refine ite2 (fun _ => ?_) (fun _ => ?_)
    · refine ⟨_, rfl, a, _, 0, _, rfl, rfl, L hs, rfl, .inl ⟨_, rfl, _, rfl, _, _, rfl, rfl, m0, ?_⟩⟩
      refine ⟨_, rfl, a, _, 0, _, rfl, rfl, L hs, rfl, _, rfl, _, _, rfl, rfl, ⟨m0, m1⟩, _, rfl, a, _, 0, 0, rfl, rfl, hs, rfl, ?_⟩
      refine ⟨_, rfl, ?_⟩
      exact q _ _ _ _ (Int.emod_nonneg _ (by omega)) (Int.emod_lt_of_pos _ m0)
    · refine ⟨_, rfl, a, _, 2, _, rfl, rfl, L hs, rfl, _, _, rfl, rfl, _, rfl, a, _, 2, 2, rfl, rfl, hs, rfl, ?_⟩
      have hs2 : (upd H a (.lst (([.int x, .int y, .int z] : List V).set 2 (.int (z + 1))))) a = some (.lst [.int x, .int y, .int (z + 1)]) := upd_same
      refine ⟨_, rfl, a, _, 1, _, rfl, rfl, L hs2, rfl, _, rfl, a, _, 2, _, rfl, rfl, L hs2, rfl, _, _, rfl, rfl, .inl ⟨by decide, by decide⟩, _, _, rfl, rfl, _, _, rfl, rfl, .inl ⟨_, rfl, _, rfl, _, _, rfl, rfl, (by show (0 : Int) < 2147483647; decide), ?_⟩⟩
      have p0 : (0 : Int) < 2147483647 := by decide
      have b1 : ∀ i : Int, -(2 ^ 64) < i % 2147483647 ∧ i % 2147483647 < 2 ^ 64 := fun i => by
        have := Int.emod_nonneg i (show (2147483647 : Int) ≠ 0 by decide)
        have := Int.emod_lt_of_pos i p0
        omega
      refine ⟨_, rfl, _, _, rfl, rfl, .inl (b1 _), .inl ⟨_, rfl, _, rfl, _, _, rfl, rfl, p0, ?_⟩⟩
      refine ⟨_, rfl, _, rfl, _, _, rfl, rfl, ⟨by decide, by decide⟩, _, _, rfl, rfl, _, _, rfl, rfl, .inl (b1 _), .inl ⟨_, rfl, _, rfl, _, _, rfl, rfl, p0, ?_⟩⟩
      refine ⟨_, rfl, _, rfl, _, _, rfl, rfl, ⟨by decide, by decide⟩, _, _, rfl, rfl, _, _, rfl, rfl, .inl (b1 _), .inl ⟨_, rfl, _, _, rfl, rfl, (by show (0 : Int) < 2147483399; decide), ?_⟩⟩
      refine ⟨_, rfl, _, _, rfl, rfl, ⟨by decide, by decide⟩, .inl ⟨_, rfl, _, rfl, _, _, rfl, rfl, m0, ?_⟩⟩
      exact q _ x y (z + 1) (Int.emod_nonneg _ (by omega)) (Int.emod_lt_of_pos _ m0)

/-! ### _law_source_of, _law_cell_at, _law_one, _law_mixed -/
theorem scSrc : FnScope ["_law_cell"] ["_law_cell"] (defScope sSrc) := ⟨rfl, rfl, rfl, by decide +kernel, rfl, by decide +kernel, by decide +kernel⟩
def spSrc : Sp := fun vs H Q _ => ∃ c : Int, vs = [.int c] ∧ ∀ (x y z : Int) (p : Addr), H p = none → Q (.ref p) (upd H p (.lst [.int x, .int y, .int z]))
theorem okSrc {f : Addr} {fd : FuncData} {k : Nat} (F : Fun K "_law_source_of" "_law_source_of" sSrc f fd) (mi : mg "int" = none) : FnOk P w K mg base CX0 (k + 1) f fd ["_law_cell"] spSrc := by
  refine F.ok scSrc (fun vs H Q E h => ?_) (fun cdv A outer s H vs Q E hr h => ?_)
  · obtain ⟨c, rfl, _⟩ := h
    rfl
  · obtain ⟨c, rfl, q⟩ := h
    refine ⟨_, pss_cons (ps_set (i := 0) scSrc.nd rfl (.inl rfl) (pe_ifExp (pt_cmpR op_ge (pv 0) pe_int (nomark _)) (pv 0) (pe_op op_sub (pe_op op_sub pe_int (pe_op op_mul pe_int (pv 0))) pe_int)))
      (pss_one (ps_ret (pe_lst (pa_cons (pe_op op_mul (pv 0) (pe_callTy call_int1 (by rfl) mi boot_int (pa_cons (pe_cmpR op_ge (pv 0) (pe_op op_pow pe_int pe_int) (nomark _)) pa_nil)))
        (pa_cons (pe_op op_mod (pe_callTy call_int1 (by rfl) mi boot_int (pa_cons (pv 0) pa_nil)) pe_int) (pa_cons pe_int pa_nil)))))), ?_⟩
    refine ⟨_, rfl, _, _, rfl, rfl, _, rfl, ?_⟩
    have rest : ∀ c : Int, ∀ t : TS, (t = tRet (tLst (tCons (tOp (rI CMul fun i j => V.int (i * j)) (tVar 0) (tCB (fun xs H Q => (∃ i, xs = [.int i] ∧ Q (.int i) H) ∨ ∃ k, xs = [.bl k] ∧ Q (.int (if k then 1 else 0)) H) (tCons (tOp (rI0 fun i j => V.bl (decide (j ≤ i))) (tVar 0) (tOp (rI CPow fun i j => V.int (i ^ j.toNat)) (tC (.int 10)) (tC (.int 18)))) tNil)))
      (tCons (tOp (rI (fun _ j => 0 < j) fun i j => V.int (i % j)) (tCB (fun xs H Q => (∃ i, xs = [.int i] ∧ Q (.int i) H) ∨ ∃ k, xs = [.bl k] ∧ Q (.int (if k then 1 else 0)) H) (tCons (tVar 0) tNil)) (tC (.int 2147483647))) (tCons (tC (.int 0)) tNil))))) → t { nx := fun _ H' => Q .non H', rt := Q } [some (.int c)] H := by
      rintro c t rfl
      refine ⟨_, rfl, _, rfl, _, _, rfl, rfl, ⟨by decide, by decide, by decide⟩, _, _, rfl, rfl, .inr ⟨_, rfl, _, _, rfl, rfl, .inr ?_, _, rfl, .inl ⟨_, rfl, _, _, rfl, rfl, (by show (0 : Int) < 2147483647; decide), ?_⟩⟩⟩
      · by_cases h : (10 : Int) ^ (18 : Int).toNat ≤ c
        · rw [decide_eq_true h]
          decide
        · rw [decide_eq_false h]
          decide
      · exact ⟨(by show 3 ≤ sizeLine; decide), fun p hp => q _ _ _ p hp⟩
    refine ite2 (fun _ => ?_) (fun _ => ?_)
    · exact ⟨_, rfl, rest _ _ rfl⟩
    · exact ⟨_, rfl, _, _, rfl, rfl, .inl ⟨by decide, by decide⟩, _, _, rfl, rfl, _, _, rfl, rfl, rest _ _ rfl⟩

theorem scOne : FnScope ["_law_source", "_law_some"] ["_law_source", "_law_some"] (defScope sOne) := ⟨rfl, rfl, rfl, by decide +kernel, rfl, by decide +kernel, by decide +kernel⟩
def spOne (K : PySem.W.Frag) : Sp := fun vs H Q _ => ∃ (a b : Addr) (xs : List V), vs = [.ref a, .ref b] ∧ SrcAt H a ∧ SqL K H b xs ∧ b ≠ a ∧ xs ≠ [] ∧ xs.length < 1073741824 ∧
  ∀ (r : Nat) (v : V) (x y z : Int), xs[r]? = some v → Q v (upd H a (.lst [.int x, .int y, .int z]))
theorem SqL.upd {H : Hp} {a b : Addr} {o : HO} {xs : List V} (h : SqL K H b xs) (ne : b ≠ a) : SqL K (upd H a o) b xs := by
  rcases h with (h | ⟨u, h⟩) | h
  · exact .inl (.inl (by rw [upd_ne ne]; exact h))
  · exact .inl (.inr ⟨u, by rw [upd_ne ne]; exact h⟩)
  · exact .inr h
theorem okOne {f fN : Addr} {fd fdN : FuncData} {k : Nat} (F : Fun K "_law_one" "_law_one" sOne f fd) (FN : Fun K "_law_next" "_law_next" sNext fN fdN) (bN : Binds K fdN ["_law_source", "_law_many"] []) (gN : mg "_law_next" = some (.ref fN)) (mi : mg "int" = none) (ml : mg "len" = none) :
    FnOk P w K mg base CX0 (k + 2) f fd ["_law_source", "_law_some"] (spOne K) := by
  have GN : FnOk P w K mg base CX0 (k + 1) fN fdN ["_law_source", "_law_many"] spNext := okNext FN mi
  refine F.ok scOne (fun vs H Q E h => ?_) (fun cdv A outer s H vs Q E hr h => ?_)
  · obtain ⟨a, b, xs, rfl, _⟩ := h
    rfl
  · obtain ⟨a, b, xs, rfl, hs, hb, ne, nn, hl, q⟩ := h
    refine ⟨_, pss_one (ps_ret (pe_ix ix_list (pv 1) (pe_call GN hr rfl gN FN.kp bN .nil pass0 (pa_cons (pv 0) (pa_cons (pe_callB call_len_seq (by rfl) ml boot_len (pa_cons (pv 1) pa_nil)) pa_nil))) (fun _ _ => rfl))), ?_⟩
    have pos : 0 < xs.length := List.length_pos_iff.mpr nn
    refine ⟨_, rfl, _, rfl, _, rfl, b, xs, rfl, .inl hb, a, _, rfl, hs, by omega, by omega, fun r x y z r0 r1 => ?_⟩
    have hlt : r.toNat < xs.length := by omega
    refine ⟨b, xs, r, xs[r.toNat], rfl, rfl, SqL.upd hb ne, ?_, q r.toNat _ x y z (List.getElem?_eq_getElem hlt)⟩
    have e : r = (r.toNat : Int) := by omega
    exact at_of e (List.getElem?_eq_getElem hlt)
/-! ### data -/
theorem Dp.all_of {H : Hp} : ∀ {xs : List V}, (∀ x ∈ xs, ∃ d, Dp K H x d ∧ d.canLay0 = true ∧ d.depth ≤ 60) → ∃ ds : List PyData, DpAll K H xs ds ∧ PyData.canLayAll0 ds = true ∧ PyData.depthAll ds ≤ 60 ∧ ds.length = xs.length
  | [], _ => ⟨[], .nil, rfl, by decide, rfl⟩
  | x :: xs, h => by
    obtain ⟨d, h1, h2, h3⟩ := h x (List.mem_cons_self ..)
    obtain ⟨ds, g1, g2, g3, g4⟩ := Dp.all_of (xs := xs) fun y hy => h y (List.mem_cons_of_mem _ hy)
    refine ⟨d :: ds, .cons h1 g1, ?_, ?_, by rw [List.length_cons, List.length_cons, g4]⟩
    · show (d.canLay0 && PyData.canLayAll0 ds) = true
      rw [h2, g2]
      rfl
    · show max d.depth (PyData.depthAll ds) ≤ 60
      omega
theorem scMix : FnScope ["_law_source", "_law_some", "_law_left", "_law_found"] ["_law_source", "_law_some"] (defScope sMix) := ⟨rfl, rfl, rfl, by decide +kernel, rfl, by decide +kernel, by decide +kernel⟩
/-- the items are data, whatever becomes of the source -/
def ItemsOk (K : PySem.W.Frag) (a : Addr) (H : Hp) (xs : List V) : Prop := ∀ x ∈ xs, ∀ H', But a H H' → ∃ d, Dp K H' x d ∧ d.canLay0 = true ∧ d.depth ≤ 60
def spMix (K : PySem.W.Frag) : Sp := fun vs H Q _ => ∃ (a b : Addr) (xs : List V), vs = [.ref a, .ref b] ∧ SrcAt H a ∧ (SqL K H b xs ∨ SqT K H b xs) ∧ xs.length < 1000 ∧ ItemsOk K a H xs ∧
  ∀ (H' : Hp) (p : Addr) (ys : List V), ys.Perm xs → But a H H' → SrcAt H' a → H p = none → H' p = some (.lst ys) → Q (.ref p) H'

theorem ItemsOk.sub {a : Addr} {H H1 : Hp} {xs ys : List V} (h : ItemsOk K a H xs) (b : But a H H1) (m : ∀ y ∈ ys, y ∈ xs) : ItemsOk K a H1 ys := fun y hy H' hb => h y (m y hy) H' fun c o n e => hb c o n (b c o n e)
theorem perm_erase {xs : List V} {j : Nat} {y : V} (h : xs[j]? = some y) : (y :: xs.eraseIdx j).Perm xs := by
  induction xs generalizing j with
  | nil => simp at h
  | cons x r ih =>
    cases j with
    | zero =>
      have e : x = y := Option.some.inj h
      rw [e]
      exact List.Perm.refl _
    | succ j =>
      have h' : r[j]? = some y := h
      exact (List.Perm.swap x y (r.eraseIdx j)).trans (List.Perm.cons x (ih h'))
theorem okMix {f fN : Addr} {fd fdN : FuncData} {k : Nat} (F : Fun K "_law_mixed" "_law_mixed" sMix f fd) (FN : Fun K "_law_next" "_law_next" sNext fN fdN) (bN : Binds K fdN ["_law_source", "_law_many"] []) (gN : mg "_law_next" = some (.ref fN)) (mi : mg "int" = none) (ml : mg "len" = none) (mls : mg "list" = none) :
    FnOk P w K mg base CX0 (k + 2) f fd ["_law_source", "_law_some"] (spMix K) := by
  have GN : FnOk P w K mg base CX0 (k + 1) fN fdN ["_law_source", "_law_many"] spNext := okNext FN mi
  refine F.ok scMix (fun vs H Q E h => ?_) (fun cdv A outer s H vs Q E hr h => ?_)
  · obtain ⟨a, b, xs, rfl, _⟩ := h
    rfl
  · obtain ⟨a, b, xs, rfl, hs, hb, hl, hi, q⟩ := h
    have hu : (A.deeper (envOfC "_law_mixed" (defScope sMix) s.heap.objs.size f cdv)).units + 64 < cLine := hr.units
    refine ⟨_, pss_cons (ps_set (i := 2) scMix.nd rfl (.inl rfl) (pe_callTy call_list_of (by rfl) mls boot_list (pa_cons (pv 1) pa_nil)))
      (pss_cons (ps_set (i := 3) scMix.nd rfl (.inl rfl) (pe_lst pa_nil))
      (pss_cons (ps_while PassesOwn.never (pt_cmpR (op_neD hu) (pv 2) (pe_lst pa_nil) (nomark _))
        (pss_one (ps_expr (pe_bm PySem.F.plainAttrs_list PySem.F.slot_list_append PySem.F.type_list_append mt_append (pv 3)
          (pa_cons (pe_bm PySem.F.plainAttrs_list PySem.F.slot_list_pop PySem.F.type_list_pop mt_popAt (pv 2) (pa_cons (pe_call GN hr rfl gN FN.kp bN .nil pass0 (pa_cons (pv 0) (pa_cons (pe_callB call_len_seq (by rfl) ml boot_len (pa_cons (pv 2) pa_nil)) pa_nil))) pa_nil)) pa_nil)))))
      (pss_one (ps_ret (pv 3))))), ?_⟩
    refine ⟨_, rfl, b, xs, rfl, hb, fun l nl => ⟨by show 0 ≤ sizeLine; exact Nat.zero_le _, fun p np => ?_⟩⟩
    have nlp : l ≠ p := fun e => by
      rw [← e, upd_same] at np
      cases np
    have np0 : H p = none := by
      rw [upd_ne nlp.symm] at np
      exact np
    obtain ⟨x0, y0, z0, hsrc⟩ := id hs
    have nal : a ≠ l := ne_of_none hsrc nl
    have nap : a ≠ p := ne_of_none hsrc np0
    refine while_by (fun σ H1 => ∃ ls fs, σ = [some (.ref a), some (.ref b), some (.ref l), some (.ref p)] ∧ H1 l = some (.lst ls) ∧ H1 p = some (.lst fs) ∧ (fs ++ ls).Perm xs ∧ SrcAt H1 a ∧ But a H H1)
      (fun _ H1 => match H1 l with | some (.lst xs) => xs.length | _ => 0) ⟨xs, [], rfl, by rw [upd_ne nlp, upd_same], upd_same, List.Perm.refl _, ⟨x0, y0, z0, by rw [upd_ne nap, upd_ne nal]; exact hsrc⟩, fun c o _ e => by rw [upd_ne (ne_of_none e np0), upd_ne (ne_of_none e nl)]; exact e⟩ ?_
      (fun σ H Q Q' hq h => by
        obtain ⟨v, e, z, h⟩ := h
        exact ⟨v, e, z, fun p np => let ⟨d, e', h1, h2, h3, h4, k, h5, h6⟩ := h p np; ⟨d, e', h1, h2, h3, h4, k, h5, hq _ _ h6⟩⟩)
    rintro σ H1 ⟨ls, fs, rfl, el, ep, pm, ⟨x1, y1, z1, es⟩, bt⟩
    have mem : ∀ y ∈ ls, y ∈ xs := fun y hy => pm.mem_iff.mp (List.mem_append_right _ hy)
    refine ⟨_, rfl, Nat.zero_le _, fun q1 nq => ?_⟩
    have btq : But a H (upd H1 q1 (.lst [])) := fun c o n e => by
      have e1 := bt c o n e
      rw [upd_ne (ne_of_none e1 nq)]
      exact e1
    obtain ⟨ds, hd, hc, hdp, hdl⟩ := Dp.all_of (K := K) (H := upd H1 q1 (.lst [])) (xs := ls) fun y hy => hi y (mem y hy) _ btq
    have el' : (upd H1 q1 (.lst [])) l = some (.lst ls) := by
      rw [upd_ne (ne_of_none el nq)]
      exact el
    have ep' : (upd H1 q1 (.lst [])) p = some (.lst fs) := by
      rw [upd_ne (ne_of_none ep nq)]
      exact ep
    have es' : (upd H1 q1 (.lst [])) a = some (.lst [.int x1, .int y1, .int z1]) := by
      rw [upd_ne (ne_of_none es nq)]
      exact es
    have sh : SeqAt.shaped (.list ds) = true := by
      show (PyData.canLayAll0 ds && decide (PyData.depthAll ds + 1 ≤ 64)) = true
      rw [hc, decide_eq_true (by omega)]
      rfl
    refine ⟨.list ds, .list [], .lst (.inl (.inl el')) hd, .lst (.inl (.inl upd_same)) .nil, sh, by decide, _, rfl, ?_⟩
    have hcase : PyData.eqv (.list ds) (.list []) = ds.isEmpty := by
      cases ds <;> rfl
    rw [hcase]
    have hlen : (fs ++ ls).length = xs.length := pm.length_eq
    rw [List.length_append] at hlen
    cases ls with
    | nil =>
      have e0 : ds = [] := List.eq_nil_of_length_eq_zero hdl
      subst e0
      refine ⟨_, rfl, q _ p fs ?_ btq ⟨_, _, _, es'⟩ np0 ep'⟩
      rw [List.append_nil] at pm
      exact pm
    | cons y0 r0 =>
      have e0 : ds.isEmpty = false := by
        cases ds with
        | nil => simp at hdl
        | cons _ _ => rfl
      rw [e0]
      have hn : (y0 :: r0).length ≤ xs.length := by omega
      refine ⟨_, rfl, .inl ⟨rfl, fs, .inl (.inl ep')⟩, _, rfl, .inl ⟨rfl, _, .inl (.inl el')⟩, _, rfl, _, rfl, l, _, rfl, .inl (.inl (.inl el')), a, _, rfl, ⟨_, _, _, es'⟩, by simp, by omega, fun r x2 y2 z2 g0 g1 => ?_⟩
      have hlt : r.toNat < (y0 :: r0).length := by omega
      have nla : l ≠ a := nal.symm
      have npa : p ≠ a := nap.symm
      refine ⟨l, y0 :: r0, r, r.toNat, (y0 :: r0)[r.toNat], rfl, rfl, by rw [upd_ne nla]; exact el', by omega, by omega, seqIndex_of g0 g1, List.getElem?_eq_getElem hlt, ?_⟩
      refine ⟨p, fs, _, rfl, rfl, by rw [upd_ne nlp.symm, upd_ne npa]; exact ep', Nat.lt_of_le_of_lt (by omega : fs.length ≤ 1000) (by decide), ⟨(y0 :: r0).eraseIdx r.toNat, fs ++ [(y0 :: r0)[r.toNat]], rfl, by rw [upd_ne nlp, upd_same], upd_same, ?_, ⟨x2, y2, z2, by rw [upd_ne nap, upd_ne nal, upd_same]⟩, fun c o n e => ?_⟩, ?_⟩
      · rw [List.append_assoc]
        exact (List.Perm.append_left fs (perm_erase (List.getElem?_eq_getElem hlt))).trans pm
      · have e1 := btq c o n e
        have c1 : c ≠ l := ne_of_none e nl
        have c2 : c ≠ p := ne_of_none e np0
        rw [upd_ne c2, upd_ne c1, upd_ne n]
        exact e1
      · rw [el]
        rw [upd_ne nlp, upd_same]
        show ((y0 :: r0).eraseIdx r.toNat).length < (y0 :: r0).length
        rw [List.length_eraseIdx_of_lt hlt]
        simp
end
end Lm

/-! _law_writes -/
namespace Lm
open PySem PySem.Spec PyProof.Rows L2 LmS
open C8 (fnScope_by pe_gc pss_cut tCut Cal pe_c)
theorem popK {X : Cx} (K : PySem.W.Frag) (h : X.K = K) {o : Expr} {to : TE} {apos cpos : Pos} (ho : PE X o to) (hbase : attributeBase o "pop" X.env (eval o X.env) = eval o X.env := by rfl) (hline : (apos.endLine == cpos.line) = true := by rfl) : PE X (.Call (.Attribute o "pop" apos) [] [] cpos) (tBM0 K "list" rPop to) := by
  subst h
  exact pe_bm0 PySem.F.plainAttrs_list PySem.F.slot_list_pop PySem.F.type_list_pop mt_pop ho hbase hline
/-- tuples of a mark and what it gets -/
def WsAt (H : Hp) : List V → List (Int × Sr) → Prop
  | [], [] => True
  | v :: vs, q :: ws => (∃ t, v = .ref t ∧ H t = some (.tup [.int q.1, vS q.2])) ∧ WsAt H vs ws
  | _, _ => False
theorem WsAt.mono {H H' : Hp} (k : ∀ t x, H t = some (.tup x) → H' t = some (.tup x)) : ∀ {vs : List V} {ws : List (Int × Sr)}, WsAt H vs ws → WsAt H' vs ws
  | [], [], _ => trivial
  | v :: vs, q :: ws, h => ⟨let ⟨t, e, z⟩ := h.1; ⟨t, e, k _ _ z⟩, WsAt.mono k h.2⟩
  | [], _ :: _, h => h.elim
  | _ :: _, [], h => h.elim
theorem WsAt.append {H : Hp} {us : List V} {xs : List (Int × Sr)} (g : WsAt H us xs) : ∀ {vs : List V} {ws : List (Int × Sr)}, WsAt H vs ws → WsAt H (vs ++ us) (ws ++ xs)
  | [], [], _ => g
  | v :: vs, q :: ws, h => ⟨h.1, WsAt.append g h.2⟩
  | [], _ :: _, h => h.elim
  | _ :: _, [], h => h.elim
theorem WsAt.len {H : Hp} : ∀ {vs : List V} {ws : List (Int × Sr)}, WsAt H vs ws → vs.length = ws.length
  | [], [], _ => rfl
  | v :: vs, q :: ws, h => by rw [List.length_cons, List.length_cons, WsAt.len h.2]
  | [], _ :: _, h => h.elim
  | _ :: _, [], h => h.elim
theorem WsAt.take {H : Hp} : ∀ {vs : List V} {ws : List (Int × Sr)} (n : Nat), WsAt H vs ws → WsAt H (vs.take n) (ws.take n)
  | _, _, 0, _ => by rw [List.take_zero, List.take_zero]; trivial
  | [], [], _ + 1, _ => trivial
  | v :: vs, q :: ws, n + 1, h => ⟨h.1, WsAt.take n h.2⟩
  | [], _ :: _, _ + 1, h => h.elim
  | _ :: _, [], _ + 1, h => h.elim
theorem WsAt.get {H : Hp} : ∀ {vs : List V} {ws : List (Int × Sr)} {i : Nat} {v : V}, WsAt H vs ws → vs[i]? = some v → ∃ q t, ws[i]? = some q ∧ v = .ref t ∧ H t = some (.tup [.int q.1, vS q.2])
  | [], _, i, v, _, e => by simp at e
  | v :: vs, q :: ws, 0, u, h, e => by
    have e : v = u := Option.some.inj e
    obtain ⟨t, e1, e2⟩ := h.1
    exact ⟨q, t, rfl, by rw [← e]; exact e1, e2⟩
  | v :: vs, q :: ws, i + 1, u, h, e => WsAt.get (i := i) h.2 (by simpa using e)
  | _ :: _, [], _, _, h, _ => h.elim
theorem ws_of_pairs {H : Hp} : ∀ {ts : List Addr} {us vs : List Int}, Paired (fun (t : Addr) (q : V × V) => H t = some (.tup [q.1, q.2])) ts ((us.map V.int).zip (vs.map V.int)) → WsAt H (ts.map V.ref) ((us.zip vs).map fun p => (p.1, (Src.mk p.2 : Sr)))
  | _, [], _, h => by cases h; trivial
  | _, _ :: _, [], h => by cases h; trivial
  | _, x :: us, y :: vs, h => by
    cases h with
    | cons h t => exact ⟨⟨_, rfl, h⟩, ws_of_pairs t⟩
theorem zip_fst_sub : ∀ us vs : List Int, (((us.zip vs).map fun p => (p.1, (Src.mk p.2 : Sr))).map (·.1)).Sublist us
  | [], _ => .slnil
  | _ :: us, [] => List.nil_sublist _
  | x :: us, y :: vs => (zip_fst_sub us vs).cons₂ x
theorem zip_snd_mem {us vs : List Int} {q : Int × Sr} (h : q ∈ (us.zip vs).map fun p => (p.1, (Src.mk p.2 : Sr))) : ∃ j ∈ vs, q.2 = .mk j := by
  obtain ⟨p, hp, rfl⟩ := List.mem_map.mp h
  obtain ⟨x, y⟩ := p
  exact ⟨y, (List.of_mem_zip hp).2, rfl⟩
def lenAt (H : Hp) (l : Addr) : Nat := match H l with
  | some (.lst xs) => xs.length
  | _ => 0
theorem cut_pre (xs : List V) (n : Nat) : cutV xs none (some (n : Int)) = xs.take n := by
  have e1 : HT.sIx xs.length 0 none = 0 := HT.sIx_none ..
  have e2 : HT.sIx xs.length xs.length (some (n : Int)) = min n xs.length := HT.sIx_nat ..
  unfold cutV
  rw [e1, e2, List.drop_zero, Nat.sub_zero]
  rcases Nat.le_total n xs.length with h | h
  · rw [Nat.min_eq_left h]
  · rw [Nat.min_eq_right h, List.take_of_length_le (Nat.le_refl _), List.take_of_length_le h]
theorem cut_suf (xs : List V) (n : Nat) : cutV xs (some (n : Int)) none = xs.drop n := by
  have e1 : HT.sIx xs.length xs.length none = xs.length := HT.sIx_none ..
  have e2 : HT.sIx xs.length 0 (some (n : Int)) = min n xs.length := HT.sIx_nat ..
  unfold cutV
  rw [e1, e2]
  rcases Nat.le_total n xs.length with h | h
  · rw [Nat.min_eq_left h, List.take_of_length_le (by rw [List.length_drop]; exact Nat.le_refl _)]
  · rw [Nat.min_eq_right h, List.drop_of_length_le (Nat.le_refl _), List.drop_of_length_le h, List.take_nil]
/-- only lists of the place l differ -/
theorem tup_upd {H : Hp} {l : Addr} {xs : List V} {o : HO} (h : H l = some (.lst xs)) : ∀ t x, H t = some (.tup x) → (upd H l o) t = some (.tup x) := fun t x e => by
  rw [upd_ne (fun z => by rw [z, h] at e; cases e)]
  exact e
theorem ints_can : ∀ ls : List Int, PyData.canLayAll0 (ls.map PyData.int) = true ∧ PyData.depthAll (ls.map PyData.int) ≤ 60
  | [] => ⟨rfl, by decide⟩
  | x :: r => by
    obtain ⟨h1, h2⟩ := ints_can r
    constructor
    · show (PyData.canLay0 (.int x) && PyData.canLayAll0 (r.map PyData.int)) = true
      rw [h1]
      rfl
    · show max (PyData.int x).depth (PyData.depthAll (r.map PyData.int)) ≤ 60
      have : (PyData.int x).depth ≤ 60 := by show _ ≤ 60; simp [PyData.depth]
      omega
theorem ints_shaped (ls : List Int) : SeqAt.shaped (.list (ls.map PyData.int)) = true := by
  obtain ⟨h1, h2⟩ := ints_can ls
  show (PyData.canLayAll0 (ls.map PyData.int) && decide (PyData.depthAll (ls.map PyData.int) + 1 ≤ 64)) = true
  rw [h1, decide_eq_true (by omega)]
  rfl
theorem ints_dp {K : PySem.W.Frag} {H : Hp} : ∀ ls : List Int, DpAll K H (ls.map V.int) (ls.map PyData.int)
  | [] => .nil
  | x :: r => .cons (.int x) (ints_dp r)
theorem ints_nil (ls : List Int) : PyData.eqv (.list (ls.map PyData.int)) (.list []) = ls.isEmpty := by cases ls <;> rfl
theorem src_off {H : Hp} {a l : Addr} {o : HO} (h : SrcAt H a) (ne : a ≠ l) : SrcAt (upd H l o) a := by
  obtain ⟨x, y, z, e⟩ := h
  exact ⟨x, y, z, by rw [upd_ne ne]; exact e⟩

end Lm

/-! d.update(e) -/
namespace L2
open PySem PySem.Spec PyProof.Rows
section
variable {X : Cx}
def rDupd : V → List V → Hp → VK → Prop := fun x vs H Q => ∃ (a b : Addr) (kvs more : List (Key × V)), x = .ref a ∧ vs = [.ref b] ∧ a ≠ b ∧ H a = some (.dK kvs) ∧ H b = some (.dK more) ∧ kvs.length + more.length ≤ sizeLine ∧ Q .non (upd H a (.dK (mergeK kvs more)))
theorem mt_dupd : MtM X "dict.update" rDupd := by
  intro pins s σ H x vs v us Q I rx rv h
  obtain ⟨a, b, kvs, more, rfl, rfl, hne, hA, hB, hz, q⟩ := h
  cases rx
  obtain ⟨u, rfl, ru⟩ := rv.one
  cases ru
  obtain ⟨z1, lo1, ks, rel1, dd1⟩ := dk_of I.hok hA
  obtain ⟨z2, lo2, ms, rel2, dd2⟩ := dk_of I.hok hB
  have hl : ks.length + ms.length ≤ sizeLine := by rw [← rel1.length, ← rel2.length]; exact hz
  refine call_meetsIn PySem.F.slot_dict_update dd1.typeIs PySem.F.entry_dict_update (PySem.F.args_dict_update_2 _ _) (meets_dict_update (mixKind X.prog X.w) a b hne lo2) ⟨ks, ms, dd1, dd2, hl, fun h' d1 d2 hs => ?_⟩
  have he : ∃ q, h'.get? a = some q := let ⟨q, _, _, hq, _⟩ := d1; ⟨q, hq⟩
  exact ⟨.non, _, d_write I (by rw [hA]; exact True.intro) hs he (dk_new (Nat.le_trans (length_mergeK _ _) hz) lo1 (KV.merge rel2 rel1) d1), rfl, q⟩
end
end L2

/-! _law_due -/
namespace Lm
open PySem PySem.Spec PyProof.Rows L2 LmS
open C8 (fnScope_by pe_gc pss_cut tCut Cal pe_c)
theorem mergeK_new : ∀ {more kvs : List (Key × V)}, (more.map (·.1)).Nodup → (∀ p ∈ more, valV kvs p.1 = none) → mergeK kvs more = kvs ++ more
  | [], kvs, _, _ => by show kvs = kvs ++ []; rw [List.append_nil]
  | (k, v) :: r, kvs, nd, h => by
    have nd' := List.nodup_cons.mp (show (k :: r.map (·.1)).Nodup from nd)
    show mergeK (putK kvs k v) r = _
    have hk : valV kvs k = none := h (k, v) (List.mem_cons_self ..)
    have hp : putK kvs k v = kvs ++ [(k, v)] := putK_new hk
    rw [mergeK_new nd'.2 fun p hp' => ?_, hp, List.append_assoc]
    · rfl
    · rw [valV_put, if_neg (fun e => nd'.1 (by rw [← e]; exact List.mem_map_of_mem (f := (·.1)) hp'))]
      exact h p (List.mem_cons_of_mem _ hp')
theorem mergeK_val {k : Key} : ∀ {more kvs : List (Key × V)}, valV (mergeK kvs more) k ≠ none ↔ valV kvs k ≠ none ∨ k ∈ more.map (·.1)
  | [], kvs => by show valV kvs k ≠ none ↔ _; simp
  | (k', v) :: r, kvs => by
    show valV (mergeK (putK kvs k' v) r) k ≠ none ↔ _
    rw [mergeK_val, valV_put]
    by_cases e : k = k'
    · rw [if_pos e]
      exact ⟨fun _ => .inr (by rw [e]; exact List.mem_cons_self ..), fun _ => .inl fun z => nomatch z⟩
    · rw [if_neg e, List.map_cons, List.mem_cons]
      exact ⟨fun h => h.imp id .inr, fun h => h.elim .inl fun z => z.elim (fun q => absurd q e) .inr⟩
theorem kvS_inr (x : Str) : ∀ S : List (Int × Sr), valV (kvS S) (Sum.inr x) = none
  | [] => rfl
  | (k, s) :: S => by
    show valV ((Sum.inl k, vS s) :: kvS S) (Sum.inr x) = _
    have e : ¬ ((Sum.inl k : Key) = Sum.inr x) := fun h => by cases h
    rw [valV_neg e]
    exact kvS_inr x S
theorem kvS_nodup {ws : List (Int × Sr)} (nd : (ws.map (·.1)).Nodup) : ((kvS ws).map (·.1)).Nodup := by
  unfold kvS
  rw [List.map_map]
  have : (fun p : Int × Sr => (Sum.inl p.1 : Key)) = Sum.inl ∘ (·.1) := rfl
  show (ws.map fun p => (Sum.inl p.1 : Key)).Nodup
  rw [this, ← List.map_map]
  exact List.Pairwise.map Sum.inl (fun a b h e => h (Sum.inl.inj e)) nd
/-- the tuples' own places -/
theorem WsAt.refs {K : PySem.W.Frag} {H : Hp} : ∀ {vs : List V} {ws : List (Int × Sr)}, WsAt H vs ws → ∃ ts : List Addr, vs = ts.map V.ref ∧ Paired (fun p (kv : Key × V) => SqT K H p [kV kv.1, kv.2]) ts (kvS ws)
  | [], [], _ => ⟨[], rfl, .nil⟩
  | v :: vs, q :: ws, h => by
    obtain ⟨⟨t, rfl, e⟩, h2⟩ := h
    obtain ⟨ts, rfl, p⟩ := WsAt.refs (K := K) h2
    exact ⟨t :: ts, rfl, .cons (.inl (.inl e)) p⟩
  | [], _ :: _, h => h.elim
  | _ :: _, [], h => h.elim
theorem op_notInK {X : Cx} (K : PySem.W.Frag) (h : X.K = K) : OpR X (compareOp .NotIn) (rIn K true) := by
  subst h
  exact op_notIn_seq
theorem and3 {t1 t2 t3 : TT} {σ : L2.St} {H : Hp} {Q : Bool → Hp → Prop} {b1 b2 b3 : Bool} (h1 : ∀ Q : Bool → Hp → Prop, Q b1 H → t1 σ H Q) (h2 : b1 = true → ∀ Q : Bool → Hp → Prop, Q b2 H → t2 σ H Q) (h3 : b1 = true → b2 = true → ∀ Q : Bool → Hp → Prop, Q b3 H → t3 σ H Q) (q : Q (b1 && (b2 && b3)) H) : tAnd t1 (tAnd t2 t3) σ H Q := by
  refine h1 _ ?_
  cases b1 with
  | false => exact iteF q
  | true =>
    refine iteT (h2 rfl _ ?_)
    cases b2 with
    | false => exact iteF q
    | true => exact iteT (h3 rfl rfl _ q)
theorem and2 {t1 t2 : TT} {σ : L2.St} {H : Hp} {Q : Bool → Hp → Prop} {b1 b2 : Bool} (h1 : ∀ Q : Bool → Hp → Prop, Q b1 H → t1 σ H Q) (h2 : b1 = true → ∀ Q : Bool → Hp → Prop, Q b2 H → t2 σ H Q) (q : Q (b1 && b2) H) : tAnd t1 t2 σ H Q := by
  refine h1 _ ?_
  cases b1 with
  | false => exact iteF q
  | true => exact iteT (h2 rfl _ q)
theorem andV2 {ta tb : TE} {σ : L2.St} {H : Hp} {Q : VK} {b1 b2 : Bool} (h1 : ∀ Q : VK, Q (.bl b1) H → ta σ H Q) (h2 : b1 = true → ∀ Q : VK, (∀ H', Same H H' → Q (.bl b2) H') → tb σ H Q) (q : ∀ H', Same H H' → Q (.bl (b1 && b2)) H') : tAndV ta tb σ H Q := by
  refine h1 _ ⟨_, rfl, ?_⟩
  cases b1 with
  | false => exact iteF (q H (Same.refl H))
  | true => exact iteT (h2 rfl _ q)
theorem in_str_ints (x : Str) (ns : List Int) : inV (.str x) (ns.map V.int) = false := by
  unfold inV
  rw [List.any_map, List.any_eq_false]
  intro y _ h
  exact nomatch h
def inS (s : Sr) (ns : List Int) : Bool := match s with
  | .con _ => false
  | .mk j => ns.contains j
theorem in_sr (s : Sr) (ns : List Int) : inV (vS s) (ns.map V.int) = inS s ns := by
  cases s with
  | con x => exact in_str_ints x ns
  | mk j => exact in_ints j ns
theorem flat_sr (s : Sr) : flatV (vS s) = true := by cases s <;> rfl
theorem paired_imp' {α β : Type} {F G : α → β → Prop} (h : ∀ a b, F a b → G a b) : ∀ {xs : List α} {ys : List β}, Paired F xs ys → Paired G xs ys
  | _, _, .nil => .nil
  | _, _, .cons a t => .cons (h _ _ a) (paired_imp' h t)
theorem sqt_tup {K : PySem.W.Frag} {H H' : Hp} {p : Addr} {xs : List V} (k : ∀ t x, H t = some (.tup x) → H' t = some (.tup x)) (kf : ∀ t o x, H t = some (.frz o (.tup x)) → H' t = some (.frz o (.tup x))) (h : SqT K H p xs) : SqT K H' p xs := by
  rcases h with (h | ⟨o, h⟩) | h
  · exact .inl (.inl (k _ _ h))
  · exact .inl (.inr ⟨o, kf _ _ _ h⟩)
  · exact .inr h
def tru (us : List Int) : List (Key × V) := us.map fun x => (Sum.inl x, V.bl true)
theorem tru_keys (us : List Int) : (tru us).map (·.1) = us.map Sum.inl := by unfold tru; rw [List.map_map]; rfl
theorem tru_nodup {us : List Int} (nd : us.Nodup) : ((tru us).map (·.1)).Nodup := by
  rw [tru_keys]
  exact List.Pairwise.map Sum.inl (fun a b h e => h (Sum.inl.inj e)) nd

end Lm

/-! _law_rows_right -/
namespace Lm
open PySem PySem.Spec PyProof.Rows L2 LmS
open C8 (fnScope_by pe_gc pss_cut tCut Cal pe_c)
/-- what a mark has behind it, of what all had ahead -/
def sub (f : Int → Bool) : Sr → Bool
  | .con x => decide (x = "on")
  | .mk j => f j
def In40 (m : Int) : Prop := 0 ≤ m ∧ m < 40
theorem valV_mem {k : Key} {v : V} : ∀ {kvs : List (Key × V)}, (kvs.map (·.1)).Nodup → (k, v) ∈ kvs → valV kvs k = some v
  | (k', u) :: r, nd, h => by
    have nd' := List.nodup_cons.mp (show (k' :: r.map (·.1)).Nodup from nd)
    rcases List.mem_cons.mp h with e | h
    · cases e
      exact valV_pos rfl
    · have hne : ¬ k' = k := fun e => nd'.1 (by rw [e]; exact List.mem_map_of_mem (f := (·.1)) h)
      rw [valV_neg hne]
      exact valV_mem nd'.2 h
def mkK (bs : List Bool) : List (Key × V) := bs.zipIdx.map fun p => (Sum.inl (p.2 : Int), V.bl p.1)
theorem mkK_snoc (bs : List Bool) (b : Bool) : mkK (bs ++ [b]) = mkK bs ++ [(Sum.inl (bs.length : Int), V.bl b)] := by
  unfold mkK
  rw [List.zipIdx_append, List.map_append]
  simp
theorem mkK_keys (bs : List Bool) : (mkK bs).map (·.1) = (List.range bs.length).map fun (i : Nat) => (Sum.inl (i : Int) : Key) := by
  unfold mkK
  rw [List.map_map]
  have : bs.zipIdx.map (fun p => (Sum.inl (p.2 : Int) : Key)) = (bs.zipIdx.map Prod.snd).map fun (i : Nat) => (Sum.inl (i : Int) : Key) := by rw [List.map_map]; rfl
  show bs.zipIdx.map (fun p => (Sum.inl (p.2 : Int) : Key)) = _
  rw [this, List.zipIdx_map_snd, List.range'_eq_map_range]
  simp
theorem mkK_nodup (bs : List Bool) : ((mkK bs).map (·.1)).Nodup := by
  rw [mkK_keys]
  refine List.Pairwise.map (R := fun a b : Nat => a ≠ b) _ (fun a b h e => h ?_) List.nodup_range
  have : (a : Int) = (b : Int) := Sum.inl.inj e
  omega
theorem mkK_val {bs : List Bool} {m : Int} (h0 : 0 ≤ m) (h1 : m < bs.length) : valV (mkK bs) (Sum.inl m) = some (.bl (bs.getD m.toNat false)) := by
  refine valV_mem (mkK_nodup bs) ?_
  unfold mkK
  have hl : m.toNat < bs.length := by omega
  refine List.mem_map.mpr ⟨(bs.getD m.toNat false, m.toNat), ?_, by rw [show ((m.toNat : Nat) : Int) = m by omega]⟩
  rw [List.mem_zipIdx_iff_getElem?, List.getD_eq_getElem?_getD, List.getElem?_eq_getElem hl]
  rfl
/-- a dict from all marks to truth values -/
def BdAt (H : Hp) (d : Addr) (n : Nat) (f : Int → Bool) : Prop := ∃ kvs, H d = some (.dK kvs) ∧ kvs.length ≤ n ∧ (∀ p ∈ kvs, ∃ m, p.1 = Sum.inl m ∧ In40 m) ∧ ∀ m, In40 m → valV kvs (Sum.inl m) = some (.bl (f m))
theorem BdAt.keep {H H' : Hp} {d : Addr} {n : Nat} {f : Int → Bool} (k : ∀ o, H d = some o → H' d = some o) (h : BdAt H d n f) : BdAt H' d n f := let ⟨kvs, h1, h2⟩ := h; ⟨kvs, k _ h1, h2⟩
theorem putK_mem {kvs : List (Key × V)} {k : Key} {v : V} {p : Key × V} (h : p ∈ putK kvs k v) : (∃ q ∈ kvs, q.1 = p.1) ∨ p.1 = k := by
  unfold putK at h
  split at h
  · obtain ⟨q, hq, e⟩ := List.mem_map.mp h
    split at e
    · rw [← e]; exact .inr (by assumption)
    · rw [← e]; exact .inl ⟨q, hq, rfl⟩
  · rcases List.mem_append.mp h with h | h
    · exact .inl ⟨p, h, rfl⟩
    · rw [List.mem_singleton.mp h]; exact .inr rfl
theorem BdAt.put {H : Hp} {d : Addr} {n : Nat} {f g : Int → Bool} {kvs : List (Key × V)} {m : Int} {c : Bool} (h1 : kvs.length ≤ n) (h2 : ∀ p ∈ kvs, ∃ m, p.1 = Sum.inl m ∧ In40 m) (h3 : ∀ m, In40 m → valV kvs (Sum.inl m) = some (.bl (f m))) (hm : In40 m) (hg : ∀ y, g y = if y = m then c else f y) :
    BdAt (upd H d (.dK (putK kvs (Sum.inl m) (.bl c)))) d (n + 1) g := by
  refine ⟨_, upd_same, by have := putK_len kvs (Sum.inl m) (V.bl c); omega, fun p hp => ?_, fun y hy => ?_⟩
  · rcases putK_mem hp with ⟨q, hq, e⟩ | e
    · rw [← e]; exact h2 q hq
    · exact ⟨m, e, hm⟩
  · rw [valV_put, hg]
    by_cases e : y = m
    · rw [if_pos (by rw [e]), if_pos e]
    · rw [if_neg (fun z => e (Sum.inl.inj z)), if_neg e]
      exact h3 y hy
theorem sub_do (f : Int → Bool) (F : Int → Sr) (r : Rw) (y : Int) : sub f (doRw F r y) = match r with
    | .con x m => if y = m then decide (x = "on") else sub f (F y)
    | .cp m j => if y = m then sub f (F j) else sub f (F y) := by
  cases r with
  | con x m =>
    show sub f (put F m (.con x) y) = _
    unfold put
    split <;> simp_all [sub]
  | cp m j =>
    show sub f (put F m (F j) y) = _
    unfold put
    split <;> simp_all
theorem RowsAt.get {H : Hp} : ∀ {vs : List V} {rs : List Rw} {i : Nat} {v : V}, RowsAt H vs rs → vs[i]? = some v → ∃ r t, rs[i]? = some r ∧ v = .ref t ∧ H t = some (.tup (rwV r))
  | [], rs, i, v, _, e => by simp at e
  | v :: vs, r :: rs, 0, u, h, e => by
    have e : v = u := Option.some.inj e
    obtain ⟨t, e1, e2⟩ := h.1
    exact ⟨r, t, rfl, by rw [← e]; exact e1, e2⟩
  | v :: vs, r :: rs, i + 1, u, h, e => RowsAt.get (i := i) h.2 (by simpa using e)
  | _ :: _, [], _, _, h, _ => h.elim
theorem runs_take {W : List Rw} {i : Nat} {r : Rw} (h : W[i]? = some r) : runs (W.take (i + 1)) = doRw (runs (W.take i)) r := by
  rw [List.take_add_one, h]
  exact runs_snoc _ _
theorem lk_snoc {ws : List (Int × Sr)} {m : Int} {s : Sr} {i : Nat} (nd : (ws.map (·.1)).Nodup) (h : ws[i]? = some (m, s)) (y : Int) : lk (ws.take (i + 1)) y = if y = m then some s else lk (ws.take i) y := by
  have nd1 : ((ws.take (i + 1)).map (·.1)).Nodup := List.Sublist.nodup (List.Sublist.map _ (List.take_sublist ..)) nd
  have nd0 : ((ws.take i).map (·.1)).Nodup := List.Sublist.nodup (List.Sublist.map _ (List.take_sublist ..)) nd
  by_cases e : y = m
  · rw [if_pos e, e]
    exact mem_lk nd1 ((take_get h).mpr (.inr rfl))
  · rw [if_neg e]
    cases z : lk (ws.take i) y with
    | some t => exact mem_lk nd1 ((take_get h).mpr (.inl (lk_mem z)))
    | none =>
      cases z1 : lk (ws.take (i + 1)) y with
      | none => rfl
      | some t =>
        rcases (take_get h).mp (lk_mem z1) with q | q
        · rw [mem_lk nd0 q] at z; cases z
        · cases q; exact absurd rfl e
theorem and2S {t1 t2 : TT} {σ : L2.St} {H : Hp} {Q : Bool → Hp → Prop} {b1 b2 : Bool} (h1 : ∀ Q : Bool → Hp → Prop, (∀ H', Same H H' → Q b1 H') → t1 σ H Q) (h2 : b1 = true → ∀ H', Same H H' → ∀ Q : Bool → Hp → Prop, Q b2 H' → t2 σ H' Q) (q : ∀ H', Same H H' → Q (b1 && b2) H') : tAnd t1 t2 σ H Q := by
  refine h1 _ fun H' s' => ?_
  cases b1 with
  | false => exact iteF (q H' s')
  | true => exact iteT (h2 rfl H' s' _ (q H' s'))
theorem dstr (x y : Str) : decide (V.str x = V.str y) = decide (x = y) := decide_eq_decide.mpr ⟨fun h => by cases h; rfl, fun h => by rw [h]⟩
theorem dbl (x y : Bool) : decide (V.bl x = V.bl y) = decide (x = y) := decide_eq_decide.mpr ⟨fun h => by cases h; rfl, fun h => by rw [h]⟩
theorem onoff {x : Str} (h : x = "on" ∨ x = "off") : decide (x = "copy") = false ∧ (decide (x = "on") || decide (x = "off")) = true := by
  rcases h with rfl | rfl
  · exact ⟨by decide +kernel, by decide +kernel⟩
  · exact ⟨by decide +kernel, by decide +kernel⟩

end Lm

/-! law: what its steps need -/
namespace LmS
section
variable {γ : Type} {S S' : List (Int × Src γ)}
theorem go_lk (h : ∀ m, lk S m = lk S' m) : ∀ (n : Nat) (m : Int), go S n m = go S' n m
  | 0, _ => rfl
  | n + 1, m => by
    simp only [go]
    rw [h m]
    cases lk S' m with
    | none => rfl
    | some s => cases s with
      | con x => rfl
      | mk j => exact go_lk h n j
theorem Iso.of_lk (h : ∀ m, LmS.lk S m = LmS.lk S' m) {m : Int} (i : Iso S m) : Iso S' m := by
  obtain ⟨⟨n, e⟩, w⟩ := i
  refine ⟨⟨n, by rw [← go_lk h]; exact e⟩, fun k x y h1 h2 => ?_⟩
  rw [← go_lk h] at h1
  rw [← h y] at h2
  obtain ⟨k', e'⟩ := w k x y h1 h2
  exact ⟨k', by rw [← go_lk h]; exact e'⟩
theorem Reps.of_lk (h : ∀ m, lk S m = lk S' m) {hs : List Int} (r : Reps S hs) : Reps S' hs :=
  ⟨fun x hx => (r.iso x hx).of_lk h, r.two.imp fun {a b} n ⟨k, e⟩ => n ⟨k, by rw [go_lk h]; exact e⟩, fun m i => by
    obtain ⟨x, hx, k, e⟩ := r.all m (i.of_lk fun m => (h m).symm)
    exact ⟨x, hx, k, by rw [← go_lk h]; exact e⟩⟩
theorem Reps.le {hs : List Int} (r : Reps S hs) : hs.length ≤ S.length := by
  have nd : hs.Nodup := r.two.imp fun {a b} n e => n (by rw [e]; exact Reach.refl S b)
  have := sub_len nd (ls := S.map (·.1)) fun k hk => by
    obtain ⟨j, e, _⟩ := (r.iso k hk).lk
    exact lk_key.mpr (by rw [e]; exact fun z => nomatch z)
  rw [List.length_map] at this
  exact this
end
end LmS
namespace Lm
open PySem PySem.Spec PyProof.Rows L2 LmS
theorem WsAt.dx {K : PySem.W.Frag} {H : Hp} : ∀ {vs : List V} {ws : List (Int × Sr)}, WsAt H vs ws → DxAll K H vs (ws.map wD)
  | [], [], _ => .nil
  | v :: vs, (m, s) :: ws, h => by
    obtain ⟨⟨t, rfl, e⟩, h2⟩ := h
    refine .cons (.tup e (.cons (.int m) (.cons ?_ .nil))) (WsAt.dx h2)
    cases s with
    | con x => exact .str x
    | mk j => exact .int j
  | [], _ :: _, h => h.elim
  | _ :: _, [], h => h.elim
theorem WsAt.perm {H : Hp} {us vs : List V} (p : us.Perm vs) : ∀ {ws : List (Int × Sr)}, WsAt H vs ws → ∃ ws' : List (Int × Sr), ws'.Perm ws ∧ WsAt H us ws' := by
  induction p with
  | nil => exact fun {ws} h => ⟨ws, List.Perm.refl _, h⟩
  | cons x _ ih =>
    intro ws h
    cases ws with
    | nil => exact h.elim
    | cons q ws =>
      obtain ⟨ws', p', h'⟩ := ih h.2
      exact ⟨q :: ws', p'.cons q, h.1, h'⟩
  | swap x y l =>
    intro ws h
    match ws, h with
    | [], h => exact h.elim
    | [_], h => exact h.2.elim
    | q1 :: q2 :: ws, h => exact ⟨q2 :: q1 :: ws, List.Perm.swap .., h.2.1, h.1, h.2.2⟩
  | trans _ _ ih1 ih2 =>
    intro ws h
    obtain ⟨w1, p1, h1⟩ := ih2 h
    obtain ⟨w2, p2, h2⟩ := ih1 h1
    exact ⟨w2, p2.trans p1, h2⟩
theorem perm_lk {β : Type} {ws ws' : List (Int × β)} (p : ws'.Perm ws) (nd : (ws.map (·.1)).Nodup) (m : Int) : lk ws' m = lk ws m := by
  have nd' : (ws'.map (·.1)).Nodup := (p.map _).nodup_iff.mpr nd
  cases e : lk ws m with
  | some s => exact mem_lk nd' (p.mem_iff.mpr (lk_mem e))
  | none =>
    cases e' : lk ws' m with
    | none => rfl
    | some s =>
      rw [mem_lk nd (p.mem_iff.mp (lk_mem e'))] at e
      cases e
theorem wD_inj : ∀ {ws ws' : List (Int × Sr)}, ws.map wD = ws'.map wD → ws = ws'
  | [], [], _ => rfl
  | [], _ :: _, h => nomatch h
  | _ :: _, [], h => nomatch h
  | (m, s) :: ws, (m', s') :: ws', h => by
    rw [List.map_cons, List.map_cons] at h
    obtain ⟨h1, h2⟩ := List.cons.inj h
    have e := wD_inj h2
    subst e
    have : m = m' ∧ s = s' := by
      cases s <;> cases s' <;> simp only [wD, dS] at h1 <;> (injection h1 with h1; injection h1 with a b; injection b with c d) <;> first | (injection a with a; injection c with c; exact ⟨a, by rw [c]⟩) | exact nomatch c
    rw [this.1, this.2]
theorem perm_ints {ys : List V} {ms : List Int} (pm : ys.Perm (ms.map V.int)) : ∃ ls : List Int, ys = ls.map V.int ∧ ls.Perm ms := by
  refine ⟨ys.map fun v => match v with | .int m => m | _ => 0, ?_, ?_⟩
  · rw [List.map_map]
    refine (List.map_id ys).symm.trans (List.map_congr_left fun v hv => ?_)
    obtain ⟨m, _, rfl⟩ := List.mem_map.mp (pm.mem_iff.mp hv)
    rfl
  · have := pm.map fun v => match v with | .int m => m | _ => (0 : Int)
    rw [List.map_map] at this
    refine this.trans ?_
    rw [show (List.map ((fun v => match v with | V.int m => m | _ => (0 : Int)) ∘ V.int) ms) = ms from (List.map_congr_left fun m _ => rfl).trans (List.map_id ms)]
def rgI (n : Nat) : List Int := (List.range n).map fun (i : Nat) => (0 : Int) + i
theorem rgI_nodup (n : Nat) : (rgI n).Nodup := List.Pairwise.map (R := fun a b : Nat => a ≠ b) _ (fun a b h e => h (by have : (0 : Int) + (a : Int) = 0 + (b : Int) := e; omega)) List.nodup_range
theorem rgI_in {n : Nat} {m : Int} (h : m ∈ rgI n) : 0 ≤ m ∧ m < n := by
  obtain ⟨i, hi, rfl⟩ := List.mem_map.mp h
  have := List.mem_range.mp hi
  omega
theorem rgI_len (n : Nat) : (rgI n).length = n := by unfold rgI; rw [List.length_map, List.length_range]
theorem rgV_eq (n : Nat) : rgV 0 n = (rgI n).map V.int := by
  unfold rgV rgI
  rw [List.map_map]
  have : ((n : Int) - 0).toNat = n := by omega
  rw [this]
  rfl
/-- of more marks than some one is none of them -/
theorem fresh_mark {zs ms : List Int} (nd : zs.Nodup) (lt : ms.length < zs.length) : (zs.filter fun m => !ms.contains m) ≠ [] := fun e => by
  have := sub_len nd (ls := ms) fun k hk => by
    refine Classical.byContradiction fun no => ?_
    have : k ∈ zs.filter fun m => !ms.contains m := List.mem_filter.mpr ⟨hk, by
      cases z : ms.contains k with
      | false => rfl
      | true => exact absurd (List.contains_iff_mem.mp z) no⟩
    rw [e] at this
    cases this
  omega
end Lm

/-! repr of data -/
namespace L2
open PySem PySem.Spec PyProof.Rows
mutual
theorem Dp.same {K : PySem.W.Frag} {H H' : Hp} (s : Same H H') : ∀ {v : V} {d : PyData}, Dp K H v d → Dp K H' v d
  | _, _, .non => .non
  | _, _, .bl b => .bl b
  | _, _, .int i => .int i
  | _, _, .str x => .str x
  | _, _, .lst h a => .lst (s.seq h) (DpAll.same s a)
  | _, _, .tup h a => .tup (sqt_same s h) (DpAll.same s a)
theorem DpAll.same {K : PySem.W.Frag} {H H' : Hp} (s : Same H H') : ∀ {vs : List V} {ds : List PyData}, DpAll K H vs ds → DpAll K H' vs ds
  | _, _, .nil => .nil
  | _, _, .cons h a => .cons (Dp.same s h) (DpAll.same s a)
end
/-- v is shown as the text t -/
inductive RepAt (K : PySem.W.Frag) (H : Hp) : V → Str → Prop
  | non : RepAt K H .non "None"
  | bl (b : Bool) : RepAt K H (.bl b) (if b then ("True" : Str) else ("False" : Str))
  | int (i : Int) : i.natAbs.log2 < 1920 → RepAt K H (.int i) (toString i)
  | str (x : Str) : (reprText x).length ≤ sizeLine → RepAt K H (.str x) (reprText x)
  | dat {a : Addr} {d : PyData} : Dp K H (.ref a) d → d.showable = true → d.depth ≤ 60 → d.shown.length ≤ sizeLine → RepAt K H (.ref a) d.shown
  | nod {a : Addr} : H a = some (.dK []) → RepAt K H (.ref a) (PyData.dict []).shown
theorem RepAt.same {K : PySem.W.Frag} {H H' : Hp} (s : Same H H') {v : V} {t : Str} (r : RepAt K H v t) : RepAt K H' v t := by
  cases r with
  | non => exact .non
  | bl b => exact .bl b
  | int i h => exact .int i h
  | str x h => exact .str x h
  | dat h h1 h2 h3 => exact .dat (h.same s) h1 h2 h3
  | nod h => exact .nod (s _ _ h)
theorem call_reprA {X : Cx} (gd : X.A.guards = some []) (hu : X.A.units + 70 < cLine) : CallR X (.builtin "repr") (fun xs H Q => ∃ v t, xs = [v] ∧ RepAt X.K H v t ∧ Q (.str t) H) := by
  intro pins s σ H xs us Q I r h
  obtain ⟨v, t, rfl, hr, q⟩ := h
  cases hr with
  | non =>
    obtain ⟨u, rfl, ru⟩ := vals1 r
    cases (show u = Value.none from ru)
    exact PySem.P.repr_of_none ⟨.str _, H, I.tok _, ⟨_, rfl⟩, q⟩
  | bl b =>
    obtain ⟨u, rfl, ru⟩ := vals1 r
    cases (show u = Value.bool b from ru)
    exact PySem.P.repr_of_bool ⟨.str _, H, I.tok _, ⟨_, rfl⟩, q⟩
  | int i h =>
    obtain ⟨u, rfl, k, rfl⟩ := vals1 r
    exact PySem.P.repr_of_int h ⟨.str _, H, I.tok _, ⟨_, rfl⟩, q⟩
  | str x h =>
    obtain ⟨u, rfl, k, rfl⟩ := vals1 r
    exact PySem.P.repr_of_str ⟨.str _, H, I.tok _, ⟨_, rfl⟩, q⟩ h
  | dat h h1 h2 h3 => exact call_reprD gd hu pins s σ H _ us Q I r ⟨_, _, rfl, h, h1, h2, h3, q⟩
  | @nod a h =>
    obtain ⟨u, rfl, ru⟩ := vals1 r
    cases (show u = Value.ref a from ru)
    obtain ⟨_, ns, vs, kv, o, es, ep, e, hx, hd, _, hp, _⟩ := dk_of I.hok h
    cases kv
    have z : es.toList = [] := List.eq_nil_of_length_eq_zero (by have := hp.length; simpa using this)
    have rd : Reads s.heap (.ref a) (.dict []) (a :: [] ++ []) := .dict e hx.1 hd (by rw [z]; exact .nil) (by rw [z]; exact .nil)
    refine repr_of_reads' rd rfl (fun _ hm => ?_) gd (by show _ + (1 + 1) < _; omega) (fun _ _ e => e) (fun h' u tk k => ⟨.str _, H, I.kept k, ⟨_, rfl⟩, q⟩) (by decide +kernel)
    have : sysModules = a := by simpa using hm
    rw [← this] at ns
    cases ns
end L2
namespace Lm
open PySem PySem.Spec PyProof.Rows L2 LmS
/-! ### data that is shown and compared -/
structure Nice (d : PyData) : Prop where
  nd : d.hasDict = false
  sh : d.showable = true
  lay : d.canLay0 = true
  dep : d.depth ≤ 5
  len : d.shown.length ≤ 60
def niceB (d : PyData) : Bool := !d.hasDict && d.showable && d.canLay0 && decide (d.depth ≤ 5) && decide (d.shown.length ≤ 60)
theorem nice_of {d : PyData} (h : niceB d = true) : Nice d := by
  unfold niceB at h
  simp only [Bool.and_eq_true, Bool.not_eq_true', decide_eq_true_eq] at h
  obtain ⟨⟨⟨⟨h1, h2⟩, h3⟩, h4⟩, h5⟩ := h
  exact ⟨h1, h2, h3, h4, h5⟩
theorem nice_all : ∀ {ds : List PyData}, (∀ d ∈ ds, Nice d) → PyData.hasDictAll ds = false ∧ PyData.showableAll ds = true ∧ PyData.canLayAll0 ds = true ∧ PyData.depthAll ds ≤ 5 ∧ ∀ t ∈ PyData.shownAll ds, t.length ≤ 60
  | [], _ => ⟨rfl, rfl, rfl, by decide, fun t h => nomatch h⟩
  | d :: ds, h => by
    obtain ⟨a1, a2, a3, a4, a5⟩ := nice_all fun x hx => h x (List.mem_cons_of_mem _ hx)
    have n := h d (List.mem_cons_self ..)
    refine ⟨?_, ?_, ?_, ?_, ?_⟩
    · show (_ || _) = false
      rw [n.nd, a1]; rfl
    · show (_ && _) = true
      rw [n.sh, a2]; rfl
    · show (_ && _) = true
      rw [n.lay, a3]; rfl
    · have := n.dep
      show max d.depth (PyData.depthAll ds) ≤ 5
      omega
    · intro t ht
      rcases List.mem_cons.mp (show t ∈ d.shown :: PyData.shownAll ds from ht) with e | ht
      · rw [e]; exact n.len
      · exact a5 t ht
theorem shownAll_len : ∀ ds : List PyData, (PyData.shownAll ds).length = ds.length
  | [] => rfl
  | d :: ds => by
    show (PyData.shownAll ds).length + 1 = _
    rw [shownAll_len ds]; rfl
theorem piled_le : ∀ {ts : List Str} {c : Nat}, (∀ t ∈ ts, t.length ≤ c) → piled ts ≤ ts.length * (c + 2)
  | [], c, _ => by show 0 ≤ _; exact Nat.zero_le _
  | t :: ts, c, h => by
    have ih := piled_le fun x hx => h x (List.mem_cons_of_mem _ hx)
    have := h t (List.mem_cons_self ..)
    show t.length + 2 + piled ts ≤ (ts.length + 1) * (c + 2)
    rw [Nat.succ_mul]
    omega
theorem listText_le : ∀ ts : List Str, (listText ts).length ≤ piled ts + 2
  | [] => by rw [listText_nil]; decide +kernel
  | t :: r => by
    have h := textFrom_length_pos r 1 (("[" : Str) ++ (if (0 : Nat) > 0 then ", " else "" : String) ++ t) (Nat.succ_pos 0)
    have hX : (listText (t :: r)).length = (textFrom 0 "[" (t :: r)).length + 1 := by
      show (textFrom 0 "[" (t :: r) ++ "]").length = _
      rw [strLen_append]; rfl
    have hY : (textFrom 0 "[" (t :: r)).length = (textFrom 1 (("[" : Str) ++ (if (0 : Nat) > 0 then ", " else "" : String) ++ t) r).length := rfl
    have e : (("[" : Str) ++ (if (0 : Nat) > 0 then ", " else "" : String) ++ t).length = 1 + t.length := by
      rw [strLen_append, strLen_append]; rfl
    rw [hX, hY, h, e]
    show 1 + t.length + piled r + 1 ≤ t.length + 2 + piled r + 2
    omega
theorem list_shaped {ds : List PyData} (h : ∀ d ∈ ds, Nice d) : SeqAt.shaped (.list ds) = true := by
  obtain ⟨_, _, a3, a4, _⟩ := nice_all h
  show (PyData.canLayAll0 ds && decide (PyData.depthAll ds + 1 ≤ 64)) = true
  rw [a3, decide_eq_true (by omega)]; rfl
theorem Nice.shaped {d : PyData} (n : Nice d) : SeqAt.shaped d = true := by
  have := n.dep
  show (d.canLay0 && decide (d.depth ≤ 64)) = true
  rw [n.lay, decide_eq_true (by omega)]; rfl
section
variable {K : PySem.W.Frag} {H : Hp}
mutual
theorem Dx.dp : ∀ {v : V} {d : PyData}, Dx K H v d → d.hasDict = false → Dp K H v d
  | _, _, .non, _ => .non
  | _, _, .bl b, _ => .bl b
  | _, _, .int i, _ => .int i
  | _, _, .str x, _ => .str x
  | _, _, .lst h a, z => .lst (SqL.of h) (DxAll.dp a z)
  | _, _, .tup h a, z => .tup (SqT.of h) (DxAll.dp a z)
  | _, _, .dic _, z => by
    have z : true = false := z
    cases z
theorem DxAll.dp : ∀ {vs : List V} {ds : List PyData}, DxAll K H vs ds → PyData.hasDictAll ds = false → DpAll K H vs ds
  | _, _, .nil, _ => .nil
  | _, _, .cons h a, z => by
    have z := Bool.or_eq_false_iff.mp z
    exact .cons (Dx.dp h z.1) (DxAll.dp a z.2)
end
theorem DxAll.append : ∀ {vs us : List V} {ds es : List PyData}, DxAll K H vs ds → DxAll K H us es → DxAll K H (vs ++ us) (ds ++ es)
  | _, _, _, _, .nil, b => b
  | _, _, _, _, .cons h a, b => .cons h (DxAll.append a b)
theorem DxAll.get : ∀ {vs : List V} {ds : List PyData}, DxAll K H vs ds → ∀ {i : Nat} {v : V}, vs[i]? = some v → ∃ d, ds[i]? = some d ∧ Dx K H v d
  | _, _, .nil, i, v, e => by simp at e
  | _, _, .cons h a, 0, v, e => by
    simp at e
    subst e
    exact ⟨_, rfl, h⟩
  | _, _, .cons h a, i + 1, v, e => DxAll.get a (by simpa using e)
theorem rep_list {a : Addr} {xs : List V} {ds : List PyData} (e : H a = some (.lst xs)) (h : DxAll K H xs ds) (n : ∀ d ∈ ds, Nice d) (l : ds.length ≤ 1000) : RepAt K H (.ref a) (PyData.list ds).shown := by
  obtain ⟨a1, a2, a3, a4, a5⟩ := nice_all n
  refine .dat (.lst (SqL.of e) (DxAll.dp h a1)) a2 (by show PyData.depthAll ds + 1 ≤ 60; omega) ?_
  have h1 := listText_le (PyData.shownAll ds)
  have h2 := piled_le a5
  rw [shownAll_len] at h2
  have h3 : ds.length * (60 + 2) ≤ 1000 * 62 := Nat.mul_le_mul l (Nat.le_refl _)
  have : (PyData.list ds).shown = listText (PyData.shownAll ds) := by simp only [PyData.shown]
  rw [this, sizeLine_eq]
  omega
end
end Lm

/-! [.. for w in d.items() if ..], w one name: each pair is a tuple of its own; the iterator holds the first one -/
namespace L2
open PySem PySem.Spec PyProof.Rows PySem.W
section
variable {X : Cx}
/-- ts: the tuples given out so far -/
def tLcI (td : TE) (g : TG) (tt : TT) (te : TE) (vs : List Nat) : TE := fun σ H Q => td σ H fun x H1 => ∃ (d : Addr) (ob : Obj) (kvs : List (Key × V)), x = .ref d ∧ H1 d = some (.frz ob (.dK kvs)) ∧ ∀ D, H1 D = none →
  ∃ W : List Addr → Hp → Prop, W [] (upd H1 D (.lst [])) ∧ ∀ ts H, W ts H → (∃ acc, H D = some (.lst acc)) ∧ H d = some (.frz ob (.dK kvs)) ∧ (∀ t ∈ ts, ∃ xs, H t = some (.tup xs)) ∧ (ts.length = kvs.length → Q (.ref D) H) ∧
    ∀ k v, kvs[ts.length]? = some (k, v) → ∀ T, H T = none → g (.ref T) (wipe σ vs) (upd H T (.tup [kV k, v])) fun σ2 H2 => wipe σ2 vs = wipe σ vs ∧ tt σ2 H2 fun b H3 =>
      if b = true then te σ2 H3 fun y H4 => ∃ acc, H4 D = some (.lst acc) ∧ acc.length < sizeLine ∧ W (ts ++ [T]) (upd H4 D (.lst (acc ++ [y]))) else W (ts ++ [T]) H3
/-- where the iterator stands -/
def StI (h : Heap) (it d : Addr) (n ep : Nat) (ts : List Addr) : Prop := (ts = [] ∧ ∃ ok ov, IsItemIter h it d 0 n ep ok ov) ∨ ∃ ok ov a f, KdxIt h it d ts.length n ep ok ov a f ∧ a ∈ ts
theorem StI.keep {h h' : Heap} {it d : Addr} {n ep : Nat} {ts : List Addr} (s : StI h it d n ep ts) (k : ∀ o, h.get? it = some o → h'.get? it = some o) : StI h' it d n ep ts := by
  rcases s with ⟨e, ok, ov, z⟩ | ⟨ok, ov, a, f, z, m⟩
  · exact .inl ⟨e, ok, ov, k _ z⟩
  · exact .inr ⟨ok, ov, a, f, k _ z, m⟩
theorem StI.there {h : Heap} {it d : Addr} {n ep : Nat} {ts : List Addr} (s : StI h it d n ep ts) : ∃ o, h.get? it = some o ∧ ∀ v, o.data ≠ .cell v := by
  rcases s with ⟨_, ok, ov, z⟩ | ⟨ok, ov, a, f, z, m⟩
  · exact ⟨_, z, fun v e => nomatch e⟩
  · exact ⟨_, z, fun v e => nomatch e⟩
/-- what stands when the iterator has come -/
def ItP (X : Cx) (pins : List (Addr × Obj)) (σ : L2.St) (R : Addr → Obj → List (Key × V) → Hp → Prop) (itv : Value) (s2 : Shared) : Prop :=
  ∃ (it d : Addr) (ob : Obj) (es : Array DictEntry) (ep : Nat) (kvs : List (Key × V)) (H1 : Hp), itv = .ref it ∧ Inv X pins σ H1 s2 ∧ H1 d = some (.frz ob (.dK kvs)) ∧ ob.data = .dict es ep ∧ es.size = kvs.length ∧ StI s2.heap it d kvs.length ep [] ∧ FpOk X pins H1 it ∧ R d ob kvs H1
theorem it_start {e : Expr} {td : TE} {apos cpos : Pos} {pins : List (Addr × Obj)} {σ : L2.St} {H : Hp} {s : Shared} {R : Addr → Obj → List (Key × V) → Hp → Prop} (he : PE X e td) (hbase : attributeBase e "items" X.env (eval e X.env) = eval e X.env) (hline : (apos.endLine == cpos.line) = true) (I : Inv X pins σ H s)
    (h : td σ H fun x H1 => ∃ (d : Addr) (ob : Obj) (kvs : List (Key × V)), x = .ref d ∧ H1 d = some (.frz ob (.dK kvs)) ∧ R d ob kvs H1) :
    wpAny (model X.prog X.w) X.A (eval (.Call (.Attribute e "items" apos) [] [] cpos) X.env) (fun v s1 => wpAny (model X.prog X.w) X.A (pyIter v) (ItP X pins σ R) X.xe s1) X.xe s := by
  refine wpAny_Call_method (T := "dict") (id := "dict.items") hbase rfl hline F.plainAttrs_dict F.slot_dict_items F.type_dict_items (thn (he.run pins s σ H _ I h) fun u s1 ⟨x, H1, I1, rx, d, o, kvs, ex, hd, q⟩ => ?_)
  subst ex
  obtain rfl : u = Value.ref d := rx
  obtain ⟨hs, hgd, hx, es, ep, vs, hdt, hsz, kv, hm⟩ := I1.frzK hd
  refine ⟨hm.dictOf.typeIs, hm.dictOf.mapOf.noDict, ?_⟩
  have I2 : Inv X pins σ H1 { s1 with heap := s1.heap.push { cls := .type "dict_items", data := .fields #[.ref d] } } := I1.kept (t' := s1.toks) fun b ob q => Heap.get?_push_of_some _ q
  have fin : wpAny (model X.prog X.w) X.A (pyIter (.ref s1.heap.objs.size)) (ItP X pins σ R) X.xe { s1 with heap := s1.heap.push { cls := .type "dict_items", data := .fields #[.ref d] } } := by
    refine wpAny_pyIter_items (d := d) (knd := mixKind X.prog X.w) ⟨_, Heap.get?_push_size _ rfl, rfl, rfl⟩ (hm.push _) ?_
    refine ⟨_, d, o, es, ep, kvs, H1, rfl, I2.kept (t' := s1.toks) (fun b ob q => Heap.get?_push_of_some _ q), hd, hdt, hsz, .inl ⟨rfl, .none, .none, ?_⟩, I2.fpOk (Nat.le_refl _) (I2.hok.fresh (Nat.le_refl _)), q⟩
    rw [Paired.length kv]
    exact Heap.get?_push_size _ rfl
  show wpAny _ _ (callWith cpos (.builtin "dict.items") [.ref d] [] []) _ X.xe s1
  exact method_meetsIn F.slot_dict_items F.entry_dict_items rfl (PySem.evalArgs_none ⟨rfl, hm.dictOf.typeIs, F.args_dict_items_1 _, _, meets_dict_items (mixKind X.prog X.w) d hs, ⟨vs, hm.dictOf⟩, fin⟩)
/-- a step of the iterator -/
theorem it_step {A : Around} {E : Value → Shared → Prop} {pins : List (Addr × Obj)} {σ : L2.St} {H : Hp} {s : Shared} {it d : Addr} {ob : Obj} {es : Array DictEntry} {ep : Nat} {kvs : List (Key × V)} {ts : List Addr} {k : Key} {v : V} {Q : Option Value → Shared → Prop} {fs : FpOk X pins H it}
    (I : Inv X pins σ H s) (hd : H d = some (.frz ob (.dK kvs))) (ho : ob.data = .dict es ep) (hz : es.size = kvs.length) (st : StI s.heap it d kvs.length ep ts) (ht : ∀ t ∈ ts, ∃ xs, H t = some (.tup xs)) (hk : kvs[ts.length]? = some (k, v))
    (q : ∀ T s', H T = none → T ≠ it → Inv X pins σ (upd H T (.tup [kV k, v])) s' → StI s'.heap it d kvs.length ep (ts ++ [T]) → Q (some (.ref T)) s') : wpAny (model X.prog X.w) A (pyNext (.ref it)) Q E s := by
  obtain ⟨hs, hgd, hx, es', ep', vs, hdt, hsz, kv, hm⟩ := I.frzK hd
  obtain ⟨e1, e2'⟩ := dict_ep ho hdt
  rw [e2'] at hm
  obtain ⟨u, hu, ru⟩ := kv_get kv hk
  have hl : kvs.length = vs.length := Paired.length kv
  have hlt : ts.length < es.size := by
    rw [hz]
    rcases Nat.lt_or_ge ts.length kvs.length with z | z
    · exact z
    · rw [List.getElem?_eq_none z] at hk; cases hk
  obtain ⟨es2, hr, hs2, hent⟩ := PySem.Heap.DictAt.raw hm
  have e2 : es2 = es := by
    obtain ⟨o1, g1, _, d1⟩ := hr
    rw [hgd] at g1
    cases g1
    rw [ho] at d1
    injection d1 with a1 a2
    exact a1.symm
  subst e2
  obtain ⟨ek, ev⟩ := hent ts.length hlt k u hu
  have done : ∀ h' : Heap, h'.get? s.heap.objs.size = some { cls := .type "tuple", data := .seq #[es2[ts.length].key, es2[ts.length].val] } → (∀ b o, b ≠ it → s.heap.get? b = some o → h'.get? b = some o) → StI h' it d kvs.length ep (ts ++ [s.heap.objs.size]) → Q (some (.ref s.heap.objs.size)) { s with heap := h' } := fun h' hT kp st' => by
    have new : ObjOk X.prog X.w (upd H s.heap.objs.size (.tup [kV k, v])) h' s.heap.objs.size (.tup [kV k, v]) :=
      ⟨by show 2 ≤ sizeLine; decide, [es2[ts.length].key, es2[ts.length].val], .cons (relV_key (show keyIs k es2[ts.length].key = true from ek)) (.cons (by rw [ev]; exact ru) .nil), ⟨_, hT, rfl, _, rfl⟩⟩
    exact q _ _ (I.hok.fresh (Nat.le_refl _)) (Nat.ne_of_gt (let ⟨_, z, _⟩ := st.there; Heap.lt_size z)) (I.turnedNew (t' := s.toks) (ch := [it]) (fun b ob hb e => kp b ob (by simpa using hb) e) (fun b hb => by rw [List.mem_singleton.mp hb]; exact fs) (Nat.le_refl _) new) st'
  have hkl : (ts ++ [s.heap.objs.size]).length = ts.length + 1 := by rw [List.length_append]; rfl
  rcases st with ⟨rfl, ok, ov, z⟩ | ⟨ok, ov, a, f, z, m⟩
  · rw [← hz] at z
    refine wpAny_pyNext_items_item_raw z hr hlt fun h' z' hT hsz' kp => done h' hT kp (.inr ⟨_, _, s.heap.objs.size, false, by rw [hkl, ← hz]; exact z', List.mem_append_right _ (List.mem_singleton.mpr rfl)⟩)
  · obtain ⟨xs, hxs⟩ := ht a m
    obtain ⟨_, its, _, oa, h1, _⟩ := (show ObjOk X.prog X.w H s.heap a (.tup xs) from I.hok a _ hxs)
    have hai : a ≠ it := fun e => by rw [e, fs.1] at hxs; cases hxs
    rw [← hz] at z
    refine wpAny_pyNext_items_item_out_raw z h1 hai hr hlt fun h' z' hT hsz' kp => done h' hT kp (.inr ⟨ok, ov, a, true, by rw [hkl, ← hz]; exact z', List.mem_append_left _ m⟩)
theorem it_end {A : Around} {E : Value → Shared → Prop} {pins : List (Addr × Obj)} {σ : L2.St} {H : Hp} {s : Shared} {it d : Addr} {ob : Obj} {es : Array DictEntry} {ep : Nat} {kvs : List (Key × V)} {ts : List Addr} {Q : Option Value → Shared → Prop} {fs : FpOk X pins H it} (hh : A.handled = none)
    (I : Inv X pins σ H s) (hd : H d = some (.frz ob (.dK kvs))) (ho : ob.data = .dict es ep) (hz : es.size = kvs.length) (st : StI s.heap it d kvs.length ep ts) (hl : ts.length = kvs.length)
    (q : ∀ s', Inv X pins σ H s' → Q none s') : wpAny (model X.prog X.w) A (pyNext (.ref it)) Q E s := by
  obtain ⟨hs, hgd, hx, es', ep', vs, hdt, hsz, kv, hm⟩ := I.frzK hd
  obtain ⟨e1, e2'⟩ := dict_ep ho hdt
  rw [e2'] at hm
  obtain ⟨es2, hr, hs2, hent⟩ := PySem.Heap.DictAt.raw hm
  have e2 : es2 = es := by
    obtain ⟨o1, g1, _, d1⟩ := hr
    rw [hgd] at g1
    cases g1
    rw [ho] at d1
    injection d1 with a1 a2
    exact a1.symm
  subst e2
  obtain ⟨f0, f1, f2, f3, f4, f5⟩ := fs
  have fin : ∀ h', Heap.ExtBut it s.heap h' → Q none { s with heap := h' } := fun h' eb => q _ (I.turned (t' := s.toks) (fun b ob hb e => eb b ob hb e) f0 f1 f3 f4 f5)
  rcases st with ⟨rfl, ok, ov, z⟩ | ⟨ok, ov, a, f, z, m⟩
  · rw [← hz] at z
    have : 0 = es2.size := by rw [hz]; exact hl
    exact wpAny_pyNext_items_end_raw (i := 0) hh z hr (by omega) fin
  · rw [← hz] at z
    exact wpAny_pyNext_items_end_out_raw hh z hr (by omega) fin
theorem pe_lcI {elt e : Expr} {t : Str} {ifs : List Expr} {scope : Scope} {own : List (Str × Nat)} {py apos cpos pos : Pos} {td : TE} {g : TG} {tt : TT} {te : TE} (hc : X.calm = true) (hN : X.N.Nodup) (he0 : PE X e td) (ok : BlkOk X.N X.env.scope scope own)
    (hg : ∀ (s : Shared) (H : Hp) (C : Addr) (cl : List (Str × Addr)) (fp : List Addr), PG (X.blk s H scope (compEnvC scope cl C X.env) fp) (.Name t py) g) (ht : ∀ (s : Shared) (H : Hp) (C : Addr) (cl : List (Str × Addr)) (fp : List Addr), PTs (X.blk s H scope (compEnvC scope cl C X.env) fp) ifs tt)
    (he : ∀ (s : Shared) (H : Hp) (C : Addr) (cl : List (Str × Addr)) (fp : List Addr), PE (X.blk s H scope (compEnvC scope cl C X.env) fp) elt te) (hbase : attributeBase e "items" X.env (eval e X.env) = eval e X.env := by rfl) (hline : (apos.endLine == cpos.line) = true := by rfl)
    (hs : ∀ x, foldedSetIterable (.Call (.Attribute e "items" apos) [] [] cpos) X.env x = pure x := by intro _; rfl) :
    PE X (.ListComp elt [⟨.Name t py, .Call (.Attribute e "items" apos) [] [] cpos, ifs, 0⟩] scope pos) (tLcI td g tt te (own.map (·.2))) := by
  refine ⟨fun pins s σ H Q I h => ?_⟩
  rw [eval_ListComp]
  have hfree : ∀ y ∈ scope.names, y.2 = .free → ∃ c, X.env.cells.lookup y.1 = some c := fun y hy e => by
    rcases ok.free y hy e with k | k
    · exact I.ok.has _ (.inl k)
    · exact I.ok.has _ (.inr k)
  refine wpAny_comprehension_free (use := none) rfl hs (closure_ok hfree) ok.kind (fun y hy e => by rw [ok.uniq y hy, e]) (thn (it_start he0 hbase hline I h) fun xv s1 hx => thn hx fun itv s2 h2 => ?_)
  obtain ⟨it, d, ob, es, ep, kvs, H1, rfl, I2, hd, ho, hz, st, fp, q⟩ := h2
  refine wpAny_newObj_type (newEnv_comp ?_) (by show 0 ≤ sizeLine; decide)
  have hDn : H1 s2.heap.objs.size = none := I2.hok.fresh (Nat.le_refl _)
  obtain ⟨W, w0, turn⟩ := q _ hDn
  obtain ⟨D, hD⟩ : ∃ D, s2.heap.objs.size = D := ⟨_, rfl⟩
  rw [hD] at w0 turn hDn
  obtain ⟨o0, z0, _⟩ := st.there
  have itlt := Heap.lt_size z0
  have hpush : ∀ b o, s2.heap.get? b = some o → (s2.heap.push { cls := .type "list", data := .seq ([] : List Value).toArray }).get? b = some o := fun b o e => Heap.get?_push_of_some _ e
  have I3 : Inv X pins σ (upd H1 D (.lst [])) { s2 with heap := s2.heap.push { cls := .type "list", data := .seq ([] : List Value).toArray } } := by
    refine I2.laid (t' := s2.toks) hpush (Nat.le_of_eq hD) ⟨Nat.zero_le _, [], 0, .nil, ?_⟩
    rw [← hD]
    exact Heap.get?_push_size _ rfl
  have f3 : ∀ b ∈ [it], FpOk X pins (upd H1 D (.lst [])) b ∧ b < (s2.heap.push { cls := .type "list", data := .seq ([] : List Value).toArray }).objs.size := fun b hb => by
    rw [List.mem_singleton.mp hb]
    refine ⟨⟨?_, fp.2⟩, by rw [Heap.size_push]; exact Nat.lt_succ_of_lt itlt⟩
    rw [upd_ne (by rw [← hD]; exact Nat.ne_of_lt itlt)]
    exact fp.1
  have st3 := st.keep (hpush it)
  generalize hs3 : ({ s2 with heap := s2.heap.push { cls := .type "list", data := .seq ([] : List Value).toArray } } : Shared) = s3 at I3 f3 st3 ⊢
  have st3 : StI s3.heap it d kvs.length ep [] := by rw [← hs3]; exact st3
  have f3 : ∀ b ∈ [it], FpOk X pins (upd H1 D (.lst [])) b ∧ b < s3.heap.objs.size := by rw [← hs3]; exact f3
  have I4 := block_start I3 ok hN f3
  have pg := hg s3 (upd H1 D (.lst [])) s3.heap.objs.size (cellsFrom (s3.heap.objs.size + 1) scope.names (cloFrom X.env.cells scope.names [])) [it]
  have pt := ht s3 (upd H1 D (.lst [])) s3.heap.objs.size (cellsFrom (s3.heap.objs.size + 1) scope.names (cloFrom X.env.cells scope.names [])) [it]
  have pe := he s3 (upd H1 D (.lst [])) s3.heap.objs.size (cellsFrom (s3.heap.objs.size + 1) scope.names (cloFrom X.env.cells scope.names [])) [it]
  rw [hD]
  show codeAny _ _ (.compStart (.ListComp elt [⟨.Name t py, .Call (.Attribute e "items" apos) [] [] cpos, ifs, 0⟩] scope pos) 0 (.ref it) (.ref D) (compEnvC scope (cellsFrom (s3.heap.objs.size + 1) scope.names (cloFrom X.env.cells scope.names [])) s3.heap.objs.size X.env)) (compPost (model X.prog X.w) X.A X.xe none (EP X pins σ Q) (.ref D) s3.heap.objs.size) { s3 with heap := pushCells (s3.heap.push { cls := .type "dict", data := .dict #[] }) scope.names }
  obtain ⟨H3, eH3⟩ : ∃ H3, upd H1 D (.lst []) = H3 := ⟨_, rfl⟩
  rw [eH3] at I3 I4 pg pt pe w0 f3
  have n3 : H3 it = none := (f3 it (List.mem_singleton.mpr rfl)).1.1
  have hd3 : H3 d = some (.frz ob (.dK kvs)) := by rw [← eH3, upd_ne (ne_of_none hd hDn)]; exact hd
  obtain ⟨ce, ece⟩ : ∃ ce, compEnvC scope (cellsFrom (s3.heap.objs.size + 1) scope.names (cloFrom X.env.cells scope.names [])) s3.heap.objs.size X.env = ce := ⟨_, rfl⟩
  rw [ece] at I4 pg pt pe ⊢
  have cL : ce.locals = s3.heap.objs.size := by rw [← ece]; rfl
  obtain ⟨s4, es4⟩ : ∃ s4 : Shared, ({ s3 with heap := pushCells (s3.heap.push { cls := .type "dict", data := .dict #[] }) scope.names } : Shared) = s4 := ⟨_, rfl⟩
  rw [es4] at I4 ⊢
  have st4 : StI s4.heap it d kvs.length ep [] := st3.keep fun o z => by rw [← es4]; exact pushCells_keeps _ _ _ _ (Heap.get?_push_of_some _ z)
  have fpB : ∀ {σ' : L2.St} {H' : Hp} {s' : Shared}, Inv (X.blk s3 H3 scope ce [it]) [] σ' H' s' → H' it = none → FpOk (X.blk s3 H3 scope ce [it]) [] H' it := fun {σ' H' s'} J n =>
    ⟨n, (J.ok.exf it (List.mem_singleton.mpr rfl)).1, J.ok.exfs it (List.mem_singleton.mpr rfl), .inl (List.mem_singleton.mpr rfl), fun x c z => (J.ok.exf it (List.mem_singleton.mpr rfl)).2 x c z, fun p hp => nomatch (show p ∈ ([] : List (Addr × Obj)) from hp)⟩
  have loop : codeAny (model X.prog X.w) X.A (.compLoop (.ListComp elt [⟨.Name t py, .Call (.Attribute e "items" apos) [] [] cpos, ifs, 0⟩] scope pos) 0 (.ref it) (.ref D) ce) (compPost (model X.prog X.w) X.A X.xe none (EP X pins σ Q) (.ref D) s3.heap.objs.size) s4 := by
    refine compLoop_any (fun n s' => ∃ (ts : List Addr) (H' : Hp), n = kvs.length - ts.length ∧ ts.length ≤ kvs.length ∧ Inv (X.blk s3 H3 scope ce [it]) [] (wipe σ (own.map (·.2))) H' s' ∧ StI s'.heap it d kvs.length ep ts ∧ H' it = none ∧ W ts H') ?_ kvs.length ⟨[], H3, rfl, Nat.zero_le _, I4, st4, n3, w0⟩
    rintro n s5 ⟨ts, H5, rfl, le5, I5, st5, n5, w5⟩
    obtain ⟨⟨acc5, hD5⟩, hd5, ht5, stop, go⟩ := turn ts H5 w5
    have fs5 := fpB I5 n5
    rcases Nat.lt_or_ge ts.length kvs.length with lt | ge
    · obtain ⟨⟨k, v⟩, hkv⟩ : ∃ p, kvs[ts.length]? = some p := ⟨_, List.getElem?_eq_getElem lt⟩
      refine it_step (X := X.blk s3 H3 scope ce [it]) (fs := fs5) I5 hd5 ho hz st5 ht5 hkv fun T s7 nT nTi I7 st7 => ?_
      refine wpAny_pure ?_
      have n7 : (upd H5 T (.tup [kV k, v])) it = none := by rw [upd_ne (Ne.symm nTi)]; exact n5
      have I7' := I7.pinned (fun b hb => by rw [List.mem_singleton.mp hb]; exact fpB I7 n7) (fp := [it]) (fun b hb => by rw [List.mem_singleton.mp hb]; exact st7.there)
      refine thnF (pg.run _ s7 _ _ (.ref T) (.ref T) _ I7' rfl (go k v hkv T nT)) fun _ s8 ⟨σ8, H8, I8, hw8, q8⟩ => ?_
      refine thnF (pt.run _ s8 σ8 H8 _ I8 q8) fun b s9 ⟨H9, I9, q9⟩ => ?_
      have fin : ∀ {s' : Shared} {H' : Hp}, Inv (X.blk s3 H3 scope ce [it]) ([] ++ pinsAt [it] s7.heap) σ8 H' s' → W (ts ++ [T]) H' → ∃ m, m < kvs.length - ts.length ∧ ∃ (ts : List Addr) (H' : Hp), m = kvs.length - ts.length ∧ ts.length ≤ kvs.length ∧ Inv (X.blk s3 H3 scope ce [it]) [] (wipe σ (own.map (·.2))) H' s' ∧ StI s'.heap it d kvs.length ep ts ∧ H' it = none ∧ W ts H' := fun {s' H'} J w' => by
        obtain ⟨o7, z7, _⟩ := st7.there
        have pin := J.pin (it, o7) (List.mem_append_right _ (List.mem_append_right _ (mem_pinsAt (List.mem_singleton.mpr rfl) z7)))
        have hl : (wipe σ (own.map (·.2))).length = σ8.length := by rw [← hw8, wipe_length]
        have len : (ts ++ [T]).length = ts.length + 1 := by rw [List.length_append]; rfl
        refine ⟨kvs.length - (ts ++ [T]).length, by omega, ts ++ [T], H', rfl, by omega, (J.unpinned (pins := [])).weak hl (fun j u z => ?_), st7.keep (fun o z => by rw [z7] at z; cases z; exact pin.1), pin.2.1, w'⟩
        rw [← hw8] at z
        exact (wipe_some z).1
      cases b with
      | false =>
        rw [if_neg Bool.false_ne_true] at q9 ⊢
        exact fin I9 q9
      | true =>
        rw [if_pos rfl] at q9 ⊢
        refine thnF (pe.run _ s9 σ8 H9 _ I9 q9) fun z s10 ⟨y, H10, I10, r10, acc, hD10, hz10, w10⟩ => ?_
        exact app_ok (X := X.blk s3 H3 scope ce [it]) I10 hD10 hz10 r10 fun s11 I11 => fin I11 w10
    · have el : ts.length = kvs.length := by omega
      refine it_end (X := X.blk s3 H3 scope ce [it]) (fs := fs5) (I5.ok.hd hc) I5 hd5 ho hz st5 el fun s6 I6 => ?_
      have J : Inv X pins σ H5 s6 := I3.call' (ch := [it]) I6.os I6.base I6.hok I6.bare fun b hb => ⟨(f3 b hb).1.2.2.2.1, (f3 b hb).1.2.1, (f3 b hb).1.2.2.2.2.1, (f3 b hb).1.2.2.2.2.2⟩
      have nC : H5 s3.heap.objs.size = none := by have z : H5 ce.locals = none := I6.free; rwa [cL] at z
      obtain ⟨m, hn, _⟩ := I6.loc
      have hn : s6.heap.Ns ce.locals m := hn
      rw [cL] at hn
      obtain ⟨f0, f1, f2, f4, f5, f6⟩ := I3.fpOk (H' := H5) (Nat.le_refl _) nC
      exact ⟨m, hn, fun h'' sb => ⟨.ref D, H5, J.turned (t' := s6.toks) (fun b o hb z => (sb.2 b hb).trans z) f0 f1 f4 f5 f6, rfl, stop el⟩⟩
  obtain ⟨ok', ov', zi⟩ : ∃ ok ov, IsItemIter s4.heap it d 0 kvs.length ep ok ov := by
    rcases st4 with ⟨_, ok, ov, z⟩ | ⟨_, _, a, _, _, m⟩
    · exact ⟨ok, ov, z⟩
    · cases m
  exact codeAny_compStart_list loop (PySem.W.kcp_self zi loop)
end
end L2

/-! Cycles, each counted at its least mark. -/
namespace LmS
section
variable {γ : Type} {S : List (Int × Src γ)} {m y : Int} {xs : List Int}
theorem sub_self (ns : ∀ m, lk S m ≠ some (.mk m)) : Sub S S := fun m s => ⟨fun h => ⟨h, fun e => ns m (by rw [h, e])⟩, fun h => h.1⟩
/-- what a walk from m finds: the cycle on which m stands, or nothing -/
structure CySpec (S : List (Int × Src γ)) (m : Int) (cs : List Int) : Prop where
  ne : Iso S m → cs ≠ []
  ring : cs ≠ [] → ∃ b, cs = m :: b ∧ Path S m (m :: b) (.mk m) ∧ 0 < b.length
theorem Path.head {h : Src γ} {z : Int} {b : List Int} (p : Path S m (z :: b) h) : z = m := by
  have e : some m = some z := p.at' 0 z rfl
  cases e
  rfl
theorem cy_yes (ns : ∀ m, lk S m ≠ some (.mk m)) (p : Path S m xs (.mk y)) (ny : y ∉ xs) (e : lk S y = some (.mk m)) : CySpec S m (xs ++ [y]) ∧ 1 < (xs ++ [y]).length := by
  have p2 := p.step ny e
  obtain ⟨z, b, ez⟩ : ∃ z b, xs ++ [y] = z :: b := by
    cases xs with
    | nil => exact ⟨y, [], rfl⟩
    | cons a r => exact ⟨a, r ++ [y], rfl⟩
  rw [ez] at p2 ⊢
  have := p2.head
  subst this
  have lt : 0 < b.length := by
    cases b with
    | cons c r => simp
    | nil =>
      exfalso
      cases xs with
      | nil => simp at ez; rw [ez] at e; exact ns _ e
      | cons a r => simp at ez
  exact ⟨⟨fun _ => fun h => (nomatch h), fun _ => ⟨b, rfl, p2, lt⟩⟩, by rw [List.length_cons]; omega⟩
theorem cy_no (ns : ∀ m, lk S m ≠ some (.mk m)) (p : Path S m xs (.mk y)) (ny : y ∉ xs) (e : ∀ j, lk S y = some (.mk j) → j ∈ xs ++ [y]) (ne : lk S y ≠ some (.mk m)) : CySpec S m [] := by
  refine ⟨fun iso => ?_, fun h => absurd rfl h⟩
  exfalso
  obtain ⟨y', g1, _, iy⟩ := iso.all (sub_self ns) xs.length
  have := (gs_go S _ _ _).mp p.le
  rw [this] at g1
  cases g1
  obtain ⟨j, ej, _⟩ := iy.lk
  have p2 := p.step ny ej
  obtain ⟨a, b, ab⟩ := List.append_of_mem (e j ej)
  rw [ab] at p2
  cases a with
  | nil => exact ne (by rw [ej, Path.head (S := S) (m := m) p2])
  | cons z a =>
    have hz := Path.head (S := S) (m := m) (b := a ++ j :: b) p2
    subst hz
    obtain ⟨⟨n, en⟩, _⟩ := iso
    have e0 : (z :: a ++ j :: b)[(z :: a).length]? = some j := by rw [List.getElem?_append_right (Nat.le_refl _)]; simp
    have gj := p2.at' _ _ e0
    have t := go_turns en (z :: a).length
    have le : (z :: a).length ≤ (n + 1) * (z :: a).length := by
      have := Nat.mul_le_mul_right (z :: a).length (show 1 ≤ n + 1 by omega)
      omega
    have := go_add S (z :: a).length ((n + 1) * (z :: a).length - (z :: a).length) z
    rw [show (z :: a).length + ((n + 1) * (z :: a).length - (z :: a).length) = (n + 1) * (z :: a).length by omega, t, gj] at this
    have hm : z ∈ j :: b := p2.in_ring _ j z (List.mem_cons_self ..) this.symm
    have nd := p2.nd
    rw [List.cons_append] at nd
    exact (List.nodup_cons.mp nd).1 (List.mem_append_right _ hm)
/-- m is the least of a cycle that is copied from inside alone -/
def Cn (S : List (Int × Src γ)) (m : Int) : Prop := Iso S m ∧ ∀ x, Reach S m x → m ≤ x
theorem cn_iff (ns : ∀ m, lk S m ≠ some (.mk m)) {cs : List Int} (c : CySpec S m cs) : (cs ≠ [] ∧ (∀ x ∈ cs, m ≤ x) ∧ Away S cs) ↔ Cn S m := by
  have hS := sub_self ns
  constructor
  · rintro ⟨h1, h2, h3⟩
    obtain ⟨b, rfl, p, lt⟩ := c.ring h1
    have p' : Path S m ([] ++ m :: b) (.mk m) := p
    exact ⟨p'.ring_iso hS (by rw [List.length_cons]; omega) h3, fun x ⟨k, e⟩ => h2 x (p'.in_ring k m x (List.mem_cons_self ..) e)⟩
  · rintro ⟨iso, h⟩
    have h1 := c.ne iso
    obtain ⟨b, rfl, p, lt⟩ := c.ring h1
    have p' : Path S m ([] ++ m :: b) (.mk m) := p
    exact ⟨h1, fun x hx => h x (p'.of_ring hx), (p'.iso_ring hS (List.mem_cons_self ..) iso).2.1⟩
theorem int_min {P : Int → Prop} (h0 : ∀ x, P x → 0 ≤ x) : ∀ (n : Nat) (x : Int), P x → x.toNat ≤ n → ∃ y, P y ∧ ∀ z, P z → y ≤ z
  | 0, x, hx, l => ⟨x, hx, fun z hz => by have := h0 z hz; have := h0 x hx; omega⟩
  | n + 1, x, hx, l => by
    by_cases h : ∃ z, P z ∧ z < x
    · obtain ⟨z, hz, lt⟩ := h
      exact int_min h0 n z hz (by have := h0 z hz; omega)
    · exact ⟨x, hx, fun z hz => Classical.byContradiction fun no => h ⟨z, hz, by omega⟩⟩
open Classical in
theorem reps_min {keys : List Int} (nd : keys.Nodup) (hk : ∀ m, Iso S m → m ∈ keys ∧ 0 ≤ m) : Reps S (keys.filter fun m => decide (Cn S m)) := by
  have mem : ∀ {x}, x ∈ (keys.filter fun m => decide (Cn S m)) → Cn S x := fun {x} h => of_decide_eq_true (List.mem_filter.mp h).2
  refine ⟨fun h hh => (mem hh).1, ?_, fun m iso => ?_⟩
  · have nd' : (keys.filter fun m => decide (Cn S m)).Nodup := List.Sublist.nodup List.filter_sublist nd
    refine List.Pairwise.imp_of_mem (fun {a b} ha hb ne r => ne ?_) nd'
    have h1 := (mem ha).2 b r
    have h2 := (mem hb).2 a ((mem ha).1.back r)
    omega
  · obtain ⟨y, ry, hy⟩ := int_min (P := fun x => Reach S m x) (fun x r => (hk x (iso.of_reach r)).2) m.toNat m (Reach.refl S m) (Nat.le_refl _)
    have iy := iso.of_reach ry
    exact ⟨y, List.mem_filter.mpr ⟨(hk y iy).1, decide_eq_true ⟨iy, fun x r => hy x (ry.trans r)⟩⟩, iso.back ry⟩
end
end LmS

/-! _law_cycle -/
namespace Lm
open PySem PySem.Spec PyProof.Rows L2 LmS
open C8 (fnScope_by pe_gc pss_cut tCut Cal pe_c)
abbrev sCyc : Stmt := top 24
theorem nx_q {n : L2.St → Hp → Prop} {r : VK} {b c : L2.St → Hp → Prop} {H : Hp} {σ : L2.St} (h : n σ H) : Ends.nx { nx := n, rt := r, bk := b, ct := c } σ H := h
theorem asg_q {t : TE} {i : Nat} {r : TS} {D : Ends} {H : Hp} {σ : L2.St} (h : t σ H fun v H' => r D (σ.set i (some v)) H') : tSeq (tAsg t (gName i)) r D σ H := h
theorem if_q {t : TT} {a b : TS} {D : Ends} {H : Hp} {σ : L2.St} (h : t σ H fun c H1 => if c = true then a D σ H1 else b D σ H1) : tIfS t a b D σ H := h
theorem ifs_q {t : TT} {a b r : TS} {D : Ends} {H : Hp} {σ : L2.St} (h : t σ H fun c H1 => if c = true then a { D with nx := r D } σ H1 else b { D with nx := r D } σ H1) : tSeq (tIfS t a b) r D σ H := h
theorem fors_q {wi : TI} {g : TG} {tb r : TS} {D : Ends} {H : Hp} {σ : L2.St} (h : tFor wi g tb { D with nx := r D } σ H) : tSeq (tFor wi g tb) r D σ H := h
/-- where a mark copies from -/
def nx (S : List (Int × Sr)) (y : Int) : Option Int := match lk S y with
  | some (.mk j) => some j
  | _ => none
theorem nx_some {S : List (Int × Sr)} {y j : Int} : nx S y = some j ↔ lk S y = some (.mk j) := by
  unfold nx
  cases lk S y with
  | none => simp
  | some s => cases s <;> simp
def CpAt (kvs : List (Key × V)) (S : List (Int × Sr)) : Prop := ∀ y, valV kvs (Sum.inl y) = (nx S y).map V.int
theorem path_len {S : List (Int × Sr)} {m : Int} {xs : List Int} {h : Sr} (p : Path S m xs h) : xs.length ≤ S.length := by
  have := sub_len p.nd (ls := S.map (·.1)) fun x hx => by
    obtain ⟨i, hi, e⟩ := List.getElem_of_mem hx
    have := p.next (show xs[i]? = some x by rw [List.getElem?_eq_getElem hi, e])
    refine lk_key.mpr fun z => ?_
    rw [z] at this
    by_cases h : i + 1 = xs.length
    · rw [if_pos h] at this; cases this
    · rw [if_neg h, List.getElem?_eq_getElem (by omega)] at this; cases this
  rw [List.length_map] at this
  exact this
section
variable {P : Program} {w : World} {K : PySem.W.Frag} {mg : Str → Option Value} {base : Heap}
def spCy : Sp := fun vs H Q _ => ∃ (d : Addr) (m : Int) (kvs : List (Key × V)) (S : List (Int × Sr)), vs = [.ref d, .int m] ∧ Rd H d (.dK kvs) ∧ CpAt kvs S ∧ (∀ m, lk S m ≠ some (.mk m)) ∧ S.length ≤ 30 ∧
  ∀ (H' : Hp) (l : Addr) (cs : List Int), Same H H' → H l = none → H' l = some (.lst (cs.map V.int)) → CySpec S m cs → cs.length ≤ 31 → Q (.ref l) H'
theorem cy_ret {K' : PySem.W.Frag} {H H2 : Hp} {Q : VK} {d l : Addr} {m y : Int} {kvs : List (Key × V)} {S : List (Int × Sr)} {xs : List Int} {D : Ends} (hDr : D.rt = Q) (rd : Rd H2 d (.dK kvs)) (cp : CpAt kvs S) (ns : ∀ m, lk S m ≠ some (.mk m)) (hz : S.length ≤ 30) (hl : H2 l = some (.lst ((xs ++ [y]).map V.int))) (nl : H l = none)
    (p : Path S m xs (.mk y)) (ny : y ∉ xs) (s2 : Same H H2) (e : ∀ j, lk S y = some (.mk j) → j ∈ xs ++ [y]) (q : ∀ (H' : Hp) (l : Addr) (cs : List Int), Same H H' → H l = none → H' l = some (.lst (cs.map V.int)) → CySpec S m cs → cs.length ≤ 31 → Q (.ref l) H') :
    tRet (tIf (tAnd (tTest (tOp rEq (tDGet1 (tVar 0) (tOp (rIxL K') (tVar 2) (tUn (rU fun i => V.int (-i)) (tC (.int 1))))) (tVar 1))) (tTest (tOp (rI0 fun i j => V.bl (decide (j < i))) (tCB (fun xs H_1 Q => ∃ p ys, xs = [.ref p] ∧ (SqL K' H_1 p ys ∨ SqT K' H_1 p ys) ∧ Q (.int (ys.length : Nat)) H_1) (tCons (tVar 2) tNil)) (tC (.int 1))))) (tVar 2) (tLst tNil))
      D [some (.ref d), some (.int m), some (.ref l)] H2 := by
  have hxl := path_len p
  have hll : H2 l = some (.lst (xs.map V.int ++ [V.int y])) := by rw [hl, List.map_append]; rfl
  have dg : DGet H2 d (.int y) ((nx S y).map V.int) := .inl ⟨kvs, Sum.inl y, rd, rfl, (cp y).symm⟩
  have no : lk S y ≠ some (.mk m) → tLst tNil [some (.ref d), some (.int m), some (.ref l)] H2 D.rt := fun ne => by
    refine ⟨by show 0 ≤ sizeLine; decide, fun l2 n2 => ?_⟩
    rw [hDr]
    exact q _ l2 [] (s2.trans (same_upd n2)) (by
      cases z : H l2 with
      | none => rfl
      | some o => rw [s2 _ _ z] at n2; cases n2) upd_same (cy_no ns p ny e ne) (by decide)
  refine and2 (b1 := decide (((nx S y).map V.int).getD .non = V.int m)) (b2 := decide ((1 : Int) < ((xs ++ [y]).map V.int).length)) (fun Q q => ⟨_, rfl, d, rfl, .inl ⟨_, rd⟩, _, rfl, 1, rfl, l, _, -1, _, rfl, rfl, SqL.of hll, atI_last _ _, _, dg, _, rfl, ?_, _, rfl, q⟩) (fun _ Q q => ⟨_, rfl, l, _, rfl, .inl (SqL.of hl), _, _, rfl, rfl, _, rfl, q⟩) ?_
  · cases nx S y <;> rfl
  by_cases hy : lk S y = some (.mk m)
  · obtain ⟨cs, lt⟩ := cy_yes ns p ny hy
    rw [decide_eq_true (by rw [nx_some.mpr hy]; rfl), decide_eq_true (by rw [List.length_map]; omega)]
    refine iteT ⟨_, rfl, ?_⟩
    rw [hDr]
    exact q _ l _ s2 nl hl cs (by rw [List.length_append]; show xs.length + 1 ≤ 31; omega)
  · rw [decide_eq_false (fun z => ?_), Bool.false_and]
    · exact iteF (no hy)
    · cases ez : nx S y with
      | none => rw [ez] at z; cases z
      | some j => rw [ez] at z; cases z; exact hy (nx_some.mp ez)
abbrev nsCy : List Str := ["_law_copies", "_law_mark", "_law_found"]
theorem scCy : FnScope nsCy ["_law_copies", "_law_mark"] (defScope sCyc) := fnScope_by (by decide +kernel)
theorem kCy {f : Addr} {fd : FuncData} (F : Fun K "_law_cycle" "_law_cycle" sCyc f fd) (B : Bn mg) : FnOk P w K mg base CX0 1 f fd ["_law_copies", "_law_mark"] spCy := by
  refine F.ok scCy (fun vs H Q E h => ?_) (fun cdv A outer s H vs Q E hr h => ?_)
  · obtain ⟨d, m, kvs, S, rfl, _⟩ := h
    rfl
  obtain ⟨d, m, kvs, S, rfl, hd, cp, ns, hz, q⟩ := h
  have hu := hu_of hr
  refine ⟨_, pss_cons (ps_set (i := 2) scCy.nd rfl (.inl rfl) (pe_lst (pa_cons (pv 1) pa_nil)))
    (pss_cons (ps_while PassesOwn.never (PW.pt (pw_and (pt_cmp (pc_din hu (pe_ix ix_list (pv 2) (pe_un un_neg pe_int) (fun _ _ => rfl)) (pv 0)) (by rfl)) (pw_and1 (pt_cmpR op_notIn_seq (pe_dget hu (pv 0) (pe_ix ix_list (pv 2) (pe_un un_neg pe_int) (fun _ _ => rfl)) (fun _ _ => rfl)) (pv 2) (by rfl)))))
      (pss_one (ps_expr (pe_bm PySem.F.plainAttrs_list PySem.F.slot_list_append PySem.F.type_list_append mt_append (pv 2) (pa_cons (pe_dget hu (pv 0) (pe_ix ix_list (pv 2) (pe_un un_neg pe_int) (fun _ _ => rfl)) (fun _ _ => rfl)) pa_nil)))))
    (pss_one (ps_ret (pe_ifExp (PW.pt (pw_and (pt_cmpR op_eq (pe_dget1 hu (pv 0) (pe_ix ix_list (pv 2) (pe_un un_neg pe_int) (fun _ _ => rfl)) ⟨rfl, rfl, rfl, rfl⟩) (pv 1) (nomark _)) (pw_and1 (pt_cmpR op_gt (pe_callB call_len_seq (by rfl) B.len boot_len (pa_cons (pv 2) pa_nil)) pe_int (nomark _))))) (pv 2) (pe_lst pa_nil))))), ?_⟩
  refine ⟨_, rfl, by show 1 ≤ sizeLine; decide, fun l nl => ?_⟩
  have sl := same_upd (o := .lst [V.int m]) nl
  have rdm : ∀ {H'}, Same H H' → Rd H' d (.dK kvs) := fun {H'} z => hd.imp (fun e => z _ _ e) fun ⟨o, e⟩ => ⟨o, z _ _ e⟩
  refine ⟨fun n σ H' => ∃ (xs : List Int) (y : Int), n + xs.length = 100 ∧ σ = [some (.ref d), some (.int m), some (.ref l)] ∧ H' l = some (.lst ((xs ++ [y]).map V.int)) ∧ Path S m xs (.mk y) ∧ y ∉ xs ∧ Same H H', ⟨100, [], m, rfl, rfl, upd_same, Path.start m, (fun z => nomatch z), sl⟩, ?_⟩
  rintro n σ H2 ⟨xs, y, hn, rfl, hl, p, ny, s2⟩
  have hxl := path_len p
  have hll : H2 l = some (.lst (xs.map V.int ++ [V.int y])) := by rw [hl, List.map_append]; rfl
  have dg : DGet H2 d (.int y) ((nx S y).map V.int) := .inl ⟨kvs, Sum.inl y, rdm s2, rfl, (cp y).symm⟩
  refine and2 (b1 := ((nx S y).map V.int).isSome) (b2 := !(xs ++ [y]).contains ((nx S y).getD 0)) (fun Q q => ⟨_, rfl, 1, rfl, l, _, -1, _, rfl, rfl, SqL.of hll, atI_last _ _, _, rfl, d, _, rfl, dg, _, rfl, q⟩) (fun hb Q q => ?_) ?_
  · obtain ⟨j, ej⟩ : ∃ j, nx S y = some j := by
      cases e : nx S y with
      | none => rw [e] at hb; cases hb
      | some j => exact ⟨j, rfl⟩
    rw [ej] at dg q
    refine ⟨_, rfl, _, rfl, 1, rfl, l, _, -1, _, rfl, rfl, SqL.of hll, atI_last _ _, d, .int j, rfl, dg, _, rfl, l, (xs ++ [y]).map V.int, rfl, .inl (SqL.of hl), rfl, flat_ints _, _, rfl, ?_⟩
    rw [if_pos rfl, in_ints]
    exact q
  cases ej : nx S y with
  | none =>
    refine iteF ?_
    exact cy_ret rfl (rdm s2) cp ns hz hl nl p ny s2 (fun j h => by rw [nx_some.mpr h] at ej; cases ej) q
  | some j =>
    rw [ej] at dg
    cases hc : (xs ++ [y]).contains j with
    | true =>
      rw [show ((Option.map V.int (some j)).isSome && !(xs ++ [y]).contains ((some j).getD 0)) = false by show (true && !(xs ++ [y]).contains j) = false; rw [hc]; rfl]
      refine iteF ?_
      exact cy_ret rfl (rdm s2) cp ns hz hl nl p ny s2 (fun i h => by rw [nx_some.mpr h] at ej; cases ej; exact List.contains_iff_mem.mp hc) q
    | false =>
      rw [show ((Option.map V.int (some j)).isSome && !(xs ++ [y]).contains ((some j).getD 0)) = true by show (true && !(xs ++ [y]).contains j) = true; rw [hc]; rfl]
      have nj : j ∉ xs ++ [y] := fun z => by rw [List.contains_iff_mem.mpr z] at hc; cases hc
      refine iteT ⟨_, fun _ _ h => h, _, rfl, .inl ⟨rfl, _, SqL.of hl⟩, _, rfl, _, rfl, 1, rfl, l, _, -1, _, rfl, rfl, SqL.of hll, atI_last _ _, d, .int j, rfl, dg, l, _, .int j, rfl, rfl, hl, small1000 (by rw [List.length_map, List.length_append]; show xs.length + 1 ≤ 1000; omega), ?_⟩
      refine ⟨n - 1, by omega, xs ++ [y], j, by rw [List.length_append]; show n - 1 + (xs.length + 1) = 100; omega, rfl, by rw [upd_same, List.map_append, List.map_append, List.map_append]; rfl, p.step ny (nx_some.mp ej), nj, fun c o e => ?_⟩
      rw [upd_ne (ne_of_none e nl)]
      exact s2 _ _ e
end
end Lm

/-! _law_amount -/
namespace Lm
open PySem PySem.Spec PyProof.Rows L2 LmS
open C8 (fnScope_by pe_gc pss_cut tCut Cal pe_c)
abbrev sAmo : Stmt := top 25
theorem ix_tupK {X : Cx} (K : PySem.W.Frag) (h : X.K = K) : IxR X (rIxT K) := by
  subst h
  exact ix_tup
theorem same_lock {H3 H4 : Hp} {d : Addr} {u z : HO} (e : H3 d = some u) (s : Same (upd H3 d z) H4) : Same H3 (upd H4 d u) := fun c o h => by
  by_cases hc : c = d
  · rw [hc, e] at h; cases h; rw [hc, upd_same]
  · rw [upd_ne hc]; exact s _ _ (by rw [upd_ne hc]; exact h)
def isMk : Sr → Bool
  | .mk _ => true
  | .con _ => false
def cps (S : List (Int × Sr)) : List (Int × Sr) := S.filter fun p => isMk p.2
theorem chg_nodup {ws : List (Int × Sr)} (nd : (ws.map (·.1)).Nodup) : ((chg ws).map (·.1)).Nodup := (List.Sublist.map _ List.filter_sublist).nodup nd
theorem cps_nodup {S : List (Int × Sr)} (nd : (S.map (·.1)).Nodup) : ((cps S).map (·.1)).Nodup := (List.Sublist.map _ List.filter_sublist).nodup nd
theorem chg_ns {ws : List (Int × Sr)} (nd : (ws.map (·.1)).Nodup) : ∀ m, lk (chg ws) m ≠ some (.mk m) := fun m h => by
  have := List.mem_filter.mp (lk_mem h)
  have h2 := this.2
  rw [decide_eq_true (vS_int.mpr rfl)] at h2
  cases h2
theorem cps_cp {S : List (Int × Sr)} (nd : (S.map (·.1)).Nodup) : CpAt (kvS (cps S)) S := fun y => by
  rw [kvS_look]
  cases e : nx S y with
  | some j =>
    have h1 := nx_some.mp e
    rw [(sub_lk nd (fun p => isMk p.2) y (.mk j)).mpr ⟨h1, rfl⟩ |> fun h => (show lk (cps S) y = some (.mk j) from h)]
    rfl
  | none =>
    cases e2 : lk (cps S) y with
    | none => rfl
    | some s =>
      have h1 := (sub_lk nd (fun p => isMk p.2) y s).mp (show lk (S.filter fun p => isMk p.2) y = some s from e2)
      cases s with
      | con x => cases h1.2
      | mk j => rw [nx_some.mpr h1.1] at e; cases e
theorem out_away {S : List (Int × Sr)} (nd : (S.map (·.1)).Nodup) (cs : List Int) : List.map (·.1) ((cps S).filter fun p => inS p.2 cs && !cs.contains p.1) = [] ↔ Away S cs := by
  constructor
  · intro h a x e hx
    refine Classical.byContradiction fun na => ?_
    have h1 : (a, (Src.mk x : Sr)) ∈ (cps S).filter fun p => inS p.2 cs && !cs.contains p.1 := List.mem_filter.mpr ⟨List.mem_filter.mpr ⟨lk_mem e, rfl⟩, by
      show (cs.contains x && !cs.contains a) = true
      rw [List.contains_iff_mem.mpr hx]
      cases z : cs.contains a with
      | false => rfl
      | true => exact absurd (List.contains_iff_mem.mp z) na⟩
    have h2 := List.mem_map_of_mem (f := (·.1)) h1
    rw [h] at h2
    cases h2
  · intro h
    refine List.eq_nil_iff_forall_not_mem.mpr fun y hy => ?_
    obtain ⟨⟨a, t⟩, hp, rfl⟩ := List.mem_map.mp hy
    obtain ⟨h1, h2⟩ := List.mem_filter.mp hp
    obtain ⟨h3, h4⟩ := List.mem_filter.mp h1
    cases t with
    | con x => cases h4
    | mk j =>
      have h2 : (cs.contains j && !cs.contains a) = true := h2
      rw [Bool.and_eq_true] at h2
      have := h a j (mem_lk nd h3) (List.contains_iff_mem.mp h2.1)
      rw [List.contains_iff_mem.mpr this] at h2
      exact nomatch h2.2
theorem dp_ints {K : PySem.W.Frag} {H : Hp} : ∀ cs : List Int, DpAll K H (cs.map V.int) (cs.map PyData.int)
  | [] => .nil
  | c :: cs => .cons (.int c) (dp_ints cs)
theorem ints_lay : ∀ cs : List Int, PyData.canLayAll0 (cs.map PyData.int) = true ∧ PyData.depthAll (cs.map PyData.int) ≤ 1
  | [] => ⟨rfl, by decide⟩
  | c :: cs => by
    obtain ⟨a, b⟩ := ints_lay cs
    refine ⟨?_, ?_⟩
    · show (_ && PyData.canLayAll0 (cs.map PyData.int)) = true
      rw [a]; rfl
    · show max (PyData.int c).depth (PyData.depthAll (cs.map PyData.int)) ≤ 1
      have : (PyData.int c).depth = 0 := by first | rfl | simp [PyData.depth]
      omega
theorem intsShaped (cs : List Int) : SeqAt.shaped (.list (cs.map PyData.int)) = true := by
  obtain ⟨a, b⟩ := ints_lay cs
  show (PyData.canLayAll0 (cs.map PyData.int) && decide (PyData.depthAll (cs.map PyData.int) + 1 ≤ 64)) = true
  rw [a, decide_eq_true (by omega)]; rfl
theorem ints_eq (cs : List Int) : PyData.eqv (.list (cs.map PyData.int)) (.list []) = decide (cs = []) := by cases cs <;> rfl
theorem ints_ne (cs : List Int) : (!PyData.eqv (.list (cs.map PyData.int)) (.list [])) = decide (cs ≠ []) := by cases cs <;> rfl
theorem and3S {t1 t2 t3 : TT} {σ : L2.St} {H : Hp} {Q : Bool → Hp → Prop} {b1 b2 b3 : Bool} (h1 : ∀ Q : Bool → Hp → Prop, (∀ H', Same H H' → Q b1 H') → t1 σ H Q) (h2 : b1 = true → ∀ H', Same H H' → ∀ Q : Bool → Hp → Prop, (∀ H', Same H H' → Q b2 H') → t2 σ H' Q)
    (h3 : b1 = true → ∀ H', Same H H' → ∀ Q : Bool → Hp → Prop, (∀ H', Same H H' → Q b3 H') → t3 σ H' Q) (q : ∀ H', Same H H' → Q (b1 && (b2 && b3)) H') : tAnd t1 (tAnd t2 t3) σ H Q := by
  refine h1 _ fun H' s' => ?_
  cases b1 with
  | false => exact iteF (q H' s')
  | true =>
    refine iteT (h2 rfl H' s' _ fun H2 s2 => ?_)
    cases b2 with
    | false => exact iteF (q H2 s2)
    | true => exact iteT (h3 rfl H2 s2 _ q)
section
variable {P : Program} {w : World} {K : PySem.W.Frag} {mg : Str → Option Value} {base : Heap}
def spAm : Sp := fun vs H Q _ => ∃ (b : Addr) (bs : List V) (ws : List (Int × Sr)), vs = [.ref b] ∧ H b = some (.lst bs) ∧ WsAt H bs ws ∧ (ws.map (·.1)).Nodup ∧ ws.length ≤ 30 ∧ (∀ q ∈ ws, 0 ≤ q.1) ∧
  ∀ (H' : Hp) (hs : List Int), Same H H' → Reps (chg ws) hs → Q (.int ((chg ws).length + hs.length : Nat)) H'
abbrev nsAm : List Str := ["_law_writes_here", "_law_changing", "_law_copies", "_law_amount_here", "_law_mark", "_law_cycle_here", "_law_outside", "_law_write", "_law_one_here"]
theorem scAm : FnScope nsAm ["_law_writes_here"] (defScope sAmo) := fnScope_by (by decide +kernel)
theorem kAm {f : Addr} {fd : FuncData} (F : Fun K "_law_amount" "_law_amount" sAmo f fd) (B : Bn mg) (gSo : mg "sorted" = none) (gMn : mg "min" = none) (cC : Cal P w K mg base 1 "_law_cycle" spCy []) : FnOk P w K mg base CX0 2 f fd ["_law_writes_here"] spAm := by
  refine F.ok (k := 1) scAm (fun vs H Q E h => ?_) (fun cdv A outer s H vs Q E hr h => ?_)
  · obtain ⟨b, bs, ws, rfl, _⟩ := h
    rfl
  obtain ⟨b, bs, ws, rfl, hb, hws, nd, hz, hp, q⟩ := h
  have hu := hu_of hr
  have hu64 : (A.deeper (envOfC "_law_amount" (defScope sAmo) s.heap.objs.size f cdv)).units + 64 < cLine := hr.units
  refine ⟨_, pss_cons (ps_set (i := 1) scAm.nd rfl (.inl rfl) (pe_callTy (call_dictP rfl) (by rfl) B.dct boot_dict (pa_cons
        (pe_lc (own := [("_law_write", 7)]) (g := gName 7) rfl scAm.nd (pi_list (pv 0)) (blkOk_by (N := nsAm) (sc := defScope sAmo) (by decide +kernel)) (fun _ _ _ _ _ => pg_name (i := 7) scAm.nd rfl (Or.inl rfl))
          (fun _ _ _ _ _ => pts_one (pt_cmpR op_ne (pe_ix (ix_tupK K rfl) (pv 7) pe_int (fun _ _ => rfl)) (pe_ix (ix_tupK K rfl) (pv 7) pe_int (fun _ _ => rfl)) (nomark _))) (fun _ _ _ _ _ => pv 7)) pa_nil)))
    (pss_cons (ps_set (i := 2) scAm.nd rfl (.inr rfl) (pe_callTy (call_dictP rfl) (by rfl) B.dct boot_dict (pa_cons
        (pe_lock (pe_lcI (own := [("_law_write", 7)]) (g := gName 7) rfl scAm.nd (pv 1) (blkOk_by (N := nsAm) (sc := defScope sAmo) (by decide +kernel)) (fun _ _ _ _ _ => pg_name (i := 7) scAm.nd rfl (Or.inl rfl))
          (fun _ _ _ _ _ => pts_one (pt_not (pt_val (pe_callB (call_isiK K rfl) (by rfl) B.isi boot_isinstance (pa_cons (pe_ix (ix_tupK K rfl) (pv 7) pe_int (fun _ _ => rfl)) (pa_cons (pe_bltn (v := .ty "str") (by rfl) B.str boot_str rfl) pa_nil)))))) (fun _ _ _ _ _ => pv 7))) pa_nil)))
    (pss_cons (ps_set (i := 3) scAm.nd rfl (.inl rfl) (pe_callB call_lenD (by rfl) B.len boot_len (pa_cons (pv 1) pa_nil)))
    (pss_cons (ps_for PassesOwn.never rfl (pi_list (pe_callB cr_sortedI (by rfl) gSo boot_sorted (pa_cons (pe_callTy (call_listD rfl) (by rfl) B.lst boot_list (pa_cons (pv 2) pa_nil)) pa_nil))) (pg_name (i := 4) scAm.nd rfl (Or.inl rfl))
      (pss_cons (ps_set (i := 5) scAm.nd rfl (.inr rfl) (pe_c cC hr (by decide) (by rfl) (pa_cons (pv 2) (pa_cons (pv 4) pa_nil))))
      (pss_cons (ps_lock (ps_setLc (i := 6) (own := [("_law_one_here", 8)]) (g := gName 8) rfl scAm.nd rfl (by rfl) (sw_true rfl (by rfl) (by rfl) (by rfl)) (pi_keys (pv 2)) (blkOk_by (N := nsAm) (sc := defScope sAmo) (by decide +kernel)) (fun _ _ _ _ _ => pg_name (i := 8) scAm.nd rfl (Or.inl rfl))
          (fun _ _ _ _ _ => pts_one (PW.pt (pw_and (pt_cmpR (op_notInK K rfl) (pv 8) (pv 5) (by rfl)) (pw_and1 (pt_cmpR (op_inK K rfl) (pe_dget hu (pv 2) (pv 8) (fun _ _ => rfl)) (pv 5) (by rfl)))))) (fun _ _ _ _ _ => pv 8)))
      (pss_one (ps_if (PW.pt (pw_and (pt_cmpR (op_neD hu64) (pv 5) (pe_lst pa_nil) (nomark _)) (pw_and (pt_cmpR op_eq (pv 4) (pe_callB (cr_min rfl) (by rfl) gMn boot_min (pa_cons (pv 5) pa_nil)) (nomark _)) (pw_and1 (pt_cmpR (op_eqD hu64) (pv 6) (pe_lst pa_nil) (nomark _))))))
        (pss_one (ps_set (i := 3) scAm.nd rfl (.inl rfl) (pe_op op_add (pv 3) pe_int))) pss_nil)))))
    (pss_one (ps_ret (pv 3)))))), ?_⟩
  have hwl := hws.len
  refine ⟨_, rfl, b, rfl, ⟨_, SqL.of hb⟩, fun D nD => ?_⟩
  refine lc_it (walk_list (K := K) (xs := bs)) (fun i H' => ∃ ts : List Addr, H' D = some (.lst (ts.map V.ref)) ∧ Paired (fun p (kv : Key × V) => SqT K H' p [kV kv.1, kv.2]) ts (kvS (chg (ws.take i))) ∧ Same H H') ⟨[], upd_same, .nil, same_upd nD⟩ (fun i H' _ ⟨_, _, _, s⟩ => SqL.of (s _ _ hb)) ?_ ?_
  · rintro i x H2 H3 hi ⟨ts, h1, h2, h3⟩ ⟨rfl, hx⟩
    obtain ⟨⟨m, t⟩, tt, hp2, rfl, ht⟩ := (hws.mono fun t x e => h3 _ _ e).get hx
    have et : chg (ws.take (i + 1)) = chg (ws.take i) ++ chg [(m, t)] := by
      unfold chg
      rw [List.take_add_one, hp2, List.filter_append]
      rfl
    have hsc : scal (V.int m) (vS t) = true := by cases t <;> rfl
    have hsym : decide (V.int m = vS t) = decide (vS t = V.int m) := decide_eq_decide.mpr ⟨Eq.symm, Eq.symm⟩
    have htl : ts.length ≤ 30 := by
      have h5 := Paired.length h2
      unfold kvS at h5
      rw [List.length_map] at h5
      have h6 : (chg (ws.take i)).length ≤ (ws.take i).length := List.length_filter_le ..
      rw [List.length_take] at h6
      omega
    refine ⟨rfl, _, rfl, tt, _, 0, _, rfl, rfl, .inl (.inl ht), rfl, _, rfl, tt, _, 1, _, rfl, rfl, .inl (.inl ht), rfl, hsc, _, rfl, ?_⟩
    rw [hsym]
    cases hb' : decide (vS t = V.int m) with
    | true =>
      have e1 : chg [(m, t)] = [] := by unfold chg; rw [List.filter_cons, hb']; rfl
      rw [e1, List.append_nil] at et
      exact ⟨ts, h1, by rw [et]; exact h2, h3⟩
    | false =>
      have e1 : chg [(m, t)] = [(m, t)] := by unfold chg; rw [List.filter_cons, hb']; rfl
      rw [e1] at et
      refine ⟨_, rfl, _, h1, small1000 (by rw [List.length_map]; omega), ts ++ [tt], by rw [upd_same, List.map_append]; rfl, ?_, fun c o e => ?_⟩
      · have tu := tup_upd (o := .lst (ts.map V.ref ++ [.ref tt])) h1
        have tf : ∀ t o x, H3 t = some (.frz o (.tup x)) → (upd H3 D (.lst (ts.map V.ref ++ [.ref tt]))) t = some (.frz o (.tup x)) := fun t o x e => by
          rw [upd_ne (fun z => by rw [z, h1] at e; cases e)]
          exact e
        unfold kvS
        rw [et, List.map_append]
        exact Paired.snoc (paired_imp' (fun p kv z => sqt_tup tu tf z) h2) (.inl (.inl (tu _ _ ht)))
      · rw [upd_ne (ne_of_none e nD)]
        exact h3 _ _ e
  rintro H2 ⟨ts, h1, h2, h3⟩
  rw [hwl, List.take_length] at h2
  have ndS := chg_nodup nd
  have ns := chg_ns nd
  obtain ⟨S, eS⟩ : ∃ S, chg ws = S := ⟨_, rfl⟩
  rw [eS] at h2 ndS ns q
  have hSl : S.length ≤ 30 := by
    have : (chg ws).length ≤ ws.length := List.length_filter_le ..
    rw [eS] at this
    omega
  have hS0 : ∀ m, lk S m ≠ none → 0 ≤ m := fun m h => by
    obtain ⟨p, hp', e⟩ := List.mem_map.mp (lk_key.mpr h)
    rw [← eS] at hp'
    rw [← e]
    exact hp p (List.mem_filter.mp hp').1
  refine ⟨D, ts, kvS S, rfl, SqL.of h1, h2, fun Dc nDc => ?_⟩
  rw [show mergeK [] (kvS S) = kvS S by rw [mergeK_new (kvS_nodup ndS) fun p _ => rfl]; rfl]
  have s3 := h3.trans (same_upd (o := .dK (kvS S)) nDc)
  obtain ⟨H3, e3⟩ : ∃ H3, H3 = upd H2 Dc (.dK (kvS S)) := ⟨_, rfl⟩
  have hDc : H3 Dc = some (.dK (kvS S)) := by rw [e3, upd_same]
  rw [← e3] at s3 ⊢
  refine nx_q (asg_q ?_)
  -- the copies
  refine ⟨Dc, .dK (kvS S), hDc, trivial, fun od => ⟨_, rfl, Dc, od, kvS S, rfl, upd_same, fun D2 nD2 => ?_⟩⟩
  obtain ⟨HF, eHF⟩ : ∃ HF, HF = upd H3 Dc (.frz od (.dK (kvS S))) := ⟨_, rfl⟩
  have hF : HF Dc = some (.frz od (.dK (kvS S))) := by rw [eHF, upd_same]
  rw [← eHF] at nD2 ⊢
  have nDcD2 : Dc ≠ D2 := ne_of_none hF nD2
  refine ⟨fun ts' H' => ∃ us : List Addr, ts'.length ≤ S.length ∧ H' D2 = some (.lst (us.map V.ref)) ∧ Paired (fun p (kv : Key × V) => SqT K H' p [kV kv.1, kv.2]) us (kvS (cps (S.take ts'.length))) ∧ (∀ t ∈ ts', ∃ xs, H' t = some (.tup xs)) ∧ Same HF H',
    ⟨[], Nat.zero_le _, upd_same, .nil, fun t h => (nomatch h), same_upd nD2⟩, ?_⟩
  rintro ts' H4 ⟨us, l1, l2, l3, l4, l5⟩
  have hlS : (kvS S).length = S.length := by unfold kvS; rw [List.length_map]
  have hus : us.length ≤ 30 := by
    have h5 := Paired.length l3
    unfold kvS at h5
    rw [List.length_map] at h5
    have h6 : (cps (S.take ts'.length)).length ≤ (S.take ts'.length).length := List.length_filter_le ..
    rw [List.length_take] at h6
    omega
  refine ⟨⟨_, l2⟩, l5 _ _ hF, l4, fun hl => ?_, fun k v hkv T nT => ?_⟩
  · rw [hlS] at hl
    rw [hl, List.take_length] at l3
    have h4F := l5 _ _ hF
    refine ⟨h4F, ?_⟩
    have tu : ∀ t x, H4 t = some (.tup x) → (upd H4 Dc (.dK (kvS S))) t = some (.tup x) := fun t x e => by
      rw [upd_ne (fun z => by rw [z, h4F] at e; cases e)]
      exact e
    have tf : ∀ t o x, H4 t = some (.frz o (.tup x)) → (upd H4 Dc (.dK (kvS S))) t = some (.frz o (.tup x)) := fun t o x e => by
      rw [upd_ne (fun z => by rw [z, h4F] at e; cases e)]
      exact e
    refine ⟨D2, us, kvS (cps S), rfl, SqL.of (by rw [upd_ne nDcD2.symm]; exact l2), paired_imp' (fun p kv z => sqt_tup tu tf z) l3, fun Dp nDp => ?_⟩
    rw [show mergeK [] (kvS (cps S)) = kvS (cps S) by rw [mergeK_new (kvS_nodup (cps_nodup ndS)) fun p _ => rfl]; rfl]
    obtain ⟨H5, e5⟩ : ∃ H5, H5 = upd (upd H4 Dc (.dK (kvS S))) Dp (.dK (kvS (cps S))) := ⟨_, rfl⟩
    have sL : Same H3 (upd H4 Dc (.dK (kvS S))) := same_lock hDc (by rw [← eHF]; exact l5)
    have s35 : Same H3 H5 := by rw [e5]; exact sL.trans (same_upd nDp)
    have hDp : H5 Dp = some (.dK (kvS (cps S))) := by rw [e5, upd_same]
    have hDc5 := s35 _ _ hDc
    have nDcp : Dc ≠ Dp := fun z => by rw [← z, upd_same] at nDp; cases nDp
    change tSeq _ _ _ [some (.ref b), some (.ref Dc), some (.ref Dp), none, none, none, none, none, none] _
    rw [← e5]
    refine asg_q ?_
    refine ⟨_, rfl, Dc, _, rfl, hDc5, ?_⟩
    rw [hlS]
    show tSeq (tFor _ _ _) _ _ [some (.ref b), some (.ref Dc), some (.ref Dp), some (.int (S.length : Nat)), none, none, none, none, none] _
    refine fors_q ?_
    obtain ⟨keys, ek⟩ : ∃ keys, keys = (cps S).map (·.1) := ⟨_, rfl⟩
    have ekv : (kvS (cps S)).map (fun kv => kV kv.1) = keys.map V.int := by
      rw [ek]
      unfold kvS
      rw [List.map_map, List.map_map]
      rfl
    refine ⟨_, rfl, Dp, kvS (cps S), rfl, .inl hDp, fun p1 np1 => ⟨p1, keys, rfl, SqL.of (by rw [upd_same, ekv]), fun ns' p2 pm srt np2 => ⟨p2, rfl, ⟨_, SqL.of upd_same⟩, ?_⟩⟩⟩
    rw [ekv] at np2 ⊢
    have sB := (same_upd (o := .lst (keys.map V.int)) np1).trans (same_upd (o := .lst (ns'.map V.int)) np2)
    obtain ⟨HB, eB⟩ : ∃ HB, HB = upd (upd H5 p1 (.lst (keys.map V.int))) p2 (.lst (ns'.map V.int)) := ⟨_, rfl⟩
    have hB2 : HB p2 = some (.lst (ns'.map V.int)) := by rw [eB, upd_same]
    rw [← eB] at sB ⊢
    have hDpB := sB _ _ hDp
    obtain ⟨cn, ecn⟩ : ∃ cn : Int → Bool, cn = fun m => @decide (Cn S m) (Classical.propDecidable _) := ⟨_, rfl⟩
    have ndk : ns'.Nodup := pm.nodup_iff.mpr (by rw [ek]; exact cps_nodup ndS)
    have hkey : ∀ m, m ∈ ns' → ∃ j, nx S m = some j := fun m hm => by
      have := pm.mem_iff.mp hm
      rw [ek] at this
      obtain ⟨⟨m', t⟩, hq, e⟩ := List.mem_map.mp this
      have e : m' = m := e
      subst e
      have h2 := List.mem_filter.mp hq
      cases t with
      | con y => cases h2.2
      | mk j => exact ⟨j, nx_some.mpr (mem_lk ndS h2.1)⟩
    refine for_it (walk_list (K := K) (xs := ns'.map V.int)) (fun i σ H' => ∃ y4 y5 y6, σ = [some (.ref b), some (.ref Dc), some (.ref Dp), some (.int ((S.length + ((ns'.take i).filter cn).length : Nat) : Int)), y4, y5, y6, none, none] ∧ Same HB H') ⟨none, none, none, rfl, Same.refl _⟩ (fun i σ H' _ ⟨_, _, _, _, z⟩ => SqL.of (z _ _ hB2)) ?_ ?_
    · rintro i x σ H6 H6' hi ⟨y4, y5, y6, rfl, s6⟩ ⟨rfl, hx⟩
      rw [List.getElem?_map] at hx
      obtain ⟨m, hm, rfl⟩ : ∃ m, ns'[i]? = some m ∧ x = .int m := by
        cases e : ns'[i]? with
        | none => rw [e] at hx; cases hx
        | some m => rw [e] at hx; cases hx; exact ⟨m, rfl, rfl⟩
      show tSeq (tAsg _ _) _ _ [some (.ref b), some (.ref Dc), some (.ref Dp), some (.int ((S.length + ((ns'.take i).filter cn).length : Nat) : Int)), some (.int m), y5, y6, none, none] _
      refine asg_q ?_
      refine ⟨_, rfl, _, rfl, ?_⟩
      refine ⟨Dp, m, kvS (cps S), S, rfl, .inl (s6 _ _ hDpB), cps_cp ndS, ns, hSl, fun H7 l cs s7 nl hl cy hcl => ?_⟩
      show tSeq (tLock _) _ _ [some (.ref b), some (.ref Dc), some (.ref Dp), some (.int ((S.length + ((ns'.take i).filter cn).length : Nat) : Int)), some (.int m), some (.ref l), y6, none, none] _
      have hDp7 := s7 _ _ (s6 _ _ hDpB)
      refine ⟨Dp, .dK (kvS (cps S)), hDp7, trivial, fun od2 => ⟨_, rfl, Dp, od2, rfl, .inl ⟨kvS (cps S), upd_same, fun U nU => ?_⟩⟩⟩
      have nUD : U ≠ Dp := fun e => by rw [e, upd_same] at nU; cases nU
      obtain ⟨outs, eo⟩ : ∃ outs : Nat → List Int, outs = fun i => (((cps S).take i).filter fun p => inS p.2 cs && !cs.contains p.1).map (·.1) := ⟨_, rfl⟩
      have hks : (kvS (cps S)).length = (cps S).length := by unfold kvS; rw [List.length_map]
      have hcl2 : (cps S).length ≤ 30 := Nat.le_trans (List.length_filter_le ..) hSl
      have hlU : l ≠ U := fun e => by
        rw [← e] at nU
        by_cases z : l = Dp
        · rw [z, upd_same] at nU; cases nU
        · rw [upd_ne z, hl] at nU; cases nU
      have nlD : l ≠ Dp := fun e => by rw [e, s6 _ _ hDpB] at nl; cases nl
      refine lc_it walk_keys (fun k H' => H' U = some (.lst ((outs k).map V.int)) ∧ Same (upd H7 Dp (.frz od2 (.dK (kvS (cps S))))) H') ⟨by rw [eo]; exact upd_same, same_upd nU⟩ (fun k H' _ h => h.2 _ _ upd_same) ?_ ?_
      · rintro k x H8 H8' hk ⟨l1, l2⟩ ⟨rfl, kk, vv, hx, rfl⟩
        obtain ⟨⟨m', t⟩, hmt, rfl, rfl⟩ : ∃ q : Int × Sr, (cps S)[k]? = some q ∧ kk = Sum.inl q.1 ∧ vv = vS q.2 := by
          unfold kvS at hx
          rw [List.getElem?_map] at hx
          cases e : (cps S)[k]? with
          | none => rw [e] at hx; cases hx
          | some q => rw [e] at hx; cases hx; exact ⟨q, rfl, rfl, rfl⟩
        have hlk : lk (cps S) m' = some t := mem_lk (cps_nodup ndS) (List.mem_of_getElem? hmt)
        have h8l : H8' l = some (.lst (cs.map V.int)) := l2 _ _ (by rw [upd_ne nlD]; exact hl)
        have h8D := l2 _ _ (upd_same (H := H7) (a := Dp))
        have eok : outs (k + 1) = outs k ++ ([(m', t)].filter fun p => inS p.2 cs && !cs.contains p.1).map (·.1) := by
          rw [eo]
          show List.map _ (List.filter _ ((cps S).take (k + 1))) = _
          rw [List.take_add_one, hmt, List.filter_append, List.map_append]
          rfl
        have dg : DGet H8' Dp (.int m') (some (vS t)) := .inl ⟨kvS (cps S), Sum.inl m', .inr ⟨_, h8D⟩, rfl, by rw [kvS_look, hlk]; rfl⟩
        refine ⟨rfl, and2 (b1 := !cs.contains m') (b2 := inS t cs) (fun Q q => ⟨_, rfl, _, rfl, l, cs.map V.int, rfl, .inl (SqL.of h8l), rfl, flat_ints _, _, rfl, ?_⟩) (fun _ Q q => ⟨_, rfl, _, rfl, Dp, vS t, rfl, dg, _, rfl, l, cs.map V.int, rfl, .inl (SqL.of h8l), flat_sr t, flat_ints _, _, rfl, ?_⟩) ?_⟩
        · rw [if_pos rfl, show inV (kV (Sum.inl (m', t).fst)) (cs.map V.int) = cs.contains m' from in_ints m' cs]; exact q
        · rw [if_neg (by decide), in_sr]; exact q
        · have hol : (outs k).length ≤ 30 := by
            rw [eo]
            show (List.map _ _).length ≤ 30
            rw [List.length_map]
            refine Nat.le_trans (List.length_filter_le ..) ?_
            rw [List.length_take]
            omega
          cases hb : (!cs.contains m' && inS t cs) with
          | true =>
            rw [List.filter_cons, Bool.and_comm, hb] at eok
            refine iteT ⟨_, rfl, _, l1, small1000 (by rw [List.length_map]; omega), by rw [upd_same, eok, List.map_append]; rfl, fun c o e => ?_⟩
            rw [upd_ne (ne_of_none e nU)]
            exact l2 _ _ e
          | false =>
            rw [List.filter_cons, Bool.and_comm, hb] at eok
            refine iteF ⟨by rw [eok]; simpa using l1, l2⟩
      · rintro H8 ⟨l1, l2⟩
        have h8D := l2 _ _ (upd_same (H := H7) (a := Dp))
        refine ⟨h8D, ?_⟩
        obtain ⟨H9, e9⟩ : ∃ H9, H9 = upd H8 Dp (.dK (kvS (cps S))) := ⟨_, rfl⟩
        have s79 : Same H7 H9 := by rw [e9]; exact same_lock hDp7 l2
        obtain ⟨os, eos⟩ : ∃ os, os = outs (cps S).length := ⟨_, rfl⟩
        have h9U : H9 U = some (.lst (os.map V.int)) := by rw [e9, upd_ne nUD, l1, hks, eos]
        have h9l := s79 _ _ hl
        rw [← e9]
        refine nx_q (if_q ?_)
        have hcn : (decide (cs ≠ []) && (decide (∀ x ∈ cs, m ≤ x) && decide (os = []))) = cn m := by
          rw [ecn, Bool.eq_iff_iff]
          simp only [Bool.and_eq_true, decide_eq_true_eq]
          refine Iff.trans ?_ (cn_iff ns cy)
          refine and_congr_right fun _ => and_congr_right fun _ => ?_
          rw [eos, eo]
          show List.map _ (List.filter _ ((cps S).take (cps S).length)) = [] ↔ _
          rw [List.take_length]
          exact out_away ndS cs
        have hge : cs ≠ [] → m ∈ cs := fun h => by
          obtain ⟨bb, e, _⟩ := cy.ring h
          rw [e]
          exact List.mem_cons_self ..
        have sU : ∀ {H'}, Same H9 H' → SqL K H' U (os.map V.int) := fun z => SqL.of (z _ _ h9U)
        have sl : ∀ {H'}, Same H9 H' → SqL K H' l (cs.map V.int) := fun z => SqL.of (z _ _ h9l)
        refine and3S (b1 := decide (cs ≠ [])) (b2 := decide (∀ x ∈ cs, m ≤ x)) (b3 := decide (os = [])) (fun Q q => ⟨_, rfl, Nat.zero_le _, fun q1 nq => ⟨.list (cs.map PyData.int), .list [], .lst (sl (same_upd nq)) (dp_ints cs), .lst (.inl (.inl upd_same)) .nil, intsShaped cs, by decide, _, rfl, by rw [ints_ne]; exact q _ (same_upd nq)⟩⟩)
          (fun hb H' s' Q q => ⟨_, rfl, _, rfl, l, cs, rfl, sl s', List.length_pos_iff.mpr (of_decide_eq_true hb), fun mn h1 h2 => ⟨rfl, _, rfl, ?_⟩⟩)
          (fun hb H' s' Q q => ⟨_, rfl, Nat.zero_le _, fun q1 nq => ⟨.list (os.map PyData.int), .list [], .lst (sU (s'.trans (same_upd nq))) (dp_ints os), .lst (.inl (.inl upd_same)) .nil, intsShaped os, by decide, _, rfl, by rw [ints_eq]; exact q _ (s'.trans (same_upd nq))⟩⟩) ?_
        · rw [show decide (V.int m = V.int mn) = decide (∀ x ∈ cs, m ≤ x) from decide_eq_decide.mpr ⟨fun e => by cases e; exact h2, fun h => by
            have h3 := h mn h1
            have h4 := h2 m (hge (of_decide_eq_true hb))
            rw [show m = mn by omega]⟩]
          exact q _ s'
        · intro H10 s10
          rw [hcn]
          have hss : Same HB H10 := s6.trans (s7.trans (s79.trans s10))
          have et : (ns'.take (i + 1)).filter cn = (ns'.take i).filter cn ++ [m].filter cn := by
            rw [List.take_add_one, hm, List.filter_append]
            rfl
          cases hc : cn m with
          | true =>
            rw [List.filter_cons, hc] at et
            refine iteT ⟨_, rfl, _, _, rfl, rfl, ⟨some (.int m), some (.ref l), some (.ref U), ?_, hss⟩⟩
            have : ((S.length + ((ns'.take (i + 1)).filter cn).length : Nat) : Int) = ((S.length + ((ns'.take i).filter cn).length : Nat) : Int) + 1 := by
              rw [et, List.length_append]
              show ((S.length + (_ + 1) : Nat) : Int) = _
              omega
            rw [this]
            rfl
          | false =>
            rw [List.filter_cons, hc] at et
            refine iteF ⟨some (.int m), some (.ref l), some (.ref U), ?_, hss⟩
            rw [show (ns'.take (i + 1)).filter cn = (ns'.take i).filter cn by rw [et]; exact List.append_nil _]
            rfl
    · rintro σ H6 ⟨y4, y5, y6, rfl, s6⟩
      refine ⟨_, rfl, ?_⟩
      rw [List.length_map, List.take_length]
      refine q H6 (ns'.filter cn) (s3.trans (s35.trans (sB.trans s6))) ?_
      rw [ecn]
      refine reps_min ndk fun x ix => ?_
      obtain ⟨j, ej, _⟩ := ix.lk
      refine ⟨pm.mem_iff.mpr ?_, hS0 x (by rw [ej]; exact fun z => nomatch z)⟩
      rw [ek]
      exact List.mem_map.mpr ⟨(x, .mk j), List.mem_filter.mpr ⟨lk_mem ej, rfl⟩, rfl⟩
  · obtain ⟨⟨m, t⟩, hmt, rfl, rfl⟩ : ∃ q : Int × Sr, S[ts'.length]? = some q ∧ k = Sum.inl q.1 ∧ v = vS q.2 := by
      unfold kvS at hkv
      rw [List.getElem?_map] at hkv
      cases e : S[ts'.length]? with
      | none => rw [e] at hkv; cases hkv
      | some q => rw [e] at hkv; cases hkv; exact ⟨q, rfl, rfl, rfl⟩
    have lt : ts'.length < S.length := by
      rcases Nat.lt_or_ge ts'.length S.length with z | z
      · exact z
      · rw [List.getElem?_eq_none z] at hmt; cases hmt
    have sT := same_upd (o := .tup [V.int m, vS t]) nT
    have hT : (upd H4 T (.tup [V.int m, vS t])) T = some (.tup [V.int m, vS t]) := upd_same
    obtain ⟨H5, e5⟩ : ∃ H5, H5 = upd H4 T (.tup [V.int m, vS t]) := ⟨_, rfl⟩
    show gName 7 _ _ (upd H4 T (.tup [V.int m, vS t])) _
    rw [← e5] at sT hT ⊢
    have et : cps (S.take (ts'.length + 1)) = cps (S.take ts'.length) ++ cps [(m, t)] := by
      unfold cps
      rw [List.take_add_one, hmt, List.filter_append]
      rfl
    have lts : (ts' ++ [T]).length = ts'.length + 1 := by rw [List.length_append]; rfl
    have all : ∀ H6 : Hp, (∀ t x, H5 t = some (.tup x) → H6 t = some (.tup x)) → ∀ u ∈ ts' ++ [T], ∃ xs, H6 u = some (.tup xs) := fun H6 k u hu => by
      rcases List.mem_append.mp hu with h | h
      · obtain ⟨xs, e⟩ := l4 u h
        exact ⟨xs, k _ _ (sT _ _ e)⟩
      · rw [List.mem_singleton.mp h]
        exact ⟨_, k _ _ hT⟩
    cases t with
    | con y =>
      refine ⟨rfl, _, rfl, T, _, 1, _, rfl, rfl, SqT.of hT, rfl, _, _, _, _, _, rfl, .ty _, (Dx.str (K := K) (H := H5) y).ty, kit_str (.str y), _, rfl, ?_⟩
      refine ⟨us, by omega, sT _ _ l2, ?_, all H5 (fun _ _ e => e), l5.trans sT⟩
      rw [lts, et, show cps [(m, (Src.con y : Sr))] = [] from rfl, List.append_nil]
      exact paired_imp' (fun p kv z => sqt_same sT z) l3
    | mk j =>
      refine ⟨rfl, _, rfl, T, _, 1, _, rfl, rfl, SqT.of hT, rfl, _, _, _, _, _, rfl, .ty _, (Dx.int (K := K) (H := H5) j).ty, kit_str (.int j), _, rfl, ?_⟩
      have l2' := sT _ _ l2
      have tu := tup_upd (o := .lst (us.map V.ref ++ [.ref T])) l2'
      have tf : ∀ t o x, H5 t = some (.frz o (.tup x)) → (upd H5 D2 (.lst (us.map V.ref ++ [.ref T]))) t = some (.frz o (.tup x)) := fun t o x e => by
        rw [upd_ne (fun z => by rw [z, l2'] at e; cases e)]
        exact e
      refine ⟨_, rfl, _, l2', small1000 (by rw [List.length_map]; omega), us ++ [T], by omega, by rw [upd_same, List.map_append]; rfl, ?_, all _ tu, fun c o e => ?_⟩
      · rw [lts, et, show cps [(m, (Src.mk j : Sr))] = [(m, .mk j)] from rfl]
        unfold kvS
        rw [List.map_append]
        exact Paired.snoc (paired_imp' (fun p kv z => sqt_tup tu tf (sqt_same sT z)) l3) (.inl (.inl (tu _ _ hT)))
      · rw [upd_ne (ne_of_none e nD2)]
        exact sT _ _ (l5 _ _ e)
end
end Lm

/-! _law_done -/
namespace Lm
open PySem PySem.Spec PyProof.Rows L2 LmS
open C8 (fnScope_by pe_gc pss_cut tCut Cal pe_c)
abbrev sDon : Stmt := top 23
def In99 (m : Int) : Prop := 0 ≤ m ∧ m < 99
/-- a dict from all marks to what they have -/
def VdAt (H : Hp) (d : Addr) (n : Nat) (f : Int → Sr) : Prop := ∃ kvs, H d = some (.dK kvs) ∧ kvs.length ≤ n ∧ (∀ p ∈ kvs, ∃ m, p.1 = Sum.inl m ∧ In99 m) ∧ ∀ m, In99 m → valV kvs (Sum.inl m) = some (vS (f m))
theorem VdAt.keep {H H' : Hp} {d : Addr} {n : Nat} {f : Int → Sr} (k : ∀ o, H d = some o → H' d = some o) (h : VdAt H d n f) : VdAt H' d n f := let ⟨kvs, h1, h2⟩ := h; ⟨kvs, k _ h1, h2⟩
theorem VdAt.put {H : Hp} {d : Addr} {n : Nat} {f g : Int → Sr} {kvs : List (Key × V)} {m : Int} {c : Sr} (h1 : kvs.length ≤ n) (h2 : ∀ p ∈ kvs, ∃ m, p.1 = Sum.inl m ∧ In99 m) (h3 : ∀ m, In99 m → valV kvs (Sum.inl m) = some (vS (f m))) (hm : In99 m) (hg : ∀ y, g y = if y = m then c else f y) :
    VdAt (upd H d (.dK (putK kvs (Sum.inl m) (vS c)))) d (n + 1) g := by
  refine ⟨_, upd_same, by have := putK_len kvs (Sum.inl m) (vS c); omega, fun p hp => ?_, fun y hy => ?_⟩
  · rcases putK_mem hp with ⟨q, hq, e⟩ | e
    · rw [← e]; exact h2 q hq
    · exact ⟨m, e, hm⟩
  · rw [valV_put, hg]
    by_cases e : y = m
    · rw [if_pos (by rw [e]), if_pos e]
    · rw [if_neg (fun z => e (Sum.inl.inj z)), if_neg e]
      exact h3 y hy
theorem put_if (f : Int → Sr) (m : Int) (c : Sr) (y : Int) : put f m c y = if y = m then c else f y := rfl
/-- each mark has its own -/
def idK (n : Nat) : List (Key × V) := (rgI n).map fun m => (Sum.inl m, V.int m)
theorem rgI_succ (n : Nat) : rgI (n + 1) = rgI n ++ [(0 : Int) + n] := by unfold rgI; rw [List.range_succ, List.map_append]; rfl
theorem idK_succ (n : Nat) : idK (n + 1) = idK n ++ [(Sum.inl ((0 : Int) + n), V.int ((0 : Int) + n))] := by unfold idK; rw [rgI_succ, List.map_append]; rfl
theorem idK_keys (n : Nat) : (idK n).map (·.1) = (rgI n).map Sum.inl := by unfold idK; rw [List.map_map]; rfl
theorem idK_nodup (n : Nat) : ((idK n).map (·.1)).Nodup := by
  rw [idK_keys]
  exact List.Pairwise.map Sum.inl (fun a b h e => h (Sum.inl.inj e)) (rgI_nodup n)
theorem idK_len (n : Nat) : (idK n).length = n := by unfold idK; rw [List.length_map, rgI_len]
theorem in_rgI {n : Nat} {m : Int} (h0 : 0 ≤ m) (h1 : m < n) : m ∈ rgI n := List.mem_map.mpr ⟨m.toNat, List.mem_range.mpr (by omega), by show (0 : Int) + (m.toNat : Nat) = m; omega⟩
theorem idK_at (H : Hp) {d : Addr} (h : H d = some (.dK (idK 99))) : VdAt H d 99 Src.mk := by
  refine ⟨_, h, by rw [idK_len]; exact Nat.le_refl _, fun p hp => ?_, fun m hm => ?_⟩
  · obtain ⟨m, hm, rfl⟩ := List.mem_map.mp hp
    exact ⟨m, rfl, rgI_in hm⟩
  · exact valV_mem (idK_nodup 99) (List.mem_map.mpr ⟨m, in_rgI hm.1 hm.2, rfl⟩)
section
variable {P : Program} {w : World} {K : PySem.W.Frag} {mg : Str → Option Value} {base : Heap}
def spDn : Sp := fun vs H Q _ => ∃ (r : Addr) (rs : List V) (W : List Rw), vs = [.ref r] ∧ H r = some (.lst rs) ∧ RowsAt H rs W ∧ W.length ≤ 200 ∧ (∀ q ∈ W, Gr In99 q) ∧
  ∀ (H' : Hp) (d : Addr), Same H H' → H d = none → VdAt H' d 300 (runs W) → Q (.ref d) H'
abbrev nsDn : List Str := ["_law_rows", "_law_found", "_law_row", "_law_mark"]
theorem scDn : FnScope nsDn ["_law_rows"] (defScope sDon) := fnScope_by (by decide +kernel)
theorem kDn {f : Addr} {fd : FuncData} (F : Fun K "_law_done" "_law_done" sDon f fd) (B : Bn mg) : FnOk P w K mg base CX0 1 f fd ["_law_rows"] spDn := by
  refine F.ok scDn (fun vs H Q E h => ?_) (fun cdv A outer s H vs Q E hr h => ?_)
  · obtain ⟨r, rs, W, rfl, _⟩ := h
    rfl
  obtain ⟨r, rs, W, rfl, hrr, hrw, hWl, hgr, q⟩ := h
  have hu := hu_of hr
  refine ⟨_, pss_cons (ps_set (i := 1) scDn.nd rfl (.inl rfl) (pe_callTy (call_dictP rfl) (by rfl) B.dct boot_dict (pa_cons (pe_lc (own := [("_law_mark", 3)]) (g := gName 3) (tt := tYes) rfl scDn.nd (pi_range1 (by rfl) B.rng (pa_cons pe_int pa_nil)) (blkOk_by (N := nsDn) (sc := defScope sDon) (by decide +kernel)) (fun _ _ _ _ _ => pg_name (i := 3) scDn.nd rfl (Or.inl rfl)) (fun _ _ _ _ _ => pts_nil)
          (fun _ _ _ _ _ => pe_tup (pa_cons (pv 3) (pa_cons (pv 3) pa_nil)))) pa_nil)))
    (pss_cons (ps_for PassesOwn.never rfl (pi_list (pv 0)) (pg_name (i := 2) scDn.nd rfl (Or.inl rfl))
      (pss_one (ps_dput hu (pv 1) (pe_ix ix_tup (pv 2) pe_int (fun _ _ => rfl)) (pe_ifExp (pt_cmpR op_eq (pe_ix ix_tup (pv 2) pe_int (fun _ _ => rfl)) pe_str (nomark _)) (pe_dget hu (pv 1) (pe_ix ix_tup (pv 2) pe_int (fun _ _ => rfl)) (fun _ _ => rfl)) (pe_ix ix_tup (pv 2) pe_int (fun _ _ => rfl))) rfl)))
    (pss_one (ps_ret (pv 1)))), ?_⟩
  refine ⟨99, rfl, by decide, by decide, fun D nD => ?_⟩
  refine lc_range (lo := 0) (n := 99) (fun i H' => ∃ as : List Addr, H' D = some (.lst (as.map V.ref)) ∧ Paired (fun p (kv : Key × V) => H' p = some (.tup [kV kv.1, kv.2])) as (idK i) ∧ Same H H') ⟨[], upd_same, .nil, same_upd nD⟩ ?_ ?_
  · rintro i H2 hi ⟨as, c2, c3, c5⟩
    have hal : as.length ≤ 99 := by
      have := Paired.length c3
      rw [idK_len] at this
      omega
    refine ⟨rfl, tyes ⟨_, rfl, _, rfl, by show 2 ≤ sizeLine; decide, fun T nT => ?_⟩⟩
    have sT := same_upd (o := .tup [V.int (0 + (i : Int)), V.int (0 + (i : Int))]) nT
    refine ⟨_, sT _ _ c2, small1000 (by rw [List.length_map]; omega), as ++ [T], by rw [upd_same, List.map_append]; rfl, ?_, fun c o e => ?_⟩
    · rw [idK_succ]
      have tu := tup_upd (o := .lst (as.map V.ref ++ [.ref T])) (sT _ _ c2)
      exact Paired.snoc (paired_imp' (fun p kv z => tu p _ (sT p _ z)) c3) (tu _ _ upd_same)
    · rw [upd_ne (ne_of_none e nD)]
      exact sT _ _ (c5 _ _ e)
  rintro H2 ⟨as, c2, c3, c5⟩
  refine ⟨D, as, idK 99, rfl, SqL.of c2, paired_imp' (fun p kv z => .inl (.inl z)) c3, fun p6 np6 => ?_⟩
  rw [show mergeK [] (idK 99) = idK 99 by rw [mergeK_new (idK_nodup 99) fun p _ => rfl]; rfl]
  obtain ⟨H3, e3⟩ : ∃ H3, H3 = upd H2 p6 (.dK (idK 99)) := ⟨_, rfl⟩
  have s3 : Same H H3 := by rw [e3]; exact c5.trans (same_upd np6)
  have h36 : H3 p6 = some (.dK (idK 99)) := by rw [e3, upd_same]
  have np : H p6 = none := by
    cases z : H p6 with
    | none => rfl
    | some o => rw [c5 _ _ z] at np6; cases np6
  rw [← e3]
  change tSeq _ _ _ [some (.ref r), some (.ref p6), none, none] _
  refine ⟨_, rfl, r, rfl, ⟨_, SqL.of (s3 _ _ hrr)⟩, ?_⟩
  refine for_it (walk_list (K := K) (xs := rs)) (fun k σ H' => ∃ y2, σ = [some (.ref r), some (.ref p6), y2, none] ∧ VdAt H' p6 (99 + k) (runs (W.take k)) ∧ (∀ c o, c ≠ p6 → H3 c = some o → H' c = some o)) ⟨none, rfl, idK_at _ h36, fun c o _ e => e⟩ ?_ ?_ ?_
  · rintro i2 σ H' hi2 ⟨y8', rfl, g1, g2⟩
    exact SqL.of (g2 _ _ (ne_of_none hrr np) (s3 _ _ hrr))
  · rintro i2 x σ H4 H4' hi2 ⟨y8', rfl, g1, g2⟩ ⟨rfl, hx⟩
    have hrw4 : RowsAt H4' rs W := hrw.mono fun t l e => g2 _ _ (ne_of_none e np) (s3 _ _ e)
    obtain ⟨rw', t, hrow, rfl, ht⟩ := hrw4.get hx
    have hg := hgr rw' (List.mem_of_getElem? hrow)
    have hrl := hrw.len
    obtain ⟨kvs, q1, q2, q3, q4⟩ := g1
    cases rw' with
    | con y m =>
      obtain ⟨hy, hm⟩ := hg
      obtain ⟨hy1, hy2⟩ := onoff hy
      have ht' : SqT K H4' t [.str y, .int m] := .inl (.inl ht)
      refine ⟨_, rfl, t, _, 0, _, rfl, rfl, ht', rfl, rfl, _, rfl, ?_⟩
      rw [dstr, hy1]
      refine iteF ⟨_, rfl, t, _, 0, _, rfl, rfl, ht', rfl, _, rfl, _, rfl, t, _, 1, _, rfl, rfl, ht', rfl, p6, _, rfl, .inl ⟨kvs, Sum.inl m, q1, rfl, small1000 (by omega), rfl⟩, ?_⟩
      refine ⟨_, rfl, ?_, fun c o nc e => ?_⟩
      · rw [runs_take hrow]
        exact VdAt.put (c := .con y) q2 q3 q4 hm fun z => put_if _ _ _ z
      · rw [upd_ne nc]
        exact g2 c o nc e
    | cp m j =>
      obtain ⟨hm, hj⟩ := hg
      have ht' : SqT K H4' t [.str "copy", .int m, .int j] := .inl (.inl ht)
      refine ⟨_, rfl, t, _, 0, _, rfl, rfl, ht', rfl, rfl, _, rfl, ?_⟩
      rw [decide_eq_true rfl]
      refine iteT ⟨_, rfl, _, rfl, t, _, 2, _, rfl, rfl, ht', rfl, p6, _, rfl, .inl ⟨kvs, Sum.inl j, .inl q1, rfl, (q4 j hj).symm⟩, _, rfl, _, rfl, t, _, 1, _, rfl, rfl, ht', rfl, p6, _, rfl, .inl ⟨kvs, Sum.inl m, q1, rfl, small1000 (by omega), rfl⟩, ?_⟩
      refine ⟨_, rfl, ?_, fun c o nc e => ?_⟩
      · rw [runs_take hrow]
        exact VdAt.put (c := runs (W.take i2) j) q2 q3 q4 hm fun z => put_if _ _ _ z
      · rw [upd_ne nc]
        exact g2 c o nc e
  · rintro σ H4 ⟨y8', rfl, ⟨kvs, q1, q2, q3, q4⟩, g2⟩
    have hrl := hrw.len
    rw [hrl, List.take_length] at q4
    exact ⟨_, rfl, q H4 p6 (fun c o e => g2 c o (ne_of_none e np) (s3 _ _ e)) np ⟨kvs, q1, by omega, q3, q4⟩⟩
end
end Lm

/-! _law_right -/
namespace L2
open PySem PySem.Spec PyProof.Rows
def rNotInT (K : PySem.W.Frag) : R2 := fun x y H Q => ∃ d ds, Dp K H x d ∧ Dp K H y (.tuple ds) ∧ SeqAt.shaped d = true ∧ SeqAt.shaped (.tuple ds) = true ∧ Q (.bl (!ds.any fun z => PyData.eqv z d)) H
theorem op_notInT {X : Cx} (hu : X.A.units + 65 < cLine) : OpR X (compareOp .NotIn) (rNotInT X.K) := by
  intro pins s σ H x y v u Q I rx ry h
  obtain ⟨d, ds, hd, he, sd, se, q⟩ := h
  obtain ⟨as, r1⟩ := Dp.reads I d x v hd rx
  obtain ⟨bs, r2⟩ := Dp.reads I (.tuple ds) y u he ry
  exact SeqAt.notIn_tuple_reads r2 r1 (SeqAt.canLay_of_shaped se) (SeqAt.canLay_of_shaped sd) (room_in_shaped sd hu) ⟨.bl _, H, I, rfl, q⟩
end L2
namespace Lm
open PySem PySem.Spec PyProof.Rows L2 LmS
open C8 (fnScope_by pe_gc pss_cut tCut Cal pe_c)
abbrev sRig : Stmt := top 26
theorem units65 {k : Nat} {A : Around} (r : Room k A) : A.units + 65 < cLine := by have := r.un; omega
/-- the forms of rows -/
def formD : List PyData := [.tuple [.str "on", .int 2], .tuple [.str "off", .int 2], .tuple [.str "copy", .int 3]]
def headD : Rw → PyData
  | .con x _ => .tuple [.str x, .int 2]
  | .cp _ _ => .tuple [.str "copy", .int 3]
theorem form_on : (formD.any fun z => PyData.eqv z (.tuple [.str "on", .int 2])) = true ∧ SeqAt.shaped (.tuple [.str "on", .int 2]) = true := ⟨by decide +kernel, by decide +kernel⟩
theorem form_off : (formD.any fun z => PyData.eqv z (.tuple [.str "off", .int 2])) = true ∧ SeqAt.shaped (.tuple [.str "off", .int 2]) = true := ⟨by decide +kernel, by decide +kernel⟩
theorem form_copy : (formD.any fun z => PyData.eqv z (.tuple [.str "copy", .int 3])) = true ∧ SeqAt.shaped (.tuple [.str "copy", .int 3]) = true := ⟨by decide +kernel, by decide +kernel⟩
theorem form_ok {G : Int → Prop} {r : Rw} (g : Gr G r) : (formD.any fun z => PyData.eqv z (headD r)) = true ∧ SeqAt.shaped (headD r) = true := by
  cases r with
  | con x m =>
    rcases g.1 with rfl | rfl
    · exact form_on
    · exact form_off
  | cp m j => exact form_copy
theorem form_shaped : SeqAt.shaped (.tuple formD) = true := by decide +kernel
theorem merge_vd {Hh : Hp} {d : Addr} : ∀ (ws : List (Int × Sr)) (kvs : List (Key × V)) (n : Nat) (f : Int → Sr), (ws.map (·.1)).Nodup → (∀ q ∈ ws, In99 q.1) → kvs.length ≤ n → (∀ p ∈ kvs, ∃ m, p.1 = Sum.inl m ∧ In99 m) → (∀ m, In99 m → valV kvs (Sum.inl m) = some (vS (f m))) →
    (mergeK kvs (kvS ws)).length ≤ n + ws.length ∧ (∀ p ∈ mergeK kvs (kvS ws), ∃ m, p.1 = Sum.inl m ∧ In99 m) ∧ ∀ m, In99 m → valV (mergeK kvs (kvS ws)) (Sum.inl m) = some (vS ((lk ws m).getD (f m)))
  | [], kvs, n, f, _, _, h1, h2, h3 => ⟨h1, h2, h3⟩
  | (m, s) :: ws, kvs, n, f, nd, hi, h1, h2, h3 => by
    have nd' := List.nodup_cons.mp (show (m :: ws.map (·.1)).Nodup from nd)
    obtain ⟨k', e, g1, g2, g3⟩ := VdAt.put (H := Hh) (d := d) (g := fun y => if y = m then s else f y) (c := s) h1 h2 h3 (hi _ (List.mem_cons_self ..)) fun y => rfl
    rw [upd_same] at e
    have e := HO.dK.inj (Option.some.inj e)
    subst e
    obtain ⟨r1, r2, r3⟩ := merge_vd (Hh := Hh) (d := d) ws _ (n + 1) _ nd'.2 (fun q hq => hi q (List.mem_cons_of_mem _ hq)) g1 g2 g3
    refine ⟨by rw [List.length_cons]; exact Nat.le_trans r1 (by omega), r2, fun y hy => (r3 y hy).trans ?_⟩
    rw [LmS.lk_cons]
    by_cases e : m = y
    · subst e
      have : lk ws m = none := by
        cases z : lk ws m with
        | none => rfl
        | some t => exact absurd (lk_key.mpr (by rw [z]; exact fun z => nomatch z)) nd'.1
      rw [this, if_pos rfl, if_pos rfl]
      rfl
    · rw [if_neg e]
      show some (vS ((lk ws y).getD (if y = m then s else f y))) = _
      rw [if_neg fun z => e z.symm]
section
variable {P : Program} {w : World} {K : PySem.W.Frag} {mg : Str → Option Value} {base : Heap}
theorem kit_list : PySem.W.kitOne K (.type "list") (.type "list") = some true := kit_ty (a := "list") (b := "list") (r := true) (by decide +kernel)
theorem kit_tuple : PySem.W.kitOne K (.type "tuple") (.type "tuple") = some true := kit_ty (a := "tuple") (b := "tuple") (r := true) (by decide +kernel)
def spRi : Sp := fun vs H Q _ => ∃ (b r : Addr) (sp : Int) (bs rs : List V) (ws : List (Int × Sr)) (W : List Rw), vs = [.ref b, .int sp, .ref r] ∧ H b = some (.lst bs) ∧ WsAt H bs ws ∧ (ws.map (·.1)).Nodup ∧ ws.length ≤ 30 ∧ (∀ q ∈ ws, In99 q.1) ∧
  H r = some (.lst rs) ∧ RowsAt H rs W ∧ W.length ≤ 200 ∧ (∀ q ∈ W, Gr In99 q) ∧ (∀ m, m ≠ sp → runs W m = (lk ws m).getD (.mk m)) ∧ (∃ hs, Reps (chg ws) hs ∧ W.length = (chg ws).length + hs.length) ∧ ∀ H', Same H H' → Q (.bl true) H'
abbrev nsRi : List Str := ["_law_writes_here", "_law_spare", "_law_rows", "_law_row", "_law_due", "_law_told", "_law_mark"]
theorem scRi : FnScope nsRi ["_law_writes_here", "_law_spare", "_law_rows"] (defScope sRig) := fnScope_by (by decide +kernel)
theorem kRi {f : Addr} {fd : FuncData} (F : Fun K "_law_right" "_law_right" sRig f fd) (B : Bn mg) (cA : Cal P w K mg base 2 "_law_amount" spAm []) (cD : Cal P w K mg base 1 "_law_done" spDn []) : FnOk P w K mg base CX0 3 f fd ["_law_writes_here", "_law_spare", "_law_rows"] spRi := by
  refine F.ok (k := 2) scRi (fun vs H Q E h => ?_) (fun cdv A outer s H vs Q E hr h => ?_)
  · obtain ⟨b, r, sp, bs, rs, ws, W, rfl, _⟩ := h
    rfl
  obtain ⟨b, r, sp, bs, rs, ws, W, rfl, hb, hws, nd, hz, hok, hrr, hrw, hWl, hgr, hdue, ⟨hs, hreps, hlen⟩, q⟩ := h
  have hu := hu_of hr
  have hu64 : (A.deeper (envOfC "_law_right" (defScope sRig) s.heap.objs.size f cdv)).units + 64 < cLine := hr.units
  have hu65 : (A.deeper (envOfC "_law_right" (defScope sRig) s.heap.objs.size f cdv)).units + 65 < cLine := units65 hr
  refine ⟨_, pss_cons (ps_if (PW.pt (pw_or (pt_not (pt_val (pe_callB call_isi (by rfl) B.isi boot_isinstance (pa_cons (pv 2) (pa_cons (pe_bltn (v := .ty "list") (by rfl) B.lst boot_list rfl) pa_nil))))) (pw_or1 (pt_cmpR op_ne (pe_callB call_len_seq (by rfl) B.len boot_len (pa_cons (pv 2) pa_nil)) (pe_c cA hr (by decide) (by rfl) (pa_cons (pv 0) pa_nil)) (nomark _))))) (pss_one (ps_ret pe_bl)) pss_nil)
    (pss_cons (ps_for PassesOwn.never rfl (pi_list (pv 2)) (pg_name (i := 3) scRi.nd rfl (Or.inl rfl))
      (pss_one (ps_if (PW.pt (pw_or (pt_not (pt_val (pe_callB call_isi (by rfl) B.isi boot_isinstance (pa_cons (pv 3) (pa_cons (pe_bltn (v := .ty "tuple") (by rfl) B.tup boot_tuple rfl) pa_nil))))) (pw_or1 (pt_cmpR (op_notInT hu65) (pe_tup (pa_cons (pe_ix ix_tup (pv 3) pe_int (fun _ _ => rfl)) (pa_cons (pe_callB call_len_seq (by rfl) B.len boot_len (pa_cons (pv 3) pa_nil)) pa_nil)))
          (pe_tup (pa_cons (pe_tup (pa_cons pe_str (pa_cons pe_int pa_nil))) (pa_cons (pe_tup (pa_cons pe_str (pa_cons pe_int pa_nil))) (pa_cons (pe_tup (pa_cons pe_str (pa_cons pe_int pa_nil))) pa_nil)))) (by rfl))))) (pss_one (ps_ret pe_bl)) pss_nil)))
    (pss_cons (ps_set (i := 4) scRi.nd rfl (.inr rfl) (pe_callTy (call_dictP rfl) (by rfl) B.dct boot_dict (pa_cons (pe_lc (own := [("_law_mark", 6)]) (g := gName 6) (tt := tYes) rfl scRi.nd (pi_range1 (by rfl) B.rng (pa_cons pe_int pa_nil)) (blkOk_by (N := nsRi) (sc := defScope sRig) (by decide +kernel)) (fun _ _ _ _ _ => pg_name (i := 6) scRi.nd rfl (Or.inl rfl)) (fun _ _ _ _ _ => pts_nil)
          (fun _ _ _ _ _ => pe_tup (pa_cons (pv 6) (pa_cons (pv 6) pa_nil)))) pa_nil)))
    (pss_cons (ps_expr (pe_bm PySem.F.plainAttrs_dict PySem.F.slot_dict_update PySem.F.type_dict_update mt_dupd (pv 4) (pa_cons (pe_callTy (call_dictP rfl) (by rfl) B.dct boot_dict (pa_cons (pv 0) pa_nil)) pa_nil)))
    (pss_cons (ps_set (i := 5) scRi.nd rfl (.inr rfl) (pe_c cD hr (by decide) (by rfl) (pa_cons (pv 2) pa_nil)))
    (pss_one (ps_ret (pe_cmpR (op_eqD hu64) (pe_lock (pe_lc (own := [("_law_mark", 6)]) (g := gName 6) rfl scRi.nd (pi_keys (pv 4)) (blkOk_by (N := nsRi) (sc := defScope sRig) (by decide +kernel)) (fun _ _ _ _ _ => pg_name (i := 6) scRi.nd rfl (Or.inl rfl))
          (fun _ _ _ _ _ => pts_one (PW.pt (pw_and (pt_cmpR op_ne (pe_dget hu (pv 5) (pv 6) (fun _ _ => rfl)) (pe_dget hu (pv 4) (pv 6) (fun _ _ => rfl)) (nomark _)) (pw_and1 (pt_cmpR op_ne (pv 6) (pv 1) (nomark _)))))) (fun _ _ _ _ _ => pv 6))) (pe_lst pa_nil) (nomark _)))))))), ?_⟩
  have isl : TyX K H (.ref r) (.type "list") := .base (.lst hrr)
  refine ⟨_, rfl, .ref r, _, _, _, _, rfl, .ty _, isl, kit_list, _, rfl, iteF ?_⟩
  have hvl : rs.length = W.length := hrw.len
  refine ⟨_, rfl, r, rs, rfl, .inl (SqL.of hrr), _, rfl, b, bs, ws, rfl, hb, hws, nd, hz, fun q hq => (hok q hq).1, fun H1 hs' s1 hreps' => ⟨rfl, _, rfl, ?_⟩⟩
  rw [show (!decide (V.int (rs.length : Int) = V.int (((chg ws).length + hs'.length : Nat) : Int))) = false by rw [hvl, hlen, hreps.len hreps', decide_eq_true rfl]; rfl]
  refine iteF ?_
  refine ⟨_, rfl, r, rfl, ⟨_, SqL.of (s1 _ _ hrr)⟩, ?_⟩
  refine for_it (walk_list (K := K) (xs := rs)) (fun k σ H' => ∃ y3, σ = [some (.ref b), some (.int sp), some (.ref r), y3, none, none, none] ∧ Same H1 H') ⟨none, rfl, Same.refl _⟩ ?_ ?_ ?_
  · rintro i2 σ H' hi2 ⟨y8', rfl, g1⟩
    exact SqL.of (g1 _ _ (s1 _ _ hrr))
  · rintro i2 x σ H4 H4' hi2 ⟨y8', rfl, g1⟩ ⟨rfl, hx⟩
    have hrw4 : RowsAt H4' rs W := hrw.mono fun t l e => g1 _ _ (s1 _ _ e)
    obtain ⟨rw', t, hrow, rfl, ht⟩ := hrw4.get hx
    have hg := hgr rw' (List.mem_of_getElem? hrow)
    obtain ⟨f1, f2⟩ := form_ok hg
    have ist : TyX K H4' (.ref t) (.type "tuple") := .base (.tup ht)
    refine ⟨_, rfl, .ref t, _, _, _, _, rfl, .ty _, ist, kit_tuple, _, rfl, iteF ?_⟩
    have fin : ∀ {T T1 T2 T3 T4 : Addr} {xs : List V} {Hn : Hp → Prop}, DpAll K (upd (upd (upd (upd (upd H4' T (.tup xs)) T1 (.tup [.str "on", .int 2])) T2 (.tup [.str "off", .int 2])) T3 (.tup [.str "copy", .int 3])) T4 (.tup [.ref T1, .ref T2, .ref T3])) xs (items (headD rw')) → isTup (headD rw') = true → H4' T = none → (upd H4' T (.tup xs)) T1 = none → (upd (upd H4' T (.tup xs)) T1 (.tup [.str "on", .int 2])) T2 = none →
        (upd (upd (upd H4' T (.tup xs)) T1 (.tup [.str "on", .int 2])) T2 (.tup [.str "off", .int 2])) T3 = none → (upd (upd (upd (upd H4' T (.tup xs)) T1 (.tup [.str "on", .int 2])) T2 (.tup [.str "off", .int 2])) T3 (.tup [.str "copy", .int 3])) T4 = none →
        Same H4' (upd (upd (upd (upd (upd H4' T (.tup xs)) T1 (.tup [.str "on", .int 2])) T2 (.tup [.str "off", .int 2])) T3 (.tup [.str "copy", .int 3])) T4 (.tup [.ref T1, .ref T2, .ref T3])) ∧
        Dp K (upd (upd (upd (upd (upd H4' T (.tup xs)) T1 (.tup [.str "on", .int 2])) T2 (.tup [.str "off", .int 2])) T3 (.tup [.str "copy", .int 3])) T4 (.tup [.ref T1, .ref T2, .ref T3])) (.ref T) (headD rw') ∧
        Dp K (upd (upd (upd (upd (upd H4' T (.tup xs)) T1 (.tup [.str "on", .int 2])) T2 (.tup [.str "off", .int 2])) T3 (.tup [.str "copy", .int 3])) T4 (.tup [.ref T1, .ref T2, .ref T3])) (.ref T4) (.tuple formD) := fun {T T1 T2 T3 T4 xs _} dp it n0 n1 n2 n3 n4 => by
      have k0 := same_upd (o := .tup xs) n0
      have k1 := same_upd (o := .tup [.str "on", .int 2]) n1
      have k2 := same_upd (o := .tup [.str "off", .int 2]) n2
      have k3 := same_upd (o := .tup [.str "copy", .int 3]) n3
      have k4 := same_upd (o := .tup [.ref T1, .ref T2, .ref T3]) n4
      refine ⟨k0.trans (k1.trans (k2.trans (k3.trans k4))), ?_, ?_⟩
      · have e0 := (k1.trans (k2.trans (k3.trans k4))) T _ (upd_same (H := H4') (a := T))
        cases hd : headD rw' with
        | tuple ds => rw [hd] at dp; exact .tup (.inl (.inl e0)) dp
        | _ => rw [hd] at it; cases it
      · refine .tup (.inl (.inl upd_same)) (.cons (.tup (.inl (.inl ((k2.trans (k3.trans k4)) T1 _ upd_same))) (.cons (.str _) (.cons (.int _) .nil))) (.cons (.tup (.inl (.inl ((k3.trans k4) T2 _ upd_same))) (.cons (.str _) (.cons (.int _) .nil))) (.cons (.tup (.inl (.inl (k4 T3 _ upd_same))) (.cons (.str _) (.cons (.int _) .nil))) .nil)))
    cases rw' with
    | con y m =>
      have ht' : SqT K H4' t [.str y, .int m] := .inl (.inl ht)
      refine ⟨_, rfl, t, _, 0, _, rfl, rfl, ht', rfl, _, rfl, t, _, rfl, .inr ht', by show 2 ≤ sizeLine; decide, fun T nT => ⟨by show 2 ≤ sizeLine; decide, fun T1 n1 => ⟨by show 2 ≤ sizeLine; decide, fun T2 n2 => ⟨by show 2 ≤ sizeLine; decide, fun T3 n3 => ⟨by show 3 ≤ sizeLine; decide, fun T4 n4 => ?_⟩⟩⟩⟩⟩
      obtain ⟨k, d1, d2⟩ := fin (Hn := fun _ => True) (.cons (.str y) (.cons (.int 2) .nil)) rfl nT n1 n2 n3 n4
      refine ⟨_, _, d1, d2, f2, form_shaped, _, rfl, ?_⟩
      rw [f1]
      exact iteF ⟨_, rfl, g1.trans k⟩
    | cp m j =>
      have ht' : SqT K H4' t [.str "copy", .int m, .int j] := .inl (.inl ht)
      refine ⟨_, rfl, t, _, 0, _, rfl, rfl, ht', rfl, _, rfl, t, _, rfl, .inr ht', by show 2 ≤ sizeLine; decide, fun T nT => ⟨by show 2 ≤ sizeLine; decide, fun T1 n1 => ⟨by show 2 ≤ sizeLine; decide, fun T2 n2 => ⟨by show 2 ≤ sizeLine; decide, fun T3 n3 => ⟨by show 3 ≤ sizeLine; decide, fun T4 n4 => ?_⟩⟩⟩⟩⟩
      obtain ⟨k, d1, d2⟩ := fin (Hn := fun _ => True) (.cons (.str "copy") (.cons (.int 3) .nil)) rfl nT n1 n2 n3 n4
      refine ⟨_, _, d1, d2, f2, form_shaped, _, rfl, ?_⟩
      rw [f1]
      exact iteF ⟨_, rfl, g1.trans k⟩
  rintro σ H2 ⟨y3, rfl, g1⟩
  have s2 : Same H H2 := s1.trans g1
  -- what is due
  refine ⟨99, rfl, by decide, by decide, fun D nD => ?_⟩
  refine lc_range (lo := 0) (n := 99) (fun i H' => ∃ as : List Addr, H' D = some (.lst (as.map V.ref)) ∧ Paired (fun p (kv : Key × V) => H' p = some (.tup [kV kv.1, kv.2])) as (idK i) ∧ Same H2 H') ⟨[], upd_same, .nil, same_upd nD⟩ ?_ ?_
  · rintro i H3 hi ⟨as, c2, c3, c5⟩
    have hal : as.length ≤ 99 := by
      have := Paired.length c3
      rw [idK_len] at this
      omega
    refine ⟨rfl, tyes ⟨_, rfl, _, rfl, by show 2 ≤ sizeLine; decide, fun T nT => ?_⟩⟩
    have sT := same_upd (o := .tup [V.int (0 + (i : Int)), V.int (0 + (i : Int))]) nT
    refine ⟨_, sT _ _ c2, small1000 (by rw [List.length_map]; omega), as ++ [T], by rw [upd_same, List.map_append]; rfl, ?_, fun c o e => ?_⟩
    · rw [idK_succ]
      have tu := tup_upd (o := .lst (as.map V.ref ++ [.ref T])) (sT _ _ c2)
      exact Paired.snoc (paired_imp' (fun p kv z => tu p _ (sT p _ z)) c3) (tu _ _ upd_same)
    · rw [upd_ne (ne_of_none e nD)]
      exact sT _ _ (c5 _ _ e)
  rintro H3 ⟨as, c2, c3, c5⟩
  refine ⟨D, as, idK 99, rfl, SqL.of c2, paired_imp' (fun p kv z => .inl (.inl z)) c3, fun p4 np4 => ?_⟩
  rw [show mergeK [] (idK 99) = idK 99 by rw [mergeK_new (idK_nodup 99) fun p _ => rfl]; rfl]
  have s3 : Same H H3 := s2.trans c5
  have s4 := s3.trans (same_upd (o := .dK (idK 99)) np4)
  obtain ⟨H4, e4⟩ : ∃ H4, H4 = upd H3 p4 (.dK (idK 99)) := ⟨_, rfl⟩
  have h44 : H4 p4 = some (.dK (idK 99)) := by rw [e4, upd_same]
  have np : H p4 = none := by
    cases z : H p4 with
    | none => rfl
    | some o => rw [s3 _ _ z] at np4; cases np4
  rw [← e4] at s4 ⊢
  change tSeq _ _ _ [some (.ref b), some (.int sp), some (.ref r), y3, some (.ref p4), none, none] _
  have hws4 : WsAt H4 bs ws := hws.mono fun t x e => s4 _ _ e
  obtain ⟨ts, ets, pr⟩ := hws4.refs (K := K)
  have hb4 := s4 _ _ hb
  rw [ets] at hb4
  refine ⟨_, rfl, .inr (.inr (.inl ⟨rfl, .inl ⟨_, h44⟩⟩)), _, rfl, b, ts, kvS ws, rfl, SqL.of hb4, pr, fun p7 np7 => ?_⟩
  rw [show mergeK [] (kvS ws) = kvS ws by rw [mergeK_new (kvS_nodup nd) fun p _ => rfl]; rfl]
  have s7 := same_upd (o := .dK (kvS ws)) np7
  have n47 : p4 ≠ p7 := ne_of_none h44 np7
  obtain ⟨v1, v2, v3, v4⟩ := idK_at _ h44
  rw [h44] at v2
  cases v2
  obtain ⟨m1, m2, m3⟩ := merge_vd (Hh := H4) (d := p4) ws (idK 99) 99 Src.mk nd hok v3 v4.1 v4.2
  have hkl : (kvS ws).length = ws.length := by unfold kvS; rw [List.length_map]
  refine ⟨p4, p7, idK 99, kvS ws, rfl, rfl, n47, s7 _ _ h44, upd_same, Nat.le_of_lt (small1000 (by rw [idK_len, hkl]; omega)), ?_⟩
  obtain ⟨dkv, edk⟩ : ∃ dkv, dkv = mergeK (idK 99) (kvS ws) := ⟨_, rfl⟩
  rw [← edk] at m1 m2 m3 ⊢
  obtain ⟨H5, e5⟩ : ∃ H5, H5 = upd (upd H4 p7 (.dK (kvS ws))) p4 (.dK dkv) := ⟨_, rfl⟩
  have h54 : H5 p4 = some (.dK dkv) := by rw [e5, upd_same]
  have s5 : Same H H5 := fun c o e => by
    rw [e5, upd_ne (ne_of_none e np)]
    exact s7 _ _ (s4 _ _ e)
  rw [← e5]
  refine nx_q (asg_q ?_)
  refine ⟨_, rfl, r, rs, W, rfl, s5 _ _ hrr, hrw.mono fun t x e => s5 _ _ e, hWl, hgr, fun H6 d s56 nd6 vd => ?_⟩
  obtain ⟨kvs, w1, w2, w3, w4⟩ := vd
  have h64 := s56 _ _ h54
  have n4d : p4 ≠ d := ne_of_none h54 nd6
  change tRet _ _ [some (.ref b), some (.int sp), some (.ref r), y3, some (.ref p4), some (.ref d), none] _
  refine ⟨p4, .dK dkv, h64, trivial, fun od => ⟨_, rfl, p4, od, rfl, .inl ⟨dkv, upd_same, fun D2 nD2 => ?_⟩⟩⟩
  have nD24 : D2 ≠ p4 := fun e => by rw [e, upd_same] at nD2; cases nD2
  refine lc_it walk_keys (fun k H' => H' D2 = some (.lst []) ∧ Same (upd H6 p4 (.frz od (.dK dkv))) H') ⟨upd_same, same_upd nD2⟩ (fun k H' _ h => h.2 _ _ upd_same) ?_ ?_
  · rintro i3 x H7 H7' hi3 ⟨l1, l2⟩ ⟨rfl, kk, vv, hx, rfl⟩
    obtain ⟨m, em, hm⟩ := m2 _ (List.mem_of_getElem? hx)
    have em : kk = Sum.inl m := em
    subst em
    have h7d : H7' d = some (.dK kvs) := l2 _ _ (by rw [upd_ne n4d.symm]; exact w1)
    have h74 : H7' p4 = some (.frz od (.dK dkv)) := l2 _ _ upd_same
    have sc : ∀ x y : Sr, scal (vS x) (vS y) = true := fun x y => by cases x <;> cases y <;> rfl
    refine ⟨rfl, and2 (b1 := !decide (vS (runs W m) = vS ((lk ws m).getD (.mk m)))) (b2 := !decide (V.int m = V.int sp)) (fun Q q => ⟨_, rfl, _, rfl, d, _, rfl, .inl ⟨kvs, Sum.inl m, .inl h7d, rfl, (w4 m hm).symm⟩, _, rfl, _, rfl, p4, _, rfl, .inl ⟨dkv, Sum.inl m, .inr ⟨od, h74⟩, rfl, (m3 m hm).symm⟩, sc _ _, _, rfl, q⟩) (fun _ Q q => ⟨_, rfl, _, rfl, rfl, _, rfl, q⟩) ?_⟩
    have e0 : (!decide (vS (runs W m) = vS ((lk ws m).getD (.mk m))) && !decide (V.int m = V.int sp)) = false := by
      by_cases e : m = sp
      · rw [decide_eq_true (p := V.int m = V.int sp) (by rw [e]), Bool.not_true, Bool.and_false]
      · rw [hdue m e, decide_eq_true (p := vS _ = vS _) rfl]; rfl
    rw [e0]
    exact iteF ⟨l1, l2⟩
  · rintro H7 ⟨l1, l2⟩
    have hfz := l2 _ _ (upd_same (H := H6) (a := p4))
    refine ⟨hfz, Nat.zero_le _, fun q1' nq => ?_⟩
    have sq := same_upd (o := .lst []) nq
    refine ⟨.list [], .list [], .lst (.inl (.inl (sq _ _ (by rw [upd_ne nD24]; exact l1)))) .nil, .lst (.inl (.inl upd_same)) .nil, by decide, by decide, q _ fun c o e => ?_⟩
    have c4 := ne_of_none e np
    exact sq _ _ (by rw [upd_ne c4]; exact l2 _ _ (by rw [upd_ne c4]; exact s56 _ _ (s5 _ _ e)))
end
end Lm

/-! _law_writes -/
namespace Lm
open PySem PySem.Spec PyProof.Rows L2 LmS
open C8 (fnScope_by pe_gc pss_cut tCut Cal pe_c)
abbrev sWri : Stmt := top 22
theorem But.refl (a : Addr) (H : Hp) : But a H H := fun _ _ _ e => e
theorem But.trans {a : Addr} {H1 H2 H3 : Hp} (h : But a H1 H2) (k : But a H2 H3) : But a H1 H3 := fun c o n e => k c o n (h c o n e)
theorem But.same {a : Addr} {H1 H2 : Hp} (h : Same H1 H2) : But a H1 H2 := fun c o _ e => h c o e
theorem SrcAt.off {H : Hp} {a l : Addr} (h : SrcAt H a) (n : H l = none) : l ≠ a := fun e => by obtain ⟨_, _, _, z⟩ := h; rw [e, z] at n; cases n
theorem SrcAt.tup {H : Hp} {a t : Addr} {x : List V} (h : SrcAt H a) (e : H t = some (.tup x)) : t ≠ a := fun z => by obtain ⟨_, _, _, e'⟩ := h; rw [z, e'] at e; cases e
def In14 (m : Int) : Prop := 0 ≤ m ∧ m < 14
def ok14 (s : Sr) : Prop := s = .con "on" ∨ s = .con "off" ∨ ∃ j, s = .mk j ∧ In14 j
theorem WsAt.snoc {H : Hp} {vs : List V} {ws : List (Int × Sr)} {T : Addr} {q : Int × Sr} (e : H T = some (.tup [.int q.1, vS q.2])) (h : WsAt H vs ws) : WsAt H (vs ++ [.ref T]) (ws ++ [q]) := WsAt.append (us := [.ref T]) (xs := [q]) ⟨⟨T, rfl, e⟩, trivial⟩ h
theorem prev_at {ms : List Int} {i : Nat} (h : i < ms.length) : ∃ m', m' ∈ ms ∧ atI (ms.map V.int) ((i : Nat) - 1 : Int) = some (.int m') := by
  by_cases e : i = 0
  · subst e
    obtain ⟨xs, y, rfl⟩ : ∃ xs y, ms = xs ++ [y] := by
      refine ⟨ms.dropLast, ms.getLast (fun e => by rw [e] at h; exact absurd h (by decide)), (List.dropLast_concat_getLast _).symm⟩
    exact ⟨y, List.mem_append_right _ (List.mem_singleton.mpr rfl), by rw [List.map_append]; exact atI_last _ _⟩
  · have hl : i - 1 < ms.length := by omega
    refine ⟨ms[i - 1], List.getElem_mem hl, ?_⟩
    rw [show ((i : Nat) - 1 : Int) = ((i - 1 : Nat) : Int) by omega]
    exact atI_nat (by rw [List.getElem?_map, List.getElem?_eq_getElem hl]; rfl)
theorem four_at {y : Str} {a b c r : Int} (ha : In14 a) (hb : In14 b) (hc : In14 c) (hy : y = "on" ∨ y = "off") (r0 : 0 ≤ r) (r1 : r < 4) : ∃ s, atI [V.int a, V.int b, V.int c, V.str y] r = some (vS s) ∧ ok14 s := by
  have k : ∀ (j : Nat) (v : V), ([V.int a, V.int b, V.int c, V.str y] : List V)[j]? = some v → r = (j : Int) → atI [V.int a, V.int b, V.int c, V.str y] r = some v := fun j v h e => by rw [e]; exact atI_nat h
  have : r = 0 ∨ r = 1 ∨ r = 2 ∨ r = 3 := by omega
  rcases this with e | e | e | e
  · exact ⟨.mk a, k 0 _ rfl e, .inr (.inr ⟨a, rfl, ha⟩)⟩
  · exact ⟨.mk b, k 1 _ rfl e, .inr (.inr ⟨b, rfl, hb⟩)⟩
  · exact ⟨.mk c, k 2 _ rfl e, .inr (.inr ⟨c, rfl, hc⟩)⟩
  · refine ⟨.con y, k 3 _ rfl e, ?_⟩
    rcases hy with rfl | rfl
    · exact .inl rfl
    · exact .inr (.inl rfl)
section
variable {P : Program} {w : World} {K : PySem.W.Frag} {mg : Str → Option Value} {base : Heap}
def spWi : Sp := fun vs H Q _ => ∃ a : Addr, vs = [.ref a] ∧ SrcAt H a ∧
  ∀ (H' : Hp) (pw : Addr) (vs' : List V) (ws : List (Int × Sr)), But a H H' → SrcAt H' a → H pw = none → H' pw = some (.lst vs') → WsAt H' vs' ws → (ws.map (·.1)).Nodup → ws.length ≤ 14 → (∀ q ∈ ws, In14 q.1 ∧ ok14 q.2) → Q (.ref pw) H'
abbrev nsWi : List Str := ["_law_source", "_law_marks", "_law_way", "_law_found", "_law_at", "_law_mark", "_law_others"]
theorem scWi : FnScope nsWi ["_law_source"] (defScope sWri) := fnScope_by (by decide +kernel)
theorem kWi {f : Addr} {fd : FuncData} (F : Fun K "_law_writes" "_law_writes" sWri f fd) (B : Bn mg) (cN : Cal P w K mg base 1 "_law_next" spNext []) (cO : Cal P w K mg base 2 "_law_one" (spOne K) []) (cM : Cal P w K mg base 2 "_law_mixed" (spMix K) []) : FnOk P w K mg base CX0 3 f fd ["_law_source"] spWi := by
  refine F.ok (k := 2) scWi (fun vs H Q E h => ?_) (fun cdv A outer s H vs Q E hr h => ?_)
  · obtain ⟨a, rfl, _⟩ := h
    rfl
  obtain ⟨a, rfl, hs, q⟩ := h
  have hu := hu_of hr
  refine ⟨_, pss_cons (ps_set (i := 1) scWi.nd rfl (.inl rfl) (pe_slice sl_list (pe_c cM hr (by decide) (by rfl) (pa_cons (pv 0) (pa_cons (pe_listRg rfl (by rfl) B.lst (prg_1 (by rfl) B.rng pe_int)) pa_nil))) po_none (po_some (pe_c cN hr (by decide) (by rfl) (pa_cons (pv 0) (pa_cons pe_int pa_nil))))))
    (pss_cons (ps_set (i := 2) scWi.nd rfl (.inl rfl) (pe_c cN hr (by decide) (by rfl) (pa_cons (pv 0) (pa_cons pe_int pa_nil))))
    (pss_cons (ps_set (i := 3) scWi.nd rfl (.inl rfl) (pe_lst pa_nil))
    (pss_cons (ps_for PassesOwn.never rfl (pi_enum (by rfl) B.enu (pa_cons (pv 1) pa_nil)) (pg_tupk K rfl (n := 2) rfl (pgs_cons (pg_name (i := 4) scWi.nd rfl (Or.inl rfl)) (pgs_cons (pg_name (i := 5) scWi.nd rfl (Or.inl rfl)) pgs_nil)))
      (pss_cons (ps_set (i := 6) scWi.nd rfl (.inl rfl) (pe_lst (pa_cons (pe_c cN hr (by decide) (by rfl) (pa_cons (pv 0) (pa_cons pe_int pa_nil))) (pa_cons (pe_ix ix_list (pv 1) (pe_op op_sub (pv 4) pe_int) (fun _ _ => rfl)) (pa_cons (pe_ix ix_list (pv 1) (pe_c cN hr (by decide) (by rfl) (pa_cons (pv 0) (pa_cons (pe_callB call_len_seq (by rfl) B.len boot_len (pa_cons (pv 1) pa_nil)) pa_nil))) (fun _ _ => rfl)) pa_nil)))))
      (pss_cons (ps_expr (pe_bm PySem.F.plainAttrs_list PySem.F.slot_list_append PySem.F.type_list_append mt_append (pv 6) (pa_cons (pe_c cO hr (by decide) (by rfl) (pa_cons (pv 0) (pa_cons (pe_lst (pa_cons pe_str (pa_cons pe_str pa_nil))) pa_nil))) pa_nil)))
      (pss_one (ps_expr (pe_bm PySem.F.plainAttrs_list PySem.F.slot_list_append PySem.F.type_list_append mt_append (pv 3) (pa_cons (pe_tup (pa_cons (pv 5) (pa_cons (pe_ix ix_list (pv 6) (pe_c cO hr (by decide) (by rfl) (pa_cons (pv 0) (pa_cons (pe_lst (pa_cons (pv 2) (pa_cons (pe_c cN hr (by decide) (by rfl) (pa_cons (pv 0) (pa_cons pe_int pa_nil))) pa_nil))) pa_nil))) (fun _ _ => rfl)) pa_nil))) pa_nil)))))))
    (pss_one (ps_ret (pv 3)))))), ?_⟩
  have itI : ∀ (H' : Hp) (l : List Int), ItemsOk K a H' (l.map V.int) := fun H' l x hx H'' _ => by
    obtain ⟨m, _, rfl⟩ := List.mem_map.mp hx
    exact ⟨.int m, .int m, rfl, by show _ ≤ 60; simp [PyData.depth]⟩
  refine ⟨_, rfl, 14, rfl, RgOk.of_le (by decide) (by decide) (by decide) (by decide), fun pr npr => ?_⟩
  have npr1 := (hs.off npr).symm
  rw [show rgV 0 14 = (rgI 14).map V.int from rgV_eq 14]
  refine ⟨a, pr, (rgI 14).map V.int, rfl, src_off hs npr1, .inl (SqL.of upd_same), by rw [List.length_map, rgI_len]; decide, itI _ _, fun H6 pm ys pmt bt6 hs6 npm hpm => ?_⟩
  obtain ⟨zs, rfl, pz⟩ := perm_ints pmt
  refine ⟨_, rfl, a, 13, rfl, hs6, by decide, by decide, fun r x y z r0 r1 => ⟨r, rfl, pm, zs.map V.int, rfl, ?_, fun pk npk => ?_⟩⟩
  · have pmp : pm ≠ a := fun e => by rw [e, upd_ne npr1] at npm; obtain ⟨_, _, _, z⟩ := hs; rw [z] at npm; cases npm
    exact SqL.of (by rw [upd_ne pmp]; exact hpm)
  have pka : pk ≠ a := fun e => by rw [e, upd_same] at npk; cases npk
  obtain ⟨ms, ems⟩ : ∃ ms, ms = zs.take r.toNat := ⟨_, rfl⟩
  have ecut : cutV (zs.map V.int) none (some r) = ms.map V.int := by
    rw [show r = ((r.toNat : Nat) : Int) by omega, cut_pre, ems, List.map_take]
    all_goals rfl
  rw [ecut]
  have hmsnd : ms.Nodup := by rw [ems]; exact List.Sublist.nodup (List.take_sublist ..) (pz.nodup_iff.mpr (rgI_nodup 14))
  have hmsin : ∀ m ∈ ms, In14 m := fun m hm => by
    rw [ems] at hm
    exact rgI_in (pz.mem_iff.mp (List.mem_of_mem_take hm))
  have hzl : zs.length = 14 := by rw [pz.length_eq, rgI_len]
  have hmsl : ms.length ≤ 13 := by rw [ems, List.length_take]; omega
  obtain ⟨H7, e7⟩ : ∃ H7, H7 = upd (upd H6 a (.lst [.int x, .int y, .int z])) pk (.lst (ms.map V.int)) := ⟨_, rfl⟩
  have npk6 : H6 pk = none := by rw [upd_ne pka] at npk; exact npk
  have bt7 : But a H H7 := fun c o n e => by
    have e6 := bt6 c o n (by rw [upd_ne (ne_of_none e npr)]; exact e)
    rw [e7, upd_ne (ne_of_none e6 npk6), upd_ne n]
    exact e6
  have hs7 : SrcAt H7 a := ⟨x, y, z, by rw [e7, upd_ne pka.symm, upd_same]⟩
  have hk7 : H7 pk = some (.lst (ms.map V.int)) := by rw [e7, upd_same]
  change tSeq _ _ _ [some (.ref a), some (.ref pk), none, none, none, none, none] _
  rw [← e7]
  refine ⟨_, rfl, a, 4, rfl, hs7, by decide, by decide, fun wy x1 y1 z1 w0 w1 => ?_⟩
  obtain ⟨H8, e8⟩ : ∃ H8, H8 = upd H7 a (.lst [.int x1, .int y1, .int z1]) := ⟨_, rfl⟩
  have bt8 : But a H7 H8 := by rw [e8]; exact But.upd _ _ _
  have hs8 : SrcAt H8 a := ⟨x1, y1, z1, by rw [e8, upd_same]⟩
  change tSeq _ _ _ [some (.ref a), some (.ref pk), some (.int wy), none, none, none, none] _
  rw [← e8]
  refine ⟨Nat.zero_le _, fun F nF => ?_⟩
  have hFa := hs8.off nF
  have nFH : H F = none := by
    cases e : H F with
    | none => rfl
    | some o => rw [bt8 _ _ hFa (bt7 _ _ hFa e)] at nF; cases nF
  have sF := same_upd (o := .lst []) nF
  obtain ⟨H9, e9⟩ : ∃ H9, H9 = upd H8 F (.lst []) := ⟨_, rfl⟩
  have hs9 : SrcAt H9 a := by rw [e9]; exact src_off hs8 hFa.symm
  have hF9 : H9 F = some (.lst []) := by rw [e9, upd_same]
  rw [← e9] at sF ⊢
  have bt9 : But a H H9 := bt7.trans (bt8.trans (But.same sF))
  have hk9 : H9 pk = some (.lst (ms.map V.int)) := sF _ _ (bt8 _ _ pka hk7)
  have nFk : F ≠ pk := (ne_of_none (bt8 _ _ pka hk7) nF).symm
  change tSeq _ _ _ [some (.ref a), some (.ref pk), some (.int wy), some (.ref F), none, none, none] _
  refine ⟨_, rfl, pk, _, rfl, SqL.of hk9, ?_⟩
  refine for_it (walk_enum (K := K) (xs := ms.map V.int)) (fun i σ H' => ∃ (y4 y5 y6 : Option V) (vs' : List V) (ws : List (Int × Sr)), σ = [some (.ref a), some (.ref pk), some (.int wy), some (.ref F), y4, y5, y6] ∧ SrcAt H' a ∧ H' F = some (.lst vs') ∧ WsAt H' vs' ws ∧ ws.map (·.1) = ms.take i ∧ (∀ q ∈ ws, ok14 q.2) ∧ H' pk = some (.lst (ms.map V.int)) ∧ But a H H') ⟨none, none, none, [], [], rfl, hs9, hF9, trivial, rfl, (fun q hq => nomatch hq), hk9, bt9⟩ ?_ ?_ ?_
  · rintro i σ H' hi ⟨y4, y5, y6, vs', ws, rfl, g1, g2, g3, g4, g5, g6, g7⟩
    exact SqL.of g6
  · rintro i x σ H' Ha hi ⟨y4, y5, y6, vs', ws, rfl, g1, g2, g3, g4, g5, g6, g7⟩ ⟨T, ti, te, rfl, nT, eHa, ht, hx⟩
    cases ht
    have hx : (ms.map V.int)[i]? = some te := hx
    rw [List.getElem?_map] at hx
    obtain ⟨m, hm, rfl⟩ : ∃ m, ms[i]? = some m ∧ te = .int m := by
      cases e : ms[i]? with
      | none => rw [e] at hx; cases hx
      | some m => rw [e] at hx; cases hx; exact ⟨m, rfl, rfl⟩
    have hTa : Ha T = some (.tup [.int (i : Nat), .int m]) := by rw [eHa, upd_same]
    have sA : Same H' Ha := by rw [eHa]; exact same_upd nT
    refine ⟨T, _, rfl, .inl (.inl hTa), rfl, _, _, rfl, _, _, rfl, rfl, ?_⟩
    change tSeq _ _ _ [some (.ref a), some (.ref pk), some (.int wy), some (.ref F), some (.int (i : Nat)), some (.int m), y6] _
    have hil : i < ms.length := by rw [List.length_map] at hi; exact hi
    have gA : SrcAt Ha a := by obtain ⟨u1, u2, u3, e⟩ := g1; exact ⟨u1, u2, u3, sA _ _ e⟩
    have kA : Ha pk = some (.lst (ms.map V.int)) := sA _ _ g6
    have fA : Ha F = some (.lst vs') := sA _ _ g2
    -- the others
    refine ⟨_, rfl, a, 14, rfl, gA, by decide, by decide, fun r2 x2 y2 z2 p0 p1 => ?_⟩
    obtain ⟨mp, hmp, amp⟩ := prev_at hil
    obtain ⟨Hb, eb⟩ : ∃ Hb, Hb = upd Ha a (.lst [.int x2, .int y2, .int z2]) := ⟨_, rfl⟩
    have bB : But a Ha Hb := by rw [eb]; exact But.upd _ _ _
    have gB : SrcAt Hb a := ⟨x2, y2, z2, by rw [eb, upd_same]⟩
    rw [← eb]
    refine ⟨_, rfl, _, rfl, _, _, rfl, rfl, pk, _, _, _, rfl, rfl, SqL.of (bB _ _ pka kA), amp, ?_⟩
    have hmpos : 0 < ms.length := by omega
    refine ⟨_, rfl, _, rfl, _, rfl, pk, _, rfl, .inl (SqL.of (bB _ _ pka kA)), a, _, rfl, gB, by rw [List.length_map]; omega, by rw [List.length_map]; omega, fun r3 x3 y3 z3 q0 q1 => ?_⟩
    rw [List.length_map] at q1
    obtain ⟨m3, hm3⟩ : ∃ m3, ms[r3.toNat]? = some m3 := ⟨ms[r3.toNat]'(by omega), List.getElem?_eq_getElem _⟩
    obtain ⟨Hc, ec⟩ : ∃ Hc, Hc = upd Hb a (.lst [.int x3, .int y3, .int z3]) := ⟨_, rfl⟩
    have bC : But a Hb Hc := by rw [ec]; exact But.upd _ _ _
    have gC : SrcAt Hc a := ⟨x3, y3, z3, by rw [ec, upd_same]⟩
    have kC := bC _ _ pka (bB _ _ pka kA)
    rw [← ec]
    refine ⟨pk, _, r3, .int m3, rfl, rfl, SqL.of kC, ?_, by show 3 ≤ sizeLine; decide, fun O nO => ?_⟩
    · exact at_of (show r3 = ((r3.toNat : Nat) : Int) by omega) (by rw [List.getElem?_map, hm3]; rfl)
    have hOa := gC.off nO
    obtain ⟨Hd, ed⟩ : ∃ Hd, Hd = upd Hc O (.lst [.int r2, .int mp, .int m3]) := ⟨_, rfl⟩
    have sD := same_upd (o := .lst [.int r2, .int mp, .int m3]) nO
    rw [← ed] at sD
    have gD : SrcAt Hd a := by rw [ed]; exact src_off gC hOa.symm
    have oD : Hd O = some (.lst [.int r2, .int mp, .int m3]) := by rw [ed, upd_same]
    have bD : But a Ha Hd := bB.trans (bC.trans (But.same sD))
    have nOA : Ha O = none := by
      cases e : Ha O with
      | none => rfl
      | some o => rw [bC _ _ hOa (bB _ _ hOa e)] at nO; cases nO
    change tSeq _ _ _ [some (.ref a), some (.ref pk), some (.int wy), some (.ref F), some (.int (i : Nat)), some (.int m), some (.ref O)] _
    rw [← ed]
    refine ⟨_, rfl, .inl ⟨rfl, _, SqL.of oD⟩, _, rfl, by show 2 ≤ sizeLine; decide, fun L nL => ?_⟩
    have hLa := gD.off nL
    refine ⟨a, L, [.str "on", .str "off"], rfl, src_off gD hLa.symm, SqL.of upd_same, hLa, (fun z => nomatch z), by show 2 < 1073741824; decide, fun r4 v4 x4 y4' z4 hv4 => ?_⟩
    obtain ⟨y, rfl, hy⟩ : ∃ y : Str, v4 = .str y ∧ (y = "on" ∨ y = "off") := by
      match r4, hv4 with
      | 0, h => exact ⟨"on", (Option.some.inj h).symm, .inl rfl⟩
      | 1, h => exact ⟨"off", (Option.some.inj h).symm, .inr rfl⟩
      | _ + 2, h => exact nomatch h
    obtain ⟨Hf, ef⟩ : ∃ Hf, Hf = upd (upd Hd L (.lst [.str "on", .str "off"])) a (.lst [.int x4, .int y4', .int z4]) := ⟨_, rfl⟩
    have bF : But a Hd Hf := by rw [ef]; exact (But.same (same_upd nL)).trans (But.upd _ _ _)
    have gF : SrcAt Hf a := ⟨x4, y4', z4, by rw [ef, upd_same]⟩
    rw [← ef]
    refine ⟨O, _, .str y, rfl, rfl, bF _ _ hOa oD, small1000 (by show 3 ≤ 1000; decide), ?_⟩
    obtain ⟨Hg, eg⟩ : ∃ Hg, Hg = upd Hf O (.lst [.int r2, .int mp, .int m3, .str y]) := ⟨_, rfl⟩
    have bG : But a Ha Hg := fun c o n e => by rw [eg, upd_ne (ne_of_none e nOA)]; exact bF _ _ n (bD _ _ n e)
    have gG : SrcAt Hg a := by rw [eg]; exact src_off gF hOa.symm
    have oG : Hg O = some (.lst [.int r2, .int mp, .int m3, .str y]) := by rw [eg, upd_same]
    show Ends.nx _ [some (.ref a), some (.ref pk), some (.int wy), some (.ref F), some (.int (i : Nat)), some (.int m), some (.ref O)] (upd Hf O (.lst [.int r2, .int mp, .int m3, .str y]))
    rw [← eg]
    refine ⟨_, rfl, .inl ⟨rfl, _, SqL.of (bG _ _ hFa fA)⟩, _, rfl, _, rfl, _, rfl, _, rfl, _, rfl, a, 4, rfl, gG, by decide, by decide, fun r5 x5 y5' z5 t0 t1 => ?_⟩
    obtain ⟨Hh, eh⟩ : ∃ Hh, Hh = upd Hg a (.lst [.int x5, .int y5', .int z5]) := ⟨_, rfl⟩
    have bH : But a Hg Hh := by rw [eh]; exact But.upd _ _ _
    have gH : SrcAt Hh a := ⟨x5, y5', z5, by rw [eh, upd_same]⟩
    rw [← eh]
    refine ⟨by show 2 ≤ sizeLine; decide, fun L2 nL2 => ?_⟩
    have hL2a := gH.off nL2
    refine ⟨a, L2, [.int wy, .int r5], rfl, src_off gH hL2a.symm, SqL.of upd_same, hL2a, (fun z => nomatch z), by show 2 < 1073741824; decide, fun r6 v6 x6 y6' z6 hv6 => ?_⟩
    obtain ⟨j6, rfl, j60, j61⟩ : ∃ j : Int, v6 = .int j ∧ 0 ≤ j ∧ j < 4 := by
      match r6, hv6 with
      | 0, h => exact ⟨wy, (Option.some.inj h).symm, w0, w1⟩
      | 1, h => exact ⟨r5, (Option.some.inj h).symm, t0, t1⟩
      | _ + 2, h => exact nomatch h
    obtain ⟨Hi, ei⟩ : ∃ Hi, Hi = upd (upd Hh L2 (.lst [.int wy, .int r5])) a (.lst [.int x6, .int y6', .int z6]) := ⟨_, rfl⟩
    have bI : But a Hg Hi := by rw [ei]; exact bH.trans ((But.same (same_upd nL2)).trans (But.upd _ _ _))
    have gI : SrcAt Hi a := ⟨x6, y6', z6, by rw [ei, upd_same]⟩
    rw [← ei]
    have mem14 : ∀ {z}, z ∈ ms → In14 z := fun h => hmsin _ h
    obtain ⟨sv, hsv, oksv⟩ := four_at (y := y) (a := r2) (b := mp) (c := m3) (r := j6) ⟨p0, p1⟩ (mem14 hmp) (mem14 (List.mem_of_getElem? hm3)) hy j60 j61
    refine ⟨O, _, j6, vS sv, rfl, rfl, SqL.of (bI _ _ hOa oG), hsv, by show 2 ≤ sizeLine; decide, fun T2 nT2 => ?_⟩
    obtain ⟨Hk, ek⟩ : ∃ Hk, Hk = upd Hi T2 (.tup [.int m, vS sv]) := ⟨_, rfl⟩
    have sK := same_upd (o := .tup [.int m, vS sv]) nT2
    rw [← ek] at sK ⊢
    have bK : But a Ha Hk := bG.trans (bI.trans (But.same sK))
    have gK : SrcAt Hk a := by obtain ⟨u1, u2, u3, e⟩ := gI; exact ⟨u1, u2, u3, sK _ _ e⟩
    have hTk : Hk T2 = some (.tup [.int m, vS sv]) := by rw [ek, upd_same]
    have fK := bK _ _ hFa fA
    have hwl : ws.length ≤ 13 := by
      have := congrArg List.length g4
      rw [List.length_map, List.length_take] at this
      omega
    have hvl := g3.len
    refine ⟨F, _, _, rfl, rfl, fK, small1000 (by omega), ?_⟩
    have tu := tup_upd (o := .lst (vs' ++ [.ref T2])) fK
    refine ⟨_, _, _, vs' ++ [.ref T2], ws ++ [(m, sv)], rfl, src_off gK hFa.symm, upd_same, WsAt.snoc (q := (m, sv)) (tu _ _ hTk) (g3.mono fun u x e => tu _ _ (bK _ _ (g1.tup e) (sA _ _ e))), ?_, fun p hp => ?_, ?_, ?_⟩
    · rw [List.map_append, g4, List.take_add_one, hm]
      rfl
    · rcases List.mem_append.mp hp with h | h
      · exact g5 p h
      · rw [List.mem_singleton.mp h]; exact oksv
    · rw [upd_ne nFk.symm]
      exact bK _ _ pka kA
    · intro c o n e
      rw [upd_ne (ne_of_none e nFH)]
      exact bK _ _ n (sA _ _ (g7 _ _ n e))
  · rintro σ H' ⟨y4, y5, y6, vs', ws, rfl, g1, g2, g3, g4, g5, g6, g7⟩
    rw [List.length_map, List.take_length] at g4
    refine ⟨_, rfl, q H' F vs' ws g7 g1 nFH g2 g3 (by rw [g4]; exact hmsnd) ?_ fun p hp => ⟨hmsin p.1 (by rw [← g4]; exact List.mem_map_of_mem (f := (·.1)) hp), g5 p hp⟩⟩
    have := congrArg List.length g4
    rw [List.length_map] at this
    omega
end
end Lm

/-! list + list, the first one any list -/
namespace Lm
open PySem PySem.Spec PyProof.Rows L2
section
variable {X : Cx}
def rCatL (K : PySem.W.Frag) : R2 := fun x y H Q => ∃ l b xs zs, x = .ref l ∧ y = .ref b ∧ SqL K H l xs ∧ SqL K H b zs ∧ xs.length + zs.length ≤ sizeLine ∧ ∀ p, H p = none → Q (.ref p) (upd H p (.lst (xs ++ zs)))
theorem op_catL (K : PySem.W.Frag) (hK : X.K = K) : OpR X (binaryOp .Add) (rCatL K) := by
  subst hK
  intro pins s σ H x y v u Q I rx ry h
  obtain ⟨l, b, xs, zs, rfl, rfl, hH, hB, hz, q⟩ := h
  cases rx
  cases ry
  obtain ⟨its, r, ⟨⟨cls, dd, data, sl⟩, n, e, hc, hd, hs⟩, hl⟩ := I.list hH
  obtain ⟨its2, r2, ⟨⟨cls2, dd2, data2, sl2⟩, n2, e2, hc2, hd2, hs2⟩, hl2⟩ := I.list hB
  simp only at hc hd hs hc2 hd2 hs2
  subst hc hd hs hc2 hd2 hs2
  have hlen := r.length
  have hlen2 := r2.length
  have ea : its.toArray ++ its2.toArray = (its ++ its2).toArray := by simp
  refine concat_meets ⟨_, e, rfl⟩ ⟨_, e2, rfl⟩ noFill_list_add seq_list_add PySem.F.slot_list_add PySem.F.entry_list_add (PySem.F.args_list_add_2 _ _) (list_addW l b its.toArray its2.toArray n n2 none none sl sl2 (by rw [List.size_toArray, List.size_toArray]; omega)) ⟨e, e2, ?_⟩
  rw [ea]
  exact ⟨.ref _, _, I.lnew (t' := s.toks) (r.append r2) (by rw [List.length_append]; omega), rfl, q _ I.fresh⟩
end
end Lm

/-! law: what its steps need -/
namespace Lm
open PySem PySem.Spec PyProof.Rows L2 LmS
theorem nice_14 {m : Int} {t : Sr} (hm : In14 m) (ht : ok14 t) : Nice (wD (m, t)) := by
  have k1 : ∀ m : Fin 14, niceB (.tuple [.int (m.val : Int), .str "on"]) = true := by decide +kernel
  have k2 : ∀ m : Fin 14, niceB (.tuple [.int (m.val : Int), .str "off"]) = true := by decide +kernel
  have k3 : ∀ m j : Fin 14, niceB (.tuple [.int (m.val : Int), .int (j.val : Int)]) = true := by decide +kernel
  have em : ∀ {z : Int}, In14 z → ∃ f : Fin 14, z = (f.val : Int) := fun {z} h => ⟨⟨z.toNat, by have := h.1; have := h.2; omega⟩, by have := h.1; show z = (z.toNat : Int); omega⟩
  obtain ⟨fm, rfl⟩ := em hm
  rcases ht with rfl | rfl | ⟨j, rfl, hj⟩
  · exact nice_of (k1 _)
  · exact nice_of (k2 _)
  · obtain ⟨fj, rfl⟩ := em hj
    exact nice_of (k3 _ _)
/-- the marks and what they get -/
def usd (ws : List (Int × Sr)) : List Sr := ws.map (fun q => Src.mk q.1) ++ ws.map (·.2)
def mks : List Sr → List Int
  | [] => []
  | .mk j :: r => j :: mks r
  | .con _ :: r => mks r
theorem mks_in {j : Int} : ∀ {ss : List Sr}, (Src.mk j : Sr) ∈ ss → j ∈ mks ss
  | .mk i :: r, h => by
    rcases List.mem_cons.mp h with h | h
    · cases h; exact List.mem_cons_self ..
    · exact List.mem_cons_of_mem _ (mks_in h)
  | .con _ :: r, h => by
    rcases List.mem_cons.mp h with h | h
    · cases h
    · exact mks_in (ss := r) h
theorem mks_len : ∀ ss : List Sr, (mks ss).length ≤ ss.length
  | [] => Nat.le_refl _
  | .mk _ :: r => Nat.succ_le_succ (mks_len r)
  | .con _ :: r => Nat.le_succ_of_le (mks_len r)
theorem in_srs (m : Int) : ∀ ss : List Sr, inV (.int m) (ss.map vS) = (mks ss).contains m
  | [] => rfl
  | .mk j :: r => by
    have ih := in_srs m r
    have h1 := in_ints m [j]
    show (eqV (.int j) (.int m) || inV (.int m) (r.map vS)) = _
    have e : eqV (.int j) (.int m) = [j].contains m := by
      rw [← h1]
      show _ = (eqV (.int j) (.int m) || false)
      rw [Bool.or_false]
    rw [ih, e]
    show _ = (j :: mks r).contains m
    simp [List.contains_cons]
  | .con x :: r => by
    have ih := in_srs m r
    show (eqV (.str x) (.int m) || inV (.int m) (r.map vS)) = _
    rw [ih, show eqV (.str x) (.int m) = false from rfl, Bool.false_or]
    rfl
theorem flat_srs (ss : List Sr) : (ss.map vS).all flatV = true := by
  rw [List.all_map, List.all_eq_true]
  exact fun s _ => flat_sr s
/-- the data of a row -/
def rD : Rw → PyData
  | .con x m => .tuple [.str x, .int m]
  | .cp m j => .tuple [.str "copy", .int m, .int j]
theorem lay_on : PyData.canLay0 (.str "on") = true ∧ PyData.canLay0 (.str "off") = true ∧ PyData.canLay0 (.str "copy") = true := ⟨by decide +kernel, by decide +kernel, by decide +kernel⟩
theorem rows_lay {G : Int → Prop} : ∀ {W : List Rw}, (∀ r ∈ W, Gr G r) → PyData.canLayAll0 (W.map rD) = true ∧ PyData.depthAll (W.map rD) ≤ 2
  | [], _ => ⟨rfl, by decide⟩
  | r :: W, h => by
    obtain ⟨a, b⟩ := rows_lay fun x hx => h x (List.mem_cons_of_mem _ hx)
    have g := h r (List.mem_cons_self ..)
    have k : PyData.canLay0 (rD r) = true ∧ PyData.depth (rD r) ≤ 2 := by
      cases r with
      | con x m =>
        refine ⟨?_, by simp [rD, PyData.depth, PyData.depthAll]⟩
        rcases g.1 with rfl | rfl
        · show (PyData.canLay0 (.str "on") && _) = true
          rw [lay_on.1]; rfl
        · show (PyData.canLay0 (.str "off") && _) = true
          rw [lay_on.2.1]; rfl
      | cp m j =>
        refine ⟨?_, by simp [rD, PyData.depth, PyData.depthAll]⟩
        show (PyData.canLay0 (.str "copy") && _) = true
        rw [lay_on.2.2]; rfl
    refine ⟨?_, ?_⟩
    · show (PyData.canLay0 (rD r) && PyData.canLayAll0 (W.map rD)) = true
      rw [k.1, a]; rfl
    · show max (PyData.depth (rD r)) (PyData.depthAll (W.map rD)) ≤ 2
      omega
theorem rows_shaped {G : Int → Prop} {W : List Rw} (h : ∀ r ∈ W, Gr G r) : SeqAt.shaped (.list (W.map rD)) = true := by
  obtain ⟨a, b⟩ := rows_lay h
  show (PyData.canLayAll0 (W.map rD) && decide (PyData.depthAll (W.map rD) + 1 ≤ 64)) = true
  rw [a, decide_eq_true (by omega)]; rfl
theorem rows_eq (W : List Rw) : PyData.eqv (.list (W.map rD)) (.list []) = decide (W = []) := by cases W <;> rfl
theorem rows_dp {K : PySem.W.Frag} {H : Hp} : ∀ {vs : List V} {W : List Rw}, RowsAt H vs W → DpAll K H vs (W.map rD)
  | [], [], _ => .nil
  | v :: vs, r :: W, h => by
    obtain ⟨⟨t, rfl, e⟩, h2⟩ := h
    refine .cons ?_ (rows_dp h2)
    cases r with
    | con x m => exact .tup (.inl (.inl e)) (.cons (.str x) (.cons (.int m) .nil))
    | cp m j => exact .tup (.inl (.inl e)) (.cons (.str _) (.cons (.int m) (.cons (.int j) .nil)))
  | [], _ :: _, h => h.elim
  | _ :: _, [], h => h.elim
end Lm

/-! law -/
namespace Lm
open PySem PySem.Spec PyProof.Rows L2 LmS
open C8 (fnScope_by pe_gc pss_cut tCut Cal pe_c)
abbrev sLaw : Stmt := top 27
theorem nil_go {σ : L2.St} {H : Hp} {Q : List V → Hp → Prop} (h : Q [] H) : tNil σ H Q := by
  first | exact h | exact ⟨rfl, h⟩
theorem passX0 {P : Program} {w : World} {X : Cx} : Passes (L2.CX P w) X (fun _ _ _ => False) := fun _ _ _ _ _ _ _ ⟨_, _, _, _, _, _, _, _, _, _, _, _, h⟩ => h.elim
section
variable {P : Program} {w : World} {K : PySem.W.Frag} {mg : Str → Option Value} {base : Heap} {CN CS : Addr}
def spLa (K : PySem.W.Frag) : Sp := fun vs H Q _ => ∃ (a : Addr) (ns : List Int), vs = [.ref a] ∧ ns.length ≤ 1000 ∧ SqL K H a (ns.map V.int) ∧ ∀ H', Q (.bl true) H'
abbrev nsLa : List Str := ["_law_script", "_law_cell", "_law_source", "_law_k", "_law_writes_here", "_law_used", "_law_spare", "_law_kept", "_law_rows", "_law_write", "_law_mark"]
theorem scLa : FnScope nsLa ["_law_script"] (defScope sLaw) := fnScope_by (by decide +kernel)
theorem kLa {f fSq : Addr} {fd dSq : FuncData} (F : Fun K "law" "law" sLaw f fd) (B : Bn mg) (gRep : mg "repr" = none)
    (cS : Cal P w K mg base 1 "_law_source_of" spSrc []) (cO : Cal P w K mg base 2 "_law_one" (spOne K) []) (cM : Cal P w K mg base 2 "_law_mixed" (spMix K) []) (cW : Cal P w K mg base 3 "_law_writes" spWi []) (cR : Cal P w K mg base 3 "_law_right" spRi [])
    (gSq : mg "sequence" = some (.ref fSq)) (kSq' : PySem.W.keepIn K (.ref fSq) = true) (FSq : FnOk P w K mg base (L2.CX P w) 5 fSq dSq ["writes", "spare"] (spSq K CN CS)) (bSq : Binds K dSq ["writes", "spare"] []) : FnG P w K mg base 6 f fd ["_law_script"] (spLa K) := by
  refine FnG.of (k := 5) F scLa (fun vs H Q E h => ?_) (fun cdv A outer s H vs Q E hr gd h => ?_)
  · obtain ⟨a, ns, rfl, _⟩ := h
    rfl
  obtain ⟨a, ns, rfl, hnl, hns, q⟩ := h
  have hu := hu_of hr
  have hu64 : (A.deeper (envOfC "law" (defScope sLaw) s.heap.objs.size f cdv)).units + 64 < cLine := hr.units
  have hu70 : (A.deeper (envOfC "law" (defScope sLaw) s.heap.objs.size f cdv)).units + 70 < cLine := by have := hr.un; omega
  have gd' : (A.deeper (envOfC "law" (defScope sLaw) s.heap.objs.size f cdv)).guards = some [] := gd
  refine ⟨_, pss_cons (ps_for PassesOwn.never rfl (pi_list (pe_slice sl_list (pe_op (op_catL K rfl) (pv 0) (pe_lst (pa_cons pe_int (pa_cons pe_int (pa_cons pe_int pa_nil))))) po_none (po_some pe_int))) (pg_name (i := 1) scLa.nd rfl (Or.inl rfl))
      (pss_cons (ps_set (i := 2) scLa.nd rfl (.inl rfl) (pe_c cS hr (by decide) (by rfl) (pa_cons (pv 1) pa_nil)))
      (pss_one (ps_for PassesOwn.never rfl (pi_range1 (by rfl) B.rng (pa_cons pe_int pa_nil)) (pg_name (i := 3) scLa.nd rfl (Or.inl rfl))
        (pss_cons (ps_set (i := 4) scLa.nd rfl (.inl rfl) (pe_c cW hr (by decide) (by rfl) (pa_cons (pv 2) pa_nil)))
        (pss_cons (ps_set (i := 5) scLa.nd rfl (.inr rfl) (pe_op (op_catL K rfl)
            (pe_lc (own := [("_law_write", 9)]) (g := gName 9) (tt := tYes) rfl scLa.nd (pi_list (pv 4)) (blkOk_by (N := nsLa) (sc := defScope sLaw) (by decide +kernel)) (fun _ _ _ _ _ => pg_name (i := 9) scLa.nd rfl (Or.inl rfl)) (fun _ _ _ _ _ => pts_nil) (fun _ _ _ _ _ => pe_ix (ix_tupK K rfl) (pv 9) pe_int (fun _ _ => rfl)))
            (pe_lc (own := [("_law_write", 9)]) (g := gName 9) (tt := tYes) rfl scLa.nd (pi_list (pv 4)) (blkOk_by (N := nsLa) (sc := defScope sLaw) (by decide +kernel)) (fun _ _ _ _ _ => pg_name (i := 9) scLa.nd rfl (Or.inl rfl)) (fun _ _ _ _ _ => pts_nil) (fun _ _ _ _ _ => pe_ix (ix_tupK K rfl) (pv 9) pe_int (fun _ _ => rfl)))))
        (pss_cons (ps_set (i := 6) scLa.nd rfl (.inl rfl) (pe_c cO hr (by decide) (by rfl) (pa_cons (pv 2) (pa_cons (pe_slice sl_list
            (pe_lc (own := [("_law_mark", 10)]) (g := gName 10) rfl scLa.nd (pi_range1 (by rfl) B.rng (pa_cons pe_int pa_nil)) (blkOk_by (N := nsLa) (sc := defScope sLaw) (by decide +kernel)) (fun _ _ _ _ _ => pg_name (i := 10) scLa.nd rfl (Or.inl rfl)) (fun _ _ _ _ _ => pts_one (pt_cmpR (op_notInK K rfl) (pv 10) (pv 5) (by rfl))) (fun _ _ _ _ _ => pv 10)) po_none (po_some pe_int)) pa_nil))))
        (pss_cons (ps_set (i := 7) scLa.nd rfl (.inl rfl) (pe_callB (call_reprA gd' hu70) (by rfl) gRep boot_repr (pa_cons (pv 4) pa_nil)))
        (pss_cons (ps_set (i := 8) scLa.nd rfl (.inl rfl) (pe_call FSq hr (by rfl) gSq kSq' bSq .nil passX0 (pa_cons (pe_c cO hr (by decide) (by rfl) (pa_cons (pv 2) (pa_cons (pe_lst (pa_cons (pv 4) (pa_cons (pe_callTy call_tuple_of (by rfl) B.tup boot_tuple (pa_cons (pv 4) pa_nil)) pa_nil))) pa_nil))) (pa_cons (pv 6) pa_nil))))
        (pss_cons (ps_if (PW.pt (pw_or (pt_not (pt_val (pe_c cR hr (by decide) (by rfl) (pa_cons (pv 4) (pa_cons (pv 6) (pa_cons (pv 8) pa_nil)))))) (pw_or1 (pt_cmpR op_ne (pe_callB (call_reprA gd' hu70) (by rfl) gRep boot_repr (pa_cons (pv 4) pa_nil)) (pv 7) (nomark _))))) (pss_one (ps_ret pe_bl)) pss_nil)
        (pss_one (ps_if (PW.pt (pw_and (pt_cmpR (op_eqD hu64) (pe_call FSq hr (by rfl) gSq kSq' bSq .nil passX0 (pa_cons (pe_c cM hr (by decide) (by rfl) (pa_cons (pv 2) (pa_cons (pv 4) pa_nil))) (pa_cons (pv 6) pa_nil))) (pe_lst pa_nil) (nomark _)) (pw_and1 (pt_cmpR (op_neD hu64) (pv 8) (pe_lst pa_nil) (nomark _))))) (pss_one (ps_ret pe_bl)) pss_nil))))))))))))
    (pss_one (ps_ret pe_bl)), ?_⟩
  refine ⟨_, rfl, ⟨by show 3 ≤ sizeLine; decide, fun p2 np2 => ?_⟩⟩
  have r2 := same_upd (o := .lst [V.int 0, V.int 1, V.int 2]) np2
  refine ⟨a, p2, _, _, rfl, rfl, r2.seq hns, SqL.of upd_same, ?_, fun p3 np3 => ?_⟩
  · rw [List.length_map, sizeLine_eq]
    show ns.length + 3 ≤ _
    omega
  refine ⟨10, rfl, p3, _, rfl, SqL.of upd_same, fun p4 np4 => ?_⟩
  have hit : ∀ y ∈ cutV (ns.map V.int ++ [V.int 0, V.int 1, V.int 2]) none (some 10), ∃ c, y = V.int c := fun y hy => by
    unfold cutV at hy
    rcases List.mem_append.mp (List.mem_of_mem_drop (List.mem_of_mem_take hy)) with h | h
    · obtain ⟨c, _, e⟩ := List.mem_map.mp h
      exact ⟨c, e.symm⟩
    · simp only [List.mem_cons, List.not_mem_nil, or_false] at h
      rcases h with h | h | h
      · exact ⟨_, h⟩
      · exact ⟨_, h⟩
      · exact ⟨_, h⟩
  generalize hxs : cutV (ns.map V.int ++ [V.int 0, V.int 1, V.int 2]) none (some 10) = xs at *
  obtain ⟨H3, e3⟩ : ∃ H3, upd (upd (upd H p2 (.lst [V.int 0, V.int 1, V.int 2])) p3 (.lst (ns.map V.int ++ [V.int 0, V.int 1, V.int 2]))) p4 (.lst xs) = H3 := ⟨_, rfl⟩
  have hl3 : H3 p4 = some (.lst xs) := by rw [← e3]; exact upd_same
  rw [e3]
  refine ⟨p4, rfl, ⟨xs, SqL.of hl3⟩, for_it (walk_list (K := K) (xs := xs)) (fun n σ' H' => (∃ x1 x2 x3 x4 x5 x6 x7 x8 x9 x10, σ' = [some (.ref a), x1, x2, x3, x4, x5, x6, x7, x8, x9, x10]) ∧ Same H3 H') ⟨⟨_, _, _, _, _, _, _, _, _, _, rfl⟩, Same.refl _⟩ (fun n σ' H' _ ⟨_, e⟩ => SqL.of (e _ _ hl3)) ?_ ?_⟩
  · rintro n x σ' H4 H4' hn ⟨⟨x1, x2, x3, x4, x5, x6, x7, x8, x9, x10, rfl⟩, s4⟩ ⟨rfl, hx⟩
    obtain ⟨c, rfl⟩ := hit x (List.mem_of_getElem? hx)
    change tSeq _ _ _ [some (.ref a), some (.int c), x2, x3, x4, x5, x6, x7, x8, x9, x10] _
    refine ⟨_, rfl, c, rfl, fun vx vy vz p np => ?_⟩
    have np3 : H3 p = none := by
      cases z : H3 p with
      | none => rfl
      | some o => rw [s4 _ _ z] at np; cases np
    obtain ⟨H5, e5⟩ : ∃ H5, H5 = upd H4' p (.lst [.int vx, .int vy, .int vz]) := ⟨_, rfl⟩
    have hs5 : SrcAt H5 p := ⟨vx, vy, vz, by rw [e5, upd_same]⟩
    have s35 : Same H3 H5 := by rw [e5]; exact s4.trans (same_upd np)
    rw [← e5]
    refine ⟨8, rfl, by decide, by decide, ?_⟩
    refine for_it (walk_range (lo := 0) (n := 8)) (fun i σ H' => (∃ x3 x4 x5 x6 x7 x8 x9 x10, σ = [some (.ref a), some (.int c), some (.ref p), x3, x4, x5, x6, x7, x8, x9, x10]) ∧ SrcAt H' p ∧ Same H3 H') ⟨⟨_, _, _, _, _, _, _, _, rfl⟩, hs5, s35⟩ (fun _ _ _ _ _ => trivial) ?_ ?_
    · rintro i x σ G0 G0' hi ⟨⟨x3, x4, x5, x6, x7, x8, x9, x10, rfl⟩, g0, s30⟩ ⟨rfl, rfl⟩
      refine ⟨_, rfl, p, rfl, g0, fun G1 pw vs' ws b1 g1 npw hpw hws ndw hwl okw => ?_⟩
      change tSeq _ _ _ [some (.ref a), some (.int c), some (.ref p), some (.int (0 + (i : Int))), some (.ref pw), x5, x6, x7, x8, x9, x10] _
      have hvl := hws.len
      have pwp : pw ≠ p := g0.off npw
      -- the marks that are used
      refine ⟨_, rfl, pw, rfl, ⟨_, SqL.of hpw⟩, fun D1 nD1 => ?_⟩
      refine lc_it (walk_list (K := K) (xs := vs')) (fun k H' => H' D1 = some (.lst ((ws.take k).map fun q => vS (.mk q.1))) ∧ Same G1 H') ⟨upd_same, same_upd nD1⟩ (fun k H' _ h => SqL.of (h.2 _ _ hpw)) ?_ ?_
      · rintro k x' H6 H7 hk ⟨l1, l2⟩ ⟨rfl, hx'⟩
        obtain ⟨⟨m, t⟩, tt, hq, rfl, ht⟩ := (hws.mono fun t x e => l2 _ _ e).get hx'
        refine ⟨rfl, tyes ⟨_, rfl, tt, _, 0, _, rfl, rfl, .inl (.inl ht), rfl, _, l1, small1000 (by rw [List.length_map, List.length_take]; omega), ?_, fun c o e => ?_⟩⟩
        · rw [upd_same, List.take_add_one, hq, List.map_append]
          rfl
        · rw [upd_ne (ne_of_none e nD1)]
          exact l2 _ _ e
      rintro G2 ⟨l1, l2⟩
      refine ⟨_, rfl, pw, rfl, ⟨_, SqL.of (l2 _ _ hpw)⟩, fun D2 nD2 => ?_⟩
      refine lc_it (walk_list (K := K) (xs := vs')) (fun k H' => H' D2 = some (.lst ((ws.take k).map fun q => vS q.2)) ∧ Same G2 H') ⟨upd_same, same_upd nD2⟩ (fun k H' _ h => SqL.of (h.2 _ _ (l2 _ _ hpw))) ?_ ?_
      · rintro k x' H6 H7 hk ⟨k1, k2⟩ ⟨rfl, hx'⟩
        obtain ⟨⟨m, t⟩, tt, hq, rfl, ht⟩ := (hws.mono fun t x e => k2 _ _ (l2 _ _ e)).get hx'
        refine ⟨rfl, tyes ⟨_, rfl, tt, _, 1, _, rfl, rfl, .inl (.inl ht), rfl, _, k1, small1000 (by rw [List.length_map, List.length_take]; omega), ?_, fun c o e => ?_⟩⟩
        · rw [upd_same, List.take_add_one, hq, List.map_append]
          rfl
        · rw [upd_ne (ne_of_none e nD2)]
          exact k2 _ _ e
      rintro G3 ⟨k1, k2⟩
      rw [hvl, List.take_length] at l1 k1
      have eus : (ws.map fun q => vS (.mk q.1)) ++ (ws.map fun q => vS q.2) = (usd ws).map vS := by unfold usd; rw [List.map_append, List.map_map, List.map_map]; rfl
      refine ⟨D1, D2, _, _, rfl, rfl, SqL.of (k2 _ _ l1), SqL.of k1, Nat.le_of_lt (small1000 (by rw [List.length_map, List.length_map]; omega)), fun pu npu => ?_⟩
      rw [eus]
      have s34 := same_upd (o := .lst ((usd ws).map vS)) npu
      obtain ⟨G4, e4⟩ : ∃ G4, G4 = upd G3 pu (.lst ((usd ws).map vS)) := ⟨_, rfl⟩
      have hpu : G4 pu = some (.lst ((usd ws).map vS)) := by rw [e4, upd_same]
      rw [← e4] at s34
      have s14 : Same G1 G4 := l2.trans (k2.trans s34)
      have g4 : SrcAt G4 p := by obtain ⟨u1, u2, u3, e⟩ := g1; exact ⟨u1, u2, u3, s14 _ _ e⟩
      rw [← e4]
      change tSeq _ _ _ [some (.ref a), some (.int c), some (.ref p), some (.int (0 + (i : Int))), some (.ref pw), some (.ref pu), x6, x7, x8, x9, x10] _
      -- the spare mark
      have hml : (mks (usd ws)).length ≤ 28 := Nat.le_trans (mks_len _) (by unfold usd; rw [List.length_append, List.length_map, List.length_map]; omega)
      refine ⟨_, rfl, 40, rfl, by decide, by decide, fun D3 nD3 => ?_⟩
      refine lc_range (lo := 0) (n := 40) (fun k H' => H' D3 = some (.lst (((rgI k).filter fun m => !(mks (usd ws)).contains m).map V.int)) ∧ Same G4 H') ⟨upd_same, same_upd nD3⟩ ?_ ?_
      · rintro k H6 hk ⟨j1, j2⟩
        refine ⟨rfl, _, rfl, _, rfl, pu, _, rfl, .inl (SqL.of (j2 _ _ hpu)), rfl, flat_srs _, _, rfl, ?_⟩
        rw [if_pos rfl, in_srs]
        have ef : (rgI (k + 1)).filter (fun m => !(mks (usd ws)).contains m) = (rgI k).filter (fun m => !(mks (usd ws)).contains m) ++ [(0 : Int) + k].filter (fun m => !(mks (usd ws)).contains m) := by
          rw [rgI_succ, List.filter_append]
        cases hc : (mks (usd ws)).contains ((0 : Int) + k) with
        | true =>
          rw [List.filter_cons, hc] at ef
          rw [show ([] : List Int).filter (fun m => !(mks (usd ws)).contains m) = [] from rfl] at ef
          show H6 D3 = _ ∧ _
          rw [ef]
          exact ⟨by simpa using j1, j2⟩
        | false =>
          rw [List.filter_cons, hc] at ef
          have hfl : ((rgI k).filter fun m => !(mks (usd ws)).contains m).length ≤ 40 := by
            have h1 := List.length_filter_le (fun m => !(mks (usd ws)).contains m) (rgI k)
            rw [rgI_len] at h1
            omega
          refine ⟨_, rfl, _, j1, small1000 (by rw [List.length_map]; omega), ?_, fun c o e => ?_⟩
          · rw [upd_same, ef, List.map_append]
            rfl
          · rw [upd_ne (ne_of_none e nD3)]
            exact j2 _ _ e
      rintro G5 ⟨j1, j2⟩
      obtain ⟨fl, efl⟩ : ∃ fl, fl = (rgI 40).filter fun m => !(mks (usd ws)).contains m := ⟨_, rfl⟩
      rw [← efl] at j1
      have g5 : SrcAt G5 p := by obtain ⟨u1, u2, u3, e⟩ := g4; exact ⟨u1, u2, u3, j2 _ _ e⟩
      have hfne : fl ≠ [] := by rw [efl]; exact fresh_mark (rgI_nodup 40) (by rw [rgI_len]; omega)
      have hfl40 : fl.length ≤ 40 := by
        have h1 := List.length_filter_le (fun m => !(mks (usd ws)).contains m) (rgI 40)
        rw [rgI_len, ← efl] at h1
        exact h1
      refine ⟨9, rfl, D3, _, rfl, SqL.of j1, fun D4 nD4 => ?_⟩
      rw [show cutV (fl.map V.int) none (some 9) = (fl.take 9).map V.int from (cut_pre _ 9).trans (List.map_take ..).symm]
      have hD4p := g5.off nD4
      refine ⟨p, D4, (fl.take 9).map V.int, rfl, src_off g5 hD4p.symm, SqL.of upd_same, hD4p, ?_, by rw [List.length_map, List.length_take]; omega, fun r v x y z hv => ?_⟩
      · intro e
        cases hf : fl with
        | nil => exact hfne hf
        | cons z r => rw [hf] at e; exact nomatch e
      obtain ⟨sp, hsp, rfl⟩ : ∃ sp, sp ∈ fl ∧ v = .int sp := by
        have h1 := List.mem_of_getElem? hv
        obtain ⟨sp, h2, e⟩ := List.mem_map.mp h1
        exact ⟨sp, List.mem_of_mem_take h2, e.symm⟩
      rw [efl] at hsp
      have hsp2 := List.mem_filter.mp hsp
      have hsp40 : 0 ≤ sp ∧ sp < 40 := rgI_in hsp2.1
      have hspm : sp ∉ mks (usd ws) := fun h => by
        have := hsp2.2
        rw [List.contains_iff_mem.mpr h] at this
        cases this
      have hnsp : ∀ q ∈ ws, sp ∉ marksS q := fun q hq h => by
        obtain ⟨m, t⟩ := q
        rcases List.mem_cons.mp h with e | h
        · exact hspm (mks_in (List.mem_append_left _ (List.mem_map.mpr ⟨(m, t), hq, by rw [e]⟩)))
        · cases t with
          | con y => cases h
          | mk j =>
            have : sp = j := by simpa using h
            exact hspm (mks_in (List.mem_append_right _ (List.mem_map.mpr ⟨(m, .mk j), hq, by rw [this]⟩)))
      obtain ⟨G6, e6⟩ : ∃ G6, G6 = upd (upd G5 D4 (.lst ((fl.take 9).map V.int))) p (.lst [.int x, .int y, .int z]) := ⟨_, rfl⟩
      have b56 : But p G5 G6 := by rw [e6]; exact (But.same (same_upd nD4)).trans (But.upd _ _ _)
      have g6 : SrcAt G6 p := ⟨x, y, z, by rw [e6, upd_same]⟩
      have b16 : But p G1 G6 := (But.same (s14.trans j2)).trans b56
      have hpw6 := b16 _ _ pwp hpw
      have hws6 : WsAt G6 vs' ws := hws.mono fun t x e => b16 _ _ (g1.tup e) e
      rw [← e6]
      change tSeq _ _ _ [some (.ref a), some (.int c), some (.ref p), some (.int (0 + (i : Int))), some (.ref pw), some (.ref pu), some (.int sp), x7, x8, x9, x10] _
      -- what is shown
      have hnice : ∀ d ∈ ws.map wD, Nice d := fun d hd => by
        obtain ⟨⟨m, t⟩, hq, rfl⟩ := List.mem_map.mp hd
        exact nice_14 (okw _ hq).1 (okw _ hq).2
      have hrep : ∀ {HX : Hp}, HX pw = some (.lst vs') → WsAt HX vs' ws → RepAt K HX (.ref pw) (PyData.list (ws.map wD)).shown := fun e h => rep_list e h.dx hnice (by rw [List.length_map]; omega)
      refine ⟨_, rfl, .ref pw, _, rfl, hrep hpw6 hws6, ?_⟩
      obtain ⟨txt, etx⟩ : ∃ txt, txt = (PyData.list (ws.map wD)).shown := ⟨_, rfl⟩
      rw [← etx] at hrep ⊢
      change tSeq _ _ _ [some (.ref a), some (.int c), some (.ref p), some (.int (0 + (i : Int))), some (.ref pw), some (.ref pu), some (.int sp), some (.str txt), x8, x9, x10] _
      have hval : ∀ q ∈ ws, 0 ≤ q.1 ∧ Ws q.2 := fun q hq => by
        obtain ⟨h1, h2⟩ := okw q hq
        refine ⟨h1.1, ?_⟩
        rcases h2 with e | e | ⟨j, e, hj⟩
        · rw [e]; exact .inl rfl
        · rw [e]; exact .inr rfl
        · rw [e]; exact hj.1
      have h99 : ∀ m, marksIn ws sp m → In99 m := fun m hm => by
        rcases hm with rfl | ⟨q, hq, h⟩
        · exact ⟨hsp40.1, by omega⟩
        · obtain ⟨h1, h2⟩ := okw q hq
          obtain ⟨k, t⟩ := q
          rcases List.mem_cons.mp h with e | h
          · rw [e]; exact ⟨h1.1, by have := h1.2; show k < 99; omega⟩
          · cases t with
            | con y => cases h
            | mk j =>
              have : m = j := by simpa using h
              rw [this]
              rcases h2 with e | e | ⟨j', e, hj⟩
              · cases e
              · cases e
              · cases e; exact ⟨hj.1, by have := hj.2; omega⟩
      -- a run of sequence
      have seqc : ∀ (HX : Hp) (v : V) (d : PyData) (ws' : List (Int × Sr)) (Qs : VK), ws'.Perm ws → Dx K HX v d → isRow d = true → items d = ws'.map wD → (∀ H' l vs2 W, Same HX H' → HX l = none → H' l = some (.lst vs2) → RowsAt H' vs2 W → Done ws' sp W → Qs (.ref l) H') → spSq K CN CS [v, .int sp] HX Qs (fun _ _ _ => False) := fun HX v d ws' Qs pw' hd hrow hit' k => by
        have nd' : (ws'.map (·.1)).Nodup := (pw'.map _).nodup_iff.mpr ndw
        have hck : chkW d = none := by
          unfold chkW
          rw [hrow, if_pos rfl, hit']
          exact chkGo_of nd' fun q hq => ⟨fun z => (nomatch z), hval q (pw'.mem_iff.mp hq)⟩
        have hsb : spareBad (.int sp) ws' = false := by
          show (!decide (0 ≤ sp) || spareIn sp ws') = false
          rw [decide_eq_true hsp40.1, Bool.not_true, Bool.false_or]
          unfold spareIn
          rw [List.any_eq_false]
          intro q hq h
          exact hnsp q (pw'.mem_iff.mp hq) (List.contains_iff_mem.mp h)
        refine ⟨v, d, .int sp, .int sp, rfl, hd, .int sp, by rw [hit', List.length_map, pw'.length_eq]; omega, (fun n hn => by rw [hck] at hn; cases hn), (fun w2 _ e h => by rw [hit'] at e; rw [← wD_inj e, hsb] at h; cases h), fun w2 sp2 _ e _ _ esp _ H' l vs2 W s' nl hl hr hD => ?_⟩
        rw [hit'] at e
        have := wD_inj e
        subst this
        cases esp
        exact k H' l vs2 W s' nl hl hr hD
      have hDl : ∀ {ws' : List (Int × Sr)} {W : List Rw}, ws'.Perm ws → Done ws' sp W → ∃ hs, Reps (chg ws) hs ∧ W.length = (chg ws).length + hs.length := fun {ws' W} pw' hD => by
        obtain ⟨_, _, hs, reps, len⟩ := hD
        have pc : (chg ws').Perm (chg ws) := pw'.filter _
        have ndc : ((chg ws).map (·.1)).Nodup := (List.Sublist.map _ List.filter_sublist).nodup ndw
        exact ⟨hs, reps.of_lk fun m => perm_lk pc ndc m, by rw [len, pc.length_eq]⟩
      -- the rows
      refine ⟨_, rfl, _, rfl, _, rfl, pw, vs', rfl, .inl ⟨SqL.of hpw6, fun pt npt => ⟨by show 2 ≤ sizeLine; decide, fun PL nPL => ?_⟩⟩⟩
      have spt := same_upd (o := .tup vs') npt
      have spl := same_upd (o := .lst [.ref pw, .ref pt]) nPL
      have g7 : SrcAt (upd (upd G6 pt (.tup vs')) PL (.lst [.ref pw, .ref pt])) p := by obtain ⟨u1, u2, u3, e⟩ := g6; exact ⟨u1, u2, u3, spl _ _ (spt _ _ e)⟩
      have hPLp : PL ≠ p := by obtain ⟨u1, u2, u3, e⟩ := g6; exact (ne_of_none (spt _ _ e) nPL).symm
      have hptp : pt ≠ p := g6.off npt
      refine ⟨p, PL, [.ref pw, .ref pt], rfl, g7, SqL.of upd_same, hPLp, (fun z => nomatch z), by show 2 < 1073741824; decide, fun r7 v7 x7' y7 z7 hv7 => ?_⟩
      obtain ⟨G8, e8⟩ : ∃ G8, G8 = upd (upd (upd G6 pt (.tup vs')) PL (.lst [.ref pw, .ref pt])) p (.lst [.int x7', .int y7, .int z7]) := ⟨_, rfl⟩
      have b68 : But p G6 G8 := by rw [e8]; exact (But.same (spt.trans spl)).trans (But.upd _ _ _)
      have g8 : SrcAt G8 p := ⟨x7', y7, z7, by rw [e8, upd_same]⟩
      have hpt8 : G8 pt = some (.tup vs') := by rw [e8, upd_ne hptp]; exact spl _ _ upd_same
      have hpw8 := b68 _ _ pwp hpw6
      have hws8 : WsAt G8 vs' ws := hws6.mono fun t x e => b68 _ _ (g6.tup e) e
      rw [← e8]
      refine ⟨_, rfl, nil_go ?_⟩
      obtain ⟨d7, hd7, hr7, hi7⟩ : ∃ d, Dx K G8 v7 d ∧ isRow d = true ∧ items d = ws.map wD := by
        match r7, hv7 with
        | 0, h => rw [← Option.some.inj h]; exact ⟨.list (ws.map wD), .lst hpw8 hws8.dx, rfl, rfl⟩
        | 1, h => rw [← Option.some.inj h]; exact ⟨.tuple (ws.map wD), .tup hpt8 hws8.dx, rfl, rfl⟩
        | _ + 2, h => exact nomatch h
      refine seqc _ v7 d7 ws _ (List.Perm.refl _) hd7 hr7 hi7 fun G9 l vs2 W s89 nl hl hrows hD => ?_
      change tSeq _ _ _ [some (.ref a), some (.int c), some (.ref p), some (.int (0 + (i : Int))), some (.ref pw), some (.ref pu), some (.int sp), some (.str txt), some (.ref l), x9, x10] _
      have g9 : SrcAt G9 p := by obtain ⟨u1, u2, u3, e⟩ := g8; exact ⟨u1, u2, u3, s89 _ _ e⟩
      have hpw9 := s89 _ _ hpw8
      have hws9 : WsAt G9 vs' ws := hws8.mono fun t x e => s89 _ _ e
      have nlp : l ≠ p := g8.off nl
      obtain ⟨hs0, hreps0, hlen0⟩ := hDl (List.Perm.refl _) hD
      have hWle : W.length ≤ 200 := by
        have h1 := hreps0.le
        have h2 : (chg ws).length ≤ ws.length := List.length_filter_le ..
        omega
      have hgr : ∀ q ∈ W, Gr In99 q := fun r' hr' => by
        have g := hD.gr r' hr'
        cases r' with
        | con y m => exact ⟨g.1, h99 _ g.2⟩
        | cp m j => exact ⟨h99 _ g.1, h99 _ g.2⟩
      refine ⟨_, rfl, _, rfl, _, rfl, nil_go ⟨pw, l, sp, vs', vs2, ws, W, rfl, hpw9, hws9, ndw, by omega, fun q hq => ⟨(okw q hq).1.1, by have := (okw q hq).1.2; omega⟩, hl, hrows, hWle, hgr, hD.due, ⟨hs0, hreps0, hlen0⟩, fun G10 s910 => ⟨_, rfl, iteF ?_⟩⟩⟩
      have hpw10 := s910 _ _ hpw9
      have hws10 : WsAt G10 vs' ws := hws9.mono fun t x e => s910 _ _ e
      have g10 : SrcAt G10 p := by obtain ⟨u1, u2, u3, e⟩ := g9; exact ⟨u1, u2, u3, s910 _ _ e⟩
      have hl10 := s910 _ _ hl
      have hrows10 : RowsAt G10 vs2 W := hrows.mono fun t x e => s910 _ _ e
      refine ⟨_, rfl, .ref pw, _, rfl, hrep hpw10 hws10, _, rfl, rfl, _, rfl, ?_⟩
      rw [show (!decide (V.str txt = V.str txt)) = false by rw [decide_eq_true rfl]; rfl]
      refine iteF ?_
      have hit10 : ItemsOk K p G10 vs' := fun x hx H' bt' => by
        obtain ⟨k, hk, e⟩ := List.getElem_of_mem hx
        obtain ⟨⟨m, t⟩, tt, hq, rfl, ht⟩ := hws10.get (by rw [List.getElem?_eq_getElem hk, e])
        have ht' := bt' _ _ (g10.tup ht) ht
        obtain ⟨_, g2⟩ := okw _ (List.mem_of_getElem? hq)
        rcases g2 with g2 | g2 | ⟨j, g2, hj⟩
        · have g2 : t = .con "on" := g2
          subst g2
          exact ⟨.tuple [.int m, .str "on"], .tup (.inl (.inl ht')) (.cons (.int m) (.cons (.str _) .nil)), (by decide +kernel : PyData.canLayAll0 [.str "on"] = true), by simp [PyData.depth, PyData.depthAll]⟩
        · have g2 : t = .con "off" := g2
          subst g2
          exact ⟨.tuple [.int m, .str "off"], .tup (.inl (.inl ht')) (.cons (.int m) (.cons (.str _) .nil)), (by decide +kernel : PyData.canLayAll0 [.str "off"] = true), by simp [PyData.depth, PyData.depthAll]⟩
        · have g2 : t = .mk j := g2
          subst g2
          exact ⟨.tuple [.int m, .int j], .tup (.inl (.inl ht')) (.cons (.int m) (.cons (.int j) .nil)), rfl, by simp [PyData.depth, PyData.depthAll]⟩
      refine ⟨_, rfl, _, rfl, p, pw, vs', rfl, g10, .inl (SqL.of hpw10), by rw [hvl]; omega, hit10, fun G11 pa ys pys bt11 g11 npa hpa => ?_⟩
      have hws11 : WsAt G11 vs' ws := hws10.mono fun t x e => bt11 _ _ (g10.tup e) e
      obtain ⟨ws', pw', hys⟩ := hws11.perm pys
      refine ⟨_, rfl, nil_go (seqc G11 (.ref pa) (.list (ws'.map wD)) ws' _ pw' (.lst hpa hys.dx) rfl rfl fun G12 la vs3 W2 s12 nla hla hrows2 hD2 => ⟨Nat.zero_le _, fun q1 nq => ?_⟩)⟩
      have sq := same_upd (o := .lst []) nq
      have hrows12 : RowsAt G12 vs2 W := hrows10.mono fun t x e => s12 _ _ (bt11 _ _ (g10.tup e) e)
      have hl12 := s12 _ _ (bt11 _ _ nlp hl10)
      have bt012 : But p G0' (upd G12 q1 (.lst [])) := b1.trans (b16.trans (b68.trans ((But.same (s89.trans s910)).trans (bt11.trans (But.same (s12.trans sq))))))
      have g12 : SrcAt (upd G12 q1 (.lst [])) p := by obtain ⟨u1, u2, u3, e⟩ := g11; exact ⟨u1, u2, u3, sq _ _ (s12 _ _ e)⟩
      have s312 : Same H3 (upd G12 q1 (.lst [])) := fun b o e => bt012 _ _ (ne_of_none e np3) (s30 _ _ e)
      refine ⟨.list (W2.map rD), .list [], .lst (SqL.of (sq _ _ hla)) (rows_dp (hrows2.mono fun t x e => sq _ _ e)), .lst (.inl (.inl upd_same)) .nil, rows_shaped hD2.gr, by decide, _, rfl, ?_⟩
      rw [rows_eq]
      by_cases hW2 : W2 = []
      · obtain ⟨hs2, hreps2, hlen2⟩ := hDl pw' hD2
        have hW : W = [] := by
          have h1 := hreps0.len hreps2
          have h2 : W2.length = 0 := by rw [hW2]; rfl
          exact List.eq_nil_of_length_eq_zero (by omega)
        rw [decide_eq_true hW2]
        refine iteT ⟨_, rfl, Nat.zero_le _, fun q2 nq2 => ?_⟩
        have sq2 := same_upd (o := .lst []) nq2
        refine ⟨.list (W.map rD), .list [], .lst (SqL.of (sq2 _ _ (sq _ _ hl12))) (rows_dp (hrows12.mono fun t x e => sq2 _ _ (sq _ _ e))), .lst (.inl (.inl upd_same)) .nil, rows_shaped hgr, by decide, _, rfl, ?_⟩
        rw [rows_eq, decide_eq_true hW]
        refine iteF ⟨⟨_, _, _, _, _, _, _, _, rfl⟩, ?_, s312.trans sq2⟩
        obtain ⟨u1, u2, u3, e⟩ := g12
        exact ⟨u1, u2, u3, sq2 _ _ e⟩
      · rw [decide_eq_false hW2]
        exact iteF (iteF ⟨⟨_, _, _, _, _, _, _, _, rfl⟩, g12, s312⟩)
    · rintro σ H' ⟨⟨x3, x4, x5, x6, x7, x8, x9, x10, rfl⟩, hs', s'⟩
      exact ⟨⟨_, _, _, _, _, _, _, _, _, _, rfl⟩, s'⟩
  · rintro σ' H' ⟨⟨x1, x2, x3, x4, x5, x6, x7, x8, x9, x10, rfl⟩, _⟩
    exact q H'
end
end Lm

/-! the head and the end of the law -/
namespace Lm
open PySem PySem.Spec PyProof.Rows L2 LmS
def dG (x : Str) (st : Stmt) : He.DefD := ⟨(x, none), x, x, defArgs st, defBody st, defScope st, [], []⟩
def dN (c m : Str) (st : Stmt) : He.DefD := ⟨(c, some m), m, c ++ "." ++ m, defArgs st, defBody st, defScope st, [], []⟩
def fn : List He.DefD := [dG "is_row" sIsRow, dG "is_tuple" sIsTuple, dG "is_integer" sIsInt, dG "is_mark" sIsMark, dG "is_write" sIsWrite, dG "marks_of" sMarksOf, dG "check_writes" sCheckW, dG "check_spare" sCheckS, dG "sequence" sSeqn, dG "_law_source_of" sSrc, dG "_law_next" sNext, dG "_law_one" sOne, dG "_law_mixed" sMix, dG "_law_writes" sWri, dG "_law_done" sDon, dG "_law_cycle" sCyc, dG "_law_amount" sAmo, dG "_law_right" sRig, dG "law" sLaw, dN "Rows" "__init__" mRwInit, dN "Rows" "write_all" mWriteAll, dN "Rows" "write_from" mWriteFrom, dN "NoWrites" "__init__" mNwInit, dN "NoSpare" "__init__" mNsInit]
def fas : List He.Fa := [.glo "is_row", .glo "is_tuple", .glo "is_integer", .glo "is_mark", .glo "is_write", .glo "marks_of", .glo "sequence", .glo "check_writes", .glo "check_spare", .glo "Rows", .glo "NoWrites", .glo "NoSpare", .glo "_law_source_of", .glo "_law_next", .glo "_law_one", .glo "_law_mixed", .glo "_law_writes", .glo "_law_done", .glo "_law_cycle", .glo "_law_amount", .glo "_law_right", .glo "law", .free "isinstance", .free "list", .free "tuple", .free "str", .free "int", .free "bool", .free "len", .free "any", .free "enumerate", .free "dict", .free "zip", .free "range", .free "min", .free "repr", .free "sorted", .cls "Rows", .noat "Rows" "sources", .noat "Rows" "written", .noat "Rows" "copies", .mkr "Rows", .meth "Rows" "write_from", .meth "Rows" "write_all"]
def erB (K : PySem.W.Frag) (c f : Str) : Bool := errB K (He.ga K c) && (He.eqO (PySem.W.findIn K (.ref (He.ga K c)) f) (some none) &&
  (He.eqO (PySem.W.findIn K (.ref (He.ga K c)) "__init__") (some (some (.ref (He.ma K (He.ga K c) "__init__")))) && decide (PySem.W.typeIn K (.ref (He.ma K (He.ga K c) "__init__")) = some (.type "function"))))
def ck (K : PySem.W.Frag) : Bool := fas.all (fun f => f.ok K) && (erB K "NoWrites" "at" && erB K "NoSpare" "spare")
section
variable {P : Program} {w : World} {K : PySem.W.Frag} {mg : Str → Option Value} {h : Heap}
theorem facts {f : Addr} (X : K.In h) (G : h.Ns mainGlobals mg) (hfa : mg ("law" : Str) = some (.ref f)) (c : He.SaysQ ck fn K) :
    ∃ fd : FuncData, (∀ (s : Shared) (v : Value), BindsTo s fd ⟨[v], []⟩ [("_law_script", v)]) ∧ ∀ base : Heap, K.In base → base.Ns mainGlobals mg → FnG P w K mg base 6 f fd ["_law_script"] (spLa K) := by
  have c0 := c.look
  unfold ck at c0
  simp only [Bool.and_eq_true, List.all_eq_true] at c0
  obtain ⟨cA, cW, cS⟩ := c0
  have A : ∀ (i : Nat) {x : He.Fa}, fas[i]? = some x → x.ok K = true := fun i {x} hx => cA x (List.mem_of_getElem? hx)
  unfold erB at cW cS
  simp only [Bool.and_eq_true, decide_eq_true_eq] at cW cS
  obtain ⟨d_is_row, Z_is_row⟩ := c.def_ 0 (d := dG "is_row" sIsRow) rfl
  have F_is_row := Fun.ofD (st := sIsRow) Z_is_row
  have b_is_row : Binds K d_is_row ["value"] [] := F_is_row.binds fun _ _ _ _ _ _ us hl => match us, hl with | [_], _ => rfl
  have g_is_row := He.glo_ok X G (x := "is_row") (A 0 rfl)
  obtain ⟨d_is_tuple, Z_is_tuple⟩ := c.def_ 1 (d := dG "is_tuple" sIsTuple) rfl
  have F_is_tuple := Fun.ofD (st := sIsTuple) Z_is_tuple
  have b_is_tuple : Binds K d_is_tuple ["value", "size"] [] := F_is_tuple.binds fun _ _ _ _ _ _ us hl => match us, hl with | [_, _], _ => rfl
  have g_is_tuple := He.glo_ok X G (x := "is_tuple") (A 1 rfl)
  obtain ⟨d_is_integer, Z_is_integer⟩ := c.def_ 2 (d := dG "is_integer" sIsInt) rfl
  have F_is_integer := Fun.ofD (st := sIsInt) Z_is_integer
  have b_is_integer : Binds K d_is_integer ["value"] [] := F_is_integer.binds fun _ _ _ _ _ _ us hl => match us, hl with | [_], _ => rfl
  have g_is_integer := He.glo_ok X G (x := "is_integer") (A 2 rfl)
  obtain ⟨d_is_mark, Z_is_mark⟩ := c.def_ 3 (d := dG "is_mark" sIsMark) rfl
  have F_is_mark := Fun.ofD (st := sIsMark) Z_is_mark
  have b_is_mark : Binds K d_is_mark ["value"] [] := F_is_mark.binds fun _ _ _ _ _ _ us hl => match us, hl with | [_], _ => rfl
  have g_is_mark := He.glo_ok X G (x := "is_mark") (A 3 rfl)
  obtain ⟨d_is_write, Z_is_write⟩ := c.def_ 4 (d := dG "is_write" sIsWrite) rfl
  have F_is_write := Fun.ofD (st := sIsWrite) Z_is_write
  have b_is_write : Binds K d_is_write ["value"] [] := F_is_write.binds fun _ _ _ _ _ _ us hl => match us, hl with | [_], _ => rfl
  have g_is_write := He.glo_ok X G (x := "is_write") (A 4 rfl)
  obtain ⟨d_marks_of, Z_marks_of⟩ := c.def_ 5 (d := dG "marks_of" sMarksOf) rfl
  have F_marks_of := Fun.ofD (st := sMarksOf) Z_marks_of
  have b_marks_of : Binds K d_marks_of ["write"] [] := F_marks_of.binds fun _ _ _ _ _ _ us hl => match us, hl with | [_], _ => rfl
  have g_marks_of := He.glo_ok X G (x := "marks_of") (A 5 rfl)
  obtain ⟨d_check_writes, Z_check_writes⟩ := c.def_ 6 (d := dG "check_writes" sCheckW) rfl
  have F_check_writes := Fun.ofD (st := sCheckW) Z_check_writes
  have b_check_writes : Binds K d_check_writes ["writes"] [] := F_check_writes.binds fun _ _ _ _ _ _ us hl => match us, hl with | [_], _ => rfl
  have g_check_writes := He.glo_ok X G (x := "check_writes") (A 7 rfl)
  obtain ⟨d_check_spare, Z_check_spare⟩ := c.def_ 7 (d := dG "check_spare" sCheckS) rfl
  have F_check_spare := Fun.ofD (st := sCheckS) Z_check_spare
  have b_check_spare : Binds K d_check_spare ["writes", "spare"] [] := F_check_spare.binds fun _ _ _ _ _ _ us hl => match us, hl with | [_, _], _ => rfl
  have g_check_spare := He.glo_ok X G (x := "check_spare") (A 8 rfl)
  obtain ⟨d_sequence, Z_sequence⟩ := c.def_ 8 (d := dG "sequence" sSeqn) rfl
  have F_sequence := Fun.ofD (st := sSeqn) Z_sequence
  have b_sequence : Binds K d_sequence ["writes", "spare"] [] := F_sequence.binds fun _ _ _ _ _ _ us hl => match us, hl with | [_, _], _ => rfl
  have g_sequence := He.glo_ok X G (x := "sequence") (A 6 rfl)
  obtain ⟨d__law_source_of, Z__law_source_of⟩ := c.def_ 9 (d := dG "_law_source_of" sSrc) rfl
  have F__law_source_of := Fun.ofD (st := sSrc) Z__law_source_of
  have b__law_source_of : Binds K d__law_source_of ["_law_cell"] [] := F__law_source_of.binds fun _ _ _ _ _ _ us hl => match us, hl with | [_], _ => rfl
  have g__law_source_of := He.glo_ok X G (x := "_law_source_of") (A 12 rfl)
  obtain ⟨d__law_next, Z__law_next⟩ := c.def_ 10 (d := dG "_law_next" sNext) rfl
  have F__law_next := Fun.ofD (st := sNext) Z__law_next
  have b__law_next : Binds K d__law_next ["_law_source", "_law_many"] [] := F__law_next.binds fun _ _ _ _ _ _ us hl => match us, hl with | [_, _], _ => rfl
  have g__law_next := He.glo_ok X G (x := "_law_next") (A 13 rfl)
  obtain ⟨d__law_one, Z__law_one⟩ := c.def_ 11 (d := dG "_law_one" sOne) rfl
  have F__law_one := Fun.ofD (st := sOne) Z__law_one
  have b__law_one : Binds K d__law_one ["_law_source", "_law_some"] [] := F__law_one.binds fun _ _ _ _ _ _ us hl => match us, hl with | [_, _], _ => rfl
  have g__law_one := He.glo_ok X G (x := "_law_one") (A 14 rfl)
  obtain ⟨d__law_mixed, Z__law_mixed⟩ := c.def_ 12 (d := dG "_law_mixed" sMix) rfl
  have F__law_mixed := Fun.ofD (st := sMix) Z__law_mixed
  have b__law_mixed : Binds K d__law_mixed ["_law_source", "_law_some"] [] := F__law_mixed.binds fun _ _ _ _ _ _ us hl => match us, hl with | [_, _], _ => rfl
  have g__law_mixed := He.glo_ok X G (x := "_law_mixed") (A 15 rfl)
  obtain ⟨d__law_writes, Z__law_writes⟩ := c.def_ 13 (d := dG "_law_writes" sWri) rfl
  have F__law_writes := Fun.ofD (st := sWri) Z__law_writes
  have b__law_writes : Binds K d__law_writes ["_law_source"] [] := F__law_writes.binds fun _ _ _ _ _ _ us hl => match us, hl with | [_], _ => rfl
  have g__law_writes := He.glo_ok X G (x := "_law_writes") (A 16 rfl)
  obtain ⟨d__law_done, Z__law_done⟩ := c.def_ 14 (d := dG "_law_done" sDon) rfl
  have F__law_done := Fun.ofD (st := sDon) Z__law_done
  have b__law_done : Binds K d__law_done ["_law_rows"] [] := F__law_done.binds fun _ _ _ _ _ _ us hl => match us, hl with | [_], _ => rfl
  have g__law_done := He.glo_ok X G (x := "_law_done") (A 17 rfl)
  obtain ⟨d__law_cycle, Z__law_cycle⟩ := c.def_ 15 (d := dG "_law_cycle" sCyc) rfl
  have F__law_cycle := Fun.ofD (st := sCyc) Z__law_cycle
  have b__law_cycle : Binds K d__law_cycle ["_law_copies", "_law_mark"] [] := F__law_cycle.binds fun _ _ _ _ _ _ us hl => match us, hl with | [_, _], _ => rfl
  have g__law_cycle := He.glo_ok X G (x := "_law_cycle") (A 18 rfl)
  obtain ⟨d__law_amount, Z__law_amount⟩ := c.def_ 16 (d := dG "_law_amount" sAmo) rfl
  have F__law_amount := Fun.ofD (st := sAmo) Z__law_amount
  have b__law_amount : Binds K d__law_amount ["_law_writes_here"] [] := F__law_amount.binds fun _ _ _ _ _ _ us hl => match us, hl with | [_], _ => rfl
  have g__law_amount := He.glo_ok X G (x := "_law_amount") (A 19 rfl)
  obtain ⟨d__law_right, Z__law_right⟩ := c.def_ 17 (d := dG "_law_right" sRig) rfl
  have F__law_right := Fun.ofD (st := sRig) Z__law_right
  have b__law_right : Binds K d__law_right ["_law_writes_here", "_law_spare", "_law_rows"] [] := F__law_right.binds fun _ _ _ _ _ _ us hl => match us, hl with | [_, _, _], _ => rfl
  have g__law_right := He.glo_ok X G (x := "_law_right") (A 20 rfl)
  obtain ⟨d_law, Z_law⟩ := c.def_ 18 (d := dG "law" sLaw) rfl
  have F_law := Fun.ofD (st := sLaw) Z_law
  have b_law : Binds K d_law ["_law_script"] [] := F_law.binds fun _ _ _ _ _ _ us hl => match us, hl with | [_], _ => rfl
  have g_law := He.glo_ok X G (x := "law") (A 21 rfl)
  obtain ⟨d_Rowsinit, Z_Rowsinit⟩ := c.def_ 19 (d := dN "Rows" "__init__" mRwInit) rfl
  have F_Rowsinit : Fun K "__init__" "Rows.__init__" mRwInit (He.ma K (He.ga K "Rows") "__init__") d_Rowsinit := Fun.ofD (st := mRwInit) Z_Rowsinit
  have b_Rowsinit : Binds K d_Rowsinit ["self", "sources"] [] := F_Rowsinit.binds fun _ _ _ _ _ _ us hl => match us, hl with | [_, _], _ => rfl
  obtain ⟨d_Rowswrite_all, Z_Rowswrite_all⟩ := c.def_ 20 (d := dN "Rows" "write_all" mWriteAll) rfl
  have F_Rowswrite_all : Fun K "write_all" "Rows.write_all" mWriteAll (He.ma K (He.ga K "Rows") "write_all") d_Rowswrite_all := Fun.ofD (st := mWriteAll) Z_Rowswrite_all
  have b_Rowswrite_all : Binds K d_Rowswrite_all ["self", "spare"] [] := F_Rowswrite_all.binds fun _ _ _ _ _ _ us hl => match us, hl with | [_, _], _ => rfl
  obtain ⟨d_Rowswrite_from, Z_Rowswrite_from⟩ := c.def_ 21 (d := dN "Rows" "write_from" mWriteFrom) rfl
  have F_Rowswrite_from : Fun K "write_from" "Rows.write_from" mWriteFrom (He.ma K (He.ga K "Rows") "write_from") d_Rowswrite_from := Fun.ofD (st := mWriteFrom) Z_Rowswrite_from
  have b_Rowswrite_from : Binds K d_Rowswrite_from ["self", "mark"] [] := F_Rowswrite_from.binds fun _ _ _ _ _ _ us hl => match us, hl with | [_, _], _ => rfl
  obtain ⟨d_NoWritesinit, Z_NoWritesinit⟩ := c.def_ 22 (d := dN "NoWrites" "__init__" mNwInit) rfl
  have F_NoWritesinit : Fun K "__init__" "NoWrites.__init__" mNwInit (He.ma K (He.ga K "NoWrites") "__init__") d_NoWritesinit := Fun.ofD (st := mNwInit) Z_NoWritesinit
  have b_NoWritesinit : Binds K d_NoWritesinit ["self", "at"] [] := F_NoWritesinit.binds fun _ _ _ _ _ _ us hl => match us, hl with | [_, _], _ => rfl
  obtain ⟨d_NoSpareinit, Z_NoSpareinit⟩ := c.def_ 23 (d := dN "NoSpare" "__init__" mNsInit) rfl
  have F_NoSpareinit : Fun K "__init__" "NoSpare.__init__" mNsInit (He.ma K (He.ga K "NoSpare") "__init__") d_NoSpareinit := Fun.ofD (st := mNsInit) Z_NoSpareinit
  have b_NoSpareinit : Binds K d_NoSpareinit ["self", "spare"] [] := F_NoSpareinit.binds fun _ _ _ _ _ _ us hl => match us, hl with | [_, _], _ => rfl
  have e := hfa.symm.trans g_law
  cases e
  have B : Bn mg := ⟨He.free_ok X G (x := "isinstance") (A 22 rfl), He.free_ok X G (x := "list") (A 23 rfl), He.free_ok X G (x := "tuple") (A 24 rfl), He.free_ok X G (x := "str") (A 25 rfl), He.free_ok X G (x := "int") (A 26 rfl), He.free_ok X G (x := "bool") (A 27 rfl), He.free_ok X G (x := "len") (A 28 rfl), He.free_ok X G (x := "any") (A 29 rfl), He.free_ok X G (x := "enumerate") (A 30 rfl), He.free_ok X G (x := "dict") (A 31 rfl), He.free_ok X G (x := "zip") (A 32 rfl), He.free_ok X G (x := "range") (A 33 rfl), He.free_ok X G (x := "min") (A 34 rfl)⟩
  have kR : RwC K (He.ga K "Rows") := ⟨He.cls_ok (A 37 rfl), He.noat_ok (A 38 rfl), He.noat_ok (A 39 rfl), He.noat_ok (A 40 rfl)⟩
  have MK := He.mkr_ok (A 41 rfl)
  have MF := He.meth_ok (A 42 rfl)
  have MA := He.meth_ok (A 43 rfl)
  have bl := FunD.bindsA (ps := ["_law_script"]) Z_law fun _ _ _ _ _ _ us hl => match us, hl with | [_], _ => rfl
  refine ⟨d_law, fun s v => bl s [v] rfl, fun base _ _ => ?_⟩
  have c_row := calOf (P := P) (w := w) (base := base) F_is_row g_is_row b_is_row (cIsRow F_is_row B)
  have c_tup := calOf (P := P) (w := w) (base := base) F_is_tuple g_is_tuple b_is_tuple (cIsTuple F_is_tuple B)
  have c_int := calOf (P := P) (w := w) (base := base) F_is_integer g_is_integer b_is_integer (cIsInt F_is_integer B)
  have c_mark := calOf (P := P) (w := w) (base := base) F_is_mark g_is_mark b_is_mark (cIsMark F_is_mark c_int)
  have c_write := calOf (P := P) (w := w) (base := base) F_is_write g_is_write b_is_write (cIsWrite F_is_write B c_tup c_mark)
  have c_marks := calOf (P := P) (w := w) (base := base) F_marks_of g_marks_of b_marks_of (cMarksOf F_marks_of B)
  have NW : Er1 P w K mg base "NoWrites" "at" (He.ga K "NoWrites") := ⟨He.glo_ok X G (x := "NoWrites") (A 10 rfl), (errB_ok cW.1).o, He.eqO_ok cW.2.1, _, _, He.eqO_ok cW.2.2.1, cW.2.2.2, kNw F_NoWritesinit, b_NoWritesinit⟩
  have NS : Er1 P w K mg base "NoSpare" "spare" (He.ga K "NoSpare") := ⟨He.glo_ok X G (x := "NoSpare") (A 11 rfl), (errB_ok cS.1).o, He.eqO_ok cS.2.1, _, _, He.eqO_ok cS.2.2.1, cS.2.2.2, kNs F_NoSpareinit, b_NoSpareinit⟩
  have k_wf := kWf (P := P) (w := w) (base := base) F_Rowswrite_from kR B.isi B.str
  have k_wa := kWa F_Rowswrite_all kR MF k_wf b_Rowswrite_from B.lst
  have k_sq := kSq F_sequence kR MK (He.glo_ok X G (x := "Rows") (A 9 rfl)) (kRI F_Rowsinit kR) b_Rowsinit g_check_writes F_check_writes.kp (kCW F_check_writes B NW c_row c_write) b_check_writes g_check_spare F_check_spare.kp (kCS F_check_spare B NS c_mark c_marks) b_check_spare MA k_wa b_Rowswrite_all
  have c_next : C8.Cal P w K mg base 1 "_law_next" spNext [] := calOf F__law_next g__law_next b__law_next (okNext F__law_next B.int)
  have c_src : C8.Cal P w K mg base 1 "_law_source_of" spSrc [] := calOf F__law_source_of g__law_source_of b__law_source_of (okSrc F__law_source_of B.int)
  have c_one : C8.Cal P w K mg base 2 "_law_one" (spOne K) [] := calOf F__law_one g__law_one b__law_one (okOne F__law_one F__law_next b__law_next g__law_next B.int B.len)
  have c_mix : C8.Cal P w K mg base 2 "_law_mixed" (spMix K) [] := calOf F__law_mixed g__law_mixed b__law_mixed (okMix F__law_mixed F__law_next b__law_next g__law_next B.int B.len B.lst)
  have gRep := He.free_ok X G (x := "repr") (A 35 rfl)
  have c_wi := calOf (P := P) (w := w) (base := base) F__law_writes g__law_writes b__law_writes (kWi F__law_writes B c_next c_one c_mix)
  have c_dn := calOf (P := P) (w := w) (base := base) F__law_done g__law_done b__law_done (kDn F__law_done B)
  have c_cy := calOf (P := P) (w := w) (base := base) F__law_cycle g__law_cycle b__law_cycle (kCy F__law_cycle B)
  have c_am := calOf (P := P) (w := w) (base := base) F__law_amount g__law_amount b__law_amount (kAm F__law_amount B (He.free_ok X G (x := "sorted") (A 36 rfl)) (He.free_ok X G (x := "min") (A 34 rfl)) c_cy)
  have c_ri := calOf (P := P) (w := w) (base := base) F__law_right g__law_right b__law_right (kRi F__law_right B c_am c_dn)
  exact kLa F_law B gRep c_src c_one c_mix c_wi c_ri g_sequence F_sequence.kp k_sq b_sequence
end
/-! ### the run -/
abbrev R : PySem.W.OpenRow := PySem.W.OpenLaw.row PySem.Challenge.rw_leastmarks_k39_writes_done_one_by_one
abbrev hk : PySem.W.Hook := He.hookQ 6 ck fn
def ob (s : PySem.W.SharedT) : He.AlD := He.obsQG 6 ck fn (HandSHeadRun.getT s)
theorem ob_eq (s : PySem.W.SharedT) : ob s = hk.obs s.abs := He.obsQG_eq (HandSHeadRun.getT_eq s)
def loose : List Str := ["__name__", "MarkError", "NoWrites", "NoSpare", "is_row", "is_tuple", "is_integer", "is_mark", "is_write", "marks_of", "sequence", "check_writes", "check_spare", "Rows", "_law_source_of", "_law_next", "_law_one", "_law_mixed", "_law_writes", "_law_done", "_law_cycle", "_law_amount", "_law_right"]
end Lm

namespace Lm
open PySem PySem.Spec PyProof.Rows L2 LmS
theorem run (w : World) : HandSHeadRun.RunEq R (PySem.W.view R.prog [27]) hk ob 6000 loose w := by
  intro os
  kernel_rfl
end Lm
open PySem PySem.W PySem.Calls PyProof.Rows
theorem PySem.Challenge.cw_leastmarks_k39_writes_done_one_by_one_holds : PySem.Challenge.rw_leastmarks_k39_writes_done_one_by_one.Holds := by
  w_on; o_law
  refine HandSHeadRun.head_any (r := OpenLaw.row PySem.Challenge.rw_leastmarks_k39_writes_done_one_by_one) (q := view (OpenLaw.row PySem.Challenge.rw_leastmarks_k39_writes_done_one_by_one).prog [27]) (H := Lm.hk) (ob := Lm.ob) (M := 6000) (loose := Lm.loose) (d := HandSHeadRun.topDef (OpenLaw.row PySem.Challenge.rw_leastmarks_k39_writes_done_one_by_one).prog 27) (kwd := []) Lm.ob_eq
    (by kernel_rfl) (fun s => by kernel_rfl) Lm.run (by kernel_rfl) (by kernel_rfl) (by kernel_rfl) (by rfl) (by first | assumption | decide +kernel) (by decide +kernel) ⟨rfl, rfl, rfl, rfl, rfl, by decide +kernel⟩ ?hw ?hc
  case hw => w_witness2
  case hc =>
    refine L2.walk_ofG (l := PySem.Challenge.rw_leastmarks_k39_writes_done_one_by_one) (n := 63) (k := 6) (x := "_law_script") rfl (by decide) (by kernel_rfl) ⟨rfl, by decide, by decide⟩ ?F
    intro w mg fa h Y G hmg0
    obtain ⟨K, KX, c⟩ := Y
    have hmg : mg ("law" : PySem.Str) = some (.ref fa) := by
      have e : (HandSHeadRun.topDef (OpenLaw.row PySem.Challenge.rw_leastmarks_k39_writes_done_one_by_one).prog 27).name = ("law" : PySem.Str) := by kernel_rfl
      rw [← e]
      exact hmg0
    obtain ⟨fd, hb, hF⟩ := Lm.facts (P := (PySem.Challenge.rw_leastmarks_k39_writes_done_one_by_one).prog) (w := w) KX G hmg c
    exact ⟨K, fd, Lm.spLa K, KX, hb, fun H a ns hl hS => ⟨a, ns, rfl, by omega, hS, fun _ => rfl⟩, hF⟩
