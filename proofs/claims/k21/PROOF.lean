import PyProof.Rows.All
import Wide.All
import OpenK.AllK
import Wide.FinOn
import Lean
import KE.GoesEnum
import KE.KTupSum
import KE.KRevSl
import KE.GoesMore
import KE.GoesZip
import KE.DataMinMax
import KE.SortData
import PyProof.EqAt
import PyProof.EqKinds
import PyProof.TupleCall
import HandS.Base
import HandS.Call
import HandS.List
import HandS.Comp
import HandS.Ends
import HandS.Dict
import HandS.Iter
import HandS.Walk
import HandS.Text
import HandS.Words
import HandS.WordsList
import HandS.WordsDict
import HandS.Exc
import HandS.Zip
import HandS.Conv
import HandS.TryOnly
import HandS.TupAny
import HandS.Style
import HandS.IsInst
import HandS.Wide
import HandS.Defaults
import HandS.Head0
import HandS.Head1
import HandS.Head2
import HandS.HeadEnd
import HandS.HeadHook1
import HandS.HeadHook2
import HandS.Star
import HandS.SetFor
import HandS.Head3
import HandS.TupMul
import HandS.Codes
import HandS.Strs
import HandS.Lambda
import KE.DataMinKey
import HandS.EndTab
import HandS.HeadWalk
import HandS.Small
import HandS.ExcOwn
import HandS.ExcCtx
import HandS.ExcIs
import HandS.HotCalls
import PySem.Challenge.RW_evenrows_k21_orders_refused
import HandS.FStr

set_option Elab.async false
set_option linter.all false
set_option maxRecDepth 100000
set_option maxHeartbeats 4000000

namespace Ly
open PySem PySem.Spec PyProof.Rows L2

/-! ### the text by names: a def as it stands, a def as it is called -/
/-- the def st stands under the module's name x -/
structure At (K : PySem.W.Frag) (mg : Str → Option Value) (x : Str) (st : Stmt) (kws : List (Str × V)) : Prop where
  ex : ∃ f fd, FunD K x x (defArgs st) (defBody st) (defScope st) [] kws f fd ∧ mg x = some (.ref f)
/-- the module's name x can be called by so many positional values, and keeps the promise sp -/
structure Cal (P : Program) (w : World) (K : PySem.W.Frag) (mg : Str → Option Value) (base : Heap) (k : Nat) (x : Str) (ps : List Str) (sp : Sp) : Prop where
  ex : ∃ f fd, FnOk P w K mg base CX0 k f fd ps sp ∧ mg x = some (.ref f) ∧ PySem.W.keepIn K (.ref f) = true ∧ Binds K fd ps []
/-- with the default of its one keyword-only name filled in -/
structure CalD (P : Program) (w : World) (K : PySem.W.Frag) (mg : Str → Option Value) (base : Heap) (k : Nat) (x : Str) (ps : List Str) (sp : Sp) (dv : V) : Prop where
  ex : ∃ f fd ds, FnOk P w K mg base CX0 k f fd ps sp ∧ mg x = some (.ref f) ∧ PySem.W.keepIn K (.ref f) = true ∧ Binds K fd ps ds ∧ Vals [dv] ds
/-- with its one keyword-only name written, behind n others -/
structure CalK (P : Program) (w : World) (K : PySem.W.Frag) (mg : Str → Option Value) (base : Heap) (k : Nat) (x : Str) (ps : List Str) (sp : Sp) (n : Nat) (kw : Str) : Prop where
  ex : ∃ f fd, FnOk P w K mg base CX0 k f fd ps sp ∧ mg x = some (.ref f) ∧ PySem.W.keepIn K (.ref f) = true ∧ KBn K fd ps n [kw] (fun us ws => us ++ ws) (fun vs zs => vs ++ zs)

section
variable {X : Cx} {j k : Nat} {x : Str} {ps : List Str} {sp : Sp} {p pos : Pos} {e : Expr} {es : List Expr} {t : TA} {dv : V}
theorem pe_cal (C : Cal X.prog X.w X.K X.mg X.base j x ps sp) (hr : Room k X.A) (hj : j ≤ k) (ha : PA X (e :: es) t) (hg : Gl X x := by rfl) (hdb : (x == ("__debug__" : Str)) = false := by decide)
    (he : starEach (e :: es) X.env = (false, eval e X.env) :: starEach es X.env := by rfl) (hpl : (backTo pos (starEach es X.env)).any (·.1) = false := by rfl) :
    PE X (.Call (.Name x p) (e :: es) [] pos) (tCall sp [] E0 t) := by
  obtain ⟨f, fd, F, m, kp, b⟩ := C.ex
  exact pe_call F (hr.mono hj) hg m kp b .nil pass0 ha hdb he hpl
theorem pe_calD (C : CalD X.prog X.w X.K X.mg X.base j x ps sp dv) (hr : Room k X.A) (hj : j ≤ k) (ha : PA X (e :: es) t) (hg : Gl X x := by rfl) (hdb : (x == ("__debug__" : Str)) = false := by decide)
    (he : starEach (e :: es) X.env = (false, eval e X.env) :: starEach es X.env := by rfl) (hpl : (backTo pos (starEach es X.env)).any (·.1) = false := by rfl) :
    PE X (.Call (.Name x p) (e :: es) [] pos) (tCall sp [dv] E0 t) := by
  obtain ⟨f, fd, ds, F, m, kp, b, r⟩ := C.ex
  exact pe_call F (hr.mono hj) hg m kp b r pass0 ha hdb he hpl
theorem pe_calK {n : Nat} {kw : Str} {kws : List Keyword} {tk : TA} (C : CalK X.prog X.w X.K X.mg X.base j x ps sp n kw) (hr : Room k X.A) (hj : j ≤ k) (ha : PA X (e :: es) t) (hkw : PK X kws tk) (hg : Gl X x := by rfl)
    (hall : (backToKw pos (keywordEach kws X.env)).all (·.1.isSome) = true := by rfl) (hks : (backToKw pos (keywordEach kws X.env)).filterMap (·.1) = [kw] := by rfl) (hdb : (x == ("__debug__" : Str)) = false := by decide)
    (he : starEach (e :: es) X.env = (false, eval e X.env) :: starEach es X.env := by rfl)
    (hpl : ((backTo pos (starEach (e :: es) X.env)).any (·.1) || (backToKw pos (keywordEach kws X.env)).any (·.1.isNone)) = false := by rfl) :
    PE X (.Call (.Name x p) (e :: es) kws pos) (tCallN n 1 sp (fun vs zs => vs ++ zs) E0 t tk) := by
  obtain ⟨f, fd, F, m, kp, b⟩ := C.ex
  exact pe_callN F (hr.mono hj) hg m kp b pass0 ha hkw hall hks hdb he hpl
/-- a module's whole number -/
theorem pe_kon {y : Str} {i : Int} {q : Pos} (h : ∃ t, X.mg y = some (.int i t)) (hg : Gl X y := by rfl) (hd : (y == ("__debug__" : Str)) = false := by decide) : PE X (.Name y q) (tC (.int i)) := by
  obtain ⟨u, m⟩ := h
  exact pe_glob hg m ⟨u, rfl⟩ hd
/-- a built-in class as a value -/
theorem pe_ty {y : Str} {n : String} {q : Pos} (hg : Gl X y) (hm : X.mg y = none) (hv : bootBuiltins y = some (.type n)) (hn : y ≠ "__name__" := by decide) (hd : (y == ("__debug__" : Str)) = false := by decide) : PE X (.Name y q) (tC (.ty n)) := pe_bltn hg hm hv rfl hn hd
end
theorem bt_len : bootBuiltins "len" = some (.builtin "len") := by decide +kernel
theorem bt_sum : bootBuiltins "sum" = some (.builtin "sum") := by decide +kernel
theorem bt_all : bootBuiltins "all" = some (.builtin "all") := by decide +kernel
theorem bt_any : bootBuiltins "any" = some (.builtin "any") := by decide +kernel
theorem bt_min : bootBuiltins "min" = some (.builtin "min") := by decide +kernel
theorem bt_max : bootBuiltins "max" = some (.builtin "max") := by decide +kernel
theorem bt_abs : bootBuiltins "abs" = some (.builtin "abs") := by decide +kernel
theorem bt_isinstance : bootBuiltins "isinstance" = some (.builtin "isinstance") := by decide +kernel
theorem bt_int : bootBuiltins "int" = some (.type "int") := by decide +kernel
theorem bt_bool : bootBuiltins "bool" = some (.type "bool") := by decide +kernel
theorem bt_tuple : bootBuiltins "tuple" = some (.type "tuple") := by decide +kernel
theorem bt_list : bootBuiltins "list" = some (.type "list") := by decide +kernel
theorem bt_str : bootBuiltins "str" = some (.type "str") := by decide +kernel

section
variable {P : Program} {w : World} {K : PySem.W.Frag} {mg : Str → Option Value} {base : Heap} {x : Str} {st : Stmt} {N ps : List Str} {k : Nat} {sp : Sp} {kws : List (Str × V)}
/-- a def's body walked: its promise -/
theorem At.fn (F : At K mg x st kws) (S : FnScope N ps (defScope st)) (len : ∀ vs H Q E, sp vs H Q E → vs.length = ps.length)
    (hbody : ∀ (cdv : Value) (A : Around) (outer : List Env) (s : Shared) (H : Hp) (vs : List V) (Q : VK) (E : XK) (f : Addr), Room k (A.deeper (envOfC x (defScope st) s.heap.objs.size f cdv)) → sp vs H Q E →
      ∃ t, PSs (cxOf CX0 P w K mg base N x (defScope st) f cdv A outer s H E).nox (defBody st) t ∧ t { nx := fun _ H' => Q .non H', rt := Q } (start N vs) H) :
    ∃ f fd, FunD K x x (defArgs st) (defBody st) (defScope st) [] kws f fd ∧ mg x = some (.ref f) ∧ FnOk P w K mg base CX0 (k + 1) f fd ps sp := by
  obtain ⟨f, fd, F, m⟩ := F.ex
  refine ⟨f, fd, F, m, F.ok (CX := CX0) S len fun cdv A outer s H vs Q E hr h => ?_⟩
  obtain ⟨t, h1, h2⟩ := hbody cdv A outer s H vs Q E f hr h
  exact ⟨t, PSs.nox h1, h2⟩
theorem At.cal (F : At K mg x st []) (S : FnScope N ps (defScope st))
    (hb : ∀ (kV doc pm : Value) (an : Option Addr) (cdv ct : Value) (us : List Value), us.length = ps.length → bindArgs (PySem.W.fnOf x x (defArgs st) (defBody st) (defScope st) .none kV doc pm an cdv ct) ⟨us, []⟩ = pure (ps.zip us))
    (len : ∀ vs H Q E, sp vs H Q E → vs.length = ps.length)
    (hbody : ∀ (cdv : Value) (A : Around) (outer : List Env) (s : Shared) (H : Hp) (vs : List V) (Q : VK) (E : XK) (f : Addr), Room k (A.deeper (envOfC x (defScope st) s.heap.objs.size f cdv)) → sp vs H Q E →
      ∃ t, PSs (cxOf CX0 P w K mg base N x (defScope st) f cdv A outer s H E).nox (defBody st) t ∧ t { nx := fun _ H' => Q .non H', rt := Q } (start N vs) H) : Cal P w K mg base (k + 1) x ps sp := by
  obtain ⟨f, fd, F, m, G⟩ := F.fn S len hbody
  exact ⟨f, fd, G, m, F.kp, F.bindsN hb⟩
end
section
variable {P : Program} {w : World} {K : PySem.W.Frag} {mg : Str → Option Value} {base : Heap} {x : Str} {st : Stmt} {N ps : List Str} {k : Nat} {sp : Sp} {kws : List (Str × V)} {f : Addr} {fd : FuncData}
/-- the law's own def, at a given place -/
theorem fn_ok (F : FunD K x x (defArgs st) (defBody st) (defScope st) [] kws f fd) (S : FnScope N ps (defScope st)) (len : ∀ vs H Q E, sp vs H Q E → vs.length = ps.length)
    (hbody : ∀ (cdv : Value) (A : Around) (outer : List Env) (s : Shared) (H : Hp) (vs : List V) (Q : VK) (E : XK), Room k (A.deeper (envOfC x (defScope st) s.heap.objs.size f cdv)) → sp vs H Q E →
      ∃ t, PSs (cxOf CX0 P w K mg base N x (defScope st) f cdv A outer s H E).nox (defBody st) t ∧ t { nx := fun _ H' => Q .non H', rt := Q } (start N vs) H) : FnOk P w K mg base CX0 (k + 1) f fd ps sp :=
  F.ok (CX := CX0) S len fun cdv A outer s H vs Q E hr h => by
    obtain ⟨t, h1, h2⟩ := hbody cdv A outer s H vs Q E hr h
    exact ⟨t, PSs.nox h1, h2⟩
/-- a def among the head's facts -/
theorem at_of {fa : List He.Fa} {fn : List He.DefD} {h : Heap} {d : He.DefD} (X : K.In h) (G : h.Ns mainGlobals mg) (c : He.SaysD fa fn K) (i j : Nat) (hd : fn[i]? = some d) (hf : fa[j]? = some (.glo x)) (e : d = ⟨(x, none), x, x, defArgs st, defBody st, defScope st, [], d.kwd⟩) : At K mg x st (d.kws K) := by
  obtain ⟨fd, F⟩ := c.def_ i (d := d) hd
  rw [e] at F
  exact ⟨_, fd, F, He.glo_ok X G (c.fact j (f := .glo x) hf)⟩
end
/-- how so many parameters bind -/
theorem len1 {a : List V} {v : V} (h : a = [v]) : a.length = 1 := by rw [h]; rfl

/-! ### heaps -/
theorem same_new {H : Hp} {p : Addr} {o : HO} (h : H p = none) : Same H (upd H p o) := fun b x e => by
  rw [upd_ne (ne_of_none e h)]
  exact e
theorem same_then {H H' : Hp} {p : Addr} {o : HO} (s : Same H H') (h : H' p = none) : Same H (upd H' p o) := fun b x e => same_new h b x (s b x e)
theorem seqL {K : PySem.W.Frag} {H H' : Hp} {a : Addr} {xs : List V} (s : Same H H') (h : SqL K H a xs) : SqL K H' a xs := by
  rcases h with (h | ⟨o, h⟩) | h
  · exact .inl (.inl (s _ _ h))
  · exact .inl (.inr ⟨o, s _ _ h⟩)
  · exact .inr h
theorem seqT {K : PySem.W.Frag} {H H' : Hp} {a : Addr} {xs : List V} (s : Same H H') (h : SqT K H a xs) : SqT K H' a xs := by
  rcases h with (h | ⟨o, h⟩) | h
  · exact .inl (.inl (s _ _ h))
  · exact .inl (.inr ⟨o, s _ _ h⟩)
  · exact .inr h
theorem none_back {H H' : Hp} {p : Addr} (s : Same H H') (n : H' p = none) : H p = none := by
  cases e : H p with
  | none => rfl
  | some o =>
    rw [s _ _ e] at n
    cases n
theorem flat_rep {α : Type} (v : α) : ∀ n : Nat, (List.replicate n [v]).flatten = List.replicate n v
  | 0 => rfl
  | n + 1 => by
    rw [List.replicate_succ, List.flatten_cons, flat_rep v n]
    rfl
/-- all but what stands at b is as it was -/
def But (b : Addr) (H H' : Hp) : Prop := ∀ c o, c ≠ b → H c = some o → H' c = some o
theorem But.refl (b : Addr) (H : Hp) : But b H H := fun _ _ _ e => e
theorem But.trans {b : Addr} {H H1 H2 : Hp} (h : But b H H1) (k : But b H1 H2) : But b H H2 := fun c o n e => k c o n (h c o n e)
theorem But.of_same {b : Addr} {H H' : Hp} (s : Same H H') : But b H H' := fun c o _ e => s c o e
theorem But.at {b : Addr} {H : Hp} {o : HO} : But b H (upd H b o) := fun c o n e => by
  rw [upd_ne n]
  exact e
theorem But.same {b : Addr} {H H1 H2 : Hp} (h : But b H H1) (s : Same H1 H2) : But b H H2 := h.trans (.of_same s)
/-- the town at b: a list of so many things at most -/
def Town (b : Addr) (n : Nat) (H : Hp) : Prop := ∃ xs, H b = some (.lst xs) ∧ xs.length ≤ n
theorem Town.same {b : Addr} {n : Nat} {H H' : Hp} (s : Same H H') (h : Town b n H) : Town b n H' := by
  obtain ⟨xs, e, l⟩ := h
  exact ⟨xs, s _ _ e, l⟩
theorem Town.le {b : Addr} {n m : Nat} {H : Hp} (h : Town b n H) (l : n ≤ m) : Town b m H := by
  obtain ⟨xs, e, q⟩ := h
  exact ⟨xs, e, Nat.le_trans q l⟩
theorem Town.ne_new {b p : Addr} {n : Nat} {H : Hp} (h : Town b n H) (np : H p = none) : p ≠ b := fun z => by
  obtain ⟨xs, e, _⟩ := h
  rw [← z, np] at e
  cases e
theorem but_none {b : Addr} {H H' : Hp} {p : Addr} (s : But b H H') (nb : p ≠ b) (n : H' p = none) : H p = none := by
  cases e : H p with
  | none => rfl
  | some o =>
    rw [s _ _ nb e] at n
    cases n
theorem butL {K : PySem.W.Frag} {b : Addr} {H H' : Hp} {a : Addr} {xs : List V} (s : But b H H') (n : a ≠ b) (h : SqL K H a xs) : SqL K H' a xs := by
  rcases h with (h | ⟨o, h⟩) | h
  · exact .inl (.inl (s _ _ n h))
  · exact .inl (.inr ⟨o, s _ _ n h⟩)
  · exact .inr h
theorem butT {K : PySem.W.Frag} {b : Addr} {H H' : Hp} {a : Addr} {xs : List V} (s : But b H H') (n : a ≠ b) (h : SqT K H a xs) : SqT K H' a xs := by
  rcases h with (h | ⟨o, h⟩) | h
  · exact .inl (.inl (s _ _ n h))
  · exact .inl (.inr ⟨o, s _ _ n h⟩)
  · exact .inr h
/-- the script at a is read, and what stands at b is another thing -/
def Scr (K : PySem.W.Frag) (H : Hp) (b a : Addr) (ns : List Int) : Prop := ns.length ≤ 63 ∧ ((∀ H', SqL K H' a (ns.map V.int)) ∨ (SqL K H a (ns.map V.int) ∧ a ≠ b))
theorem Scr.sq {K : PySem.W.Frag} {H : Hp} {b a : Addr} {ns : List Int} (h : Scr K H b a ns) : SqL K H a (ns.map V.int) := h.2.elim (fun k => k H) (fun k => k.1)
theorem Scr.but {K : PySem.W.Frag} {H H' : Hp} {b a : Addr} {ns : List Int} (h : Scr K H b a ns) (s : But b H H') : Scr K H' b a ns := ⟨h.1, h.2.elim (fun k => .inl k) (fun k => .inr ⟨butL s k.2 k.1, k.2⟩)⟩
theorem Scr.same {K : PySem.W.Frag} {H H' : Hp} {b a : Addr} {ns : List Int} (h : Scr K H b a ns) (s : Same H H') : Scr K H' b a ns := h.but (.of_same s)
theorem Scr.of {K : PySem.W.Frag} {H : Hp} {b a : Addr} {ns : List Int} {o : HO} (h : SqL K H a (ns.map V.int)) (l : ns.length ≤ 63) (n : H b = none) : Scr K (upd H b o) b a ns := by
  rcases h with (h | ⟨u, h⟩) | h
  · exact ⟨l, .inr ⟨.inl (.inl (by rw [upd_ne (ne_of_none h n)]; exact h)), ne_of_none h n⟩⟩
  · exact ⟨l, .inr ⟨.inl (.inr ⟨u, by rw [upd_ne (ne_of_none h n)]; exact h⟩), ne_of_none h n⟩⟩
  · exact ⟨l, .inl fun _ => .inr h⟩
theorem szl {n : Nat} (h : n < 100000) : n < sizeLine := Nat.lt_of_lt_of_le h (by decide)
theorem sz {n : Nat} (h : n ≤ 100000) : n ≤ sizeLine := Nat.le_trans h (by decide)

/-! ### further rules -/
/-- an item read by place, the place not below 0 -/
def rGetL (K : PySem.W.Frag) : V → V → Hp → VK → Prop := fun o i H Q => ∃ (p : Addr) (xs : List V) (j : Nat) (v : V), o = .ref p ∧ i = .int (j : Int) ∧ SqL K H p xs ∧ xs[j]? = some v ∧ Q v H
section
variable {X : Cx}
theorem get_list : PGet X (rGetL X.K) := by
  intro pins s σ H o i ov iv Q I ro ri h
  obtain ⟨p, xs, j, z, rfl, rfl, hq, he, q⟩ := h
  cases ro
  obtain ⟨t, rfl⟩ := ri
  obtain ⟨its, r, pl, hz⟩ := I.list hq
  obtain ⟨w, ew, rw'⟩ := r.get he
  have hl := r.length
  have hn := line63
  have hj : j < its.length := (List.getElem?_eq_some_iff.mp ew).1
  exact wpAny_getItem_list pl.isList (by omega) (by omega) (by simpa using ew) ⟨z, H, I, rw', q⟩
end
theorem m2_of {X : Cx} {o : Expr} {m : Str} {apos : Pos} {e f : Expr} {cpos : Pos} (h1 : attributeBase o m X.env (eval o X.env) = eval o X.env := by rfl)
    (h2 : ((backTo cpos (starEach [e, f] X.env)).all (fun x => !x.1) && (backToKw cpos (keywordEach [] X.env)).all (fun x => x.1.isSome) && decide (([e, f] : List Expr).length + ([] : List Keyword).length + (if ([] : List Keyword).isEmpty then 0 else 1) < 30)) = true := by rfl)
    (h3 : (apos.endLine == cpos.line) = true := by rfl) (h4 : backTo cpos (starEach [e, f] X.env) = [(false, eval e X.env), (false, eval f X.env)] := by rfl) : M2 X o m apos e f cpos := ⟨h1, h2, h3, h4⟩

/-! ### data compared -/
theorem dp_ints {K : PySem.W.Frag} {H : Hp} : ∀ ns : List Int, DpAll K H (ns.map V.int) (ns.map PyData.int)
  | [] => .nil
  | n :: r => .cons (.int n) (dp_ints r)
theorem eqvAll_ints : ∀ ns ms : List Int, PyData.eqvAll (ns.map PyData.int) (ms.map PyData.int) = decide (ns = ms)
  | [], [] => by simp [PyData.eqvAll]
  | [], _ :: _ => by simp [PyData.eqvAll]
  | _ :: _, [] => by simp [PyData.eqvAll]
  | a :: r, b :: t => by
    simp only [List.map_cons, PyData.eqvAll, PyData.eqv, eqvAll_ints r t]
    by_cases h : a = b <;> by_cases h2 : r = t <;> simp [h, h2]
theorem eqv_lst (ns ms : List Int) : PyData.eqv (.list (ns.map PyData.int)) (.list (ms.map PyData.int)) = decide (ns = ms) := by
  simp only [PyData.eqv]
  exact eqvAll_ints ns ms
theorem eqv_tup (ns ms : List Int) : PyData.eqv (.tuple (ns.map PyData.int)) (.tuple (ms.map PyData.int)) = decide (ns = ms) := by
  simp only [PyData.eqv]
  exact eqvAll_ints ns ms
theorem shaped_lst (ns : List Int) : SeqAt.shaped (.list (ns.map PyData.int)) = true := by
  simp [SeqAt.shaped, PyData.canLay0, PyData.depth, PySem.W.ke_canLayAll0, PySem.W.ke_depthAll]
theorem shaped_tup (ns : List Int) : SeqAt.shaped (.tuple (ns.map PyData.int)) = true := by
  simp [SeqAt.shaped, PyData.canLay0, PyData.depth, PySem.W.ke_canLayAll0, PySem.W.ke_depthAll]
section
variable {K : PySem.W.Frag} {H : Hp} {a b : Addr} {ns ms : List Int} {Q : VK}
theorem eqL (h1 : SqL K H a (ns.map V.int)) (h2 : SqL K H b (ms.map V.int)) (q : Q (.bl (decide (ns = ms))) H) : rEqD K (.ref a) (.ref b) H Q :=
  ⟨_, _, .lst h1 (dp_ints ns), .lst h2 (dp_ints ms), shaped_lst ns, shaped_lst ms, by rw [eqv_lst]; exact q⟩
theorem neL (h1 : SqL K H a (ns.map V.int)) (h2 : SqL K H b (ms.map V.int)) (q : Q (.bl (!decide (ns = ms))) H) : rNeD K (.ref a) (.ref b) H Q :=
  ⟨_, _, .lst h1 (dp_ints ns), .lst h2 (dp_ints ms), shaped_lst ns, shaped_lst ms, by rw [eqv_lst]; exact q⟩
theorem eqT (h1 : SqT K H a (ns.map V.int)) (h2 : SqT K H b (ms.map V.int)) (q : Q (.bl (decide (ns = ms))) H) : rEqD K (.ref a) (.ref b) H Q :=
  ⟨_, _, .tup h1 (dp_ints ns), .tup h2 (dp_ints ms), shaped_tup ns, shaped_tup ms, by rw [eqv_tup]; exact q⟩
theorem neT (h1 : SqT K H a (ns.map V.int)) (h2 : SqT K H b (ms.map V.int)) (q : Q (.bl (!decide (ns = ms))) H) : rNeD K (.ref a) (.ref b) H Q :=
  ⟨_, _, .tup h1 (dp_ints ns), .tup h2 (dp_ints ms), shaped_tup ns, shaped_tup ms, by rw [eqv_tup]; exact q⟩
/-- a list is not empty, or is -/
theorem eqL0 (h1 : SqL K H a (ns.map V.int)) (h2 : H b = some (.lst [])) (q : Q (.bl (decide (ns = []))) H) : rEqD K (.ref a) (.ref b) H Q := eqL (ms := []) h1 (.inl (.inl h2)) q
end
/-- lines of whole numbers -/
def Flat (d : PyData) : Prop := ∃ ns : List Int, d = .list (ns.map PyData.int) ∨ d = .tuple (ns.map PyData.int)
theorem flat_lay : ∀ ds : List PyData, (∀ d ∈ ds, Flat d) → PyData.canLayAll0 ds = true ∧ PyData.depthAll ds ≤ 1
  | [], _ => by simp [PyData.canLayAll0, PyData.depthAll]
  | d :: r, h => by
    obtain ⟨h1, h2⟩ := flat_lay r fun x hx => h x (List.mem_cons_of_mem _ hx)
    obtain ⟨ns, e | e⟩ := h d List.mem_cons_self
    · rw [e]
      simp [PyData.canLayAll0, PyData.depthAll, PyData.canLay0, PyData.depth, PySem.W.ke_canLayAll0, PySem.W.ke_depthAll, h1]
      omega
    · rw [e]
      simp [PyData.canLayAll0, PyData.depthAll, PyData.canLay0, PyData.depth, PySem.W.ke_canLayAll0, PySem.W.ke_depthAll, h1]
      omega
theorem shaped_flat {ds : List PyData} (h : ∀ d ∈ ds, Flat d) : SeqAt.shaped (.list ds) = true := by
  obtain ⟨h1, h2⟩ := flat_lay ds h
  simp [SeqAt.shaped, PyData.canLay0, PyData.depth, h1]
  omega
theorem eqv_nil (ds : List PyData) : PyData.eqv (.list ds) (.list []) = decide (ds = []) := by
  cases ds <;> simp [PyData.eqv, PyData.eqvAll]
theorem shaped_nil : SeqAt.shaped (.list []) = true := shaped_flat fun _ h => (nomatch h)
section
variable {K : PySem.W.Frag} {H : Hp} {a b : Addr} {xs : List V} {ds : List PyData} {Q : VK}
/-- a list of lines is empty, or is not -/
theorem eqF0 (h1 : SqL K H a xs) (hd : DpAll K H xs ds) (hf : ∀ d ∈ ds, Flat d) (h2 : H b = some (.lst [])) (q : Q (.bl (decide (ds = []))) H) : rEqD K (.ref a) (.ref b) H Q :=
  ⟨_, _, .lst h1 hd, .lst (.inl (.inl h2)) .nil, shaped_flat hf, shaped_nil, by rw [eqv_nil]; exact q⟩
end
theorem at_int {ns : List Int} {j : Nat} {z : Int} (h : ns[j]? = some z) : atI (ns.map V.int) (j : Int) = some (.int z) := atI_nat (by rw [List.getElem?_map, h]; rfl)
theorem at_intE {ns : List Int} {i : Int} {j : Nat} {z : Int} (e : i = (j : Int)) (h : ns[j]? = some z) : atI (ns.map V.int) i = some (.int z) := by
  rw [e]
  exact at_int h
theorem at_intI {ns : List Int} {i : Int} (h0 : 0 ≤ i) (h : i < ns.length) : atI (ns.map V.int) i = some (.int (ns.getD i.toNat 0)) := by
  have e : ((i.toNat : Nat) : Int) = i := Int.toNat_of_nonneg h0
  rw [← e]
  have l : i.toNat < ns.length := by omega
  refine at_int ?_
  rw [Int.toNat_natCast, List.getElem?_eq_getElem l, List.getD_eq_getElem?_getD, List.getElem?_eq_getElem l]
  rfl
theorem map_at {ns : List Int} {i : Nat} {x : V} (h : (ns.map V.int)[i]? = some x) : ∃ z, ns[i]? = some z ∧ x = .int z := by
  rw [List.getElem?_map] at h
  cases e : ns[i]? with
  | none =>
    rw [e] at h
    cases h
  | some z =>
    rw [e] at h
    exact ⟨z, rfl, (Option.some.inj h).symm⟩

/-! ### comprehensions -/
section
variable {J : It} {n : Nat} {G : Hp → Prop} {Y : Nat → Hp → V → Hp → Prop} {g : TG} {tt : TT} {te : TE} {vs : List Nat} {σ : L2.St} {H1 : Hp} {D : Addr} {Qd : Hp → Prop}
/-- nothing that stood changes: what is made so far is told -/
theorem lcp (w : Walk J n G Y) (nD : H1 D = none) (out : Nat → List V) (o0 : out 0 = []) (ol : ∀ i, i ≤ n → (out i).length < 1000000) (hG : ∀ H, Same H1 H → G H)
    (hs : ∀ i x H H' (R : VK) (N : Hp → Prop), i < n → Same H1 H → Y i H x H' → (∀ y H4, Same H H4 → out (i + 1) = out i ++ [y] → R y H4) → (∀ H3, Same H H3 → out (i + 1) = out i → N H3) →
      g x (wipe σ vs) H' fun σ2 H2 => wipe σ2 vs = wipe σ vs ∧ tt σ2 H2 fun b H3 => if b = true then te σ2 H3 R else N H3)
    (hd : ∀ H, Same H1 H → H D = some (.lst (out n)) → Qd H) :
    ∃ W : Nat → Nat → Hp → Prop, (∃ m, W 0 m (upd H1 D (.lst []))) ∧ ∀ i m H, W i m H →
      (J.stop i H ∧ Qd H) ∨ (J.go i H ∧ ∃ Nx : Hp → Prop, (∀ H', Nx H' → ∃ m', m' < m ∧ W (i + 1) m' H') ∧ ∀ x H', J.yld i H x H' → g x (wipe σ vs) H' fun σ2 H2 => wipe σ2 vs = wipe σ vs ∧ tt σ2 H2 fun b H3 =>
        if b = true then te σ2 H3 fun y H4 => ∃ acc, H4 D = some (.lst acc) ∧ acc.length < sizeLine ∧ Nx (upd H4 D (.lst (acc ++ [y]))) else Nx H3) := by
  refine lc_it w (fun i H => Same H1 H ∧ H D = some (.lst (out i))) ⟨same_new nD, by rw [o0]; exact upd_same⟩ (fun _ H _ h => hG H h.1) ?_ fun H h => hd H h.1 h.2
  rintro i x H H' hi ⟨sm, hD⟩ hy
  refine hs i x H H' _ _ hi sm hy (fun y H4 s4 e => ⟨out i, s4 _ _ hD, Nat.lt_of_lt_of_le (ol i (Nat.le_of_lt hi)) (by decide), ?_, ?_⟩) fun H3 s3 e => ⟨sm.trans s3, by rw [e]; exact s3 _ _ hD⟩
  · intro c o hc
    rw [upd_ne (ne_of_none hc nD)]
    exact s4 _ _ (sm _ _ hc)
  · rw [e]
    exact upd_same
/-- whole numbers, what stands at b grows by so many a turn -/
theorem lct (w : Walk J n G Y) (Pz : Int → Prop) {b : Addr} {m0 c : Nat} (t0 : Town b m0 H1) (nD : H1 D = none) (hn : n < 1000000) (hG : ∀ H, But b H1 H → G H)
    (hs : ∀ i x H H' (R : VK), i < n → But b H1 H → Town b (m0 + c * i) H → Y i H x H' → (∀ z H4, Pz z → But b H H4 → Town b (m0 + c * (i + 1)) H4 → R (.int z) H4) →
      g x (wipe σ vs) H' fun σ2 H2 => wipe σ2 vs = wipe σ vs ∧ te σ2 H2 R)
    (hd : ∀ (zs : List Int) (H : Hp), zs.length = n → (∀ z ∈ zs, Pz z) → But b H1 H → Town b (m0 + c * n) H → H D = some (.lst (zs.map V.int)) → Qd H) :
    ∃ W : Nat → Nat → Hp → Prop, (∃ m, W 0 m (upd H1 D (.lst []))) ∧ ∀ i m H, W i m H →
      (J.stop i H ∧ Qd H) ∨ (J.go i H ∧ ∃ Nx : Hp → Prop, (∀ H', Nx H' → ∃ m', m' < m ∧ W (i + 1) m' H') ∧ ∀ x H', J.yld i H x H' → g x (wipe σ vs) H' fun σ2 H2 => wipe σ2 vs = wipe σ vs ∧ tYes σ2 H2 fun b H3 =>
        if b = true then te σ2 H3 fun y H4 => ∃ acc, H4 D = some (.lst acc) ∧ acc.length < sizeLine ∧ Nx (upd H4 D (.lst (acc ++ [y]))) else Nx H3) := by
  have nb : D ≠ b := t0.ne_new nD
  refine lc_it w (fun i H => But b H1 H ∧ Town b (m0 + c * i) H ∧ ∃ zs : List Int, zs.length = i ∧ (∀ z ∈ zs, Pz z) ∧ H D = some (.lst (zs.map V.int))) ⟨.of_same (same_new nD), ?_, [], rfl, fun _ h => (nomatch h), upd_same⟩ (fun _ H _ h => hG H h.1) ?_ ?_
  · rw [Nat.mul_zero]
    exact t0.same (same_new nD)
  · rintro i x H H' hi ⟨bt, tw, zs, lz, pz, hD⟩ hy
    refine hs i x H H' _ hi bt tw hy fun z H4 hz b4 t4 => ?_
    refine ⟨zs.map V.int, b4 _ _ nb hD, ?_, ?_, ?_, zs ++ [z], by rw [List.length_append, lz]; rfl, fun u hu => ?_, ?_⟩
    · rw [List.length_map, lz]
      exact Nat.lt_of_lt_of_le (Nat.lt_trans hi hn) (by decide)
    · intro a o na ha
      rw [upd_ne (ne_of_none ha nD)]
      exact b4 _ _ na (bt _ _ na ha)
    · obtain ⟨xs, e, l⟩ := t4
      exact ⟨xs, by rw [upd_ne (Ne.symm nb)]; exact e, l⟩
    · rcases List.mem_append.mp hu with h | h
      · exact pz u h
      · rw [List.mem_singleton.mp h]
        exact hz
    · rw [List.map_append]
      exact upd_same
  · rintro H ⟨bt, tw, zs, lz, pz, hD⟩
    exact hd zs H lz pz bt tw hD
/-- new things: what stands at each is told -/
theorem lcr (w : Walk J n G Y) (nD : H1 D = none) (hn : n < 1000000) (o : Nat → HO) (hG : ∀ H, Same H1 H → G H)
    (hs : ∀ i x H H' (R : VK), i < n → Same H1 H → Y i H x H' → (∀ u H4, H u = none → Same H H4 → H4 u = some (o i) → R (.ref u) H4) → g x (wipe σ vs) H' fun σ2 H2 => wipe σ2 vs = wipe σ vs ∧ te σ2 H2 R)
    (hd : ∀ (xs : List V) (H : Hp), xs.length = n → Same H1 H → (∀ j, j < n → ∃ u, xs[j]? = some (.ref u) ∧ H u = some (o j)) → H D = some (.lst xs) → Qd H) :
    ∃ W : Nat → Nat → Hp → Prop, (∃ m, W 0 m (upd H1 D (.lst []))) ∧ ∀ i m H, W i m H →
      (J.stop i H ∧ Qd H) ∨ (J.go i H ∧ ∃ Nx : Hp → Prop, (∀ H', Nx H' → ∃ m', m' < m ∧ W (i + 1) m' H') ∧ ∀ x H', J.yld i H x H' → g x (wipe σ vs) H' fun σ2 H2 => wipe σ2 vs = wipe σ vs ∧ tYes σ2 H2 fun b H3 =>
        if b = true then te σ2 H3 fun y H4 => ∃ acc, H4 D = some (.lst acc) ∧ acc.length < sizeLine ∧ Nx (upd H4 D (.lst (acc ++ [y]))) else Nx H3) := by
  refine lc_it w (fun i H => Same H1 H ∧ ∃ xs : List V, xs.length = i ∧ (∀ j, j < i → ∃ u, u ≠ D ∧ xs[j]? = some (.ref u) ∧ H u = some (o j)) ∧ H D = some (.lst xs)) ⟨same_new nD, [], rfl, fun _ h => absurd h (Nat.not_lt_zero _), upd_same⟩ (fun _ H _ h => hG H h.1) ?_ ?_
  · rintro i x H H' hi ⟨sm, xs, lx, hx, hD⟩ hy
    refine hs i x H H' _ hi sm hy fun u H4 nu s4 hu => ?_
    have uD : u ≠ D := fun e => by
      rw [e, hD] at nu
      cases nu
    refine ⟨xs, s4 _ _ hD, by rw [lx]; exact Nat.lt_of_lt_of_le (Nat.lt_trans hi hn) (by decide), ?_, xs ++ [.ref u], by rw [List.length_append, lx]; rfl, fun j hj => ?_, upd_same⟩
    · intro c z hc
      rw [upd_ne (ne_of_none hc nD)]
      exact s4 _ _ (sm _ _ hc)
    · by_cases c : j < i
      · obtain ⟨v, vD, e1, e2⟩ := hx j c
        exact ⟨v, vD, by rw [List.getElem?_append_left (by omega)]; exact e1, by rw [upd_ne vD]; exact s4 _ _ e2⟩
      · have e : j = i := by omega
        rw [e]
        exact ⟨u, uD, by rw [List.getElem?_append_right (by omega), lx, Nat.sub_self]; rfl, by rw [upd_ne uD]; exact hu⟩
  · rintro H ⟨sm, xs, lx, hx, hD⟩
    exact hd xs H lx sm (fun j hj => by
      obtain ⟨u, _, r⟩ := hx j hj
      exact ⟨u, r⟩) hD
end

/-! ### kinds of things -/
theorem ty_tup {K : PySem.W.Frag} {H : Hp} {a : Addr} {xs : List V} (h : SqT K H a xs) : TyX K H (.ref a) (.type "tuple") := by
  rcases h with (h | ⟨o, h⟩) | ⟨o, its, n, h, c, _⟩
  · exact .base (.tup h)
  · exact .fTuple h
  · exact .kTuple h c
theorem ty_lst {K : PySem.W.Frag} {H : Hp} {a : Addr} {xs : List V} (h : SqL K H a xs) : TyX K H (.ref a) (.type "list") := by
  rcases h with (h | ⟨o, h⟩) | ⟨o, its, n, h, c, _⟩
  · exact .base (.lst h)
  · exact .base (.frz h)
  · exact .kList h c
/-- whether a thing is a whole number -/
inductive Wh (K : PySem.W.Frag) (H : Hp) : V → Bool → Prop
  | int (i : Int) : Wh K H (.int i) true
  | bl (b : Bool) : Wh K H (.bl b) false
  | no {v : V} {n : String} (h : TyX K H v (.type n)) (k : kitB n "int" = some false) (nb : ∀ i, v ≠ .int i) : Wh K H v false
/-- from lo to hi -/
def whB (v : V) (lo hi : Int) : Bool := match v with
  | .int i => decide (lo ≤ i ∧ i ≤ hi)
  | _ => false
theorem Wh.cases_ {K : PySem.W.Frag} {H : Hp} {v : V} {b : Bool} (h : Wh K H v b) : (∃ i, v = .int i ∧ b = true) ∨ ((∀ i, v ≠ .int i) ∧ b = false) := by
  cases h with
  | int i => exact .inl ⟨i, rfl, rfl⟩
  | bl b => exact .inr ⟨fun i z => V.noConfusion z, rfl⟩
  | no h k nb => exact .inr ⟨nb, rfl⟩
theorem whB_no {v : V} {lo hi : Int} (h : ∀ i, v ≠ .int i) : whB v lo hi = false := by
  cases v with
  | int i => exact absurd rfl (h i)
  | _ => rfl
theorem kit_int_int : kitB "int" "int" = some true := by decide +kernel
theorem kit_int_bool : kitB "int" "bool" = some false := by decide +kernel
theorem kit_bool_int : kitB "bool" "int" = some true := by decide +kernel
theorem kit_bool_bool : kitB "bool" "bool" = some true := by decide +kernel
theorem kit_tup_tup : kitB "tuple" "tuple" = some true := by decide +kernel
theorem isi {K : PySem.W.Frag} {H : Hp} {x : V} {a n : String} {b : Bool} {Q : VK} (t : TyX K H x (.type a)) (k : kitB a n = some b) (q : Q (.bl b) H) : rIsi K [x, .ty n] H Q := ⟨x, .ty n, .type a, .type n, b, rfl, .ty n, t, kit_ty k, q⟩
theorem row_ok {K : PySem.W.Frag} {H : Hp} {row : List Int} {i : Nat} {x : V} (h : (row.map V.int)[i]? = some x) : ∃ z, row[i]? = some z ∧ x = .int z ∧ z ∈ row := by
  obtain ⟨z, e, r⟩ := map_at h
  exact ⟨z, e, r, List.mem_of_getElem? e⟩

/-! ### zip of tuples -/
theorem walk_zipT {K : PySem.W.Frag} {a b : Addr} {xs ys : List V} {n : Nat} (hn : n = min xs.length ys.length) : Walk (RZ.ItzT K a b) n (fun H => SqT K H a xs ∧ SqT K H b ys) (YPair (fun i => xs[i]?) (fun i => ys[i]?)) := by
  refine ⟨fun i H hi q => ⟨xs, ys, xs[i]'(by omega), ys[i]'(by omega), q.1, q.2, List.getElem?_eq_getElem _, List.getElem?_eq_getElem _⟩, fun H q => ⟨xs, ys, q.1, q.2, by omega⟩, fun i H v H' hi q y => ?_⟩
  obtain ⟨T, x, z, h1, h2, h3, h4, h5⟩ := y
  exact ⟨T, x, z, h1, h2, h3, h4 xs q.1, h5 ys q.2⟩
/-- sum of a tuple of whole numbers -/
def rSumT (K : PySem.W.Frag) : List V → Hp → VK → Prop := fun vs H Q => ∃ (a : Addr) (ns : List Int), vs = [V.ref a] ∧ SqT K H a (ns.map V.int) ∧ Q (.int ns.sum) H
theorem cr_sumA {X : Cx} (hc : X.calm = true) : CallR X (.builtin "sum") (rSumT X.K) := by
  intro pins s σ H vs us Q I r h
  obtain ⟨a, ns, rfl, hs, q⟩ := h
  obtain ⟨its, rv, hl, _⟩ := I.tuple hs
  rw [Vals.ref1 r]
  obtain ⟨xs, e⟩ := rv.ints.allInts.items
  have hn : PySem.numsOf (intItems xs).toList = ns := by
    rw [← e]
    exact rv.ints.numsOf
  rw [PySem.nums_intItems] at hn
  have hl2 : s.heap.IsTuple a (intItems xs) := by
    rw [← e]
    exact hl
  refine PySem.W.ktm_sumG (I.ok.hd hc) hl2 fun h' tk t' hk => ?_
  rw [PySem.preSum_eq, List.take_of_length_le (by simp), hn]
  exact ⟨.int _, H, I.kept hk, ⟨_, rfl⟩, q⟩
/-- a comprehension in a comprehension: the block's names -/
theorem blkOk_in {N : List Str} {sc scope : Scope} {own : List (Str × Nat)} (h : blkC N sc scope own = true) : BlkOk N sc scope own := blkOk_by h

/-! ### the same rules, the written part said -/
def rLenQ (K : PySem.W.Frag) : List V → Hp → VK → Prop := fun xs H Q => ∃ p ys, xs = [.ref p] ∧ (SqL K H p ys ∨ SqT K H p ys) ∧ Q (.int ys.length) H
def rTupQ (K : PySem.W.Frag) : List V → Hp → VK → Prop := fun xs H Q => ∃ p ys, xs = [.ref p] ∧ ((SqL K H p ys ∧ ∀ l, H l = none → Q (.ref l) (upd H l (.tup ys))) ∨ (SqT K H p ys ∧ Q (.ref p) H))
def rLstQ (K : PySem.W.Frag) : List V → Hp → VK → Prop := fun xs H Q => ∃ p ys, xs = [.ref p] ∧ (SqL K H p ys ∨ SqT K H p ys) ∧ ∀ l, H l = none → Q (.ref l) (upd H l (.lst ys))
section
variable {X : Cx} {K : PySem.W.Frag}
theorem kz_len (hK : X.K = K := by rfl) : CallR X (.builtin "len") (rLenQ K) := hK ▸ call_len_seq
theorem kz_sum (hc : X.calm = true) (hK : X.K = K := by rfl) : CallR X (.builtin "sum") (rSum K) := hK ▸ cr_sum hc
theorem kz_sumT (hc : X.calm = true) (hK : X.K = K := by rfl) : CallR X (.builtin "sum") (rSumT K) := hK ▸ cr_sumA hc
theorem kz_all (hc : X.calm = true) (hK : X.K = K := by rfl) : CallR X (.builtin "all") (rAll K) := hK ▸ cr_all hc
theorem kz_any (hc : X.calm = true) (hK : X.K = K := by rfl) : CallR X (.builtin "any") (rAny K) := hK ▸ cr_any hc
theorem kz_max (hc : X.calm = true) (hK : X.K = K := by rfl) : CallR X (.builtin "max") (rMax K) := hK ▸ cr_max hc
theorem kz_min (hc : X.calm = true) (hK : X.K = K := by rfl) : CallR X (.builtin "min") (rMin K) := hK ▸ cr_min hc
theorem kz_isi (hK : X.K = K := by rfl) : CallR X (.builtin "isinstance") (rIsi K) := hK ▸ call_isi
theorem kz_tuple (hK : X.K = K := by rfl) : CallR X (.type "tuple") (rTupQ K) := hK ▸ call_tuple_of
theorem kz_list (hK : X.K = K := by rfl) : CallR X (.type "list") (rLstQ K) := hK ▸ call_list_of
theorem kz_ixL (hK : X.K = K := by rfl) : IxR X (rIxL K) := hK ▸ ix_list
theorem kz_ixT (hK : X.K = K := by rfl) : IxR X (rIxT K) := hK ▸ ix_tup
theorem kz_eqD (hu : X.A.units + 64 < cLine) (hK : X.K = K := by rfl) : OpR X (compareOp .Eq) (rEqD K) := hK ▸ op_eqD hu
theorem kz_neD (hu : X.A.units + 64 < cLine) (hK : X.K = K := by rfl) : OpR X (compareOp .NotEq) (rNeD K) := hK ▸ op_neD hu
theorem kz_in (hK : X.K = K := by rfl) : OpR X (compareOp .In) (rIn K false) := hK ▸ op_in_seq
theorem kz_notIn (hK : X.K = K := by rfl) : OpR X (compareOp .NotIn) (rIn K true) := hK ▸ op_notIn_seq
theorem kz_catT (hK : X.K = K := by rfl) : OpR X (binaryOp .Add) (rCatA K) := hK ▸ op_catA
theorem kz_slL (hK : X.K = K := by rfl) : SlR X (rSlL K) := hK ▸ sl_list
theorem kz_slT (hK : X.K = K := by rfl) : SlR X (rSlA K) := hK ▸ sl_tupA
theorem kz_getL (hK : X.K = K := by rfl) : PGet X (rGetL K) := hK ▸ get_list
variable {tg l e e2 : Expr} {tl : TE} {ta : TA} {p pos tpos : Pos} {elts : List Expr} {kk : Nat}
theorem kz_piL (hl : PE X l tl) (hK : X.K = K := by rfl) : PI X tg l (iList K tl) := hK ▸ pi_list hl
theorem kz_piT (hl : PE X l tl) (hK : X.K = K := by rfl) : PI X tg l (iTup K tl) := hK ▸ pi_tup hl
theorem kz_zip (hg : Gl X "zip") (hm : X.mg "zip" = none) (ha : PA X [e, e2] ta) (hK : X.K = K := by rfl)
    (hs : starEach [e, e2] X.env = (false, eval e X.env) :: starEach [e2] X.env := by rfl) (hpl : (backTo pos (starEach [e2] X.env)).any (·.1) = false := by rfl) :
    PI X (.Tuple elts kk tpos) (.Call (.Name "zip" p) [e, e2] [] pos) (RZ.iZipA K ta) := hK ▸ RZ.pi_zipA hg hm ha hs hpl
theorem kz_enum (hg : Gl X "enumerate") (hm : X.mg "enumerate" = none) (ha : PA X [e] ta) (hK : X.K = K := by rfl) (hs : starEach [e] X.env = [(false, eval e X.env)] := by rfl) :
    PI X (.Tuple elts kk tpos) (.Call (.Name "enumerate" p) [e] [] pos) (iEnum K ta) := hK ▸ pi_enum hg hm ha hs
theorem kz_gtup {es : List Expr} {k : Nat} {t : TGs} (n : Nat) (hc : X.calm = true) (h : PGs X es t) (hK : X.K = K := by rfl)
    (hn : (assignEach es X.env).length = n := by rfl) (hst : (assignEach es X.env).findIdx? (·.1) = none := by rfl) : PG X (.Tuple es k pos) (gTup K n t) := hK ▸ pg_tup hc h hn hst
theorem kz_glst {es : List Expr} {k : Nat} {t : TGs} (n : Nat) (hc : X.calm = true) (h : PGs X es t) (hK : X.K = K := by rfl)
    (hn : (assignEach es X.env).length = n := by rfl) (hst : (assignEach es X.env).findIdx? (·.1) = none := by rfl) : PG X (.Tuple es k pos) (gLst K n t) := hK ▸ pg_lst hc h hn hst
end
end Ly

/-! ### zip of a list and a tuple -/
namespace Ly
open PySem PySem.Spec PyProof.Rows L2
/-- the list at a, the tuple at b as they stand at each turn, the items in new pairs -/
def ItzLT (K : PySem.W.Frag) (a b : Addr) : It :=
  ⟨fun i H => ∃ (xs ys : List V) (x y : V), SqL K H a xs ∧ SqT K H b ys ∧ xs[i]? = some x ∧ ys[i]? = some y,
   fun i H v H' => ∃ T x y, v = .ref T ∧ H T = none ∧ H' = upd H T (.tup [x, y]) ∧ (∀ xs, SqL K H a xs → xs[i]? = some x) ∧ (∀ ys, SqT K H b ys → ys[i]? = some y),
   fun i H => ∃ (xs ys : List V), SqL K H a xs ∧ SqT K H b ys ∧ i ≤ xs.length ∧ i ≤ ys.length ∧ (i = xs.length ∨ i = ys.length)⟩
/-- the five cells of such a zip, made when so many stood -/
structure ZCells (n : Nat) (a b : Addr) (i : Nat) (h : Heap) : Prop where
  hz : IsZip h (n + 4) (n + 2) (n + 3) .none
  ti : IsTupOf2 h (n + 2) (.ref n) (.ref (n + 1))
  out : ∃ u v, IsTupOf2 h (n + 3) u v
  fst : h.IsListIter n a i
  snd : h.IsTupleIter (n + 1) b i
def zfp (n : Nat) : List Addr := [n + 4, n + 2, n + 3, n, n + 1]
theorem zfp_mem {n c : Nat} (h : c ∈ zfp n) : n ≤ c ∧ c < n + 5 ∧ (c = n + 4 ∨ c = n + 2 ∨ c = n + 3 ∨ c = n ∨ c = n + 1) := by
  have e : c = n + 4 ∨ c = n + 2 ∨ c = n + 3 ∨ c = n ∨ c = n + 1 := by simpa [zfp] using h
  refine ⟨?_, ?_, e⟩ <;> omega
theorem not_zfp {n c : Nat} (h : c ∉ zfp n) : c ≠ n + 4 ∧ c ≠ n + 3 ∧ c ≠ n ∧ c ≠ n + 1 := by
  simp only [zfp, List.mem_cons, List.not_mem_nil, or_false, not_or] at h
  obtain ⟨h1, h2, h3, h4, h5⟩ := h
  exact ⟨h1, h3, h4, h5⟩
theorem ZCells.keep {n : Nat} {a b : Addr} {i : Nat} {h h' : Heap} (z : ZCells n a b i h) (k : ∀ c ∈ zfp n, ∀ o, h.get? c = some o → h'.get? c = some o) : ZCells n a b i h' := by
  obtain ⟨u, v, e⟩ := z.out
  exact ⟨k _ (by simp [zfp]) _ z.hz, k _ (by simp [zfp]) _ z.ti, ⟨u, v, k _ (by simp [zfp]) _ e⟩, z.fst.at fun o q => k _ (by simp [zfp]) o q, z.snd.at fun o q => k _ (by simp [zfp]) o q⟩
theorem lt_ne {x y z : Nat} (h : x < y) (k : y ≤ z) : x ≠ z := by omega
theorem turn_zipLT {P : Program} {w : World} {K : PySem.W.Frag} {elts : List Expr} {kk : Nat} {tpos : Pos} {a b : Addr} {n : Nat} (ha : a < n) (hb : b < n) :
    Turn P w K (.Tuple elts kk tpos) (ItzLT K a b) (zfp n) (n + 4) (fun i h => ZCells n a b i h) where
  mem := by simp [zfp]
  obj := fun i h z c hc => by
    obtain ⟨u, v, e⟩ := z.out
    obtain ⟨o1, e1, _, d1⟩ := z.fst
    obtain ⟨o2, e2, _, d2⟩ := z.snd
    rcases (zfp_mem hc).2.2 with q | q | q | q | q
    · rw [q]; exact ⟨_, z.hz, fun v q => nomatch q⟩
    · rw [q]; exact ⟨_, z.ti, fun v q => nomatch q⟩
    · rw [q]; exact ⟨_, e, fun v q => nomatch q⟩
    · rw [q]; exact ⟨o1, e1, fun v q => by rw [d1] at q; cases q⟩
    · rw [q]; exact ⟨o2, e2, fun v q => by rw [d2] at q; cases q⟩
  keep := fun i h h' z k => z.keep k
  item := by
    intro X hP hw hK hc i pins s σ H E I hf z hg
    subst hP hw hK
    obtain ⟨xs, ys, x, y, qx, qy, hx, hy⟩ := hg
    obtain ⟨l1, r1, p1, _⟩ := I.list qx
    obtain ⟨l2, r2, p2, _⟩ := I.tuple qy
    obtain ⟨u1, hu1, ru1⟩ := r1.get hx
    obtain ⟨u2, hu2, ru2⟩ := r2.get hy
    obtain ⟨o1, o2, hout⟩ := z.out
    have hA : X.A.in1.handled = none := I.ok.hd hc
    have big : n + 4 < s.heap.objs.size := Heap.lt_size z.hz
    have sep : ZipSep2 (n + 4) (n + 2) (n + 3) n (n + 1) [n, a] [n + 1, b] := zip_sep2 (N := n) (fp1 := [a]) (fp2 := [b]) (fun c hc => by rw [List.mem_singleton.mp hc]; exact ha) (fun c hc => by rw [List.mem_singleton.mp hc]; exact hb)
    refine wpAny_pyNext_zipD2_item (i := i) sep (Draws.list hA n a (Nat.ne_of_lt ha) l1.toArray) (Draws.tuple hA (n + 1) b (Nat.ne_of_lt (Nat.lt_succ_of_lt hb)) l2.toArray) z.hz z.ti hout ⟨z.fst, p1.isList⟩ ⟨z.snd, show s.heap.IsTuple b l2.toArray from p2⟩
      (by rw [List.size_toArray]; exact (List.getElem?_eq_some_iff.mp hu1).1) (by rw [List.size_toArray]; exact (List.getElem?_eq_some_iff.mp hu2).1) ?_
    intro v1 v2 h' tk e1 e2 hz' hto' st1 st2 hT hsz hk
    have e1' : u1 = v1 := by
      have q : l1[i]? = some v1 := by simpa using e1
      rw [hu1] at q
      exact Option.some.inj q
    have e2' : u2 = v2 := by
      have q : l2[i]? = some v2 := by simpa using e2
      rw [hu2] at q
      exact Option.some.inj q
    subst e1' e2'
    refine ⟨_, rfl, wpAny_letOwnedTupleGo_zip (s := { s with heap := h', toks := tk }) hz' fun h2 hz2 sb => ?_⟩
    have nz : s.heap.objs.size ≠ n + 4 := Nat.ne_of_gt big
    have hT2 : h2.get? s.heap.objs.size = some { cls := .type "tuple", data := .seq #[u1, u2] } := (sb.2 _ nz).trans hT
    have nw : ObjOk X.prog X.w (upd H s.heap.objs.size (.tup [x, y])) h2 s.heap.objs.size (.tup [x, y]) := ⟨by show 2 ≤ sizeLine; decide, [u1, u2], .cons ru1 (.cons ru2 .nil), ⟨_, hT2, rfl, _, rfl⟩⟩
    have old : ∀ c o, c ∉ zfp n → s.heap.get? c = some o → h2.get? c = some o := fun c o hc q => by
      obtain ⟨c1, c2, c3, c4⟩ := not_zfp hc
      exact (sb.2 c c1).trans (hk c o c1 c2 c3 c4 q)
    refine ⟨.ref s.heap.objs.size, _, I.turnedNew (t' := tk) (ch := zfp n) old hf (Nat.le_refl _) nw, rfl, ⟨_, x, y, rfl, I.hok.fresh (Nat.le_refl _), rfl, fun l hl => ?_, fun l hl => by rw [I.tuple_inj hl qy]; exact hy⟩, ⟨hz2, ?_, ⟨u1, u2, ?_⟩, ?_, ?_⟩, fun c hcm => ?_⟩
    · rw [I.list_inj hl qx]
      exact hx
    · have m1 : (n + 2 : Nat) ≠ n + 4 := by omega
      exact (sb.2 _ m1).trans (hk _ _ m1 (show (n + 2 : Nat) ≠ n + 3 by omega) (show (n + 2 : Nat) ≠ n by omega) (show (n + 2 : Nat) ≠ n + 1 by omega) z.ti)
    · exact (sb.2 _ (show (n + 3 : Nat) ≠ n + 4 by omega)).trans hto'
    · exact st1.1.at fun o q => (sb.2 _ (show (n : Nat) ≠ n + 4 by omega)).trans q
    · exact st2.1.at fun o q => (sb.2 _ (show (n + 1 : Nat) ≠ n + 4 by omega)).trans q
    · have hlt : c < s.heap.objs.size := Nat.lt_of_le_of_lt (Nat.le_of_lt_succ (zfp_mem hcm).2.1) big
      rw [upd_ne (Nat.ne_of_lt hlt)]
      exact (hf c hcm).1
  done := by
    intro X hP hw hK hc i pins s σ H E I hf z hg
    subst hP hw hK
    obtain ⟨xs, ys, qx, qy, b1, b2, be⟩ := hg
    obtain ⟨l1, r1, p1, _⟩ := I.list qx
    obtain ⟨l2, r2, p2, _⟩ := I.tuple qy
    obtain ⟨o1, o2, hout⟩ := z.out
    have hA : X.A.in1.handled = none := I.ok.hd hc
    have g1 := r1.length
    have g2 := r2.length
    have sep : ZipSep2 (n + 4) (n + 2) (n + 3) n (n + 1) [n, a] [n + 1, b] := zip_sep2 (N := n) (fp1 := [a]) (fp2 := [b]) (fun c hc => by rw [List.mem_singleton.mp hc]; exact ha) (fun c hc => by rw [List.mem_singleton.mp hc]; exact hb)
    refine wpAny_pyNext_zipD2_end (i := i) sep (Draws.list hA n a (Nat.ne_of_lt ha) l1.toArray) (Draws.tuple hA (n + 1) b (Nat.ne_of_lt (Nat.lt_succ_of_lt hb)) l2.toArray) z.hz z.ti hout ⟨z.fst, p1.isList⟩ ⟨z.snd, show s.heap.IsTuple b l2.toArray from p2⟩
      (by rw [List.size_toArray]; omega) (by rw [List.size_toArray]; omega) (by rw [List.size_toArray, List.size_toArray]; omega) ?_
    intro h' tk hk
    exact ⟨rfl, I.turnedL (t' := tk) (ch := zfp n) (fun c o hc q => by
      obtain ⟨c1, c2, c3, c4⟩ := not_zfp hc
      exact hk c o c1 c2 c3 c4 q) hf⟩
  self := fun A i s Q E z h => wpAny_pyIter_zip z.hz h
def iZipLT (K : PySem.W.Frag) (ta : TA) : TI := fun σ H R => ta σ H fun vs H1 => ∃ a b xs ys, vs = [.ref a, .ref b] ∧ SqL K H1 a xs ∧ SqT K H1 b ys ∧ R (ItzLT K a b) H1
theorem pi_zipLT {X : Cx} {e e2 : Expr} {ta : TA} {p pos tpos : Pos} {elts : List Expr} {kk : Nat} (hg : Gl X "zip") (hm : X.mg "zip" = none) (ha : PA X [e, e2] ta)
    (hs : starEach [e, e2] X.env = (false, eval e X.env) :: starEach [e2] X.env := by rfl) (hpl : (backTo pos (starEach [e2] X.env)).any (·.1) = false := by rfl) :
    PI X (.Tuple elts kk tpos) (.Call (.Name "zip" p) [e, e2] [] pos) (iZipLT X.K ta) := by
  refine ⟨fun pins s σ H R I h => Call_ (ld_blt I hg hm PyProof.Rows.boot_zip (PyProof.Rows.callWith_type1 (thn (ha.run pos pins s σ H _ I h) ?_) hs hpl))⟩
  rintro us s1 ⟨vs, H1, I1, r1, a, b, xs, ys, rfl, qx, qy, q⟩
  cases r1 with
  | cons e1 r2 =>
    cases r2 with
    | cons e3 r3 =>
      cases r3
      cases e1
      cases e3
      obtain ⟨l1, v1, p1, _⟩ := I1.list qx
      obtain ⟨l2, v2, p2, _⟩ := I1.tuple qy
      obtain ⟨o1, g1, _⟩ := id p1.isList
      obtain ⟨o2, g2, _⟩ := id (show s1.heap.IsTuple b l2.toArray from p2)
      refine zip_begins2 (begins_list a l1.toArray) (begins_tuple b l2.toArray) p1.isList (show s1.heap.IsTuple b l2.toArray from p2) fun h' hz hti hto n1 n2 hsz hk => wpAny_pyIter_zip hz ?_
      have I2 : Inv X pins σ H1 { s1 with heap := h' } := I1.kept (t' := s1.toks) hk
      refine ⟨_, zfp s1.heap.objs.size, _, _, H1, rfl, I2, turn_zipLT (Heap.lt_size g1) (Heap.lt_size g2), ⟨hz, hti, ⟨_, _, hto⟩, ⟨_, n1, rfl, rfl⟩, ⟨_, n2, rfl, rfl⟩⟩, fun c hc => ?_, q⟩
      exact I1.fpOk (zfp_mem hc).1 (I1.hok.fresh (zfp_mem hc).1)
theorem walk_zipLT {K : PySem.W.Frag} {a b : Addr} {xs ys : List V} {n : Nat} (hn : n = min xs.length ys.length) : Walk (ItzLT K a b) n (fun H => SqL K H a xs ∧ SqT K H b ys) (YPair (fun i => xs[i]?) (fun i => ys[i]?)) := by
  refine ⟨fun i H hi q => ⟨xs, ys, xs[i]'(by omega), ys[i]'(by omega), q.1, q.2, List.getElem?_eq_getElem _, List.getElem?_eq_getElem _⟩, fun H q => ⟨xs, ys, q.1, q.2, by omega, by omega, by omega⟩, fun i H v H' hi q y => ?_⟩
  obtain ⟨T, x, z, h1, h2, h3, h4, h5⟩ := y
  exact ⟨T, x, z, h1, h2, h3, h4 xs q.1, h5 ys q.2⟩
theorem kz_zipLT {X : Cx} {K : PySem.W.Frag} {e e2 : Expr} {ta : TA} {p pos tpos : Pos} {elts : List Expr} {kk : Nat} (hg : Gl X "zip") (hm : X.mg "zip" = none) (ha : PA X [e, e2] ta) (hK : X.K = K := by rfl)
    (hs : starEach [e, e2] X.env = (false, eval e X.env) :: starEach [e2] X.env := by rfl) (hpl : (backTo pos (starEach [e2] X.env)).any (·.1) = false := by rfl) :
    PI X (.Tuple elts kk tpos) (.Call (.Name "zip" p) [e, e2] [] pos) (iZipLT K ta) := hK ▸ pi_zipLT hg hm ha hs hpl
end Ly

/-! ### zip of a tuple and a list, of any two -/
namespace Ly
open PySem PySem.Spec PyProof.Rows L2 RZ
/-- the list at a, the tuple at b as they stand at each turn, the items in new pairs -/
def ItzTL (K : PySem.W.Frag) (a b : Addr) : It :=
  ⟨fun i H => ∃ (xs ys : List V) (x y : V), SqT K H a xs ∧ SqL K H b ys ∧ xs[i]? = some x ∧ ys[i]? = some y,
   fun i H v H' => ∃ T x y, v = .ref T ∧ H T = none ∧ H' = upd H T (.tup [x, y]) ∧ (∀ xs, SqT K H a xs → xs[i]? = some x) ∧ (∀ ys, SqL K H b ys → ys[i]? = some y),
   fun i H => ∃ (xs ys : List V), SqT K H a xs ∧ SqL K H b ys ∧ i ≤ xs.length ∧ i ≤ ys.length ∧ (i = xs.length ∨ i = ys.length)⟩
/-- the five cells of such a zip, made when so many stood -/
structure ZCellsT (n : Nat) (a b : Addr) (i : Nat) (h : Heap) : Prop where
  hz : IsZip h (n + 4) (n + 2) (n + 3) .none
  ti : IsTupOf2 h (n + 2) (.ref n) (.ref (n + 1))
  out : ∃ u v, IsTupOf2 h (n + 3) u v
  fst : h.IsTupleIter n a i
  snd : h.IsListIter (n + 1) b i
theorem ZCellsT.keep {n : Nat} {a b : Addr} {i : Nat} {h h' : Heap} (z : ZCellsT n a b i h) (k : ∀ c ∈ zfp n, ∀ o, h.get? c = some o → h'.get? c = some o) : ZCellsT n a b i h' := by
  obtain ⟨u, v, e⟩ := z.out
  exact ⟨k _ (by simp [zfp]) _ z.hz, k _ (by simp [zfp]) _ z.ti, ⟨u, v, k _ (by simp [zfp]) _ e⟩, z.fst.at fun o q => k _ (by simp [zfp]) o q, z.snd.at fun o q => k _ (by simp [zfp]) o q⟩
theorem turn_zipTL {P : Program} {w : World} {K : PySem.W.Frag} {elts : List Expr} {kk : Nat} {tpos : Pos} {a b : Addr} {n : Nat} (ha : a < n) (hb : b < n) :
    Turn P w K (.Tuple elts kk tpos) (ItzTL K a b) (zfp n) (n + 4) (fun i h => ZCellsT n a b i h) where
  mem := by simp [zfp]
  obj := fun i h z c hc => by
    obtain ⟨u, v, e⟩ := z.out
    obtain ⟨o1, e1, _, d1⟩ := z.fst
    obtain ⟨o2, e2, _, d2⟩ := z.snd
    rcases (zfp_mem hc).2.2 with q | q | q | q | q
    · rw [q]; exact ⟨_, z.hz, fun v q => nomatch q⟩
    · rw [q]; exact ⟨_, z.ti, fun v q => nomatch q⟩
    · rw [q]; exact ⟨_, e, fun v q => nomatch q⟩
    · rw [q]; exact ⟨o1, e1, fun v q => by rw [d1] at q; cases q⟩
    · rw [q]; exact ⟨o2, e2, fun v q => by rw [d2] at q; cases q⟩
  keep := fun i h h' z k => z.keep k
  item := by
    intro X hP hw hK hc i pins s σ H E I hf z hg
    subst hP hw hK
    obtain ⟨xs, ys, x, y, qx, qy, hx, hy⟩ := hg
    obtain ⟨l1, r1, p1, _⟩ := I.tuple qx
    obtain ⟨l2, r2, p2, _⟩ := I.list qy
    obtain ⟨u1, hu1, ru1⟩ := r1.get hx
    obtain ⟨u2, hu2, ru2⟩ := r2.get hy
    obtain ⟨o1, o2, hout⟩ := z.out
    have hA : X.A.in1.handled = none := I.ok.hd hc
    have big : n + 4 < s.heap.objs.size := Heap.lt_size z.hz
    have sep : ZipSep2 (n + 4) (n + 2) (n + 3) n (n + 1) [n, a] [n + 1, b] := zip_sep2 (N := n) (fp1 := [a]) (fp2 := [b]) (fun c hc => by rw [List.mem_singleton.mp hc]; exact ha) (fun c hc => by rw [List.mem_singleton.mp hc]; exact hb)
    refine wpAny_pyNext_zipD2_item (i := i) sep (Draws.tuple hA n a (Nat.ne_of_lt ha) l1.toArray) (Draws.list hA (n + 1) b (Nat.ne_of_lt (Nat.lt_succ_of_lt hb)) l2.toArray) z.hz z.ti hout ⟨z.fst, show s.heap.IsTuple a l1.toArray from p1⟩ ⟨z.snd, p2.isList⟩
      (by rw [List.size_toArray]; exact (List.getElem?_eq_some_iff.mp hu1).1) (by rw [List.size_toArray]; exact (List.getElem?_eq_some_iff.mp hu2).1) ?_
    intro v1 v2 h' tk e1 e2 hz' hto' st1 st2 hT hsz hk
    have e1' : u1 = v1 := by
      have q : l1[i]? = some v1 := by simpa using e1
      rw [hu1] at q
      exact Option.some.inj q
    have e2' : u2 = v2 := by
      have q : l2[i]? = some v2 := by simpa using e2
      rw [hu2] at q
      exact Option.some.inj q
    subst e1' e2'
    refine ⟨_, rfl, wpAny_letOwnedTupleGo_zip (s := { s with heap := h', toks := tk }) hz' fun h2 hz2 sb => ?_⟩
    have nz : s.heap.objs.size ≠ n + 4 := Nat.ne_of_gt big
    have hT2 : h2.get? s.heap.objs.size = some { cls := .type "tuple", data := .seq #[u1, u2] } := (sb.2 _ nz).trans hT
    have nw : ObjOk X.prog X.w (upd H s.heap.objs.size (.tup [x, y])) h2 s.heap.objs.size (.tup [x, y]) := ⟨by show 2 ≤ sizeLine; decide, [u1, u2], .cons ru1 (.cons ru2 .nil), ⟨_, hT2, rfl, _, rfl⟩⟩
    have old : ∀ c o, c ∉ zfp n → s.heap.get? c = some o → h2.get? c = some o := fun c o hc q => by
      obtain ⟨c1, c2, c3, c4⟩ := not_zfp hc
      exact (sb.2 c c1).trans (hk c o c1 c2 c3 c4 q)
    refine ⟨.ref s.heap.objs.size, _, I.turnedNew (t' := tk) (ch := zfp n) old hf (Nat.le_refl _) nw, rfl, ⟨_, x, y, rfl, I.hok.fresh (Nat.le_refl _), rfl, fun l hl => ?_, fun l hl => by rw [I.list_inj hl qy]; exact hy⟩, ⟨hz2, ?_, ⟨u1, u2, ?_⟩, ?_, ?_⟩, fun c hcm => ?_⟩
    · rw [I.tuple_inj hl qx]
      exact hx
    · have m1 : (n + 2 : Nat) ≠ n + 4 := by omega
      exact (sb.2 _ m1).trans (hk _ _ m1 (show (n + 2 : Nat) ≠ n + 3 by omega) (show (n + 2 : Nat) ≠ n by omega) (show (n + 2 : Nat) ≠ n + 1 by omega) z.ti)
    · exact (sb.2 _ (show (n + 3 : Nat) ≠ n + 4 by omega)).trans hto'
    · exact st1.1.at fun o q => (sb.2 _ (show (n : Nat) ≠ n + 4 by omega)).trans q
    · exact st2.1.at fun o q => (sb.2 _ (show (n + 1 : Nat) ≠ n + 4 by omega)).trans q
    · have hlt : c < s.heap.objs.size := Nat.lt_of_le_of_lt (Nat.le_of_lt_succ (zfp_mem hcm).2.1) big
      rw [upd_ne (Nat.ne_of_lt hlt)]
      exact (hf c hcm).1
  done := by
    intro X hP hw hK hc i pins s σ H E I hf z hg
    subst hP hw hK
    obtain ⟨xs, ys, qx, qy, b1, b2, be⟩ := hg
    obtain ⟨l1, r1, p1, _⟩ := I.tuple qx
    obtain ⟨l2, r2, p2, _⟩ := I.list qy
    obtain ⟨o1, o2, hout⟩ := z.out
    have hA : X.A.in1.handled = none := I.ok.hd hc
    have g1 := r1.length
    have g2 := r2.length
    have sep : ZipSep2 (n + 4) (n + 2) (n + 3) n (n + 1) [n, a] [n + 1, b] := zip_sep2 (N := n) (fp1 := [a]) (fp2 := [b]) (fun c hc => by rw [List.mem_singleton.mp hc]; exact ha) (fun c hc => by rw [List.mem_singleton.mp hc]; exact hb)
    refine wpAny_pyNext_zipD2_end (i := i) sep (Draws.tuple hA n a (Nat.ne_of_lt ha) l1.toArray) (Draws.list hA (n + 1) b (Nat.ne_of_lt (Nat.lt_succ_of_lt hb)) l2.toArray) z.hz z.ti hout ⟨z.fst, show s.heap.IsTuple a l1.toArray from p1⟩ ⟨z.snd, p2.isList⟩
      (by rw [List.size_toArray]; omega) (by rw [List.size_toArray]; omega) (by rw [List.size_toArray, List.size_toArray]; omega) ?_
    intro h' tk hk
    exact ⟨rfl, I.turnedL (t' := tk) (ch := zfp n) (fun c o hc q => by
      obtain ⟨c1, c2, c3, c4⟩ := not_zfp hc
      exact hk c o c1 c2 c3 c4 q) hf⟩
  self := fun A i s Q E z h => wpAny_pyIter_zip z.hz h
theorem walk_zipTL {K : PySem.W.Frag} {a b : Addr} {xs ys : List V} {n : Nat} (hn : n = min xs.length ys.length) : Walk (ItzTL K a b) n (fun H => SqT K H a xs ∧ SqL K H b ys) (YPair (fun i => xs[i]?) (fun i => ys[i]?)) := by
  refine ⟨fun i H hi q => ⟨xs, ys, xs[i]'(by omega), ys[i]'(by omega), q.1, q.2, List.getElem?_eq_getElem _, List.getElem?_eq_getElem _⟩, fun H q => ⟨xs, ys, q.1, q.2, by omega, by omega, by omega⟩, fun i H v H' hi q y => ?_⟩
  obtain ⟨T, x, z, h1, h2, h3, h4, h5⟩ := y
  exact ⟨T, x, z, h1, h2, h3, h4 xs q.1, h5 ys q.2⟩

/-- zip of two lists, of two tuples, of a tuple and a list -/
def iZipB (K : PySem.W.Frag) (ta : TA) : TI := fun σ H R => ta σ H fun vs H1 => ∃ a b xs ys, vs = [.ref a, .ref b] ∧ (SqL K H1 a xs ∧ SqL K H1 b ys ∧ R (Itz K a b) H1 ∨ SqT K H1 a xs ∧ SqT K H1 b ys ∧ R (ItzT K a b) H1 ∨ SqT K H1 a xs ∧ SqL K H1 b ys ∧ R (ItzTL K a b) H1)
theorem pi_zipB {X : Cx} {e e2 : Expr} {ta : TA} {p pos tpos : Pos} {elts : List Expr} {kk : Nat} (hg : Gl X "zip") (hm : X.mg "zip" = none) (ha : PA X [e, e2] ta)
    (hs : starEach [e, e2] X.env = (false, eval e X.env) :: starEach [e2] X.env := by rfl) (hpl : (backTo pos (starEach [e2] X.env)).any (·.1) = false := by rfl) :
    PI X (.Tuple elts kk tpos) (.Call (.Name "zip" p) [e, e2] [] pos) (iZipB X.K ta) := by
  refine ⟨fun pins s σ H R I h => Call_ (ld_blt I hg hm PyProof.Rows.boot_zip (PyProof.Rows.callWith_type1 (thn (ha.run pos pins s σ H _ I h) fun us s1 ⟨vs, H1, I1, r1, q1⟩ => ?_) hs hpl))⟩
  obtain ⟨a, b, xs, ys, ex, q1⟩ := q1
  subst ex
  cases r1 with
  | cons r rr =>
    cases rr with
    | cons r' rr =>
      cases rr
      cases r
      cases r'
      have fresh5 : ∀ c, c ∈ zfp s1.heap.objs.size → FpOk X pins H1 c := fun c hc => I1.fpOk (zfp_mem hc).1 (I1.hok.fresh (zfp_mem hc).1)
      rcases q1 with ⟨hqx, hqy, q⟩ | ⟨hqx, hqy, q⟩ | ⟨hqx, hqy, q⟩
      · obtain ⟨its, rv, p1, _⟩ := I1.list hqx
        obtain ⟨its2, rv2, p2, _⟩ := I1.list hqy
        refine call_zip_2 p1.isList p2.isList fun h' hz hTI hTO h1 h2 hsz hk => wpAny_pyIter_zip hz ?_
        have I2 : Inv X pins σ H1 { s1 with heap := h' } := I1.kept (t' := s1.toks) hk
        exact ⟨s1.heap.objs.size + 4, zfp s1.heap.objs.size, _, _, H1, rfl, I2, turn_zip (PySem.W.ktu_apart s1.heap.objs.size a b p1.lt p2.lt), ⟨hz, hTI, ⟨_, _, hTO⟩, h1, h2⟩, fresh5, q⟩
      · obtain ⟨its, rv, p1, _⟩ := I1.tuple hqx
        obtain ⟨its2, rv2, p2, _⟩ := I1.tuple hqy
        obtain ⟨o1, ho1, _⟩ := id p1
        obtain ⟨o2, ho2, _⟩ := id p2
        refine call_zipT (show s1.heap.IsTuple a its.toArray from p1) (show s1.heap.IsTuple b its2.toArray from p2) fun h' hz hTI hTO h1 h2 hsz hk => wpAny_pyIter_zip hz ?_
        have I2 : Inv X pins σ H1 { s1 with heap := h' } := I1.kept (t' := s1.toks) hk
        exact ⟨s1.heap.objs.size + 4, zfp s1.heap.objs.size, _, _, H1, rfl, I2, turn_zipT (PySem.W.ktu_apart s1.heap.objs.size a b (Heap.lt_size ho1) (Heap.lt_size ho2)), ⟨hz, hTI, ⟨_, _, hTO⟩, h1, h2⟩, fresh5, q⟩
      · obtain ⟨l1, v1, p1, _⟩ := I1.tuple hqx
        obtain ⟨l2, v2, p2, _⟩ := I1.list hqy
        obtain ⟨o1, g1, _⟩ := id (show s1.heap.IsTuple a l1.toArray from p1)
        obtain ⟨o2, g2, _⟩ := id p2.isList
        refine zip_begins2 (begins_tuple a l1.toArray) (begins_list b l2.toArray) (show s1.heap.IsTuple a l1.toArray from p1) p2.isList fun h' hz hti hto n1 n2 hsz hk => wpAny_pyIter_zip hz ?_
        have I2 : Inv X pins σ H1 { s1 with heap := h' } := I1.kept (t' := s1.toks) hk
        exact ⟨_, zfp s1.heap.objs.size, _, _, H1, rfl, I2, turn_zipTL (Heap.lt_size g1) (Heap.lt_size g2), ⟨hz, hti, ⟨_, _, hto⟩, ⟨_, n1, rfl, rfl⟩, ⟨_, n2, rfl, rfl⟩⟩, fresh5, q⟩
theorem kz_zipB {X : Cx} {K : PySem.W.Frag} {e e2 : Expr} {ta : TA} {p pos tpos : Pos} {elts : List Expr} {kk : Nat} (hg : Gl X "zip") (hm : X.mg "zip" = none) (ha : PA X [e, e2] ta) (hK : X.K = K := by rfl)
    (hs : starEach [e, e2] X.env = (false, eval e X.env) :: starEach [e2] X.env := by rfl) (hpl : (backTo pos (starEach [e2] X.env)).any (·.1) = false := by rfl) :
    PI X (.Tuple elts kk tpos) (.Call (.Name "zip" p) [e, e2] [] pos) (iZipB K ta) := hK ▸ pi_zipB hg hm ha hs hpl
end Ly

/-! ### a tuple turned round: t[::-1] -/
namespace Ly
open PySem PySem.Spec PyProof.Rows L2
section
variable {prog : Program} {w : World} {A : Around} {E : Value → Shared → Prop} {s : Shared}
theorem part_is {v : Value} {o : Option Int} {Q : Option Int → Shared → Prop} (p : IsPart v o) (h : Q o s) : wpAny (model prog w) A (Builtin.Slice.slicePartIndex v) Q E s := HT.slicePart_ p h
theorem adj_back (n : Nat) : Builtin.Slice.sliceAdjust none none (-1) (n : Int) = ((n : Int) - 1, -1) := by
  have g : (-1 : Int) < 0 := by decide
  unfold Builtin.Slice.sliceAdjust
  simp only [g, if_true]
theorem places_back (n : Nat) : Builtin.Slice.slicePlaces ((n : Int) - 1) (-1) (-1) = n := by
  have g : ¬ ((-1 : Int) > 0) := by decide
  unfold Builtin.Slice.slicePlaces
  rw [if_neg g]
  by_cases c : (n : Int) - 1 > -1
  · rw [if_pos c, show (- (-1 : Int)) = 1 from rfl, Int.ediv_one]
    omega
  · rw [if_neg c]
    omega
theorem pick_back (xs : Array Value) : ((List.range xs.size).filterMap fun (k : Nat) => xs[((xs.size : Int) - 1 + (k : Int) * (-1)).toNat]?).toArray = xs.toList.reverse.toArray := by
  have e : (fun (k : Nat) => xs[((xs.size : Int) - 1 + (k : Int) * (-1)).toNat]?) = fun k => xs[xs.size - 1 - k]? := by
    funext k
    have q : ((xs.size : Int) - 1 + (k : Int) * (-1)).toNat = xs.size - 1 - k := by omega
    rw [q]
  have k := PySem.W.krv_pick xs
  unfold slicePick at k
  rw [PySem.W.krv_bounds] at k
  have k2 : ((sliceRange ((xs.size : Int) - 1) (-1) (-1)).filterMap (xs[·]?)).toArray = xs.toList.reverse.toArray := k
  rw [PySem.W.krv_sliceRange, List.filterMap_map] at k2
  rw [e]
  exact k2
theorem applied_back {sl : Addr} {vs : Value} {n : Nat} {Q : Int × Int × Nat → Shared → Prop} (hs : s.heap.IsSliceOf sl .none .none vs) (pv : IsPart vs (some (-1)))
    (h : Q ((n : Int) - 1, -1, n) s) : wpAny (model prog w) A (Builtin.Slice.sliceApplied (.ref sl) (pure (n : Int))) Q E s := by
  obtain ⟨o, ho, _, hd⟩ := id hs
  unfold Builtin.Slice.sliceApplied Builtin.Slice.sliceFields
  have f0 : ∀ {R : Value → Shared → Prop}, R .none s → wpAny (model prog w) A (field (.ref sl) 0) R E s := fun r => wpAny_field ho hd (x := .none) rfl r
  have f1 : ∀ {R : Value → Shared → Prop}, R .none s → wpAny (model prog w) A (field (.ref sl) 1) R E s := fun r => wpAny_field ho hd (x := .none) rfl r
  have f2 : ∀ {R : Value → Shared → Prop}, R vs s → wpAny (model prog w) A (field (.ref sl) 2) R E s := fun r => wpAny_field ho hd (x := vs) rfl r
  refine wpAny_bind (wpAny_bind (f0 (wpAny_bind (f1 (wpAny_bind (f2 (wpAny_pure ?_)))))))
  refine wpAny_bind (part_is pv ?_)
  show wpAny _ _ (if ((-1 : Int) == 0) = true then _ else _) _ _ s
  rw [if_neg (show ¬ ((-1 : Int) == 0) = true by decide)]
  refine wpAny_bind (part_is .none (wpAny_bind (part_is .none (wpAny_bind (wpAny_pure ?_)))))
  show wpAny _ _ (match Builtin.Slice.sliceAdjust none none (-1) (n : Int) with | (x, y) => pure (x, (-1 : Int), Builtin.Slice.slicePlaces x y (-1))) _ _ s
  rw [adj_back]
  show wpAny _ _ (pure ((n : Int) - 1, (-1 : Int), Builtin.Slice.slicePlaces ((n : Int) - 1) (-1) (-1))) _ _ s
  rw [places_back]
  exact wpAny_pure h
theorem item_back {t sl : Addr} {items : Array Value} {vs : Value} {Q : Value → Shared → Prop} (ht : IsTup s.heap t items) (hs : s.heap.IsSliceOf sl .none .none vs) (pv : IsPart vs (some (-1))) (hz : items.size ≤ sizeLine)
    (h : Q (.ref s.heap.objs.size) { s with heap := s.heap.push { cls := .type "tuple", data := .seq items.toList.reverse.toArray } }) : wpAny (model prog w) A (getItem (.ref t) (.ref sl)) Q E s := by
  have ok : sizeOk (.seq items.toList.reverse.toArray) := by
    show items.toList.reverse.toArray.size ≤ sizeLine
    rw [List.size_toArray, List.length_reverse, Array.length_toList]
    exact hz
  obtain ⟨o, ho, hc, _⟩ := id hs
  unfold getItem
  try with_reducible refine wpAny_holding ?_
  first | refine wpAny_bind (wpAny_pure ?_) | skip
  have key : wpAny (model prog w) A.in1 (Builtin.«tuple.__getitem__» ⟨[.ref t, .ref sl], []⟩) (fun fin s' => ∃ v, fin = .done (.ret v) ∧ Q v s') E s := by
    show wpAny _ _ (Builtin.Tuple.tupleItemsOf (.ref t) >>= _) _ _ s
    refine wpAny_bind (tupleItemsOf_ ht (wpAny_bind (wpAny_typeOf (show s.TypeIs (.ref sl) "slice" from ⟨o, ho, hc⟩) ?_)))
    rw [if_pos (by decide)]
    refine wpAny_bind (applied_back hs pv ?_)
    show wpAny _ _ (if (((items.size : Int) - 1 == 0) && ((-1 : Int) == 1) && (items.size == items.size)) = true then _ else _) _ _ s
    rw [if_neg (by rw [show ((-1 : Int) == 1) = false from rfl, Bool.and_false, Bool.false_and]; exact Bool.false_ne_true), pick_back]
    first
      | exact wpAny_bind (m := Builtin.Tuple.tupleExact _) (wpAny_newObj_type (wpAny_pure ⟨_, rfl, h⟩) ok)
      | exact wpAny_bind (m := Builtin.Tuple.tupleExact _) (wpAny_newObj_type (wpAny_bind (wpAny_pure (wpAny_pure ⟨_, rfl, h⟩))) ok)
      | exact wpAny_bind (wpAny_bind (m := Builtin.Tuple.tupleExact _) (wpAny_newObj_type (wpAny_pure (wpAny_pure ⟨_, rfl, h⟩)) ok))
      | exact wpAny_bind (wpAny_bind (m := Builtin.Tuple.tupleExact _) (wpAny_newObj_type (wpAny_pure ⟨_, rfl, h⟩) ok))
  refine wpAny_bind (wpAny_sequenceKey ht.typeIs (by decide) ?_)
  refine wpAny_bind (wpAny_callSpecial?_slot (name := Str.ofString "__getitem__") ht.typeIs PyProof.Rows.slot_tuple_getitem ?_)
  refine wpAny_call_entry PyProof.Rows.slot_tuple_getitem ht.typeIs entry_tuple_getitem ?_ (args_tuple_getitem _ _)
  exact wpAny_mono key (fun f s' z => ⟨z.choose, z.choose_spec.1, wpAny_pure z.choose_spec.2⟩) fun _ _ z => z
end
def tRevT (K : PySem.W.Frag) (te : TE) : TE := fun σ H Q => te σ H fun x H1 => ∃ a xs, x = .ref a ∧ SqT K H1 a xs ∧ ∀ p, H1 p = none → Q (.ref p) (upd H1 p (.tup xs.reverse))
section
variable {X : Cx} {e : Expr} {te : TE} {k : Nat} {p1 p2 p3 pos : Pos}
theorem pe_revT {K : PySem.W.Frag} (he : PE X e te) (hK : X.K = K := by rfl) : PE X (.Subscript e (.Slice none none (some (.UnaryOp .USub (.Constant (.int 1) k p1) p2)) p3) pos) (tRevT K te) := by
  subst hK
  refine ⟨fun pins s σ H Q I h => Subscript_ (thn (he.run pins s σ H _ I h) ?_)⟩
  rintro v s1 ⟨x, H1, I1, r1, a, xs, rfl, hx, q⟩
  cases r1
  refine wpAny_Slice (thn (po_none.run pins s1 σ H1 (fun o H2 => o = none ∧ H2 = H1) I1 ⟨rfl, rfl⟩) ?_)
  rintro vl s2 ⟨l, H2, I2, pl, rfl, rfl⟩
  refine thn (po_none.run pins s2 σ H2 (fun o H3 => o = none ∧ H3 = H2) I2 ⟨rfl, rfl⟩) ?_
  rintro vu s3 ⟨u, H3, I3, pu, rfl, rfl⟩
  refine thn ((po_some (pe_un un_neg pe_int)).run pins s3 σ H3 (fun o H4 => o = some (-1) ∧ H4 = H3) I3 ⟨1, rfl, -1, rfl, rfl, rfl⟩) ?_
  rintro vs s4 ⟨o, H4, I4, ps, rfl, rfl⟩
  cases pl
  cases pu
  have I5 : Inv X pins σ H4 { s4 with heap := s4.heap.push { cls := .type "slice", data := .fields #[.none, .none, vs] } } := I4.kept (t' := s4.toks) fun b ob q => Heap.get?_push_of_some _ q
  obtain ⟨its, r, ht, hz⟩ := I5.tuple hx
  have hlen := r.length
  show wpAny (model X.prog X.w) X.A (subscriptTail e (.Slice none none (some (.UnaryOp .USub (.Constant (.int 1) k p1) p2)) p3) (.ref a) (.ref s4.heap.objs.size)) (EP X pins σ Q) X.xe { s4 with heap := s4.heap.push { cls := .type "slice", data := .fields #[.none, .none, vs] } }
  refine tail_any (ops := [.ref a, .ref s4.heap.objs.size]) ht.typeIs (PyProof.Rows.slot_tuple_getitem.lookup) ?_ (by with_unfolding_all rfl)
  refine item_back ht (Heap.IsSliceOf.new _ .none .none vs) ps (by rw [List.size_toArray]; omega) ?_
  refine ⟨.ref _, _, I5.laid (t' := s4.toks) (o := .tup xs.reverse) (fun b ob q => Heap.get?_push_of_some _ q) (Nat.le_refl _) ?_, rfl, q _ (I5.hok.fresh (Nat.le_refl _))⟩
  exact ⟨by rw [List.length_reverse]; exact hz, _, r.reverse, IsTup.new _ _⟩
end
end Ly

/-! ### the mathematics: rows, signs, totals -/
namespace Ly
open PySem L2
/-- a row of hands -/
def RowOk (hands : Int) (row : List Int) : Prop := 2 ≤ hands ∧ hands ≤ 4 ∧ row ≠ [] ∧ row.length ≤ 64 ∧ ∀ z ∈ row, 0 ≤ z ∧ z < hands
def signOf (t a b : Int) : Int := if t = a then 1 else if t = b then -1 else 0
def signsOf (row : List Int) (a b : Int) : List Int := row.map fun t => signOf t a b
theorem signsOf_len (row : List Int) (a b : Int) : (signsOf row a b).length = row.length := by rw [signsOf, List.length_map]
theorem signOf_small (t a b : Int) : signOf t a b = 1 ∨ signOf t a b = -1 ∨ signOf t a b = 0 := by
  unfold signOf
  split
  · exact .inl rfl
  · split
    · exact .inr (.inl rfl)
    · exact .inr (.inr rfl)
/-- what a hand has -/
def tot (row ws : List Int) (h : Int) : Int := ((row.zip ws).map fun p => if p.1 = h then p.2 else 0).sum
def totsOf (hands : Int) (row ws : List Int) : List Int := (List.range hands.toNat).map fun (h : Nat) => tot row ws (h : Int)
theorem tot_more {row ws : List Int} {i : Nat} {t w h : Int} (e1 : row[i]? = some t) (e2 : ws[i]? = some w) : tot (row.take (i + 1)) (ws.take (i + 1)) h = tot (row.take i) (ws.take i) h + if t = h then w else 0 := by
  have e : (row.take (i + 1)).zip (ws.take (i + 1)) = (row.take i).zip (ws.take i) ++ [(t, w)] := by
    rw [List.take_add_one, List.take_add_one, e1, e2]
    refine List.zip_append ?_
    have l1 := (List.getElem?_eq_some_iff.mp e1).1
    have l2 := (List.getElem?_eq_some_iff.mp e2).1
    rw [List.length_take, List.length_take]
    omega
  unfold tot
  rw [e, List.map_append, List.sum_append]
  simp
theorem totsOf_at {hands : Int} {row ws : List Int} {h : Nat} (hh : (h : Int) < hands) : (totsOf hands row ws)[h]? = some (tot row ws (h : Int)) := by
  unfold totsOf
  rw [List.getElem?_map, List.getElem?_range (by omega)]
  rfl
theorem totsOf_len {hands : Int} {row ws : List Int} : (totsOf hands row ws).length = hands.toNat := by
  unfold totsOf
  rw [List.length_map, List.length_range]
theorem totsOf_more {hands : Int} {row ws : List Int} {i : Nat} {t w : Int} (e1 : row[i]? = some t) (e2 : ws[i]? = some w) (h0 : 0 ≤ t) (h1 : t < hands) :
    totsOf hands (row.take (i + 1)) (ws.take (i + 1)) = (totsOf hands (row.take i) (ws.take i)).set t.toNat (tot (row.take i) (ws.take i) t + w) := by
  refine List.ext_getElem? fun k => ?_
  rw [List.getElem?_set, totsOf_len]
  by_cases hk : k < hands.toNat
  · have hk2 : (k : Int) < hands := by omega
    rw [totsOf_at hk2, tot_more e1 e2]
    by_cases hc : t.toNat = k
    · have ht : t = (k : Int) := by omega
      rw [if_pos hc, if_pos (show t.toNat < hands.toNat by omega), if_pos ht, ht]
    · rw [if_neg hc, totsOf_at hk2, if_neg (by omega), Int.add_zero]
  · rw [List.getElem?_eq_none (by rw [totsOf_len]; omega), if_neg (by omega), List.getElem?_eq_none (by rw [totsOf_len]; omega)]
theorem totsOf_nil {hands : Int} : totsOf hands [] [] = List.replicate hands.toNat 0 := by
  refine List.ext_getElem? fun k => ?_
  by_cases hk : k < hands.toNat
  · rw [totsOf_at (by omega), List.getElem?_replicate, if_pos hk]
    rfl
  · rw [List.getElem?_eq_none (by rw [totsOf_len]; omega), List.getElem?_eq_none (by rw [List.length_replicate]; omega)]

/-- a lead by signs -/
def leadBy (sg ws : List Int) : Int := ((sg.zip ws).map fun p => p.1 * p.2).sum
theorem leadBy_cons (s w : Int) (sg ws : List Int) : leadBy (s :: sg) (w :: ws) = s * w + leadBy sg ws := by
  unfold leadBy
  rw [List.zip_cons_cons, List.map_cons, List.sum_cons]
theorem tot_cons (t w h : Int) (row ws : List Int) : tot (t :: row) (w :: ws) h = (if t = h then w else 0) + tot row ws h := by
  unfold tot
  rw [List.zip_cons_cons, List.map_cons, List.sum_cons]
theorem lead_tot {a b : Int} (hab : a ≠ b) : ∀ row ws : List Int, leadBy (signsOf row a b) ws = tot row ws a - tot row ws b
  | [], ws => by simp [leadBy, signsOf, tot]
  | t :: r, [] => by simp [leadBy, tot]
  | t :: r, w :: ws => by
    have ih := lead_tot hab r ws
    show leadBy (signOf t a b :: signsOf r a b) (w :: ws) = _
    rw [leadBy_cons, tot_cons, tot_cons, ih]
    unfold signOf
    by_cases h1 : t = a
    · rw [if_pos h1, if_pos h1, if_neg (fun z => hab (h1.symm.trans z))]
      omega
    · by_cases h2 : t = b
      · rw [if_neg h1, if_pos h2, if_neg h1, if_pos h2]
        omega
      · rw [if_neg h1, if_neg h2, if_neg h1, if_neg h2]
        omega
theorem erase_perm : ∀ (l : List Int) {i : Nat} (h : i < l.length), (l[i] :: l.eraseIdx i).Perm l
  | [], _, h => absurd h (Nat.not_lt_zero _)
  | a :: r, 0, _ => .refl _
  | a :: r, i + 1, h => (List.Perm.swap a (r[i]'(Nat.lt_of_succ_lt_succ h)) (r.eraseIdx i)).trans ((erase_perm r (Nat.lt_of_succ_lt_succ h)).cons a)
theorem erase_map : ∀ (l : List Int) (i : Nat), (l.map V.int).eraseIdx i = (l.eraseIdx i).map V.int
  | [], _ => rfl
  | a :: r, 0 => rfl
  | a :: r, i + 1 => by
    rw [List.map_cons, List.eraseIdx_cons_succ, erase_map r i, List.eraseIdx_cons_succ, List.map_cons]
/-- the numbers below m -/
def nums (m : Nat) : List Int := (List.range m).map fun (i : Nat) => (i : Int)
theorem nums_len (m : Nat) : (nums m).length = m := by rw [nums, List.length_map, List.length_range]
theorem nums_mem {m : Nat} {z : Int} : z ∈ nums m ↔ 0 ≤ z ∧ z < (m : Int) := by
  unfold nums
  rw [List.mem_map]
  constructor
  · rintro ⟨i, hi, e⟩
    rw [List.mem_range] at hi
    omega
  · rintro ⟨h1, h2⟩
    exact ⟨z.toNat, List.mem_range.mpr (by omega), by omega⟩
theorem nums_nodup (m : Nat) : (nums m).Nodup := List.Pairwise.map _ (fun x y h e => h (Int.ofNat.inj e)) List.nodup_range
/-- a row put into another one -/
def putL (hands : Int) (row other : List Int) : List Int := other.flatMap fun t => row.map fun x => (x + t) % hands
theorem putL_len (hands : Int) (row other : List Int) : (putL hands row other).length = other.length * row.length := by
  induction other with
  | nil => simp [putL]
  | cons t r ih =>
    show (row.map (fun x => (x + t) % hands) ++ putL hands row r).length = _
    rw [List.length_append, List.length_map, ih, List.length_cons, Nat.add_mul, Nat.one_mul, Nat.add_comm]
theorem putL_mem {hands : Int} (h : 0 < hands) {row other : List Int} : ∀ z ∈ putL hands row other, 0 ≤ z ∧ z < hands := by
  intro z hz
  obtain ⟨t, _, hz⟩ := List.mem_flatMap.mp hz
  obtain ⟨x, _, e⟩ := List.mem_map.mp hz
  rw [← e]
  exact ⟨Int.emod_nonneg _ (by omega), Int.emod_lt_of_pos _ h⟩
theorem putL_more (hands : Int) (row : List Int) {other : List Int} {i : Nat} {t : Int} (h : other[i]? = some t) : putL hands row (other.take (i + 1)) = putL hands row (other.take i) ++ row.map fun x => (x + t) % hands := by
  unfold putL
  rw [List.take_add_one, h, List.flatMap_append]
  congr 1
  show (row.map _) ++ [] = _
  rw [List.append_nil]
end Ly

/-! ### the mathematics: differences -/
namespace Ly
/-- the differences of a line -/
def diffs : List Int → List Int
  | x :: y :: r => (y - x) :: diffs (y :: r)
  | _ => []
def diffsN : Nat → List Int → List Int
  | 0, l => l
  | n + 1, l => diffs (diffsN n l)
theorem diffs_len : ∀ l : List Int, (diffs l).length = l.length - 1
  | [] => rfl
  | [_] => rfl
  | x :: y :: r => by
    show (diffs (y :: r)).length + 1 = r.length + 1 + 1 - 1
    rw [diffs_len (y :: r), List.length_cons]
    omega
theorem diffs_at : ∀ (l : List Int) (i : Nat) (x y : Int), l[i]? = some x → l[i + 1]? = some y → (diffs l)[i]? = some (y - x)
  | [], _, _, _, h, _ => by simp at h
  | [_], 0, _, _, _, h => by simp at h
  | [_], _ + 1, _, _, h, _ => by simp at h
  | a :: b :: r, 0, x, y, h, h2 => by
    rw [← Option.some.inj h, ← Option.some.inj h2]
    rfl
  | a :: b :: r, i + 1, x, y, h, h2 => diffs_at (b :: r) i x y h h2
theorem diffsN_len (n : Nat) (l : List Int) : (diffsN n l).length = l.length - n := by
  induction n with
  | zero => rfl
  | succ n ih =>
    show (diffs (diffsN n l)).length = _
    rw [diffs_len, ih]
    omega
/-- differences of numbers that go on -/
def Df (f : Nat → Int) : Nat → Int := fun n => f (n + 1) - f n
def DN : Nat → (Nat → Int) → Nat → Int
  | 0, f => f
  | m + 1, f => Df (DN m f)
theorem DN_succ (m : Nat) (f : Nat → Int) : DN (m + 1) f = DN m (Df f) := by
  induction m with
  | zero => rfl
  | succ m ih =>
    show Df (DN (m + 1) f) = Df (DN m (Df f))
    rw [ih]
/-- a line as the first so many of f -/
def line (f : Nat → Int) (n : Nat) : List Int := (List.range n).map f
theorem line_len (f : Nat → Int) (n : Nat) : (line f n).length = n := by rw [line, List.length_map, List.length_range]
theorem line_at {f : Nat → Int} {n i : Nat} (h : i < n) : (line f n)[i]? = some (f i) := by
  rw [line, List.getElem?_map, List.getElem?_range h]
  rfl
theorem line_ext {l : List Int} {f : Nat → Int} {n : Nat} (hl : l.length = n) (h : ∀ i, i < n → l[i]? = some (f i)) : l = line f n := by
  refine List.ext_getElem? fun i => ?_
  by_cases hi : i < n
  · rw [h i hi, line_at hi]
  · rw [List.getElem?_eq_none (by omega), List.getElem?_eq_none (by rw [line_len]; omega)]
theorem diffs_line (f : Nat → Int) (n : Nat) : diffs (line f n) = line (Df f) (n - 1) := by
  refine line_ext (by rw [diffs_len, line_len]) fun i hi => ?_
  exact diffs_at _ i _ _ (line_at (by omega)) (line_at (by omega))
theorem diffsN_line (m : Nat) (f : Nat → Int) (n : Nat) : diffsN m (line f n) = line (DN m f) (n - m) := by
  induction m with
  | zero => rfl
  | succ m ih =>
    show diffs (diffsN m (line f n)) = _
    rw [ih, diffs_line]
    show line (DN (m + 1) f) (n - m - 1) = line (DN (m + 1) f) (n - (m + 1))
    rw [show n - m - 1 = n - (m + 1) by omega]
/-- every line goes on somehow -/
theorem line_of (l : List Int) : l = line (fun i => l.getD i 0) l.length := by
  refine line_ext rfl fun i hi => ?_
  rw [List.getD_eq_getElem?_getD, List.getElem?_eq_getElem hi]
  rfl
/-! smooth: the differences of order m are nought -/
def Sm (m : Nat) (f : Nat → Int) : Prop := ∀ n, DN m f n = 0
theorem Sm.step {m : Nat} {f : Nat → Int} (h : Sm m (Df f)) : Sm (m + 1) f := fun n => by
  rw [DN_succ]
  exact h n
theorem Sm.back {m : Nat} {f : Nat → Int} (h : Sm (m + 1) f) : Sm m (Df f) := fun n => by
  rw [← DN_succ]
  exact h n
theorem Sm.more {m : Nat} {f : Nat → Int} (h : Sm m f) : Sm (m + 1) f := fun n => by
  show DN m f (n + 1) - DN m f n = 0
  rw [h, h]
  rfl
theorem Sm.le {m k : Nat} {f : Nat → Int} (h : Sm m f) (l : m ≤ k) : Sm k f := by
  induction l with
  | refl => exact h
  | step _ ih => exact ih.more
theorem DN_add (m : Nat) : ∀ (f g : Nat → Int), DN m (fun n => f n + g n) = fun n => DN m f n + DN m g n := by
  induction m with
  | zero => intros; rfl
  | succ m ih =>
    intro f g
    funext n
    show DN m (fun n => f n + g n) (n + 1) - DN m (fun n => f n + g n) n = (DN m f (n + 1) - DN m f n) + (DN m g (n + 1) - DN m g n)
    rw [ih]
    show (DN m f (n + 1) + DN m g (n + 1)) - (DN m f n + DN m g n) = _
    omega
theorem DN_mul (m : Nat) (c : Int) : ∀ f : Nat → Int, DN m (fun n => c * f n) = fun n => c * DN m f n := by
  induction m with
  | zero => intros; rfl
  | succ m ih =>
    intro f
    funext n
    show DN m (fun n => c * f n) (n + 1) - DN m (fun n => c * f n) n = c * (DN m f (n + 1) - DN m f n)
    rw [ih]
    show c * DN m f (n + 1) - c * DN m f n = _
    rw [Int.mul_sub]
theorem DN_shift (m : Nat) : ∀ f : Nat → Int, DN m (fun n => f (n + 1)) = fun n => DN m f (n + 1) := by
  induction m with
  | zero => intros; rfl
  | succ m ih =>
    intro f
    funext n
    show DN m (fun n => f (n + 1)) (n + 1) - DN m (fun n => f (n + 1)) n = DN m f (n + 1 + 1) - DN m f (n + 1)
    rw [ih]
theorem Sm.add {m : Nat} {f g : Nat → Int} (h : Sm m f) (k : Sm m g) : Sm m (fun n => f n + g n) := fun n => by
  rw [DN_add]
  show DN m f n + DN m g n = 0
  rw [h, k]
  rfl
theorem Sm.mul {m : Nat} {f : Nat → Int} (c : Int) (h : Sm m f) : Sm m (fun n => c * f n) := fun n => by
  rw [DN_mul]
  show c * DN m f n = 0
  rw [h, Int.mul_zero]
theorem Sm.zero (m : Nat) : Sm m (fun _ => 0) := Sm.le (m := 0) (fun _ => rfl) (Nat.zero_le m)
theorem Sm.times {m : Nat} : ∀ {f : Nat → Int}, Sm m f → Sm (m + 1) (fun (n : Nat) => (n : Int) * f n) := by
  induction m with
  | zero =>
    intro f h n
    have e : ∀ k, f k = 0 := h
    show ((n + 1 : Nat) : Int) * f (n + 1) - (n : Int) * f n = 0
    rw [e, e]
    simp
  | succ m ih =>
    intro f h
    refine Sm.step ?_
    have e : Df (fun (n : Nat) => (n : Int) * f n) = fun (n : Nat) => (n : Int) * Df f n + f (n + 1) := by
      funext n
      show ((n + 1 : Nat) : Int) * f (n + 1) - (n : Int) * f n = (n : Int) * (f (n + 1) - f n) + f (n + 1)
      rw [Int.natCast_add, Int.add_mul, Int.mul_sub]
      omega
    rw [e]
    refine Sm.add (ih h.back) fun n => ?_
    rw [DN_shift]
    exact h (n + 1)
theorem Sm.pow : ∀ k : Nat, Sm (k + 1) (fun n => (n : Int) ^ k)
  | 0 => fun n => by
    show ((n + 1 : Nat) : Int) ^ 0 - ((n : Nat) : Int) ^ 0 = 0
    simp
  | k + 1 => by
    have h := (Sm.pow k).times
    have e : (fun n : Nat => (n : Int) * (n : Int) ^ k) = fun n : Nat => (n : Int) ^ (k + 1) := by
      funext n
      rw [Int.pow_succ, Int.mul_comm]
    rw [e] at h
    exact h
/-- made of powers -/
def poly (cs : List Int) (n : Nat) : Int := (cs.zipIdx.map fun p => p.1 * (n : Int) ^ p.2).sum
theorem sm_polyFrom : ∀ (cs : List Int) (k m : Nat), k + cs.length ≤ m → Sm m (fun n => ((cs.zipIdx k).map fun p => p.1 * (n : Int) ^ p.2).sum)
  | [], _, m, _ => Sm.zero m
  | c :: r, k, m, h => by
    have ih := sm_polyFrom r (k + 1) m (by rw [List.length_cons] at h; omega)
    have e : (fun n : Nat => (((c :: r).zipIdx k).map fun p => p.1 * (n : Int) ^ p.2).sum) = fun n : Nat => c * (n : Int) ^ k + ((r.zipIdx (k + 1)).map fun p => p.1 * (n : Int) ^ p.2).sum := by
      funext n
      rw [List.zipIdx_cons, List.map_cons, List.sum_cons]
    rw [e]
    exact Sm.add (Sm.mul c ((Sm.pow k).le (by rw [List.length_cons] at h; omega))) ih
theorem sm_poly (cs : List Int) : Sm cs.length (poly cs) := sm_polyFrom cs 0 cs.length (by omega)
/-- a line is smooth to d -/
def SmL (m : Nat) (l : List Int) : Prop := ∀ z ∈ diffsN m l, z = 0
theorem SmL.of {m n : Nat} {f : Nat → Int} (h : Sm m f) : SmL m (line f n) := fun z hz => by
  rw [diffsN_line] at hz
  obtain ⟨i, _, e⟩ := List.mem_map.mp hz
  rw [← e]
  exact h i
/-! one worth changed -/
def bump (i : Nat) (n : Nat) : Int := if n = i then 1 else 0
def bin : Nat → Nat → Nat
  | _, 0 => 1
  | 0, _ + 1 => 0
  | n + 1, k + 1 => bin n k + bin n (k + 1)
def alt (n : Nat) : Int := if n % 2 = 0 then 1 else -1
theorem alt_succ (n : Nat) : alt (n + 1) = - alt n := by
  unfold alt
  rcases Nat.mod_two_eq_zero_or_one n with h | h
  · rw [if_neg (by omega), if_pos h]
  · rw [if_pos (by omega), if_neg (by omega)]
    rfl
theorem bin_pos : ∀ {n k : Nat}, k ≤ n → 0 < bin n k
  | n, 0, _ => by
    cases n <;> exact Nat.one_pos
  | 0, k + 1, h => by omega
  | n + 1, k + 1, h => by
    have := bin_pos (n := n) (k := k) (by omega)
    show 0 < bin n k + bin n (k + 1)
    omega
theorem bin_big : ∀ {n k : Nat}, n < k → bin n k = 0
  | _, 0, h => by omega
  | 0, _ + 1, _ => rfl
  | n + 1, k + 1, h => by
    show bin n k + bin n (k + 1) = 0
    rw [bin_big (by omega), bin_big (by omega)]
theorem alt_sq (n : Nat) : alt n = 1 ∨ alt n = -1 := by
  unfold alt
  split
  · exact .inl rfl
  · exact .inr rfl
theorem DN_bump (m : Nat) : ∀ i j : Nat, DN m (bump i) j = if j ≤ i then alt (m + i + j) * (bin m (i - j) : Int) else 0 := by
  induction m with
  | zero =>
    intro i j
    show bump i j = _
    unfold bump
    by_cases h : j = i
    · rw [if_pos h, if_pos (by omega), h, Nat.sub_self]
      have e : alt (0 + i + i) = 1 := by
        unfold alt
        rw [if_pos (by omega)]
      rw [e]
      cases i <;> rfl
    · rw [if_neg h]
      by_cases h2 : j ≤ i
      · rw [if_pos h2, bin_big (by omega)]
        simp
      · rw [if_neg h2]
  | succ m ih =>
    intro i j
    show DN m (bump i) (j + 1) - DN m (bump i) j = _
    rw [ih, ih]
    have e1 : alt (m + i + (j + 1)) = - alt (m + i + j) := by
      rw [← alt_succ, Nat.add_assoc (m + i) j 1]
    have e2 : alt (m + 1 + i + j) = - alt (m + i + j) := by
      rw [← alt_succ, show m + i + j + 1 = m + 1 + i + j by omega]
    by_cases h1 : j + 1 ≤ i
    · rw [if_pos h1, if_pos (by omega), if_pos (by omega), e1, e2]
      obtain ⟨k, hk⟩ : ∃ k, i - j = k + 1 := ⟨i - j - 1, by omega⟩
      rw [hk, show i - (j + 1) = k by omega]
      show _ = -alt (m + i + j) * ((bin m k + bin m (k + 1) : Nat) : Int)
      rw [Int.natCast_add, Int.mul_add, Int.neg_mul, Int.neg_mul]
      omega
    · rw [if_neg h1]
      by_cases h2 : j ≤ i
      · rw [if_pos h2, if_pos h2, e2, show i - j = 0 by omega]
        have e3 : ∀ n, bin n 0 = 1 := fun n => by cases n <;> rfl
        rw [e3, e3, Int.neg_mul]
        omega
      · rw [if_neg h2, if_neg h2]
        rfl
/-- smooth numbers with one changed are not smooth -/
theorem bent_not {m n i : Nat} {f : Nat → Int} {c : Int} (h : Sm m f) (hi : i < n) (hm : m < n) (hc : c ≠ 0) : ¬ SmL m (line (fun k => f k + c * bump i k) n) := fun z => by
  have hj : min i (n - 1 - m) < n - m := by omega
  have q := z (DN m (fun k => f k + c * bump i k) (min i (n - 1 - m))) (by
    rw [diffsN_line]
    exact List.mem_map.mpr ⟨_, List.mem_range.mpr hj, rfl⟩)
  rw [DN_add, DN_mul] at q
  have q2 : DN m f (min i (n - 1 - m)) + c * DN m (bump i) (min i (n - 1 - m)) = 0 := q
  rw [h, DN_bump, if_pos (by omega), Int.zero_add] at q2
  have p := bin_pos (n := m) (k := i - min i (n - 1 - m)) (by omega)
  rcases Int.mul_eq_zero.mp q2 with e | e
  · exact hc e
  · rcases Int.mul_eq_zero.mp e with e | e
    · rcases alt_sq (m + i + min i (n - 1 - m)) with a | a <;> rw [a] at e <;> omega
    · omega
end Ly
namespace Ly
open PySem L2
theorem cut1 (xs : List V) : cutV xs (some 1) none = xs.drop 1 := by
  unfold cutV
  rw [show HT.sIx xs.length 0 (some 1) = min 1 xs.length from HT.sIx_nat xs.length 0 1, HT.sIx_none]
  cases xs with
  | nil => rfl
  | cons x r =>
    rw [show min 1 (x :: r).length = 1 by rw [List.length_cons]; omega, List.take_of_length_le]
    rw [List.length_drop]
    exact Nat.le_refl _
/-- all differences of an order are nought -/
def smB (m : Nat) (l : List Int) : Bool := (diffsN m l).all fun z => decide (z = 0)
theorem smB_iff {m : Nat} {l : List Int} : smB m l = true ↔ SmL m l := by
  unfold smB SmL
  rw [List.all_eq_true]
  exact ⟨fun h z hz => of_decide_eq_true (h z hz), fun h z hz => decide_eq_true (h z hz)⟩
end Ly

/-! ### the mathematics: sums, moments, evenness -/
namespace Ly
/-- the sum of the first n -/
def sumTo : Nat → (Nat → Int) → Int
  | 0, _ => 0
  | n + 1, g => sumTo n g + g n
theorem sumTo_ext {n : Nat} {f g : Nat → Int} (h : ∀ i, i < n → f i = g i) : sumTo n f = sumTo n g := by
  induction n with
  | zero => rfl
  | succ n ih =>
    show sumTo n f + f n = sumTo n g + g n
    rw [ih fun i hi => h i (by omega), h n (by omega)]
theorem sumTo_add (n : Nat) (f g : Nat → Int) : sumTo n (fun i => f i + g i) = sumTo n f + sumTo n g := by
  induction n with
  | zero => rfl
  | succ n ih =>
    show sumTo n (fun i => f i + g i) + (f n + g n) = (sumTo n f + f n) + (sumTo n g + g n)
    rw [ih]
    omega
theorem sumTo_mul (n : Nat) (c : Int) (f : Nat → Int) : sumTo n (fun i => c * f i) = c * sumTo n f := by
  induction n with
  | zero => rw [sumTo, sumTo, Int.mul_zero]
  | succ n ih =>
    show sumTo n (fun i => c * f i) + c * f n = c * (sumTo n f + f n)
    rw [ih, Int.mul_add]
theorem sumTo_zero {n : Nat} {f : Nat → Int} (h : ∀ i, i < n → f i = 0) : sumTo n f = 0 := by
  induction n with
  | zero => rfl
  | succ n ih =>
    show sumTo n f + f n = 0
    rw [ih fun i hi => h i (by omega), h n (by omega)]
    rfl
theorem sumTo_sub (n : Nat) (f g : Nat → Int) : sumTo n (fun i => f i - g i) = sumTo n f - sumTo n g := by
  induction n with
  | zero => rfl
  | succ n ih =>
    show sumTo n (fun i => f i - g i) + (f n - g n) = (sumTo n f + f n) - (sumTo n g + g n)
    rw [ih]
    omega
theorem line_sum (f : Nat → Int) (n : Nat) : (line f n).sum = sumTo n f := by
  induction n with
  | zero => rfl
  | succ n ih =>
    rw [line, List.range_succ, List.map_append, List.sum_append]
    show (line f n).sum + _ = sumTo n f + f n
    rw [ih, List.map_singleton, List.sum_cons, List.sum_nil, Int.add_zero]
/-- sums over all places up to each -/
def Su (s : Nat → Int) : Nat → Int := fun i => sumTo (i + 1) s
def SN : Nat → (Nat → Int) → Nat → Int
  | 0, s => s
  | k + 1, s => Su (SN k s)
theorem SN_succ (k : Nat) (s : Nat → Int) : SN (k + 1) s = SN k (Su s) := by
  induction k with
  | zero => rfl
  | succ k ih =>
    show Su (SN (k + 1) s) = Su (SN k (Su s))
    rw [ih]
theorem SN_ext {k : Nat} {s t : Nat → Int} {n : Nat} (h : ∀ i, i < n → s i = t i) : ∀ i, i < n → SN k s i = SN k t i := by
  induction k with
  | zero => exact h
  | succ k ih => exact fun i hi => sumTo_ext fun j hj => ih j (by omega)
/-- the sums of order k of a line -/
def psums (l : List Int) : List Int := (List.range l.length).map fun i => (l.take (i + 1)).sum
def psumsN : Nat → List Int → List Int
  | 0, l => l
  | k + 1, l => psums (psumsN k l)
theorem psums_len (l : List Int) : (psums l).length = l.length := by rw [psums, List.length_map, List.length_range]
theorem psumsN_len (k : Nat) (l : List Int) : (psumsN k l).length = l.length := by
  induction k with
  | zero => rfl
  | succ k ih =>
    show (psums (psumsN k l)).length = _
    rw [psums_len, ih]
theorem line_take {f : Nat → Int} {n i : Nat} (h : i ≤ n) : (line f n).take i = line f i := by
  refine line_ext (by rw [List.length_take, line_len]; omega) fun j hj => ?_
  rw [List.getElem?_take_of_lt hj, line_at (by omega)]
theorem psums_line (s : Nat → Int) (n : Nat) : psums (line s n) = line (Su s) n := by
  refine line_ext (by rw [psums_len, line_len]) fun i hi => ?_
  rw [psums, List.getElem?_map, line_len, List.getElem?_range hi]
  show some ((line s n).take (i + 1)).sum = _
  rw [line_take (by omega), line_sum]
  rfl
theorem psumsN_line (k : Nat) (s : Nat → Int) (n : Nat) : psumsN k (line s n) = line (SN k s) n := by
  induction k with
  | zero => rfl
  | succ k ih =>
    show psums (psumsN k (line s n)) = _
    rw [ih, psums_line]
    rfl
/-- the last sums of the orders from 1 to m are nought -/
def Lz (n : Nat) (s : Nat → Int) (m : Nat) : Prop := ∀ k, k < m → sumTo n (SN k s) = 0
theorem Lz.first {n m : Nat} {s : Nat → Int} (h : Lz n s (m + 1)) : sumTo n s = 0 := h 0 (by omega)
theorem Lz.rest {n m : Nat} {s : Nat → Int} (h : Lz n s (m + 1)) : Lz n (Su s) m := fun k hk => by
  rw [← SN_succ]
  exact h (k + 1) (by omega)
theorem Lz.mk {n m : Nat} {s : Nat → Int} (h : sumTo n s = 0) (r : Lz n (Su s) m) : Lz n s (m + 1) := fun k hk => by
  cases k with
  | zero => exact h
  | succ k =>
    rw [SN_succ]
    exact r k (by omega)
/-- sums by parts -/
theorem parts (n : Nat) (s f : Nat → Int) : sumTo n (fun i => s i * f i) = sumTo n s * f n - sumTo n (fun i => Su s i * Df f i) := by
  induction n with
  | zero =>
    show (0 : Int) = 0 * f 0 - 0
    rw [Int.zero_mul]
    rfl
  | succ n ih =>
    show sumTo n (fun i => s i * f i) + s n * f n = sumTo (n + 1) s * f (n + 1) - (sumTo n (fun i => Su s i * Df f i) + sumTo (n + 1) s * (f (n + 1) - f n))
    rw [ih, Int.mul_sub]
    show _ = sumTo (n + 1) s * f (n + 1) - (_ + (_ - (sumTo n s + s n) * f n))
    rw [Int.add_mul]
    omega
theorem parts0 {n : Nat} {s : Nat → Int} (h : sumTo n s = 0) (f : Nat → Int) : sumTo n (fun i => s i * f i) = - sumTo n (fun i => Su s i * Df f i) := by
  rw [parts, h, Int.zero_mul]
  omega
/-- then at all that is smooth it comes to nought -/
theorem Lz.smooth {m : Nat} : ∀ {n : Nat} {s f : Nat → Int}, Lz n s m → Sm m f → sumTo n (fun i => s i * f i) = 0 := by
  induction m with
  | zero =>
    intro n s f _ hf
    have e : ∀ i, f i = 0 := hf
    exact sumTo_zero fun i _ => by rw [e i, Int.mul_zero]
  | succ m ih =>
    intro n s f h hf
    rw [parts0 h.first, ih h.rest hf.back]
    rfl
/-- moments below m are nought -/
def Mz (n : Nat) (s : Nat → Int) (m : Nat) : Prop := ∀ k, k < m → sumTo n (fun i => s i * (i : Int) ^ k) = 0
theorem Lz.moments {n m : Nat} {s : Nat → Int} (h : Lz n s m) : Mz n s m := fun k hk => h.smooth ((Sm.pow k).le hk)
/-- made of powers below m -/
inductive Pw (m : Nat) : (Nat → Int) → Prop
  | nil : Pw m (fun _ => 0)
  | more {f : Nat → Int} (c : Int) (k : Nat) (hk : k < m) : Pw m f → Pw m (fun i => c * (i : Int) ^ k + f i)
theorem Pw.add {m : Nat} {f g : Nat → Int} (hf : Pw m f) (hg : Pw m g) : Pw m (fun i => f i + g i) := by
  induction hf with
  | nil =>
    have e : (fun i => (0 : Int) + g i) = g := funext fun i => Int.zero_add _
    rw [e]
    exact hg
  | @more f c k hk _ ih =>
    have e : (fun i : Nat => c * (i : Int) ^ k + f i + g i) = fun i : Nat => c * (i : Int) ^ k + (f i + g i) := funext fun i => Int.add_assoc _ _ _
    rw [e]
    exact .more c k hk ih
theorem Pw.le {m k : Nat} {f : Nat → Int} (h : Pw m f) (l : m ≤ k) : Pw k f := by
  induction h with
  | nil => exact .nil
  | more c j hj _ ih => exact .more c j (by omega) ih
theorem Pw.times {m : Nat} {f : Nat → Int} (h : Pw m f) : Pw (m + 1) (fun i => (i : Int) * f i) := by
  induction h with
  | nil =>
    have e : (fun i : Nat => (i : Int) * 0) = fun _ => (0 : Int) := funext fun i => Int.mul_zero _
    rw [e]
    exact .nil
  | @more f c k hk _ ih =>
    have e : (fun i : Nat => (i : Int) * (c * (i : Int) ^ k + f i)) = fun i : Nat => c * (i : Int) ^ (k + 1) + (i : Int) * f i := funext fun i => by
      rw [Int.mul_add, Int.pow_succ, ← Int.mul_assoc, Int.mul_comm (i : Int) c, Int.mul_assoc, Int.mul_comm (i : Int) ((i : Int) ^ k)]
    rw [e]
    exact .more c (k + 1) (by omega) ih
theorem Pw.at {m n : Nat} {s f : Nat → Int} (h : Pw m f) (z : Mz n s m) : sumTo n (fun i => s i * f i) = 0 := by
  induction h with
  | nil => exact sumTo_zero fun i _ => Int.mul_zero _
  | @more f c k hk _ ih =>
    have e : (fun i : Nat => s i * (c * (i : Int) ^ k + f i)) = fun i => c * (s i * (i : Int) ^ k) + s i * f i := funext fun i => by
      rw [Int.mul_add, ← Int.mul_assoc, Int.mul_comm (s i) c, Int.mul_assoc]
    rw [e, sumTo_add, sumTo_mul, z k hk, ih, Int.mul_zero]
    rfl
/-- the difference of a power -/
theorem pow_step (k : Nat) : ∃ r, Pw k r ∧ ∀ i : Nat, ((i : Int) + 1) ^ (k + 1) = (i : Int) ^ (k + 1) + ((k : Int) + 1) * (i : Int) ^ k + r i := by
  induction k with
  | zero => exact ⟨_, .nil, fun i => by simp [Int.pow_succ, Int.pow_zero]⟩
  | succ k ih =>
    obtain ⟨r, hr, h⟩ := ih
    refine ⟨fun i => ((k : Int) + 1) * (i : Int) ^ k + ((i : Int) * r i + r i), .more _ k (by omega) (Pw.add hr.times (hr.le (by omega))), fun i => ?_⟩
    have e1 : (i : Int) ^ (k + 1 + 1) = (i : Int) ^ (k + 1) * (i : Int) := Int.pow_succ _ _
    have e2 : (i : Int) ^ (k + 1) = (i : Int) ^ k * (i : Int) := Int.pow_succ _ _
    show _ = (i : Int) ^ (k + 1 + 1) + (((k + 1 : Nat) : Int) + 1) * (i : Int) ^ (k + 1) + (((k : Int) + 1) * (i : Int) ^ k + ((i : Int) * r i + r i))
    rw [Int.pow_succ, h i, e1, e2, Int.mul_add, Int.add_mul, Int.add_mul, Int.mul_one, Int.natCast_succ]
    generalize (i : Int) ^ k = p
    generalize (i : Int) = x
    generalize r i = q
    generalize (k : Int) = c
    have a1 : (c + 1) * p * x = (c + 1) * (p * x) := Int.mul_assoc _ _ _
    have a2 : (c + 1 + 1) * (p * x) = (c + 1) * (p * x) + p * x := by rw [Int.add_mul (c + 1) 1, Int.one_mul]
    rw [a1, a2, Int.mul_comm x q]
    generalize (c + 1) * (p * x) = u
    generalize (c + 1) * p = v
    omega
theorem Mz.sums {n m : Nat} {s : Nat → Int} (h : Mz n s (m + 1)) : Mz n (Su s) m := by
  have h0 : sumTo n s = 0 := by
    rw [← h 0 (by omega)]
    exact sumTo_ext fun i _ => by rw [Int.pow_zero, Int.mul_one]
  intro k
  refine Nat.strongRecOn k ?_
  intro k ih hk
  obtain ⟨r, hr, e⟩ := pow_step k
  have z := parts0 h0 (fun i : Nat => (i : Int) ^ (k + 1))
  rw [h (k + 1) (by omega)] at z
  have e2 : (fun i => Su s i * Df (fun i : Nat => (i : Int) ^ (k + 1)) i) = fun i => ((k : Int) + 1) * (Su s i * (i : Int) ^ k) + Su s i * r i := funext fun i => by
    show Su s i * (((i + 1 : Nat) : Int) ^ (k + 1) - (i : Int) ^ (k + 1)) = _
    rw [Int.natCast_succ, e i]
    have e3 : (i : Int) ^ (k + 1) + ((k : Int) + 1) * (i : Int) ^ k + r i - (i : Int) ^ (k + 1) = ((k : Int) + 1) * (i : Int) ^ k + r i := by omega
    rw [e3, Int.mul_add, ← Int.mul_assoc, Int.mul_comm (Su s i) ((k : Int) + 1), Int.mul_assoc]
  rw [e2, sumTo_add, sumTo_mul, hr.at fun j hj => ih j hj (by omega)] at z
  have z2 : ((k : Int) + 1) * sumTo n (fun i => Su s i * (i : Int) ^ k) = 0 := by omega
  rcases Int.mul_eq_zero.mp z2 with q | q
  · omega
  · exact q
theorem Mz.last {m : Nat} : ∀ {n : Nat} {s : Nat → Int}, Mz n s m → Lz n s m := by
  induction m with
  | zero => exact fun _ k hk => absurd hk (Nat.not_lt_zero k)
  | succ m ih =>
    intro n s h
    refine .mk ?_ (ih h.sums)
    rw [← h 0 (by omega)]
    exact sumTo_ext fun i _ => by rw [Int.pow_zero, Int.mul_one]
theorem lz_iff {n m : Nat} {s : Nat → Int} : Lz n s m ↔ Mz n s m := ⟨Lz.moments, Mz.last⟩
/-- numbers gone on smoothly -/
theorem smooth_on : ∀ (n : Nat) (l : List Int), l.length = n → ∃ f, Sm n f ∧ ∀ i, i < n → l[i]? = some (f i)
  | 0, _, _ => ⟨fun _ => 0, fun _ => rfl, fun i h => absurd h (Nat.not_lt_zero i)⟩
  | n + 1, l, hl => by
    obtain ⟨g, hg, h⟩ := smooth_on n (diffs l) (by rw [diffs_len]; omega)
    refine ⟨fun i => l.getD 0 0 + sumTo i g, .step ?_, ?_⟩
    · have e : Df (fun i => l.getD 0 0 + sumTo i g) = g := funext fun i => by
        show l.getD 0 0 + (sumTo i g + g i) - (l.getD 0 0 + sumTo i g) = g i
        omega
      rw [e]
      exact hg
    · intro i hi
      induction i with
      | zero =>
        rw [List.getElem?_eq_getElem (by omega)]
        show some _ = some (l.getD 0 0 + 0)
        rw [List.getD_eq_getElem?_getD, List.getElem?_eq_getElem (by omega), Int.add_zero]
        rfl
      | succ i ih =>
        have a := ih (by omega)
        have b := h i (by omega)
        have c := List.getElem?_eq_getElem (l := l) (i := i + 1) (by omega)
        rw [diffs_at l i _ _ a c] at b
        have b2 : l[i + 1] - (l.getD 0 0 + sumTo i g) = g i := Option.some.inj b
        rw [c]
        show some _ = some (l.getD 0 0 + (sumTo i g + g i))
        congr 1
        omega
theorem sq_sum {n : Nat} {f : Nat → Int} (h : sumTo n (fun i => f i * f i) = 0) : ∀ i, i < n → f i = 0 := by
  have pos : ∀ n, 0 ≤ sumTo n (fun i => f i * f i) := fun n => by
    induction n with
    | zero => exact Int.le_refl 0
    | succ n ih =>
      have q : 0 ≤ f n * f n := by
        rcases Int.le_total 0 (f n) with c | c
        · exact Int.mul_nonneg c c
        · exact Int.mul_nonneg_of_nonpos_of_nonpos c c
      show 0 ≤ sumTo n (fun i => f i * f i) + f n * f n
      omega
  induction n with
  | zero => exact fun i hi => absurd hi (Nat.not_lt_zero i)
  | succ n ih =>
    have q : 0 ≤ f n * f n := by
      rcases Int.le_total 0 (f n) with c | c
      · exact Int.mul_nonneg c c
      · exact Int.mul_nonneg_of_nonpos_of_nonpos c c
    have z : sumTo n (fun i => f i * f i) + f n * f n = 0 := h
    have p := pos n
    intro i hi
    by_cases c : i = n
    · rw [c]
      rcases Int.mul_eq_zero.mp (show f n * f n = 0 by omega) with e | e <;> exact e
    · exact ih (by omega) i (by omega)
/-- as many last sums as places are nought of nothing but noughts -/
theorem Lz.none {n : Nat} {s : Nat → Int} (h : Lz n s n) : ∀ i, i < n → s i = 0 := by
  obtain ⟨f, hf, e⟩ := smooth_on n (line s n) (line_len s n)
  have e2 : ∀ i, i < n → f i = s i := fun i hi => by
    have a := e i hi
    rw [line_at hi] at a
    exact (Option.some.inj a).symm
  have z := h.smooth hf
  rw [sumTo_ext (g := fun i => s i * s i) fun i hi => by rw [e2 i hi]] at z
  exact sq_sum z
end Ly
namespace Ly
open PySem L2
/-- the signs of two hands, place by place -/
def sg (row : List Int) (a b : Int) : Nat → Int := fun i => signOf (row.getD i 0) a b
theorem signsOf_line (row : List Int) (a b : Int) : signsOf row a b = line (sg row a b) row.length := by
  refine line_ext (signsOf_len row a b) fun i hi => ?_
  rw [signsOf, List.getElem?_map, List.getElem?_eq_getElem hi]
  show some (signOf row[i] a b) = some (signOf (row.getD i 0) a b)
  rw [List.getD_eq_getElem?_getD, List.getElem?_eq_getElem hi]
  rfl
/-- each two of the hands are even: the last sums of the orders from 1 to m are nought -/
def REv (hands : Int) (row : List Int) (m : Nat) : Prop := ∀ a b : Nat, a < b → (b : Int) < hands → Lz row.length (sg row a b) m
/-- what a hand has of the k-th powers of its places -/
def mom (row : List Int) (h : Int) (k : Nat) : Int := sumTo row.length fun i => if row.getD i 0 = h then (i : Int) ^ k else 0
theorem sg_mom (row : List Int) {a b : Int} (hab : a ≠ b) (k : Nat) : sumTo row.length (fun i => sg row a b i * (i : Int) ^ k) = mom row a k - mom row b k := by
  rw [mom, mom, ← sumTo_sub]
  refine sumTo_ext fun i _ => ?_
  unfold sg signOf
  by_cases h1 : row.getD i 0 = a
  · rw [if_pos h1, if_pos h1, if_neg (fun z => hab (h1.symm.trans z)), Int.one_mul, Int.sub_zero]
  · by_cases h2 : row.getD i 0 = b
    · rw [if_neg h1, if_pos h2, if_neg h1, if_pos h2, Int.neg_mul, Int.one_mul, Int.zero_sub]
    · rw [if_neg h1, if_neg h2, if_neg h1, if_neg h2, Int.zero_mul]
      rfl
theorem rev_mom {hands : Int} (hh : 0 < hands) {row : List Int} {m : Nat} : REv hands row m ↔ ∀ h : Nat, (h : Int) < hands → ∀ k, k < m → mom row h k = mom row 0 k := by
  have key : ∀ a b : Nat, a < b → (Lz row.length (sg row a b) m ↔ ∀ k, k < m → mom row a k = mom row b k) := fun a b hab => by
    rw [lz_iff]
    have ne : (a : Int) ≠ (b : Int) := by omega
    constructor
    · intro h k hk
      have := h k hk
      rw [sg_mom row ne] at this
      omega
    · intro h k hk
      show sumTo row.length (fun i => sg row a b i * (i : Int) ^ k) = 0
      rw [sg_mom row ne, h k hk]
      omega
  constructor
  · intro h x hx k hk
    cases x with
    | zero => rfl
    | succ x =>
      have := (key 0 (x + 1) (by omega)).mp (h 0 (x + 1) (by omega) hx) k hk
      exact this.symm
  · intro h a b hab hb
    exact (key a b hab).mpr fun k hk => by rw [h a (by omega) k hk, h b hb k hk]
/-- no row of hands is even to a degree as great as places -/
theorem rev_ends {hands : Int} {row : List Int} (ok : RowOk hands row) : ¬ REv hands row row.length := by
  obtain ⟨h1, _, h3, _, h5⟩ := ok
  intro h
  cases row with
  | nil => exact h3 rfl
  | cons t r =>
    obtain ⟨t0, t1⟩ := h5 t List.mem_cons_self
    have s1 : ∀ a b : Nat, a < b → (b : Int) < hands → sg (t :: r) a b 0 = 0 := fun a b hab hb => (h a b hab hb).none 0 (by rw [List.length_cons]; omega)
    have e : ∀ a b : Nat, sg (t :: r) a b 0 = signOf t a b := fun a b => rfl
    by_cases c : t = 0
    · have := s1 0 1 (by omega) (by omega)
      rw [e, signOf, if_pos (show t = ((0 : Nat) : Int) from c)] at this
      cases this
    · have := s1 0 t.toNat (by omega) (by omega)
      rw [e, signOf, if_neg (show ¬ t = ((0 : Nat) : Int) from c), if_pos (Int.toNat_of_nonneg t0).symm] at this
      cases this
theorem REv.le {hands : Int} {row : List Int} {m k : Nat} (h : REv hands row m) (l : k ≤ m) : REv hands row k := fun a b hab hb j hj => h a b hab hb j (by omega)
/-- the evenness: to just one degree it is the first that fails -/
theorem evn_one {p : Nat → Prop} {d e : Nat} (h1 : ∀ j, j < d → p j) (h2 : ¬ p d) (h3 : ∀ j, j < e → p j) (h4 : ¬ p e) : d = e := by
  rcases Nat.lt_trichotomy d e with c | c | c
  · exact absurd (h3 d c) h2
  · exact c
  · exact absurd (h1 e c) h4
theorem cut_to (xs : List V) (j : Nat) : cutV xs none (some (j : Int)) = xs.take j := by
  unfold cutV
  rw [show HT.sIx xs.length xs.length (some (j : Int)) = min j xs.length from HT.sIx_nat xs.length xs.length j, HT.sIx_none, List.drop_zero, Nat.sub_zero]
  by_cases c : j ≤ xs.length
  · rw [Nat.min_eq_left c]
  · rw [Nat.min_eq_right (by omega), List.take_length, List.take_of_length_le (by omega)]
theorem at_end {l : List Int} {n : Nat} {z : Int} (hl : l.length = n + 1) (h : l[n]? = some z) : atI (l.map V.int) (-1) = some (.int z) := by
  unfold atI ixN
  rw [if_neg (by decide), List.length_map, hl, if_pos (by omega)]
  show (l.map V.int)[((-1 : Int) + ((n + 1 : Nat) : Int)).toNat]? = _
  rw [show ((-1 : Int) + ((n + 1 : Nat) : Int)).toNat = n by omega, List.getElem?_map, h]
  rfl
/-- a pair of hands at x -/
def PrAt (H : Hp) (x : V) (a b : Nat) : Prop := ∃ u, x = .ref u ∧ H u = some (.tup [.int (a : Int), .int (b : Int)])
/-- the pairs whose first is below i -/
def Prs (i m : Nat) (rs : List V) (H : Hp) : Prop := (∀ x ∈ rs, ∃ a b, a < b ∧ b < m ∧ a < i ∧ PrAt H x a b) ∧ ∀ a b, a < b → b < m → a < i → ∃ x ∈ rs, PrAt H x a b
theorem PrAt.keep {H H' : Hp} {x : V} {a b : Nat} (h : PrAt H x a b) (k : ∀ u xs, H u = some (.tup xs) → H' u = some (.tup xs)) : PrAt H' x a b := by
  obtain ⟨u, e, r⟩ := h
  exact ⟨u, e, k _ _ r⟩
theorem Prs.keep {H H' : Hp} {i m : Nat} {rs : List V} (h : Prs i m rs H) (k : ∀ u xs, H u = some (.tup xs) → H' u = some (.tup xs)) : Prs i m rs H' := by
  refine ⟨fun x hx => ?_, fun a b h1 h2 h3 => ?_⟩
  · obtain ⟨a, b, h1, h2, h3, p⟩ := h.1 x hx
    exact ⟨a, b, h1, h2, h3, p.keep k⟩
  · obtain ⟨x, hx, p⟩ := h.2 a b h1 h2 h3
    exact ⟨x, hx, p.keep k⟩
theorem Prs.next {H : Hp} {i m : Nat} {rs ys : List V} (h : Prs i m rs H) (ly : ys.length = m - (i + 1)) (k : ∀ j, j < m - (i + 1) → ∃ x, ys[j]? = some x ∧ PrAt H x i (i + 1 + j)) : Prs (i + 1) m (rs ++ ys) H := by
  refine ⟨fun x hx => ?_, fun a b h1 h2 h3 => ?_⟩
  · rcases List.mem_append.mp hx with g | g
    · obtain ⟨a, b, h1, h2, h3, p⟩ := h.1 x g
      exact ⟨a, b, h1, h2, by omega, p⟩
    · obtain ⟨j, hj, e⟩ := List.mem_iff_getElem.mp g
      obtain ⟨y, e2, p⟩ := k j (by omega)
      rw [List.getElem?_eq_getElem hj, e] at e2
      rw [← Option.some.inj e2] at p
      exact ⟨i, i + 1 + j, by omega, by omega, by omega, p⟩
  · by_cases c : a = i
    · obtain ⟨x, e, p⟩ := k (b - (i + 1)) (by omega)
      rw [show i + 1 + (b - (i + 1)) = b by omega, ← c] at p
      exact ⟨x, List.mem_append.mpr (.inr (List.mem_of_getElem? e)), p⟩
    · obtain ⟨x, hx, p⟩ := h.2 a b h1 h2 (by omega)
      exact ⟨x, List.mem_append.mpr (.inl hx), p⟩
end Ly

/-! ### the mathematics: rows of rows, how even they are -/
namespace Ly
open PySem L2
/-- what a hand has of f at its places -/
def hs : List Int → Int → (Nat → Int) → Int
  | [], _, _ => 0
  | t :: r, h, f => (if t = h then f 0 else 0) + hs r h fun i => f (i + 1)
theorem hs_ext {h : Int} : ∀ (row : List Int) {f g : Nat → Int}, (∀ i, i < row.length → f i = g i) → hs row h f = hs row h g
  | [], _, _, _ => rfl
  | t :: r, f, g, e => by
    show (if t = h then f 0 else 0) + hs r h _ = (if t = h then g 0 else 0) + hs r h _
    rw [e 0 (by rw [List.length_cons]; omega), hs_ext r (f := fun i => f (i + 1)) (g := fun i => g (i + 1)) fun i hi => e (i + 1) (by rw [List.length_cons]; omega)]
theorem hs_add (h : Int) : ∀ (row : List Int) (f g : Nat → Int), hs row h (fun i => f i + g i) = hs row h f + hs row h g
  | [], _, _ => rfl
  | t :: r, f, g => by
    show (if t = h then f 0 + g 0 else 0) + hs r h (fun i => f (i + 1) + g (i + 1)) = ((if t = h then f 0 else 0) + hs r h _) + ((if t = h then g 0 else 0) + hs r h _)
    rw [hs_add h r]
    by_cases c : t = h
    · rw [if_pos c, if_pos c, if_pos c]
      omega
    · rw [if_neg c, if_neg c, if_neg c]
      omega
theorem hs_append (h : Int) : ∀ (a b : List Int) (f : Nat → Int), hs (a ++ b) h f = hs a h f + hs b h fun i => f (a.length + i)
  | [], b, f => by
    show hs b h f = 0 + hs b h fun i => f (0 + i)
    rw [Int.zero_add]
    exact hs_ext b fun i _ => by rw [Nat.zero_add]
  | t :: r, b, f => by
    show (if t = h then f 0 else 0) + hs (r ++ b) h _ = ((if t = h then f 0 else 0) + hs r h _) + _
    rw [hs_append h r b, Int.add_assoc, hs_ext b (f := fun i => f (r.length + i + 1)) (g := fun i => f ((t :: r).length + i)) fun i _ => by rw [List.length_cons, show r.length + i + 1 = r.length + 1 + i by omega]]
theorem hs_rev (h : Int) : ∀ (a : List Int) (f : Nat → Int), hs a.reverse h f = hs a h fun i => f (a.length - 1 - i)
  | [], _ => rfl
  | t :: r, f => by
    rw [List.reverse_cons, hs_append, hs_rev h r]
    show hs r h (fun i => f (r.length - 1 - i)) + ((if t = h then f (r.reverse.length + 0) else 0) + 0) = (if t = h then f ((t :: r).length - 1 - 0) else 0) + hs r h fun i => f ((t :: r).length - 1 - (i + 1))
    rw [List.length_reverse, List.length_cons, Int.add_zero, Int.add_comm]
    congr 1
    exact hs_ext r fun i hi => by rw [show r.length - 1 - i = r.length + 1 - 1 - (i + 1) by omega]
theorem sumTo_front (n : Nat) (f : Nat → Int) : sumTo (n + 1) f = f 0 + sumTo n fun i => f (i + 1) := by
  induction n with
  | zero =>
    show (0 : Int) + f 0 = f 0 + 0
    omega
  | succ n ih =>
    show sumTo (n + 1) f + f (n + 1) = f 0 + (sumTo n (fun i => f (i + 1)) + f (n + 1))
    rw [ih]
    omega
theorem hs_sumTo (h : Int) : ∀ (row : List Int) (f : Nat → Int), hs row h f = sumTo row.length fun i => if row.getD i 0 = h then f i else 0
  | [], _ => rfl
  | t :: r, f => by
    rw [List.length_cons, sumTo_front]
    show _ + hs r h (fun i => f (i + 1)) = _ + sumTo r.length fun i => if r.getD i 0 = h then f (i + 1) else 0
    rw [hs_sumTo h r]
    rfl
theorem sg_hs (row : List Int) {a b : Int} (hab : a ≠ b) (f : Nat → Int) : sumTo row.length (fun i => sg row a b i * f i) = hs row a f - hs row b f := by
  rw [hs_sumTo, hs_sumTo, ← sumTo_sub]
  refine sumTo_ext fun i _ => ?_
  unfold sg signOf
  by_cases h1 : row.getD i 0 = a
  · rw [if_pos h1, if_pos h1, if_neg (fun z => hab (h1.symm.trans z)), Int.one_mul, Int.sub_zero]
  · by_cases h2 : row.getD i 0 = b
    · rw [if_neg h1, if_pos h2, if_neg h1, if_pos h2, Int.neg_mul, Int.one_mul, Int.zero_sub]
    · rw [if_neg h1, if_neg h2, if_neg h1, if_neg h2, Int.zero_mul]
      rfl
/-- even: at all that is smooth all hands have alike -/
theorem rev_hs {m : Nat} (hm : 0 < m) {row : List Int} {e : Nat} : REv (m : Int) row e ↔ ∀ f, Sm e f → ∀ h : Nat, h < m → hs row (h : Int) f = hs row 0 f := by
  constructor
  · intro r f hf h hh
    cases h with
    | zero => rfl
    | succ h =>
      have := (r 0 (h + 1) (by omega) (by omega)).smooth hf
      rw [sg_hs row (by omega)] at this
      have e0 : hs row ((0 : Nat) : Int) f = hs row 0 f := rfl
      omega
  · intro r
    refine (rev_mom (by omega)).mpr fun h hh k hk => ?_
    have := r _ ((Sm.pow k).le hk) h (by omega)
    rw [hs_sumTo, hs_sumTo] at this
    exact this
theorem Sm.shift {m : Nat} {f : Nat → Int} (h : Sm m f) : ∀ c : Nat, Sm m fun i => f (c + i)
  | 0 => by
    have e : (fun i => f (0 + i)) = f := funext fun i => by rw [Nat.zero_add]
    rw [e]
    exact h
  | c + 1 => by
    have e : (fun i => f (c + 1 + i)) = fun i => (fun j => f (c + j)) (i + 1) := funext fun i => by
      show _ = f (c + (i + 1))
      rw [show c + 1 + i = c + (i + 1) by omega]
    rw [e]
    intro n
    rw [DN_shift m fun j => f (c + j)]
    exact (h.shift c) (n + 1)
theorem Sm.step_to {m : Nat} {f : Nat → Int} (h : Sm (m + 1) f) : ∀ c : Nat, Sm m fun i => f (c + i) - f i
  | 0 => by
    have e : (fun i => f (0 + i) - f i) = fun _ => 0 := funext fun i => by rw [Nat.zero_add]; exact Int.sub_self _
    rw [e]
    exact Sm.zero m
  | c + 1 => by
    have e : (fun i => f (c + 1 + i) - f i) = fun i => Df f (c + i) + (f (c + i) - f i) := funext fun i => by
      show _ = (f (c + i + 1) - f (c + i)) + _
      rw [show c + 1 + i = c + i + 1 by omega]
      omega
    rw [e]
    exact Sm.add (h.back.shift c) (h.step_to c)
theorem mod_back {m : Nat} (hm : 2 ≤ m ∧ m ≤ 4) {x t h : Int} (x0 : 0 ≤ x) (x1 : x < m) (h0 : 0 ≤ h) (h1 : h < m) : (x + t) % (m : Int) = h ↔ x = (h - t) % (m : Int) := by
  obtain ⟨a, b⟩ := hm
  have c : m = 2 ∨ m = 3 ∨ m = 4 := by omega
  rcases c with rfl | rfl | rfl <;> omega
theorem hs_moved {m : Nat} (hm : 2 ≤ m ∧ m ≤ 4) {t h : Int} (h0 : 0 ≤ h) (h1 : h < m) : ∀ {row : List Int} (_ : ∀ z ∈ row, 0 ≤ z ∧ z < (m : Int)) (f : Nat → Int), hs (row.map fun x => (x + t) % (m : Int)) h f = hs row ((h - t) % (m : Int)) f
  | [], _, _ => rfl
  | x :: r, ok, f => by
    show (if (x + t) % (m : Int) = h then f 0 else 0) + hs (r.map _) h _ = (if x = (h - t) % (m : Int) then f 0 else 0) + hs r _ _
    rw [hs_moved hm h0 h1 fun z hz => ok z (List.mem_cons_of_mem _ hz)]
    obtain ⟨x0, x1⟩ := ok x List.mem_cons_self
    have q := mod_back hm (t := t) x0 x1 h0 h1
    by_cases c : x = (h - t) % (m : Int)
    · rw [if_pos c, if_pos (q.mpr c)]
    · rw [if_neg c, if_neg (fun z => c (q.mp z))]
/-- a row put into one more of all hands: one degree more -/
theorem put_sum {m : Nat} (hm : 2 ≤ m ∧ m ≤ 4) {row : List Int} (ok : ∀ z ∈ row, 0 ≤ z ∧ z < (m : Int)) {e : Nat} (r : REv (m : Int) row e) {f : Nat → Int} (hf : Sm (e + 1) f) : ∀ (zs : List Int) (c : Nat),
    ∃ C, ∀ h : Int, 0 ≤ h → h < m → hs (putL (m : Int) row zs) h (fun i => f (c + i)) = (zs.map fun t => hs row ((h - t) % (m : Int)) f).sum + C
  | [], c => ⟨0, fun _ _ _ => rfl⟩
  | t :: zs, c => by
    obtain ⟨C, hC⟩ := put_sum hm ok r hf zs (c + row.length)
    refine ⟨C + hs row 0 (fun i => f (c + i) - f i), fun h h0 h1 => ?_⟩
    show hs (row.map (fun x => (x + t) % (m : Int)) ++ putL (m : Int) row zs) h (fun i => f (c + i)) = _
    rw [hs_append, List.length_map, hs_moved hm h0 h1 ok, List.map_cons, List.sum_cons]
    have e1 : hs (putL (m : Int) row zs) h (fun i => f (c + (row.length + i))) = _ := (hs_ext _ fun i _ => by rw [Nat.add_assoc]).trans (hC h h0 h1)
    have g0 : 0 ≤ (h - t) % (m : Int) := Int.emod_nonneg _ (by omega)
    have g1 : (h - t) % (m : Int) < m := Int.emod_lt_of_pos _ (by omega)
    have e2 : hs row ((h - t) % (m : Int)) (fun i => f (c + i)) = hs row ((h - t) % (m : Int)) f + hs row 0 (fun i => f (c + i) - f i) := by
      have := (rev_hs (by omega)).mp r _ (hf.step_to c) ((h - t) % (m : Int)).toNat (by omega)
      rw [Int.toNat_of_nonneg g0] at this
      rw [← this, ← hs_add]
      exact hs_ext row fun i _ => by omega
    rw [e1, e2]
    omega
theorem turn_sum {m : Nat} (hm : 2 ≤ m ∧ m ≤ 4) (F : Int → Int) {h : Int} (h0 : 0 ≤ h) (h1 : h < m) : ((nums m).map fun t => F ((h - t) % (m : Int))).sum = ((nums m).map F).sum := by
  obtain ⟨a, b⟩ := hm
  have c : m = 2 ∨ m = 3 ∨ m = 4 := by omega
  rcases c with rfl | rfl | rfl
  · have d : h = 0 ∨ h = 1 := by omega
    rcases d with rfl | rfl
    · show F 0 + (F 1 + 0) = F 0 + (F 1 + 0)
      rfl
    · show F 1 + (F 0 + 0) = F 0 + (F 1 + 0)
      omega
  · have d : h = 0 ∨ h = 1 ∨ h = 2 := by omega
    rcases d with rfl | rfl | rfl
    · show F 0 + (F 2 + (F 1 + 0)) = F 0 + (F 1 + (F 2 + 0))
      omega
    · show F 1 + (F 0 + (F 2 + 0)) = F 0 + (F 1 + (F 2 + 0))
      omega
    · show F 2 + (F 1 + (F 0 + 0)) = F 0 + (F 1 + (F 2 + 0))
      omega
  · have d : h = 0 ∨ h = 1 ∨ h = 2 ∨ h = 3 := by omega
    rcases d with rfl | rfl | rfl | rfl
    · show F 0 + (F 3 + (F 2 + (F 1 + 0))) = F 0 + (F 1 + (F 2 + (F 3 + 0)))
      omega
    · show F 1 + (F 0 + (F 3 + (F 2 + 0))) = F 0 + (F 1 + (F 2 + (F 3 + 0)))
      omega
    · show F 2 + (F 1 + (F 0 + (F 3 + 0))) = F 0 + (F 1 + (F 2 + (F 3 + 0)))
      omega
    · show F 3 + (F 2 + (F 1 + (F 0 + 0))) = F 0 + (F 1 + (F 2 + (F 3 + 0)))
      omega
theorem perm_sum {a b : List Int} (p : a.Perm b) : a.sum = b.sum := by
  induction p with
  | nil => rfl
  | cons x _ ih => rw [List.sum_cons, List.sum_cons, ih]
  | swap x y l =>
    simp only [List.sum_cons]
    omega
  | trans _ _ h1 h2 => exact h1.trans h2
theorem put_rev {m : Nat} (hm : 2 ≤ m ∧ m ≤ 4) {row : List Int} (ok : ∀ z ∈ row, 0 ≤ z ∧ z < (m : Int)) {e : Nat} (r : REv (m : Int) row e) {zs : List Int} (p : zs.Perm (nums m)) : REv (m : Int) (putL (m : Int) row zs) (e + 1) := by
  refine (rev_hs (by omega)).mpr fun f hf h hh => ?_
  obtain ⟨C, hC⟩ := put_sum hm ok r hf zs 0
  have key : ∀ h : Int, 0 ≤ h → h < m → hs (putL (m : Int) row zs) h f = ((nums m).map fun t => hs row t f).sum + C := fun h h0 h1 => by
    have e1 := hC h h0 h1
    rw [perm_sum (p.map fun t => hs row ((h - t) % (m : Int)) f), turn_sum hm (fun t => hs row t f) h0 h1] at e1
    rw [← e1]
    exact hs_ext _ fun i _ => by rw [Nat.zero_add]
  rw [key h (by omega) (by omega), key 0 (by omega) (by omega)]
/-- rows of all hands put into one another, the last first -/
def built (m : Nat) : List (List Int) → List Int
  | [] => [0]
  | zs :: r => putL (m : Int) (built m r) zs
theorem built_ok {m : Nat} (hm : 2 ≤ m ∧ m ≤ 4) : ∀ zss : List (List Int), ∀ z ∈ built m zss, 0 ≤ z ∧ z < (m : Int)
  | [], z, hz => by
    rw [List.mem_singleton.mp hz]
    omega
  | _ :: _, z, hz => putL_mem (by omega) z hz
theorem built_rev {m : Nat} (hm : 2 ≤ m ∧ m ≤ 4) : ∀ {zss : List (List Int)}, (∀ zs ∈ zss, zs.Perm (nums m)) → REv (m : Int) (built m zss) zss.length
  | [], _ => fun _ _ _ _ k hk => absurd hk (Nat.not_lt_zero k)
  | zs :: r, h => put_rev hm (built_ok hm r) (built_rev hm fun z hz => h z (List.mem_cons_of_mem _ hz)) (h zs List.mem_cons_self)
theorem sm2 {f : Nat → Int} (h : Sm 2 f) (i : Nat) : f i = f 0 + (i : Int) * (f 1 - f 0) := by
  have d : ∀ i, f (i + 1) - f i = f 1 - f 0 := fun i => by
    induction i with
    | zero => rfl
    | succ i ih =>
      have : (f (i + 1 + 1) - f (i + 1)) - (f (i + 1) - f i) = 0 := h i
      omega
  induction i with
  | zero => omega
  | succ i ih =>
    have := d i
    rw [Int.natCast_succ, Int.add_mul, Int.one_mul]
    omega
/-- a row and then the row from its end: to one degree at least -/
theorem twice_rev {m : Nat} (hm : 0 < m) {row : List Int} (r : REv (m : Int) row 1) : REv (m : Int) (row ++ row.reverse) 2 := by
  refine (rev_hs hm).mpr fun f hf h hh => ?_
  have key : ∀ h : Int, hs (row ++ row.reverse) h f = hs row h fun _ => 2 * f 0 + (2 * (row.length : Int) - 1) * (f 1 - f 0) := fun h => by
    rw [hs_append, hs_rev, ← hs_add]
    refine hs_ext row fun i hi => ?_
    rw [sm2 hf i, sm2 hf (row.length + (row.length - 1 - i))]
    have e : ((row.length + (row.length - 1 - i) : Nat) : Int) = 2 * (row.length : Int) - 1 - (i : Int) := by omega
    rw [e]
    generalize f 1 - f 0 = c
    rw [Int.sub_mul (2 * (row.length : Int) - 1) (i : Int) c]
    omega
  rw [key, key]
  exact (rev_hs hm).mp r _ (fun n => Int.sub_self _) h hh
end Ly

/-! ### the mathematics: rows nearly even, no row too even -/
namespace Ly
open PySem L2
theorem hs_set (h v : Int) : ∀ (row : List Int) (i : Nat) (f : Nat → Int) (hi : i < row.length), hs (row.set i v) h f = hs row h f - (if row[i] = h then f i else 0) + if v = h then f i else 0
  | [], _, _, hi => absurd hi (Nat.not_lt_zero _)
  | t :: r, 0, f, _ => by
    show (if v = h then f 0 else 0) + hs r h _ = (if t = h then f 0 else 0) + hs r h _ - (if t = h then f 0 else 0) + _
    omega
  | t :: r, i + 1, f, hi => by
    show (if t = h then f 0 else 0) + hs (r.set i v) h _ = (if t = h then f 0 else 0) + hs r h _ - (if r[i]'(Nat.lt_of_succ_lt_succ hi) = h then f (i + 1) else 0) + _
    rw [hs_set h v r i (fun j => f (j + 1)) (Nat.lt_of_succ_lt_succ hi)]
    omega
theorem rev_two {m : Nat} {row : List Int} {e : Nat} (r : REv (m : Int) row e) {f : Nat → Int} (hf : Sm e f) {p q : Int} (p0 : 0 ≤ p) (p1 : p < m) (q0 : 0 ≤ q) (q1 : q < m) : hs row p f = hs row q f := by
  have hm : 0 < m := by omega
  have a := (rev_hs hm).mp r f hf p.toNat (by omega)
  have b := (rev_hs hm).mp r f hf q.toNat (by omega)
  rw [Int.toNat_of_nonneg p0] at a
  rw [Int.toNat_of_nonneg q0] at b
  exact a.trans b.symm
theorem set_self {row : List Int} {i : Nat} {v : Int} (hi : i < row.length) (e : row[i] = v) : row.set i v = row := by
  rw [← e]
  exact List.set_getElem_self hi
/-- one turn given to another: the counts are not alike then -/
theorem one_rev {m : Nat} {row : List Int} (ok : RowOk (m : Int) row) (r : REv (m : Int) row 1) {i : Nat} (hi : i < row.length) {v : Int} (v0 : 0 ≤ v) (v1 : v < m) (n : ¬ REv (m : Int) row 10) : ¬ REv (m : Int) (row.set i v) 10 := by
  by_cases c : row[i] = v
  · rw [set_self hi c]
    exact n
  · intro r2
    obtain ⟨t0, t1⟩ := ok.2.2.2.2 row[i] (List.getElem_mem hi)
    have s1 : Sm 1 (fun _ => (1 : Int)) := fun n => Int.sub_self 1
    have a := rev_two r s1 t0 t1 v0 v1
    have b := rev_two (r2.le (show 1 ≤ 10 by decide)) s1 t0 t1 v0 v1
    rw [hs_set _ _ _ _ _ hi, hs_set _ _ _ _ _ hi, if_pos rfl, if_neg (Ne.symm c), if_neg c, if_pos rfl] at b
    omega
/-- two turns exchanged -/
theorem two_rev {m : Nat} {row : List Int} (ok : RowOk (m : Int) row) (r : REv (m : Int) row 2 ∨ row.length ≤ 10) {i j : Nat} (hi : i < row.length) (hj : j < row.length) (n : ¬ REv (m : Int) row 10) (ok2 : RowOk (m : Int) ((row.set i row[j]).set j row[i])) : ¬ REv (m : Int) ((row.set i row[j]).set j row[i]) 10 := by
  by_cases c : row[i] = row[j]
  · have e1 : row.set i row[j] = row := set_self hi c
    have e2 : (row.set i row[j]).set j row[i] = row := by
      rw [e1]
      exact set_self hj c.symm
    rw [e2]
    exact n
  · have ij : i ≠ j := fun e => by
      subst e
      exact c rfl
    rcases r with r | r
    · intro r2
      obtain ⟨t0, t1⟩ := ok.2.2.2.2 row[i] (List.getElem_mem hi)
      obtain ⟨u0, u1⟩ := ok.2.2.2.2 row[j] (List.getElem_mem hj)
      have s2 : Sm 2 (fun k : Nat => (k : Int)) := by
        have h := Sm.pow 1
        have e : (fun n : Nat => (n : Int) ^ 1) = fun k : Nat => (k : Int) := funext fun k => Int.pow_succ _ _ |>.trans (by rw [Int.pow_zero, Int.one_mul])
        rw [e] at h
        exact h
      have a := rev_two r s2 t0 t1 u0 u1
      have b := rev_two (r2.le (show 2 ≤ 10 by decide)) s2 t0 t1 u0 u1
      have lj : j < (row.set i row[j]).length := by rw [List.length_set]; exact hj
      have g : (row.set i row[j])[j] = row[j] := by rw [List.getElem_set_ne ij]
      rw [hs_set _ _ _ _ _ lj, hs_set _ _ _ _ _ lj, hs_set _ _ _ _ _ hi, hs_set _ _ _ _ _ hi, g, if_pos rfl, if_neg (Ne.symm c), if_neg (Ne.symm c), if_pos rfl, if_neg c, if_pos rfl, if_pos rfl, if_neg c] at b
      omega
    · exact fun r2 => rev_ends ok2 (r2.le (by rw [List.length_set, List.length_set]; exact r))
/-- short rows -/
theorem Sm.lin {m : Nat} {f : Nat → Int} (h : Sm m f) (c : Int) : Sm (m + 1) fun n => ((n : Int) + c) * f n := by
  have e : (fun n : Nat => ((n : Int) + c) * f n) = fun n : Nat => (n : Int) * f n + c * f n := funext fun n => Int.add_mul _ _ _
  rw [e]
  exact Sm.add h.times (Sm.mul c h.more)
/-- nought from 3 to 11 -/
def p9 (n : Nat) : Int := ((n : Int) + -3) * (((n : Int) + -4) * (((n : Int) + -5) * (((n : Int) + -6) * (((n : Int) + -7) * (((n : Int) + -8) * (((n : Int) + -9) * (((n : Int) + -10) * (((n : Int) + -11) * 1))))))))
theorem sm_one : Sm 1 fun _ => (1 : Int) := fun _ => Int.sub_self 1
theorem sm_p9 : Sm 10 p9 := ((((((((((sm_one).lin (-11)).lin (-10)).lin (-9)).lin (-8)).lin (-7)).lin (-6)).lin (-5)).lin (-4)).lin (-3))
theorem short_rev {m : Nat} {row : List Int} (ok : RowOk (m : Int) row) (l : row.length ≤ 12) : ¬ REv (m : Int) row 10 := by
  by_cases c : row.length ≤ 10
  · exact fun r => rev_ends ok (r.le c)
  · intro r
    have s1 : ∀ a b : Nat, a < b → (b : Int) < m → sg row a b 0 = 0 := fun a b hab hb => by
      have z := (r a b hab hb).smooth sm_p9
      have small : ∀ i, sg row a b i = 1 ∨ sg row a b i = -1 ∨ sg row a b i = 0 := fun i => signOf_small _ _ _
      have q0 := small 0
      have q1 := small 1
      have q2 := small 2
      have d : row.length = 11 ∨ row.length = 12 := by omega
      generalize sg row a b = s at z q0 q1 q2 ⊢
      have z2 : s 0 * (-19958400) + s 1 * (-3628800) + s 2 * (-362880) = 0 := by
        rcases d with d | d
        · rw [d] at z
          have z3 : 0 + s 0 * (-19958400) + s 1 * (-3628800) + s 2 * (-362880) + s 3 * 0 + s 4 * 0 + s 5 * 0 + s 6 * 0 + s 7 * 0 + s 8 * 0 + s 9 * 0 + s 10 * 0 = 0 := z
          omega
        · rw [d] at z
          have z3 : 0 + s 0 * (-19958400) + s 1 * (-3628800) + s 2 * (-362880) + s 3 * 0 + s 4 * 0 + s 5 * 0 + s 6 * 0 + s 7 * 0 + s 8 * 0 + s 9 * 0 + s 10 * 0 + s 11 * 0 = 0 := z
          omega
      omega
    obtain ⟨h1, h2, h3, _, h5⟩ := ok
    cases row with
    | nil => exact h3 rfl
    | cons t rest =>
      obtain ⟨t0, t1⟩ := h5 t List.mem_cons_self
      have e : ∀ a b : Nat, sg (t :: rest) a b 0 = signOf t a b := fun a b => rfl
      by_cases c : t = 0
      · have := s1 0 1 (by omega) (by omega)
        rw [e, signOf, if_pos (show t = ((0 : Nat) : Int) from c)] at this
        cases this
      · have := s1 0 t.toNat (by omega) (by omega)
        rw [e, signOf, if_neg (show ¬ t = ((0 : Nat) : Int) from c), if_pos (Int.toNat_of_nonneg t0).symm] at this
        cases this
end Ly

/-! ### the mathematics: rows of rows are not too even, all of them looked through -/
namespace Ly
open PySem L2
def wsum (w : Int → Int) (k : Nat) : Nat → List Int → Int
  | _, [] => 0
  | i, t :: r => w t * (i : Int) ^ k + wsum w k (i + 1) r
theorem wsum_hs (w : Int → Int) (k : Nat) : ∀ (row : List Int) (i : Nat), (∀ z ∈ row, 0 ≤ z ∧ z < 4) →
    wsum w k i row = w 0 * hs row 0 (fun j => ((i + j : Nat) : Int) ^ k) + w 1 * hs row 1 (fun j => ((i + j : Nat) : Int) ^ k) + w 2 * hs row 2 (fun j => ((i + j : Nat) : Int) ^ k) + w 3 * hs row 3 (fun j => ((i + j : Nat) : Int) ^ k)
  | [], _, _ => by
    show (0 : Int) = w 0 * 0 + w 1 * 0 + w 2 * 0 + w 3 * 0
    simp
  | t :: r, i, ok => by
    have ih := wsum_hs w k r (i + 1) fun z hz => ok z (List.mem_cons_of_mem _ hz)
    have ex : ∀ h : Int, hs r h (fun j => ((i + (j + 1) : Nat) : Int) ^ k) = hs r h (fun j => ((i + 1 + j : Nat) : Int) ^ k) := fun h => hs_ext r fun j _ => by rw [show i + (j + 1) = i + 1 + j by omega]
    have st : ∀ h : Int, hs (t :: r) h (fun j => ((i + j : Nat) : Int) ^ k) = (if t = h then (i : Int) ^ k else 0) + hs r h (fun j => ((i + 1 + j : Nat) : Int) ^ k) := fun h => by
      rw [← ex h]
      rfl
    show w t * (i : Int) ^ k + wsum w k (i + 1) r = _
    rw [ih, st, st, st, st, Int.mul_add, Int.mul_add, Int.mul_add, Int.mul_add]
    obtain ⟨t0, t1⟩ := ok t List.mem_cons_self
    have d : t = 0 ∨ t = 1 ∨ t = 2 ∨ t = 3 := by omega
    rcases d with rfl | rfl | rfl | rfl
    · rw [if_pos rfl, if_neg (by decide), if_neg (by decide), if_neg (by decide), Int.mul_zero, Int.mul_zero, Int.mul_zero]
      omega
    · rw [if_pos rfl, if_neg (by decide), if_neg (by decide), if_neg (by decide), Int.mul_zero, Int.mul_zero, Int.mul_zero]
      omega
    · rw [if_pos rfl, if_neg (by decide), if_neg (by decide), if_neg (by decide), Int.mul_zero, Int.mul_zero, Int.mul_zero]
      omega
    · rw [if_pos rfl, if_neg (by decide), if_neg (by decide), if_neg (by decide), Int.mul_zero, Int.mul_zero, Int.mul_zero]
      omega
/-- some power below 10 tells two kinds of hands apart -/
def chk (w : Int → Int) (row : List Int) : Bool := (List.range 10).any fun k => !decide (wsum w k 0 row = 0)
def w2 (t : Int) : Int := if t = 0 then 1 else -1
def w3 (t : Int) : Int := if t = 0 then 1 else if t = 1 then -1 else 0
def w4 (t : Int) : Int := w2 (t % 2)
def wOf (m : Nat) (t : Int) : Int := if m = 4 then w4 t else w3 t
theorem chk_rev {m : Nat} (hm : 2 ≤ m ∧ m ≤ 4) {row : List Int} (ok : ∀ z ∈ row, 0 ≤ z ∧ z < (m : Int)) (c : chk (wOf m) row = true) : ¬ REv (m : Int) row 10 := by
  intro r
  obtain ⟨k, hk, e⟩ := List.any_eq_true.mp c
  have hk := List.mem_range.mp hk
  have e : ¬ wsum (wOf m) k 0 row = 0 := fun z => by
    rw [decide_eq_true z] at e
    cases e
  apply e
  rw [wsum_hs (wOf m) k row 0 fun z hz => by have := ok z hz; omega]
  have sp : Sm 10 (fun j => ((0 + j : Nat) : Int) ^ k) := by
    have a : (fun j : Nat => ((0 + j : Nat) : Int) ^ k) = fun j : Nat => (j : Int) ^ k := funext fun j => by rw [Nat.zero_add]
    rw [a]
    exact (Sm.pow k).le hk
  obtain ⟨a, b⟩ := hm
  have d : m = 2 ∨ m = 3 ∨ m = 4 := by omega
  have r1 := rev_two r sp (show (0 : Int) ≤ 0 by decide) (by omega) (show (0 : Int) ≤ 1 by decide) (by omega)
  rcases d with rfl | rfl | rfl
  · show 1 * _ + (-1) * _ + 0 * _ + 0 * _ = (0 : Int)
    rw [r1]
    omega
  · show 1 * _ + (-1) * _ + 0 * _ + 0 * _ = (0 : Int)
    rw [r1]
    omega
  · have r2 := rev_two r sp (show (0 : Int) ≤ 2 by decide) (by decide) (show (0 : Int) ≤ 3 by decide) (by decide)
    show 1 * _ + (-1) * _ + 1 * _ + (-1) * _ = (0 : Int)
    rw [r1, r2]
    omega
theorem wsum_mod (k : Nat) : ∀ (row : List Int) (i : Nat), wsum w4 k i row = wsum w2 k i (row.map fun t => t % 2)
  | [], _ => rfl
  | t :: r, i => by
    show w4 t * _ + wsum w4 k (i + 1) r = w2 (t % 2) * _ + wsum w2 k (i + 1) (r.map _)
    rw [wsum_mod k r]
    rfl
theorem chk_mod (row : List Int) : chk w4 row = chk w2 (row.map fun t => t % 2) := by
  unfold chk
  congr 1
  funext k
  rw [wsum_mod]
theorem built_mod : ∀ zss : List (List Int), (built 4 zss).map (fun t => t % 2) = built 2 (zss.map fun zs => zs.map fun t => t % 2)
  | [] => rfl
  | zs :: r => by
    have ih := built_mod r
    show (putL 4 (built 4 r) zs).map _ = putL 2 (built 2 (r.map _)) (zs.map _)
    rw [← ih]
    generalize built 4 r = row
    induction zs with
    | nil => rfl
    | cons t zs ih2 =>
      show (row.map (fun x => (x + t) % 4) ++ putL 4 row zs).map (fun t => t % 2) = (row.map fun t => t % 2).map (fun x => (x + t % 2) % 2) ++ putL 2 (row.map fun t => t % 2) (zs.map fun t => t % 2)
      rw [List.map_append, ih2, List.map_map, List.map_map]
      congr 1
      exact List.map_congr_left fun x _ => by
        show (x + t) % 4 % 2 = (x % 2 + t % 2) % 2
        omega
/-- all choices of so many -/
def allc (P : List (List Int)) : Nat → (List (List Int) → Bool) → Bool
  | 0, p => p []
  | n + 1, p => P.all fun z => allc P n fun r => p (z :: r)
theorem allc_mem {P : List (List Int)} : ∀ (n : Nat) {p : List (List Int) → Bool}, allc P n p = true → ∀ zss : List (List Int), zss.length = n → (∀ z ∈ zss, z ∈ P) → p zss = true
  | 0, _, h, [], _, _ => h
  | 0, _, _, _ :: _, l, _ => by cases l
  | n + 1, _, _, [], l, _ => by cases l
  | n + 1, p, h, z :: r, l, hz => allc_mem n (List.all_eq_true.mp h z (hz z List.mem_cons_self)) r (Nat.succ.inj l) fun y hy => hz y (List.mem_cons_of_mem _ hy)
def P2 : List (List Int) := [[0, 1], [1, 0]]
def P3 : List (List Int) := [[0, 1, 2], [0, 2, 1], [1, 0, 2], [1, 2, 0], [2, 0, 1], [2, 1, 0]]
def P4 : List (List Int) := [[0, 0, 1, 1], [0, 1, 0, 1], [0, 1, 1, 0], [1, 0, 0, 1], [1, 0, 1, 0], [1, 1, 0, 0]]
def both (m : Nat) (w : Int → Int) (zss : List (List Int)) : Bool := chk w (built m zss) && chk w (built m zss ++ (built m zss).reverse)
theorem all2 : (allc P2 1 (both 2 w3) && allc P2 2 (both 2 w3) && allc P2 3 (both 2 w3)) = true := by decide +kernel
theorem all3 : (allc P3 1 (both 3 w3) && allc P3 2 (both 3 w3) && allc P3 3 (both 3 w3)) = true := by decide +kernel
theorem all4 : (allc P4 1 (both 2 w2) && allc P4 2 (both 2 w2) && allc P4 3 (both 2 w2)) = true := by decide +kernel
theorem perm_mem {m : Nat} {zs : List Int} (p : zs.Perm (nums m)) : ∀ z ∈ zs, 0 ≤ z ∧ z < (m : Int) := fun z hz => nums_mem.mp (p.mem_iff.mp hz)
theorem perm_len {m : Nat} {zs : List Int} (p : zs.Perm (nums m)) : zs.length = m := by rw [p.length_eq, nums_len]
theorem perm2 {zs : List Int} (p : zs.Perm (nums 2)) : zs ∈ P2 := by
  have nd : zs.Nodup := p.nodup_iff.mpr (nums_nodup 2)
  have mm := perm_mem p
  have l := perm_len p
  match zs, l with
  | [a, b], _ =>
    have ha := mm a (by simp)
    have hb := mm b (by simp)
    have da : a = 0 ∨ a = 1 := by omega
    have db : b = 0 ∨ b = 1 := by omega
    clear ha hb mm p l
    rcases da with rfl | rfl <;> rcases db with rfl | rfl <;> revert nd <;> decide
theorem perm3 {zs : List Int} (p : zs.Perm (nums 3)) : zs ∈ P3 := by
  have nd : zs.Nodup := p.nodup_iff.mpr (nums_nodup 3)
  have mm := perm_mem p
  have l := perm_len p
  match zs, l with
  | [a, b, c], _ =>
    have ha := mm a (by simp)
    have hb := mm b (by simp)
    have hc := mm c (by simp)
    have da : a = 0 ∨ a = 1 ∨ a = 2 := by omega
    have db : b = 0 ∨ b = 1 ∨ b = 2 := by omega
    have dc : c = 0 ∨ c = 1 ∨ c = 2 := by omega
    clear ha hb hc mm p l
    rcases da with rfl | rfl | rfl <;> rcases db with rfl | rfl | rfl <;> rcases dc with rfl | rfl | rfl <;> revert nd <;> decide
theorem fours : ∀ a : Fin 4, ∀ b : Fin 4, ∀ c : Fin 4, ∀ d : Fin 4, [a, b, c, d].Nodup → [((a.val : Int)) % 2, (b.val : Int) % 2, (c.val : Int) % 2, (d.val : Int) % 2] ∈ P4 := by decide +kernel
theorem perm4 {zs : List Int} (p : zs.Perm (nums 4)) : zs.map (fun t => t % 2) ∈ P4 := by
  have nd : zs.Nodup := p.nodup_iff.mpr (nums_nodup 4)
  have mm := perm_mem p
  have l := perm_len p
  match zs, l with
  | [a, b, c, d], _ =>
    have fin : ∀ z ∈ [a, b, c, d], ∃ k : Fin 4, z = (k.val : Int) := fun z hz => by
      have := mm z hz
      exact ⟨⟨z.toNat, by omega⟩, by show z = ((z.toNat : Nat) : Int); omega⟩
    obtain ⟨a, rfl⟩ := fin a (by simp)
    obtain ⟨b, rfl⟩ := fin b (by simp)
    obtain ⟨c, rfl⟩ := fin c (by simp)
    obtain ⟨d, rfl⟩ := fin d (by simp)
    refine fours a b c d ?_
    have e : [(a.val : Int), b.val, c.val, d.val] = [a, b, c, d].map fun k : Fin 4 => (k.val : Int) := rfl
    rw [e] at nd
    exact List.Pairwise.of_map _ (fun x y h e => h (by rw [e])) nd
theorem both_of {m : Nat} {w : Int → Int} {P : List (List Int)} (h : (allc P 1 (both m w) && allc P 2 (both m w) && allc P 3 (both m w)) = true) {zss : List (List Int)} (l : zss.length = 1 ∨ zss.length = 2 ∨ zss.length = 3) (hz : ∀ z ∈ zss, z ∈ P) : both m w zss = true := by
  rw [Bool.and_eq_true, Bool.and_eq_true] at h
  rcases l with l | l | l
  · exact allc_mem 1 h.1.1 zss l hz
  · exact allc_mem 2 h.1.2 zss l hz
  · exact allc_mem 3 h.2 zss l hz
theorem built_not {m : Nat} (hm : 2 ≤ m ∧ m ≤ 4) {zss : List (List Int)} (l : zss.length = 1 ∨ zss.length = 2 ∨ zss.length = 3) (h : ∀ zs ∈ zss, zs.Perm (nums m)) :
    ¬ REv (m : Int) (built m zss) 10 ∧ ¬ REv (m : Int) (built m zss ++ (built m zss).reverse) 10 := by
  have ok := built_ok hm zss
  have ok2 : ∀ z ∈ built m zss ++ (built m zss).reverse, 0 ≤ z ∧ z < (m : Int) := fun z hz => by
    rcases List.mem_append.mp hz with g | g
    · exact ok z g
    · exact ok z (List.mem_reverse.mp g)
  suffices c : chk (wOf m) (built m zss) = true ∧ chk (wOf m) (built m zss ++ (built m zss).reverse) = true from ⟨chk_rev hm ok c.1, chk_rev hm ok2 c.2⟩
  have d : m = 2 ∨ m = 3 ∨ m = 4 := by omega
  rcases d with rfl | rfl | rfl
  · exact Bool.and_eq_true _ _ |>.mp (both_of all2 l fun z hz => perm2 (h z hz))
  · exact Bool.and_eq_true _ _ |>.mp (both_of all3 l fun z hz => perm3 (h z hz))
  · have b := Bool.and_eq_true _ _ |>.mp (both_of all4 (zss := zss.map fun zs => zs.map fun t => t % 2) (by rw [List.length_map]; exact l) fun z hz => by
      obtain ⟨y, hy, e⟩ := List.mem_map.mp hz
      rw [← e]
      exact perm4 (h y hy))
    rw [← built_mod] at b
    refine ⟨(chk_mod _).trans b.1, (chk_mod _).trans ?_⟩
    rw [List.map_append, List.map_reverse]
    exact b.2
theorem built_one {m : Nat} {zs : List Int} (p : zs.Perm (nums m)) : built m [zs] = zs := by
  have mm := perm_mem p
  clear p
  show zs.flatMap (fun t => [((0 : Int) + t) % (m : Int)]) = zs
  induction zs with
  | nil => rfl
  | cons t r ih =>
    show [((0 : Int) + t) % (m : Int)] ++ r.flatMap _ = _
    rw [ih fun z hz => mm z (List.mem_cons_of_mem _ hz), Int.zero_add, Int.emod_eq_of_lt (mm t List.mem_cons_self).1 (mm t List.mem_cons_self).2]
    rfl
end Ly

/-! ### the mathematics: leads at worths told as numbers that go on -/
namespace Ly
open PySem L2
theorem hs_mul (h c : Int) : ∀ (row : List Int) (f : Nat → Int), hs row h (fun i => c * f i) = c * hs row h f
  | [], _ => (Int.mul_zero c).symm
  | t :: r, f => by
    show (if t = h then c * f 0 else 0) + hs r h (fun i => c * f (i + 1)) = c * ((if t = h then f 0 else 0) + hs r h _)
    rw [hs_mul h c r, Int.mul_add]
    by_cases d : t = h
    · rw [if_pos d, if_pos d]
    · rw [if_neg d, if_neg d, Int.mul_zero]
theorem tot_hs (h : Int) : ∀ (row ws : List Int), ws.length = row.length → tot row ws h = hs row h fun i => ws.getD i 0
  | [], _, _ => rfl
  | _ :: _, [], l => by cases l
  | t :: r, w :: ws, l => by
    rw [tot_cons, tot_hs h r ws (Nat.succ.inj l)]
    rfl
theorem tot_line (row : List Int) (f : Nat → Int) (h : Int) : tot row (line f row.length) h = hs row h f := by
  rw [tot_hs h row _ (line_len _ _)]
  refine hs_ext row fun i hi => ?_
  rw [List.getD_eq_getElem?_getD, line_at hi]
  rfl
/-- the lead of a hand of another one -/
def LD (row : List Int) (f : Nat → Int) (a b : Int) : Int := hs row a f - hs row b f
theorem ld_add (row : List Int) (f g : Nat → Int) (a b : Int) : LD row (fun i => f i + g i) a b = LD row f a b + LD row g a b := by
  unfold LD
  rw [hs_add, hs_add]
  omega
theorem ld_two (row : List Int) (f : Nat → Int) (a b : Int) : LD row (fun i => 2 * f i) a b = 2 * LD row f a b := by
  unfold LD
  rw [hs_mul, hs_mul]
  omega
theorem ld_even {m : Nat} {row : List Int} {e : Nat} (r : REv (m : Int) row e) {f : Nat → Int} (hf : Sm e f) {a b : Nat} (ha : a < m) (hb : b < m) : LD row f a b = 0 := by
  unfold LD
  rw [rev_two r hf (show (0 : Int) ≤ (a : Int) by omega) (by omega) (show (0 : Int) ≤ (b : Int) by omega) (by omega)]
  omega
theorem ld_odd {m : Nat} (hm : 0 < m) {row : List Int} {e : Nat} (r : REv (m : Int) row e) (n : ¬ REv (m : Int) row (e + 1)) : ¬ ∀ a b : Nat, a < b → b < m → LD row (fun i => (i : Int) ^ e) a b = 0 := by
  intro z
  refine n ((rev_mom (by omega)).mpr fun h hh k hk => ?_)
  by_cases c : k < e
  · exact (rev_mom (by omega)).mp r h hh k c
  · have ke : k = e := by omega
    rw [ke]
    cases h with
    | zero => rfl
    | succ h =>
      have q := z 0 (h + 1) (by omega) (by omega)
      unfold LD at q
      rw [hs_sumTo, hs_sumTo] at q
      show sumTo row.length _ = sumTo row.length _
      have e0 : ((0 : Nat) : Int) = 0 := rfl
      rw [e0] at q
      omega
theorem Pw.sm {m : Nat} {f : Nat → Int} (h : Pw m f) : Sm m f := by
  induction h with
  | nil => exact Sm.zero m
  | more c k hk _ ih => exact Sm.add (Sm.mul c ((Sm.pow k).le hk)) ih
/-- the differences of order k of the k-th powers -/
theorem dn_pow (k : Nat) : 0 < DN k (fun i => (i : Int) ^ k) 0 := by
  induction k with
  | zero => exact Int.one_pos
  | succ k ih =>
    obtain ⟨r, hr, e⟩ := pow_step k
    have d : Df (fun i : Nat => (i : Int) ^ (k + 1)) = fun (i : Nat) => ((k : Int) + 1) * (i : Int) ^ k + r i := funext fun i => by
      show ((i + 1 : Nat) : Int) ^ (k + 1) - (i : Int) ^ (k + 1) = _
      rw [Int.natCast_succ, e i]
      omega
    rw [DN_succ, d, DN_add, DN_mul]
    show 0 < ((k : Int) + 1) * DN k (fun i => (i : Int) ^ k) 0 + DN k r 0
    rw [hr.sm 0, Int.add_zero]
    exact Int.mul_pos (by omega) ih
end Ly

/-! ### the mathematics: rows joined, turned round, named anew, put into any even ones -/
namespace Ly
open PySem L2
theorem Sm.neg {m : Nat} {f : Nat → Int} (h : Sm m f) : Sm m fun i => - f i := by
  have e : (fun i => - f i) = fun i => (-1) * f i := funext fun i => by omega
  rw [e]
  exact Sm.mul _ h
/-- what is smooth is so from its end as well -/
theorem sm_back {e : Nat} : ∀ {f : Nat → Int}, Sm e f → ∀ c : Nat, ∃ g, Sm e g ∧ ∀ i, i ≤ c → g i = f (c - i) := by
  induction e with
  | zero => exact fun {f} h c => ⟨fun _ => 0, fun _ => rfl, fun i _ => (h (c - i)).symm⟩
  | succ e ih =>
    intro f h c
    obtain ⟨g, hg, eg⟩ := ih h.back (c - 1)
    refine ⟨fun i => f c - sumTo i g, .step ?_, ?_⟩
    · have e1 : Df (fun i => f c - sumTo i g) = fun i => - g i := funext fun i => by
        show f c - (sumTo i g + g i) - (f c - sumTo i g) = - g i
        omega
      rw [e1]
      exact hg.neg
    · intro i
      induction i with
      | zero =>
        intro _
        show f c - 0 = f (c - 0)
        rw [Int.sub_zero, Nat.sub_zero]
      | succ i ih2 =>
        intro hi
        have a : f c - sumTo i g = f (c - i) := ih2 (by omega)
        have b : g i = f (c - 1 - i + 1) - f (c - 1 - i) := eg i (by omega)
        show f c - (sumTo i g + g i) = f (c - (i + 1))
        rw [b, show c - 1 - i + 1 = c - i by omega, show c - 1 - i = c - (i + 1) by omega]
        omega
theorem rev_turned {m : Nat} (hm : 0 < m) {row : List Int} {e : Nat} (r : REv (m : Int) row e) : REv (m : Int) row.reverse e := by
  refine (rev_hs hm).mpr fun f hf h hh => ?_
  obtain ⟨g, hg, eg⟩ := sm_back hf (row.length - 1)
  have key : ∀ h : Int, hs row.reverse h f = hs row h g := fun h => by
    rw [hs_rev]
    exact hs_ext row fun i hi => (eg i (by omega)).symm
  rw [key, key]
  exact (rev_hs hm).mp r g hg h hh
theorem rev_joined {m : Nat} (hm : 0 < m) {row other : List Int} {e : Nat} (r : REv (m : Int) row e) (o : REv (m : Int) other e) : REv (m : Int) (row ++ other) e := by
  refine (rev_hs hm).mpr fun f hf h hh => ?_
  rw [hs_append, hs_append, (rev_hs hm).mp r f hf h hh, (rev_hs hm).mp o _ (hf.shift row.length) h hh]
theorem built_twice {m : Nat} (hm : 2 ≤ m ∧ m ≤ 4) {zss : List (List Int)} (h : ∀ zs ∈ zss, zs.Perm (nums m)) : REv (m : Int) (built m zss ++ (built m zss).reverse) zss.length :=
  rev_joined (by omega) (built_rev hm h) (rev_turned (by omega) (built_rev hm h))
/-- in blocks: what a hand has more than the first one goes smoothly -/
theorem sm_blocks {m : Nat} (hm : 0 < m) {row : List Int} {d : Nat} (r : REv (m : Int) row d) (L : Nat) {g : Int} (g0 : 0 ≤ g) (g1 : g < m) : ∀ (e : Nat) {f : Nat → Int}, Sm (d + e) f → Sm e fun j => hs row g (fun i => f (j * L + i)) - hs row 0 (fun i => f (j * L + i))
  | 0, f, hf => fun j => by
    have := rev_two r (hf.shift (j * L)) g0 g1 (show (0 : Int) ≤ 0 by decide) (by omega)
    show hs row g (fun i => f (j * L + i)) - hs row 0 (fun i => f (j * L + i)) = 0
    omega
  | e + 1, f, hf => by
    refine .step ?_
    have ih := sm_blocks hm r L g0 g1 e (f := fun i => f (L + i) - f i) (hf.step_to L)
    have q : ∀ h : Int, ∀ j, hs row h (fun i => f ((j + 1) * L + i)) = hs row h (fun i => f (j * L + i)) + hs row h (fun i => f (L + (j * L + i)) - f (j * L + i)) := fun h j => by
      rw [← hs_add]
      refine hs_ext row fun i _ => ?_
      show f ((j + 1) * L + i) = f (j * L + i) + (f (L + (j * L + i)) - f (j * L + i))
      rw [show (j + 1) * L + i = L + (j * L + i) by rw [Nat.add_mul]; omega]
      omega
    have e1 : Df (fun j => hs row g (fun i => f (j * L + i)) - hs row 0 (fun i => f (j * L + i))) = fun j => hs row g (fun i => f (L + (j * L + i)) - f (j * L + i)) - hs row 0 (fun i => f (L + (j * L + i)) - f (j * L + i)) := funext fun j => by
      show hs row g (fun i => f ((j + 1) * L + i)) - hs row 0 (fun i => f ((j + 1) * L + i)) - (hs row g (fun i => f (j * L + i)) - hs row 0 (fun i => f (j * L + i))) = _
      rw [q g j, q 0 j]
      omega
    rw [e1]
    exact ih
theorem sum_add (l : List Int) (A B : Int → Int) : (l.map fun g => A g + B g).sum = (l.map A).sum + (l.map B).sum := by
  induction l with
  | nil => rfl
  | cons a l ih =>
    rw [List.map_cons, List.sum_cons, List.map_cons, List.sum_cons, List.map_cons, List.sum_cons, ih]
    omega
theorem one_sum {m : Nat} (hm : 2 ≤ m ∧ m ≤ 4) {x : Int} (x0 : 0 ≤ x) (x1 : x < m) (F : Int → Int) : ((nums m).map fun g => if g = x then F g else 0).sum = F x := by
  have d : m = 2 ∨ m = 3 ∨ m = 4 := by omega
  rcases d with rfl | rfl | rfl
  · show (if (0 : Int) = x then F 0 else 0) + ((if (1 : Int) = x then F 1 else 0) + 0) = F x
    have c : x = 0 ∨ x = 1 := by omega
    rcases c with rfl | rfl <;> simp
  · show (if (0 : Int) = x then F 0 else 0) + ((if (1 : Int) = x then F 1 else 0) + ((if (2 : Int) = x then F 2 else 0) + 0)) = F x
    have c : x = 0 ∨ x = 1 ∨ x = 2 := by omega
    rcases c with rfl | rfl | rfl <;> simp
  · show (if (0 : Int) = x then F 0 else 0) + ((if (1 : Int) = x then F 1 else 0) + ((if (2 : Int) = x then F 2 else 0) + ((if (3 : Int) = x then F 3 else 0) + 0))) = F x
    have c : x = 0 ∨ x = 1 ∨ x = 2 ∨ x = 3 := by omega
    rcases c with rfl | rfl | rfl | rfl <;> simp
theorem pick_sum {m : Nat} (hm : 2 ≤ m ∧ m ≤ 4) {h t : Int} (h0 : 0 ≤ h) (h1 : h < m) (t0 : 0 ≤ t) (t1 : t < m) (F : Int → Int) : ((nums m).map fun g => if t = (h - g) % (m : Int) then F g else 0).sum = F ((h - t) % (m : Int)) := by
  rw [← one_sum hm (Int.emod_nonneg (h - t) (show (m : Int) ≠ 0 by omega)) (Int.emod_lt_of_pos (h - t) (show (0 : Int) < m by omega)) F]
  refine congrArg List.sum (List.map_congr_left fun g hg => ?_)
  obtain ⟨g0, g1⟩ := nums_mem.mp hg
  have q : t = (h - g) % (m : Int) ↔ g = (h - t) % (m : Int) := by
    have d : m = 2 ∨ m = 3 ∨ m = 4 := by omega
    rcases d with rfl | rfl | rfl <;> omega
  by_cases c : g = (h - t) % (m : Int)
  · rw [if_pos c, if_pos (q.mpr c)]
  · rw [if_neg c, if_neg (fun z => c (q.mp z))]
theorem hs_put {m : Nat} (hm : 2 ≤ m ∧ m ≤ 4) {row : List Int} (ok : ∀ z ∈ row, 0 ≤ z ∧ z < (m : Int)) {h : Int} (h0 : 0 ≤ h) (h1 : h < m) : ∀ (other : List Int), (∀ z ∈ other, 0 ≤ z ∧ z < (m : Int)) → ∀ (f : Nat → Int),
    hs (putL (m : Int) row other) h f = ((nums m).map fun g => hs other ((h - g) % (m : Int)) fun j => hs row g fun i => f (j * row.length + i)).sum
  | [], _, f => by
    show (0 : Int) = ((nums m).map fun _ => (0 : Int)).sum
    induction nums m with
    | nil => rfl
    | cons a l ih =>
      rw [List.map_cons, List.sum_cons, ← ih]
      rfl
  | t :: o, oko, f => by
    obtain ⟨t0, t1⟩ := oko t List.mem_cons_self
    have ih := hs_put hm ok h0 h1 o (fun z hz => oko z (List.mem_cons_of_mem _ hz)) fun i => f (row.length + i)
    show hs (row.map (fun x => (x + t) % (m : Int)) ++ putL (m : Int) row o) h f = _
    rw [hs_append, List.length_map, ih, hs_moved hm h0 h1 ok]
    have st : ∀ g : Int, hs (t :: o) ((h - g) % (m : Int)) (fun j => hs row g fun i => f (j * row.length + i)) =
        (if t = (h - g) % (m : Int) then hs row g f else 0) + hs o ((h - g) % (m : Int)) fun j => hs row g fun i => f (row.length + (j * row.length + i)) := fun g => by
      show (if t = (h - g) % (m : Int) then hs row g (fun i => f (0 * row.length + i)) else 0) + hs o _ (fun j => hs row g fun i => f ((j + 1) * row.length + i)) = _
      congr 1
      · rw [hs_ext row (f := fun i => f (0 * row.length + i)) (g := f) fun i _ => by rw [Nat.zero_mul, Nat.zero_add]]
      · exact hs_ext o fun j _ => hs_ext row fun i _ => by rw [show (j + 1) * row.length + i = row.length + (j * row.length + i) by rw [Nat.add_mul]; omega]
    have e1 : ((nums m).map fun g => hs (t :: o) ((h - g) % (m : Int)) fun j => hs row g fun i => f (j * row.length + i)) = (nums m).map fun g => (if t = (h - g) % (m : Int) then hs row g f else 0) + hs o ((h - g) % (m : Int)) fun j => hs row g fun i => f (row.length + (j * row.length + i)) :=
      List.map_congr_left fun g _ => st g
    rw [e1]
    rw [sum_add]
    congr 1
    exact (pick_sum hm h0 h1 t0 t1 fun g => hs row g f).symm
/-- a row put into one that is even: both together -/
theorem put_even {m : Nat} (hm : 2 ≤ m ∧ m ≤ 4) {row other : List Int} (ok : ∀ z ∈ row, 0 ≤ z ∧ z < (m : Int)) (oko : ∀ z ∈ other, 0 ≤ z ∧ z < (m : Int)) {d e : Nat} (r : REv (m : Int) row d) (o : REv (m : Int) other e) : REv (m : Int) (putL (m : Int) row other) (d + e) := by
  refine (rev_hs (by omega)).mpr fun f hf h hh => ?_
  have key : ∀ h : Int, 0 ≤ h → h < m → hs (putL (m : Int) row other) h f = ((nums m).map fun g => hs other ((h - g) % (m : Int)) fun j => hs row 0 fun i => f (j * row.length + i)).sum +
      ((nums m).map fun g => hs other 0 fun j => hs row g (fun i => f (j * row.length + i)) - hs row 0 (fun i => f (j * row.length + i))).sum := fun h h0 h1 => by
    rw [hs_put hm ok h0 h1 other oko f, ← sum_add]
    refine congrArg List.sum (List.map_congr_left fun g hg => ?_)
    obtain ⟨g0, g1⟩ := nums_mem.mp hg
    have s := sm_blocks (by omega) r row.length g0 g1 e hf
    have q := rev_two o s (Int.emod_nonneg (h - g) (show (m : Int) ≠ 0 by omega)) (Int.emod_lt_of_pos (h - g) (show (0 : Int) < m by omega)) (show (0 : Int) ≤ 0 by decide) (show (0 : Int) < m by omega)
    rw [← q, ← hs_add]
    exact hs_ext other fun j _ => by omega
  rw [key h (by omega) (by omega), key 0 (by omega) (by omega)]
  rw [turn_sum hm (fun t => hs other t fun j => hs row 0 fun i => f (j * row.length + i)) (by omega) (by omega), turn_sum hm (fun t => hs other t fun j => hs row 0 fun i => f (j * row.length + i)) (by omega) (by omega)]
/-- hands named anew -/
theorem hs_named {m : Nat} {N : Int → Int} (inj : ∀ a b : Int, 0 ≤ a → a < m → 0 ≤ b → b < m → N a = N b → a = b) {h : Int} (h0 : 0 ≤ h) (h1 : h < m) : ∀ {row : List Int} (_ : ∀ z ∈ row, 0 ≤ z ∧ z < (m : Int)) (f : Nat → Int), hs (row.map N) (N h) f = hs row h f
  | [], _, _ => rfl
  | t :: r, ok, f => by
    show (if N t = N h then f 0 else 0) + hs (r.map N) (N h) _ = (if t = h then f 0 else 0) + hs r h _
    rw [hs_named inj h0 h1 (fun z hz => ok z (List.mem_cons_of_mem _ hz))]
    obtain ⟨t0, t1⟩ := ok t List.mem_cons_self
    by_cases c : t = h
    · rw [if_pos c, if_pos (by rw [c])]
    · rw [if_neg c, if_neg (fun z => c (inj t h t0 t1 h0 h1 z))]
theorem rev_named {m : Nat} (hm : 0 < m) {N : Int → Int} (inj : ∀ a b : Int, 0 ≤ a → a < m → 0 ≤ b → b < m → N a = N b → a = b) (sur : ∀ b : Int, 0 ≤ b → b < m → ∃ a : Int, 0 ≤ a ∧ a < m ∧ N a = b) {row : List Int} (ok : ∀ z ∈ row, 0 ≤ z ∧ z < (m : Int)) {e : Nat} (r : REv (m : Int) row e) : REv (m : Int) (row.map N) e := by
  refine (rev_hs hm).mpr fun f hf h hh => ?_
  obtain ⟨a, a0, a1, ea⟩ := sur h (by omega) (by omega)
  obtain ⟨b, b0, b1, eb⟩ := sur 0 (by omega) (by omega)
  rw [← ea, ← eb, hs_named inj a0 a1 ok, hs_named inj b0 b1 ok]
  exact rev_two r hf a0 a1 b0 b1
/-- nought from 3 to 7 -/
def p5 (n : Nat) : Int := ((n : Int) + -3) * (((n : Int) + -4) * (((n : Int) + -5) * (((n : Int) + -6) * (((n : Int) + -7) * 1))))
theorem sm_p5 : Sm 6 p5 := (((((sm_one.lin (-7)).lin (-6)).lin (-5)).lin (-4)).lin (-3))
theorem short8_rev {m : Nat} {row : List Int} (ok : RowOk (m : Int) row) (l : row.length ≤ 8) : ¬ REv (m : Int) row 6 := by
  by_cases c : row.length ≤ 6
  · exact fun r => rev_ends ok (r.le c)
  · intro r
    have s1 : ∀ a b : Nat, a < b → (b : Int) < m → sg row a b 0 = 0 := fun a b hab hb => by
      have z := (r a b hab hb).smooth sm_p5
      have small : ∀ i, sg row a b i = 1 ∨ sg row a b i = -1 ∨ sg row a b i = 0 := fun i => signOf_small _ _ _
      have q0 := small 0
      have q1 := small 1
      have q2 := small 2
      have d : row.length = 7 ∨ row.length = 8 := by omega
      generalize sg row a b = s at z q0 q1 q2 ⊢
      have z2 : s 0 * (-2520) + s 1 * (-720) + s 2 * (-120) = 0 := by
        rcases d with d | d
        · rw [d] at z
          have z3 : 0 + s 0 * (-2520) + s 1 * (-720) + s 2 * (-120) + s 3 * 0 + s 4 * 0 + s 5 * 0 + s 6 * 0 = 0 := z
          omega
        · rw [d] at z
          have z3 : 0 + s 0 * (-2520) + s 1 * (-720) + s 2 * (-120) + s 3 * 0 + s 4 * 0 + s 5 * 0 + s 6 * 0 + s 7 * 0 = 0 := z
          omega
      omega
    obtain ⟨h1, h2, h3, _, h5⟩ := ok
    cases row with
    | nil => exact h3 rfl
    | cons t rest =>
      obtain ⟨t0, t1⟩ := h5 t List.mem_cons_self
      have e : ∀ a b : Nat, sg (t :: rest) a b 0 = signOf t a b := fun a b => rfl
      by_cases c : t = 0
      · have := s1 0 1 (by omega) (by omega)
        rw [e, signOf, if_pos (show t = ((0 : Nat) : Int) from c)] at this
        cases this
      · have := s1 0 t.toNat (by omega) (by omega)
        rw [e, signOf, if_neg (show ¬ t = ((0 : Nat) : Int) from c), if_pos (Int.toNat_of_nonneg t0).symm] at this
        cases this
theorem put_zero {m : Nat} {row : List Int} (ok : ∀ z ∈ row, 0 ≤ z ∧ z < (m : Int)) : putL (m : Int) row [0] = row := by
  show row.map (fun x => (x + 0) % (m : Int)) ++ [] = row
  rw [List.append_nil]
  induction row with
  | nil => rfl
  | cons t r ih =>
    rw [List.map_cons, ih fun z hz => ok z (List.mem_cons_of_mem _ hz), Int.add_zero, Int.emod_eq_of_lt (ok t List.mem_cons_self).1 (ok t List.mem_cons_self).2]
theorem zero_put {m : Nat} {row : List Int} (ok : ∀ z ∈ row, 0 ≤ z ∧ z < (m : Int)) : putL (m : Int) [0] row = row := by
  show row.flatMap (fun t => [((0 : Int) + t) % (m : Int)]) = row
  induction row with
  | nil => rfl
  | cons t r ih =>
    show [((0 : Int) + t) % (m : Int)] ++ r.flatMap _ = _
    rw [ih fun z hz => ok z (List.mem_cons_of_mem _ hz), Int.zero_add, Int.emod_eq_of_lt (ok t List.mem_cons_self).1 (ok t List.mem_cons_self).2]
    rfl
end Ly

/-! ### the mathematics: the greatest lead -/
namespace Ly
open PySem L2
theorem sumTo_split (n k : Nat) (f : Nat → Int) (h : k ≤ n) (z : ∀ i, k ≤ i → i < n → f i = 0) : sumTo n f = sumTo k f := by
  induction n with
  | zero =>
    have e : k = 0 := by omega
    rw [e]
  | succ n ih =>
    by_cases c : k = n + 1
    · rw [c]
    · show sumTo n f + f n = _
      rw [z n (by omega) (by omega), ih (by omega) fun i h1 h2 => z i h1 (by omega), Int.add_zero]
/-- sums of even signs end in noughts -/
theorem Lz.ends {n : Nat} {s : Nat → Int} : ∀ {k : Nat}, Lz n s k → ∀ i, i < n → n ≤ i + k → SN k s i = 0
  | 0, _, i, h1, h2 => by omega
  | k + 1, h, i, h1, h2 => by
    have z := Lz.ends (k := k) (fun j hj => h j (by omega))
    show sumTo (i + 1) (SN k s) = 0
    rw [← sumTo_split n (i + 1) (SN k s) (by omega) fun j h3 h4 => z j h4 (by omega)]
    exact h k (by omega)
def altI (k : Nat) (z : Int) : Int := if k % 2 = 0 then z else -z
theorem altI_succ (k : Nat) (z : Int) : altI (k + 1) z = altI k (-z) := by
  unfold altI
  rcases Nat.mod_two_eq_zero_or_one k with h | h
  · rw [if_neg (by omega), if_pos h]
  · rw [if_pos (by omega), if_neg (by omega), Int.neg_neg]
/-- a lead by sums of an order -/
theorem Lz.lead {n : Nat} : ∀ {k : Nat} {s : Nat → Int}, Lz n s k → ∀ f : Nat → Int, sumTo n (fun i => s i * f i) = altI k (sumTo n fun i => SN k s i * DN k f i)
  | 0, _, _, _ => rfl
  | k + 1, s, h, f => by
    rw [parts0 h.first, h.rest.lead (Df f), altI_succ]
    have e : (fun i => SN k (Su s) i * DN k (Df f) i) = fun i => SN (k + 1) s i * DN (k + 1) f i := funext fun i => by rw [SN_succ, DN_succ]
    rw [e]
    unfold altI
    by_cases c : k % 2 = 0
    · rw [if_pos c, if_pos c]
    · rw [if_neg c, if_neg c]
def absI (z : Int) : Int := if z < 0 then -z else z
theorem absI_pos (z : Int) : 0 ≤ absI z := by
  unfold absI
  split <;> omega
theorem absI_le {z b : Int} (h1 : -b ≤ z) (h2 : z ≤ b) : absI z ≤ b := by
  unfold absI
  split <;> omega
theorem mul_le_abs {a x M : Int} (h1 : -M ≤ x) (h2 : x ≤ M) : a * x ≤ M * absI a := by
  unfold absI
  by_cases c : a < 0
  · rw [if_pos c]
    have q := Int.mul_le_mul_of_nonneg_left (show -x ≤ M by omega) (show 0 ≤ -a by omega)
    rw [Int.neg_mul_neg] at q
    rw [Int.mul_comm M]
    exact q
  · rw [if_neg c, Int.mul_comm M]
    exact Int.mul_le_mul_of_nonneg_left h2 (by omega)
theorem sumTo_le {n : Nat} {f g : Nat → Int} (h : ∀ i, i < n → f i ≤ g i) : sumTo n f ≤ sumTo n g := by
  induction n with
  | zero => exact Int.le_refl _
  | succ n ih =>
    show sumTo n f + f n ≤ sumTo n g + g n
    have a := ih fun i hi => h i (by omega)
    have b := h n (by omega)
    omega
/-- the sum of the amounts of the sums of an order -/
def Amt (n k : Nat) (s : Nat → Int) : Int := sumTo n fun i => absI (SN k s i)
/-- never passed -/
theorem Lz.most {n k : Nat} {s : Nat → Int} (h : Lz n s k) {f : Nat → Int} {M : Int} (hf : ∀ i, i + k < n → -M ≤ DN k f i ∧ DN k f i ≤ M) : sumTo n (fun i => s i * f i) ≤ M * Amt n k s := by
  rw [h.lead f]
  have z := h.ends
  have e : M * Amt n k s = sumTo n fun i => M * absI (SN k s i) := (sumTo_mul n M _).symm
  rw [e]
  unfold altI
  by_cases c : k % 2 = 0
  · rw [if_pos c]
    refine sumTo_le fun i hi => ?_
    by_cases d : i + k < n
    · exact mul_le_abs (hf i d).1 (hf i d).2
    · rw [z i hi (by omega)]
      simp [absI]
  · rw [if_neg c]
    have e2 : -(sumTo n fun i => SN k s i * DN k f i) = sumTo n fun i => SN k s i * -(DN k f i) := by
      have q := sumTo_mul n (-1) fun i => SN k s i * DN k f i
      rw [← Int.neg_one_mul, ← q]
      exact sumTo_ext fun i _ => by rw [Int.mul_neg, Int.neg_mul, Int.one_mul]
    rw [e2]
    refine sumTo_le fun i hi => ?_
    by_cases d : i + k < n
    · obtain ⟨d1, d2⟩ := hf i d
      exact mul_le_abs (by omega) (by omega)
    · rw [z i hi (by omega)]
      simp [absI]
/-- met -/
theorem Lz.met {n k : Nat} {s : Nat → Int} (h : Lz n s k) {f : Nat → Int} {M : Int} (hf : ∀ i, i + k < n → DN k f i = altI k (if 0 < SN k s i then M else if SN k s i < 0 then -M else 0)) : sumTo n (fun i => s i * f i) = M * Amt n k s := by
  rw [h.lead f]
  have z := h.ends
  have e : M * Amt n k s = sumTo n fun i => M * absI (SN k s i) := (sumTo_mul n M _).symm
  have core : ∀ a : Int, a * (if 0 < a then M else if a < 0 then -M else 0) = M * absI a := fun a => by
    unfold absI
    by_cases c : 0 < a
    · rw [if_pos c, if_neg (by omega), Int.mul_comm]
    · by_cases d : a < 0
      · rw [if_neg c, if_pos d, if_pos d, Int.mul_neg, Int.mul_neg, Int.mul_comm]
      · have e0 : a = 0 := by omega
        rw [e0]
        simp
  rw [e]
  unfold altI
  by_cases c : k % 2 = 0
  · rw [if_pos c]
    refine sumTo_ext fun i hi => ?_
    by_cases d : i + k < n
    · rw [hf i d, altI, if_pos c]
      exact core _
    · rw [z i hi (by omega)]
      simp [absI]
  · rw [if_neg c]
    have e2 : -(sumTo n fun i => SN k s i * DN k f i) = sumTo n fun i => SN k s i * -(DN k f i) := by
      have q := sumTo_mul n (-1) fun i => SN k s i * DN k f i
      rw [← Int.neg_one_mul, ← q]
      exact sumTo_ext fun i _ => by rw [Int.mul_neg, Int.neg_mul, Int.one_mul]
    rw [e2]
    refine sumTo_ext fun i hi => ?_
    by_cases d : i + k < n
    · rw [hf i d, altI, if_neg c, Int.neg_neg]
      exact core _
    · rw [z i hi (by omega)]
      simp [absI]
theorem SN_agree {n : Nat} {s t : Nat → Int} (h : ∀ i, i < n → s i = t i) : ∀ (k i : Nat), i < n → SN k s i = SN k t i
  | 0, i, hi => h i hi
  | k + 1, i, hi => by
    show sumTo (i + 1) (SN k s) = sumTo (i + 1) (SN k t)
    exact sumTo_ext fun j hj => SN_agree h k j (by omega)
theorem SN_neg (s : Nat → Int) : ∀ k i : Nat, SN k (fun i => - s i) i = - SN k s i
  | 0, _ => rfl
  | k + 1, i => by
    show sumTo (i + 1) (SN k fun i => - s i) = - sumTo (i + 1) (SN k s)
    rw [sumTo_ext (g := fun j => (-1) * SN k s j) fun j _ => by rw [SN_neg s k j]; omega, sumTo_mul]
    omega
theorem absI_neg (z : Int) : absI (-z) = absI z := by
  unfold absI
  by_cases h : z < 0
  · rw [if_pos h, if_neg (by omega)]
  · by_cases h2 : -z < 0
    · rw [if_neg h, if_pos h2]
      omega
    · rw [if_neg h, if_neg h2]
      omega
theorem Amt_ext {n : Nat} {s t : Nat → Int} (h : ∀ i, i < n → s i = t i) (k : Nat) : Amt n k s = Amt n k t := sumTo_ext fun i hi => by rw [SN_agree h k i hi]
theorem Amt_neg (n k : Nat) (s : Nat → Int) : Amt n k (fun i => - s i) = Amt n k s := sumTo_ext fun i _ => by rw [SN_neg, absI_neg]
theorem signOf_turn {t a b : Int} (h : a ≠ b) : signOf t b a = - signOf t a b := by
  unfold signOf
  by_cases h1 : t = a
  · rw [if_pos h1, if_pos h1, if_neg (fun z => h (h1.symm.trans z))]
  · by_cases h2 : t = b
    · rw [if_pos h2, if_neg h1, if_pos h2]
      rfl
    · rw [if_neg h1, if_neg h1, if_neg h2, if_neg h2]
      rfl
theorem sg_turn (row : List Int) {a b : Int} (h : a ≠ b) : sg row b a = fun i => - sg row a b i := funext fun _ => signOf_turn h
theorem Lz_neg {n k : Nat} {s : Nat → Int} (h : Lz n s k) : Lz n (fun i => - s i) k := fun j hj => by
  rw [sumTo_ext (g := fun i => (-1) * SN j s i) fun i _ => by rw [SN_neg]; omega, sumTo_mul, h j hj, Int.mul_zero]
theorem sumTo_cat (n m : Nat) (f : Nat → Int) : sumTo (n + m) f = sumTo n f + sumTo m fun i => f (n + i) := by
  induction m with
  | zero => exact (Int.add_zero _).symm
  | succ m ih =>
    show sumTo (n + m) f + f (n + m) = _
    rw [ih, Int.add_assoc]
    rfl
/-- the one behind the other -/
theorem SN_cat {n : Nat} {u s t : Nat → Int} (h1 : ∀ i, i < n → u i = s i) (h2 : ∀ i, u (n + i) = t i) : ∀ k : Nat, Lz n s k → ∀ i, SN k u (n + i) = SN k t i
  | 0, _, i => h2 i
  | k + 1, z, i => by
    have ih := SN_cat h1 h2 k fun j hj => z j (by omega)
    show sumTo (n + i + 1) (SN k u) = sumTo (i + 1) (SN k t)
    rw [show n + i + 1 = n + (i + 1) by omega, sumTo_cat, sumTo_ext (g := SN k s) fun j hj => SN_agree h1 k j hj, z k (by omega), Int.zero_add]
    exact sumTo_ext fun j _ => ih j
theorem Amt_cat {n m k : Nat} {u s t : Nat → Int} (h1 : ∀ i, i < n → u i = s i) (h2 : ∀ i, u (n + i) = t i) (z : Lz n s k) : Amt (n + m) k u = Amt n k s + Amt m k t := by
  unfold Amt
  rw [sumTo_cat, sumTo_ext (n := n) (g := fun i => absI (SN k s i)) fun i hi => by rw [SN_agree h1 k i hi], sumTo_ext (n := m) (f := fun i => absI (SN k u (n + i))) (g := fun i => absI (SN k t i)) fun i _ => by rw [SN_cat h1 h2 k z i]]
/-- turned round -/
theorem SN_turned {n : Nat} {s t : Nat → Int} (h : ∀ i, i < n → t i = s (n - 1 - i)) : ∀ k : Nat, Lz n s k → ∀ i, i + k < n → SN k t i = altI k (SN k s (n - 1 - k - i))
  | 0, _, i, hi => h i (by omega)
  | k + 1, z, i, hi => by
    have zk : Lz n s k := fun j hj => z j (by omega)
    have ih := SN_turned h k zk
    have e1 : SN (k + 1) t i = sumTo (i + 1) fun j => altI k (SN k s (n - 1 - k - j)) := sumTo_ext fun j hj => ih j (by omega)
    -- the sum from its end
    have fl : ∀ (c m : Nat) (f : Nat → Int), m ≤ c + 1 → sumTo m (fun j => f (c - j)) = sumTo (c + 1) f - sumTo (c + 1 - m) f := fun c m f => by
      induction m with
      | zero =>
        intro _
        show (0 : Int) = sumTo (c + 1) f - sumTo (c + 1) f
        omega
      | succ m ihm =>
        intro hm
        show sumTo m (fun j => f (c - j)) + f (c - m) = _
        rw [ihm (by omega), show c + 1 - m = (c - m) + 1 by omega, show c + 1 - (m + 1) = c - m by omega]
        show _ - (sumTo (c - m) f + f (c - m)) + f (c - m) = _
        omega
    have tot : sumTo (n - k) (SN k s) = 0 := by
      rw [← sumTo_split n (n - k) (SN k s) (by omega) fun j h3 h4 => zk.ends j h4 (by omega)]
      exact z k (by omega)
    have e2 : sumTo (i + 1) (fun j => SN k s (n - 1 - k - j)) = - SN (k + 1) s (n - 1 - (k + 1) - i) := by
      rw [fl (n - 1 - k) (i + 1) (SN k s) (by omega), show n - 1 - k + 1 = n - k by omega, tot]
      show 0 - sumTo (n - k - (i + 1)) (SN k s) = - sumTo (n - 1 - (k + 1) - i + 1) (SN k s)
      rw [show n - k - (i + 1) = n - 1 - (k + 1) - i + 1 by omega]
      omega
    rw [e1, altI_succ, ← e2]
    unfold altI
    by_cases c : k % 2 = 0
    · simp only [if_pos c]
    · simp only [if_neg c]
      rw [sumTo_ext (g := fun j => (-1) * SN k s (n - 1 - k - j)) fun j _ => by omega, sumTo_mul]
      omega
theorem absI_alt (k : Nat) (z : Int) : absI (altI k z) = absI z := by
  unfold altI
  by_cases c : k % 2 = 0
  · rw [if_pos c]
  · rw [if_neg c, absI_neg]
theorem sumTo_back (c : Nat) (f : Nat → Int) : sumTo c (fun j => f (c - 1 - j)) = sumTo c f := by
  cases c with
  | zero => rfl
  | succ c =>
    have fl : ∀ (m : Nat), m ≤ c + 1 → sumTo m (fun j => f (c - j)) = sumTo (c + 1) f - sumTo (c + 1 - m) f := fun m => by
      induction m with
      | zero =>
        intro _
        show (0 : Int) = sumTo (c + 1) f - sumTo (c + 1) f
        omega
      | succ m ihm =>
        intro hm
        show sumTo m (fun j => f (c - j)) + f (c - m) = _
        rw [ihm (by omega), show c + 1 - m = (c - m) + 1 by omega, show c + 1 - (m + 1) = c - m by omega]
        show _ - (sumTo (c - m) f + f (c - m)) + f (c - m) = _
        omega
    have e := fl (c + 1) (by omega)
    rw [Nat.sub_self] at e
    show sumTo (c + 1) (fun j => f (c - j)) = _
    rw [e]
    exact Int.sub_zero _
theorem Lz_turned {n k : Nat} {s t : Nat → Int} (h : ∀ i, i < n → t i = s (n - 1 - i)) (z : Lz n s k) : Lz n t k := by
  rw [lz_iff]
  intro j hj
  obtain ⟨g, hg, eg⟩ := sm_back (Sm.pow j) (n - 1)
  have e1 : sumTo n (fun i => t i * (i : Int) ^ j) = sumTo n (fun i => (fun i => s i * g i) (n - 1 - i)) := sumTo_ext fun i hi => by
    show _ = s (n - 1 - i) * g (n - 1 - i)
    rw [h i hi, eg (n - 1 - i) (by omega), show n - 1 - (n - 1 - i) = i by omega]
  rw [e1, sumTo_back n fun i => s i * g i]
  exact z.smooth (hg.le (by omega))
theorem Amt_turned {n k : Nat} {s t : Nat → Int} (h : ∀ i, i < n → t i = s (n - 1 - i)) (z : Lz n s k) : Amt n k t = Amt n k s := by
  have zt := Lz_turned h z
  unfold Amt
  by_cases c : k ≤ n
  · rw [sumTo_split n (n - k) (fun i => absI (SN k t i)) (by omega) fun i h1 h2 => by rw [zt.ends i h2 (by omega)]; rfl,
      sumTo_split n (n - k) (fun i => absI (SN k s i)) (by omega) fun i h1 h2 => by rw [z.ends i h2 (by omega)]; rfl,
      ← sumTo_back (n - k) fun i => absI (SN k s i)]
    refine sumTo_ext fun i hi => ?_
    rw [SN_turned h k z i (by omega), absI_alt, show n - 1 - k - i = n - k - 1 - i by omega]
  · rw [sumTo_zero fun i hi => by rw [zt.ends i hi (by omega)]; rfl, sumTo_zero fun i hi => by rw [z.ends i hi (by omega)]; rfl]
end Ly
namespace Ly
/-- the greatest of the amounts of each two hands -/
def GrtIs (hands : Int) (row : List Int) (k : Nat) (M : Int) : Prop := (∀ a b : Nat, a < b → (b : Int) < hands → Amt row.length k (sg row a b) ≤ M) ∧ ∃ a b : Nat, a < b ∧ (b : Int) < hands ∧ Amt row.length k (sg row a b) = M
theorem GrtIs.one {hands : Int} {row : List Int} {k : Nat} {M N : Int} (h : GrtIs hands row k M) (g : GrtIs hands row k N) : M = N := by
  obtain ⟨a, b, h1, h2, e⟩ := h.2
  obtain ⟨c, d, g1, g2, f⟩ := g.2
  have := g.1 a b h1 h2
  have := h.1 c d g1 g2
  omega
end Ly
namespace Ly
/-- what a worst difference is -/
def side (k : Nat) (z M : Int) : Int := altI k (if 0 < z then M else if z < 0 then -M else 0)
/-- the worst worths: the first k are nought, the differences of order k by the sums' signs -/
def Worst (n k : Nat) (s : Nat → Int) (M : Int) (f : Nat → Int) : Prop := (∀ i, i < k → f i = 0) ∧ ∀ i, i + k < n → DN k f i = side k (SN k s i) M
theorem dn_one : ∀ (k : Nat) {n : Nat} {f g : Nat → Int}, (∀ i, i < k → f i = g i) → (∀ i, i + k < n → DN k f i = DN k g i) → ∀ i, i < n → f i = g i
  | 0, _, _, _, _, h, i, hi => h i hi
  | k + 1, n, f, g, h0, h, i, hi => by
    have ih := dn_one k (n := n - 1) (f := Df f) (g := Df g) (fun j hj => by
      show f (j + 1) - f j = g (j + 1) - g j
      rw [h0 (j + 1) (by omega), h0 j (by omega)]) (fun j hj => by
      rw [← DN_succ, ← DN_succ]
      exact h j (by omega))
    induction i with
    | zero => exact h0 0 (by omega)
    | succ i ihi =>
      have a := ihi (by omega)
      have b : f (i + 1) - f i = g (i + 1) - g i := ih i (by omega)
      omega
theorem Worst.one {n k : Nat} {s : Nat → Int} {M : Int} {f g : Nat → Int} (hf : Worst n k s M f) (hg : Worst n k s M g) : line f n = line g n := by
  refine line_ext (line_len f n) fun i hi => ?_
  rw [line_at hi, dn_one k (f := f) (g := g) (fun j hj => by rw [hf.1 j hj, hg.1 j hj]) (fun j hj => by rw [hf.2 j hj, hg.2 j hj]) i hi]
theorem side_neg (k : Nat) (z M : Int) : side k (-z) M = - side k z M := by
  unfold side altI
  by_cases c : k % 2 = 0
  · rw [if_pos c, if_pos c]
    by_cases h1 : 0 < z
    · rw [if_neg (by omega), if_pos (by omega), if_pos h1]
    · by_cases h2 : z < 0
      · rw [if_pos (by omega), if_neg h1, if_pos h2, Int.neg_neg]
      · rw [if_neg (by omega), if_neg (by omega), if_neg h1, if_neg h2]
        rfl
  · rw [if_neg c, if_neg c]
    by_cases h1 : 0 < z
    · rw [if_neg (by omega), if_pos (by omega), if_pos h1]
    · by_cases h2 : z < 0
      · rw [if_pos (by omega), if_neg h1, if_pos h2, Int.neg_neg]
      · rw [if_neg (by omega), if_neg (by omega), if_neg h1, if_neg h2]
        rfl
theorem Worst.neg {n k : Nat} {s t : Nat → Int} {M : Int} {f : Nat → Int} (h : Worst n k s M f) (e : t = fun i => - s i) : Worst n k t M fun i => - f i := by
  refine ⟨fun i hi => by show - f i = 0; rw [h.1 i hi]; rfl, fun i hi => ?_⟩
  have d : DN k (fun i => - f i) i = - DN k f i := by
    have q : (fun i => - f i) = fun i => (-1) * f i := funext fun i => by omega
    rw [q, DN_mul]
    show (-1) * DN k f i = _
    omega
  rw [d, h.2 i hi, e, SN_neg, side_neg]
end Ly
namespace Ly
open PySem L2
theorem PrAt.same {H : Hp} {x : V} {a b c d : Nat} (h : PrAt H x a b) (k : PrAt H x c d) : a = c ∧ b = d := by
  obtain ⟨u, e, h⟩ := h
  obtain ⟨v, e2, k⟩ := k
  rw [e] at e2
  rw [V.ref.inj e2, k] at h
  have h2 := HO.tup.inj (Option.some.inj h)
  have h3 := List.cons.inj h2
  have h4 := List.cons.inj h3.2
  exact ⟨Int.ofNat.inj (V.int.inj h3.1).symm, Int.ofNat.inj (V.int.inj h4.1).symm⟩
end Ly
namespace Ly
theorem dn_agree : ∀ (k i : Nat) {f g : Nat → Int}, (∀ j, j ≤ i + k → f j = g j) → DN k f i = DN k g i
  | 0, i, _, _, h => h i (by omega)
  | k + 1, i, f, g, h => by
    show DN k f (i + 1) - DN k f i = DN k g (i + 1) - DN k g i
    rw [dn_agree k (i + 1) fun j hj => h j (by omega), dn_agree k i fun j hj => h j (by omega)]
/-- gone on: by the last of each order of differences -/
theorem gone_on (f : Nat → Int) (n : Nat) : ∀ k : Nat, k ≤ n → f n = sumTo k (fun u => DN u f (n - 1 - u)) + DN k f (n - k)
  | 0, _ => by
    show f n = 0 + f (n - 0)
    rw [Int.zero_add, Nat.sub_zero]
  | k + 1, h => by
    rw [gone_on f n k (by omega)]
    show _ = (sumTo k _ + DN k f (n - 1 - k)) + (DN k f (n - (k + 1) + 1) - DN k f (n - (k + 1)))
    rw [show n - (k + 1) + 1 = n - k by omega, show n - 1 - k = n - (k + 1) by omega]
    omega
end Ly
namespace Ly
theorem top_of (F : Nat → Nat → Int) : ∀ m : Nat, 2 ≤ m → ∃ M, (∀ a b : Nat, a < b → b < m → F a b ≤ M) ∧ ∃ a b : Nat, a < b ∧ b < m ∧ F a b = M := by
  have row : ∀ (b n : Nat), 1 ≤ n → ∃ M, (∀ a : Nat, a < n → F a b ≤ M) ∧ ∃ a : Nat, a < n ∧ F a b = M := by
    intro b n
    induction n with
    | zero => exact fun h => absurd h (by omega)
    | succ n ih =>
      intro _
      by_cases c : n = 0
      · subst c
        exact ⟨F 0 b, fun a ha => by rw [show a = 0 by omega]; exact Int.le_refl _, 0, by omega, rfl⟩
      · obtain ⟨M, h1, a, ha, e⟩ := ih (by omega)
        by_cases d : F n b ≤ M
        · exact ⟨M, fun x hx => by
            by_cases z : x = n
            · rw [z]; exact d
            · exact h1 x (by omega), a, by omega, e⟩
        · exact ⟨F n b, fun x hx => by
            by_cases z : x = n
            · rw [z]; exact Int.le_refl _
            · have := h1 x (by omega); omega, n, by omega, rfl⟩
  intro m
  induction m with
  | zero => exact fun h => absurd h (by omega)
  | succ m ih =>
    intro hm
    obtain ⟨N, g1, c, hc, f⟩ := row m m (by omega)
    by_cases z : 2 ≤ m
    · obtain ⟨M, h1, a, b, hab, hb, e⟩ := ih z
      by_cases d : N ≤ M
      · exact ⟨M, fun x y hx hy => by
          by_cases w : y = m
          · have := g1 x (by omega); rw [w]; omega
          · exact h1 x y hx (by omega), a, b, hab, by omega, e⟩
      · exact ⟨N, fun x y hx hy => by
          by_cases w : y = m
          · rw [w]; exact g1 x (by omega)
          · have := h1 x y hx (by omega); omega, c, m, hc, by omega, f⟩
    · exact ⟨N, fun x y hx hy => by rw [show y = m by omega]; exact g1 x (by omega), c, m, hc, by omega, f⟩
/-- there is a greatest -/
theorem grt_ex {m k : Nat} {row : List Int} (ok : RowOk (m : Int) row) : ∃ M, GrtIs (m : Int) row k M := by
  obtain ⟨M, h1, a, b, hab, hb, e⟩ := top_of (fun a b => Amt row.length k (sg row a b)) m (by have := ok.1; omega)
  exact ⟨M, fun a b h2 h3 => h1 a b h2 (by omega), a, b, hab, by omega, e⟩
end Ly
namespace Ly
theorem dn_shift : ∀ (k : Nat) (f : Nat → Int) (i : Nat), DN k (fun j => f (j + 1)) i = DN k f (i + 1)
  | 0, _, _ => rfl
  | k + 1, f, i => by
    show DN k (fun j => f (j + 1)) (i + 1) - DN k (fun j => f (j + 1)) i = DN k f (i + 1 + 1) - DN k f (i + 1)
    rw [dn_shift k f (i + 1), dn_shift k f i]
theorem dn_sn : ∀ (k : Nat) (u : Nat → Int) (i : Nat), DN k (SN k u) i = u (i + k)
  | 0, _, _ => rfl
  | k + 1, u, i => by
    rw [DN_succ]
    have e : Df (SN (k + 1) u) = fun j => SN k u (j + 1) := funext fun j => by
      show sumTo (j + 1 + 1) (SN k u) - sumTo (j + 1) (SN k u) = _
      show sumTo (j + 1) (SN k u) + SN k u (j + 1) - sumTo (j + 1) (SN k u) = _
      omega
    rw [e, dn_shift, dn_sn k u (i + 1)]
    rw [show i + 1 + k = i + (k + 1) by omega]
theorem sn_nought {k : Nat} {u : Nat → Int} (h : ∀ i, i < k → u i = 0) : ∀ (m i : Nat), i < k → SN m u i = 0
  | 0, i, hi => h i hi
  | m + 1, i, hi => by
    show sumTo (i + 1) (SN m u) = 0
    exact sumTo_zero fun j hj => sn_nought h m j (by omega)
/-- sums of an order, with as many noughts ahead, of the worst gaps -/
theorem worst_sums {n k : Nat} {s : Nat → Int} {M : Int} : Worst n k s M (SN k fun i => if i < k then 0 else side k (SN k s (i - k)) M) := by
  refine ⟨fun i hi => sn_nought (fun j hj => if_pos hj) k i hi, fun i hi => ?_⟩
  rw [dn_sn]
  rw [if_neg (by omega), Nat.add_sub_cancel]
end Ly
namespace Ly
open PySem L2
theorem perm_put_len {m : Nat} : ∀ {zss : List (List Int)}, (∀ zs ∈ zss, zs.Perm (nums m)) → (built m zss).length = m ^ zss.length
  | [], _ => rfl
  | zs :: r, h => by
    show (putL (m : Int) (built m r) zs).length = _
    rw [putL_len, perm_len (h zs List.mem_cons_self), perm_put_len fun z hz => h z (List.mem_cons_of_mem _ hz), List.length_cons, Nat.pow_succ, Nat.mul_comm]
theorem butT_town {K : PySem.W.Frag} {b : Addr} {H H' : Hp} {a : Addr} {xs : List V} {n : Nat} (s : But b H H') (t : Town b n H) (h : SqT K H a xs) : SqT K H' a xs := by
  obtain ⟨ys, hb, _⟩ := t
  rcases h with (h | ⟨o, h⟩) | h
  · exact .inl (.inl (s _ _ (fun e => by rw [e, hb] at h; cases h) h))
  · exact .inl (.inr ⟨o, s _ _ (fun e => by rw [e, hb] at h; cases h) h⟩)
  · exact .inr h
/-- an evenness is not below what is known -/
theorem not_less {hands : Int} {row : List Int} {d e : Nat} (h : REv hands row d) (n : ¬ REv hands row (e + 1)) : d ≤ e := by
  by_cases c : d ≤ e
  · exact c
  · exact absurd (h.le (by omega)) n
/-- a row as they are made: how even, how long -/
theorem made_of {m k : Nat} (hm : 2 ≤ m ∧ m ≤ 4) {row : List Int} (h : ∃ zss : List (List Int), zss.length = k ∧ (∀ zs ∈ zss, zs.Perm (nums m)) ∧ (row = built m zss ∨ row = built m zss ++ (built m zss).reverse)) :
    REv (m : Int) row k ∧ k ≤ row.length := by
  obtain ⟨zss, lz, pz, e⟩ := h
  have l := perm_put_len pz
  have g : k ≤ m ^ zss.length := by
    rw [lz]
    exact Nat.le_of_lt (Nat.lt_of_lt_of_le Nat.lt_two_pow_self (Nat.pow_le_pow_left hm.1 k))
  rcases e with e | e
  · rw [e, ← lz]
    refine ⟨built_rev hm pz, ?_⟩
    rw [l, lz]
    rw [lz] at g
    exact g
  · rw [e, ← lz]
    refine ⟨built_twice hm pz, ?_⟩
    rw [List.length_append, l, lz]
    rw [lz] at g
    omega
end Ly
namespace Ly
/-- a lead, place by place -/
theorem lead_line {row : List Int} {a b : Int} (hab : a ≠ b) (f : Nat → Int) : tot row (line f row.length) a - tot row (line f row.length) b = sumTo row.length fun i => sg row a b i * f i := by
  rw [← lead_tot hab, signsOf_line, leadBy]
  have e : ((line (sg row a b) row.length).zip (line f row.length)).map (fun p => p.1 * p.2) = line (fun i => sg row a b i * f i) row.length := by
    refine line_ext ?_ fun i hi => ?_
    · rw [List.length_map, List.length_zip, line_len, line_len, Nat.min_self]
    · rw [List.getElem?_map, List.getElem?_zip_eq_some (z := (sg row a b i, f i)) |>.mpr ⟨line_at hi, line_at hi⟩]
      rfl
  rw [e, line_sum]
theorem Lz.within {n k : Nat} {s : Nat → Int} (h : Lz n s k) {f : Nat → Int} {M : Int} (hf : ∀ i, i + k < n → -M ≤ DN k f i ∧ DN k f i ≤ M) : -(M * Amt n k s) ≤ sumTo n (fun i => s i * f i) ∧ sumTo n (fun i => s i * f i) ≤ M * Amt n k s := by
  refine ⟨?_, h.most hf⟩
  have g := (Lz_neg h).most hf
  rw [Amt_neg] at g
  have e : sumTo n (fun i => -s i * f i) = - sumTo n (fun i => s i * f i) := by
    have q := sumTo_mul n (-1) fun i => s i * f i
    rw [← Int.neg_one_mul, ← q]
    exact sumTo_ext fun i _ => by rw [Int.neg_mul, Int.neg_mul, Int.one_mul]
  rw [e] at g
  omega
end Ly
namespace Ly
open PySem L2
/-! ### hands named anew, rows turned round: the same leads -/
theorem Lz_ext {n k : Nat} {s t : Nat → Int} (h : ∀ i, i < n → s i = t i) (z : Lz n s k) : Lz n t k := fun j hj => by
  rw [← sumTo_ext (f := SN j s) fun i hi => SN_agree h j i hi]
  exact z j hj
theorem Amt_swap {n k : Nat} (row : List Int) {a b : Int} (h : a ≠ b) : Amt n k (sg row b a) = Amt n k (sg row a b) := by rw [sg_turn row h, Amt_neg]
/-- a naming of hands -/
structure Naming (m : Nat) (N : Int → Int) : Prop where
  inj : ∀ a b : Int, 0 ≤ a → a < m → 0 ≤ b → b < m → N a = N b → a = b
  sur : ∀ b : Int, 0 ≤ b → b < m → ∃ a : Int, 0 ≤ a ∧ a < m ∧ N a = b
  low : ∀ a : Int, 0 ≤ a → a < m → 0 ≤ N a ∧ N a < m
theorem Naming.sg {m : Nat} {N : Int → Int} (h : Naming m N) {row : List Int} (ok : ∀ z ∈ row, 0 ≤ z ∧ z < (m : Int)) {a b : Int} (ha : 0 ≤ a ∧ a < (m : Int)) (hb : 0 ≤ b ∧ b < (m : Int)) (i : Nat) (hi : i < row.length) : sg (row.map N) (N a) (N b) i = Ly.sg row a b i := by
  unfold Ly.sg signOf
  have e : (row.map N).getD i 0 = N (row.getD i 0) := by
    rw [List.getD_eq_getElem?_getD, List.getD_eq_getElem?_getD, List.getElem?_map, List.getElem?_eq_getElem hi]
    rfl
  have mem : 0 ≤ row.getD i 0 ∧ row.getD i 0 < (m : Int) := by
    rw [List.getD_eq_getElem?_getD, List.getElem?_eq_getElem hi]
    exact ok _ (List.getElem_mem hi)
  rw [e]
  by_cases c : row.getD i 0 = a
  · rw [if_pos (by rw [c]), if_pos c]
  · rw [if_neg (fun z => c (h.inj _ _ mem.1 mem.2 ha.1 ha.2 z)), if_neg c]
    by_cases d : row.getD i 0 = b
    · rw [if_pos (by rw [d]), if_pos d]
    · rw [if_neg (fun z => d (h.inj _ _ mem.1 mem.2 hb.1 hb.2 z)), if_neg d]
theorem Naming.lz {m : Nat} {N : Int → Int} (h : Naming m N) {row : List Int} (ok : ∀ z ∈ row, 0 ≤ z ∧ z < (m : Int)) {a b : Int} (ha : 0 ≤ a ∧ a < (m : Int)) (hb : 0 ≤ b ∧ b < (m : Int)) (k : Nat) : Lz (row.map N).length (Ly.sg (row.map N) (N a) (N b)) k ↔ Lz row.length (Ly.sg row a b) k := by
  rw [List.length_map]
  exact ⟨Lz_ext fun i hi => h.sg ok ha hb i hi, Lz_ext fun i hi => (h.sg ok ha hb i hi).symm⟩
theorem Naming.amt {m : Nat} {N : Int → Int} (h : Naming m N) {row : List Int} (ok : ∀ z ∈ row, 0 ≤ z ∧ z < (m : Int)) {a b : Int} (ha : 0 ≤ a ∧ a < (m : Int)) (hb : 0 ≤ b ∧ b < (m : Int)) (k : Nat) : Amt (row.map N).length k (Ly.sg (row.map N) (N a) (N b)) = Amt row.length k (Ly.sg row a b) := by
  rw [List.length_map]
  exact Amt_ext (fun i hi => h.sg ok ha hb i hi) k
theorem Naming.rev {m : Nat} {N : Int → Int} (h : Naming m N) {row : List Int} (ok : ∀ z ∈ row, 0 ≤ z ∧ z < (m : Int)) (k : Nat) : REv (m : Int) (row.map N) k ↔ REv (m : Int) row k := by
  constructor
  · intro r a b hab hb
    have ha : 0 ≤ (a : Int) ∧ (a : Int) < (m : Int) := ⟨by omega, by omega⟩
    have hb' : 0 ≤ (b : Int) ∧ (b : Int) < (m : Int) := ⟨by omega, by omega⟩
    have e : N a ≠ N b := fun z => by have := h.inj _ _ ha.1 ha.2 hb'.1 hb'.2 z; omega
    refine (h.lz ok ha hb' k).mp ?_
    obtain ⟨x, hx⟩ : ∃ x : Nat, N a = (x : Int) := ⟨(N a).toNat, by have := h.low _ ha.1 ha.2; omega⟩
    obtain ⟨y, hy⟩ : ∃ y : Nat, N b = (y : Int) := ⟨(N b).toNat, by have := h.low _ hb'.1 hb'.2; omega⟩
    have lx := h.low _ ha.1 ha.2
    have ly := h.low _ hb'.1 hb'.2
    rw [hx, hy] at e ⊢
    rw [hx] at lx
    rw [hy] at ly
    by_cases c : x < y
    · exact r x y c (by omega)
    · rw [sg_turn (row.map N) (a := (y : Int)) (b := (x : Int)) (by omega)]
      exact Lz_neg (r y x (by omega) (by omega))
  · intro r a b hab hb
    obtain ⟨x, x0, x1, ex⟩ := h.sur (a : Int) (by omega) (by omega)
    obtain ⟨y, y0, y1, ey⟩ := h.sur (b : Int) (by omega) (by omega)
    rw [← ex, ← ey]
    refine (h.lz ok ⟨x0, x1⟩ ⟨y0, y1⟩ k).mpr ?_
    obtain ⟨u, rfl⟩ : ∃ u : Nat, x = (u : Int) := ⟨x.toNat, by omega⟩
    obtain ⟨v, rfl⟩ : ∃ v : Nat, y = (v : Int) := ⟨y.toNat, by omega⟩
    have ne : u ≠ v := fun z => by
      rw [z, ey] at ex
      omega
    by_cases c : u < v
    · exact r u v c (by omega)
    · rw [sg_turn row (a := (v : Int)) (b := (u : Int)) (by omega)]
      exact Lz_neg (r v u (by omega) (by omega))
theorem Naming.grt {m : Nat} {N : Int → Int} (h : Naming m N) {row : List Int} (ok : ∀ z ∈ row, 0 ≤ z ∧ z < (m : Int)) {k : Nat} {M : Int} (g : GrtIs (m : Int) (row.map N) k M) : GrtIs (m : Int) row k M := by
  refine ⟨fun a b hab hb => ?_, ?_⟩
  · have ha : 0 ≤ (a : Int) ∧ (a : Int) < (m : Int) := ⟨by omega, by omega⟩
    have hb' : 0 ≤ (b : Int) ∧ (b : Int) < (m : Int) := ⟨by omega, by omega⟩
    have e : N a ≠ N b := fun z => by have := h.inj _ _ ha.1 ha.2 hb'.1 hb'.2 z; omega
    rw [← h.amt ok ha hb']
    obtain ⟨x, hx⟩ : ∃ x : Nat, N a = (x : Int) := ⟨(N a).toNat, by have := h.low _ ha.1 ha.2; omega⟩
    obtain ⟨y, hy⟩ : ∃ y : Nat, N b = (y : Int) := ⟨(N b).toNat, by have := h.low _ hb'.1 hb'.2; omega⟩
    have lx := h.low _ ha.1 ha.2
    have ly := h.low _ hb'.1 hb'.2
    rw [hx, hy] at e ⊢
    rw [hx] at lx
    rw [hy] at ly
    by_cases c : x < y
    · exact g.1 x y c (by omega)
    · rw [Amt_swap (row.map N) (a := (y : Int)) (b := (x : Int)) (by omega)]
      exact g.1 y x (by omega) (by omega)
  · obtain ⟨c, d, cd, dm, e⟩ := g.2
    obtain ⟨x, x0, x1, ex⟩ := h.sur (c : Int) (by omega) (by omega)
    obtain ⟨y, y0, y1, ey⟩ := h.sur (d : Int) (by omega) (by omega)
    rw [← ex, ← ey, h.amt ok ⟨x0, x1⟩ ⟨y0, y1⟩] at e
    obtain ⟨u, rfl⟩ : ∃ u : Nat, x = (u : Int) := ⟨x.toNat, by omega⟩
    obtain ⟨v, rfl⟩ : ∃ v : Nat, y = (v : Int) := ⟨y.toNat, by omega⟩
    have ne : u ≠ v := fun z => by
      rw [z, ey] at ex
      omega
    by_cases w : u < v
    · exact ⟨u, v, w, by omega, e⟩
    · rw [Amt_swap row (a := (v : Int)) (b := (u : Int)) (by omega)] at e
      exact ⟨v, u, by omega, by omega, e⟩
/-- names in a line -/
theorem naming_of {m : Nat} {names : List Int} (p : names.Perm (nums m)) : Naming m fun t => names.getD t.toNat 0 := by
  have ln : names.length = m := perm_len p
  have nd : names.Nodup := p.nodup_iff.mpr (nums_nodup m)
  have at_ : ∀ i : Nat, i < m → names.getD i 0 ∈ names := fun i hi => by
    rw [List.getD_eq_getElem?_getD, List.getElem?_eq_getElem (by omega)]
    exact List.getElem_mem _
  refine ⟨fun a b a0 a1 b0 b1 e => ?_, fun b b0 b1 => ?_, fun a a0 a1 => nums_mem.mp (p.mem_iff.mp (at_ _ (by omega)))⟩
  · have la : a.toNat < names.length := by omega
    have lb : b.toNat < names.length := by omega
    have e2 : names[a.toNat] = names[b.toNat] := by
      have e3 : names.getD a.toNat 0 = names.getD b.toNat 0 := e
      rw [List.getD_eq_getElem?_getD, List.getD_eq_getElem?_getD, List.getElem?_eq_getElem la, List.getElem?_eq_getElem lb] at e3
      exact e3
    have pw := List.pairwise_iff_getElem.mp nd
    by_cases c : a.toNat < b.toNat
    · exact absurd e2 (pw _ _ la lb c)
    · by_cases d : b.toNat < a.toNat
      · exact absurd e2.symm (pw _ _ lb la d)
      · omega
  · have mem : b ∈ names := p.mem_iff.mpr (nums_mem.mpr ⟨b0, b1⟩)
    obtain ⟨i, hi, ei⟩ := List.mem_iff_getElem.mp mem
    refine ⟨(i : Int), by omega, by omega, ?_⟩
    show names.getD (i : Int).toNat 0 = b
    rw [Int.toNat_natCast, List.getD_eq_getElem?_getD, List.getElem?_eq_getElem hi]
    exact ei
theorem sg_back (row : List Int) (a b : Int) : ∀ i, i < row.length → sg row.reverse a b i = sg row a b (row.length - 1 - i) := fun i hi => by
  unfold sg
  rw [List.getD_eq_getElem?_getD, List.getD_eq_getElem?_getD, List.getElem?_reverse hi]
theorem lz_back (row : List Int) (a b : Int) (k : Nat) : Lz row.reverse.length (sg row.reverse a b) k ↔ Lz row.length (sg row a b) k := by
  rw [List.length_reverse]
  refine ⟨fun z => ?_, Lz_turned (sg_back row a b)⟩
  refine Lz_turned (s := sg row.reverse a b) (fun i hi => ?_) z
  rw [sg_back row a b _ (by omega), show row.length - 1 - (row.length - 1 - i) = i by omega]
theorem rev_back (hands : Int) (row : List Int) (k : Nat) : REv hands row.reverse k ↔ REv hands row k := ⟨fun r a b h1 h2 => (lz_back row a b k).mp (r a b h1 h2), fun r a b h1 h2 => (lz_back row a b k).mpr (r a b h1 h2)⟩
theorem amt_back {row : List Int} {a b : Int} {k : Nat} (z : Lz row.length (sg row a b) k) : Amt row.reverse.length k (sg row.reverse a b) = Amt row.length k (sg row a b) := by
  rw [List.length_reverse]
  exact Amt_turned (sg_back row a b) z
theorem grt_back {hands : Int} {row : List Int} {k : Nat} {M : Int} (r : REv hands row k) (g : GrtIs hands row.reverse k M) : GrtIs hands row k M := by
  refine ⟨fun a b h1 h2 => ?_, ?_⟩
  · rw [← amt_back (r a b h1 h2)]
    exact g.1 a b h1 h2
  · obtain ⟨a, b, h1, h2, e⟩ := g.2
    rw [amt_back (r a b h1 h2)] at e
    exact ⟨a, b, h1, h2, e⟩
end Ly
namespace Ly
/-- the other way of a naming: where each name stands -/
theorem naming_back {m : Nat} {names : List Int} (p : names.Perm (nums m)) : ∃ I : List Int, I.length = m ∧ I.Perm (nums m) ∧ (∀ h : Nat, h < m → ∃ j : Nat, I[h]? = some (j : Int) ∧ names[j]? = some (h : Int) ∧ ∀ i, i < j → names[i]? ≠ some (h : Int)) ∧
    ∀ z : Int, 0 ≤ z → z < m → I.getD (names.getD z.toNat 0).toNat 0 = z := by
  have ln : names.length = m := perm_len p
  have nd : names.Nodup := p.nodup_iff.mpr (nums_nodup m)
  have pw := List.pairwise_iff_getElem.mp nd
  have uniq : ∀ (i j : Nat) (x : Int), names[i]? = some x → names[j]? = some x → i = j := fun i j x hi hj => by
    obtain ⟨li, ei⟩ := List.getElem?_eq_some_iff.mp hi
    obtain ⟨lj, ej⟩ := List.getElem?_eq_some_iff.mp hj
    by_cases c : i < j
    · exact absurd (ei.trans ej.symm) (pw _ _ li lj c)
    · by_cases d : j < i
      · exact absurd (ej.trans ei.symm) (pw _ _ lj li d)
      · omega
  have ex : ∀ h : Nat, ∃ j : Nat, h < m → names[j]? = some (h : Int) := fun h => by
    by_cases c : h < m
    · have mem : (h : Int) ∈ names := p.mem_iff.mpr (nums_mem.mpr ⟨by omega, by omega⟩)
      obtain ⟨i, hi, ei⟩ := List.mem_iff_getElem.mp mem
      exact ⟨i, fun _ => by rw [List.getElem?_eq_getElem hi, ei]⟩
    · exact ⟨0, fun z => absurd z c⟩
  obtain ⟨J, hJ⟩ : ∃ J : Nat → Nat, ∀ h, h < m → names[J h]? = some (h : Int) := ⟨fun h => Classical.choose (ex h), fun h => Classical.choose_spec (ex h)⟩
  have Jm : ∀ h, h < m → J h < m := fun h hh => by
    have := (List.getElem?_eq_some_iff.mp (hJ h hh)).1
    omega
  have back : ∀ z : Nat, z < m → ∃ y : Nat, y < m ∧ names[z]? = some (y : Int) ∧ J y = z := fun z hz => by
    have e := List.getElem?_eq_getElem (l := names) (show z < names.length by omega)
    have mem := nums_mem.mp (p.mem_iff.mp (List.getElem_mem (show z < names.length by omega)))
    obtain ⟨y, hy⟩ : ∃ y : Nat, names[z] = (y : Int) := ⟨(names[z]).toNat, by omega⟩
    rw [hy] at e
    rw [hy] at mem
    exact ⟨y, by omega, e, uniq _ _ _ (hJ y (by omega)) e⟩
  have at_ : ∀ h, h < m → ((List.range m).map fun h => (J h : Int))[h]? = some (J h : Int) := fun h hh => by
    rw [List.getElem?_map, List.getElem?_range hh]
    rfl
  refine ⟨(List.range m).map fun h => (J h : Int), by rw [List.length_map, List.length_range], ?_, fun h hh => ⟨J h, at_ h hh, hJ h hh, fun i hi e => ?_⟩, fun z z0 z1 => ?_⟩
  · refine (List.perm_ext_iff_of_nodup ?_ (nums_nodup m)).mpr fun x => ?_
    · refine List.pairwise_map.mpr (List.Pairwise.imp_of_mem (fun {x y} hx hy h e => ?_) List.nodup_range)
      have := hJ x (List.mem_range.mp hx)
      rw [Int.ofNat.inj e, hJ y (List.mem_range.mp hy)] at this
      have := Option.some.inj this
      omega
    · rw [List.mem_map, nums_mem]
      constructor
      · rintro ⟨h, hh, rfl⟩
        have := Jm h (List.mem_range.mp hh)
        omega
      · rintro ⟨x0, x1⟩
        obtain ⟨y, hy, _, ey⟩ := back x.toNat (by omega)
        exact ⟨y, List.mem_range.mpr hy, by rw [ey]; omega⟩
  · have := uniq _ _ _ e (hJ h hh)
    omega
  · obtain ⟨y, hy, ey, ez⟩ := back z.toNat (by omega)
    have e1 : names.getD z.toNat 0 = (y : Int) := by rw [List.getD_eq_getElem?_getD, ey]; rfl
    rw [e1, Int.toNat_natCast, List.getD_eq_getElem?_getD, at_ y hy, ez]
    show ((z.toNat : Nat) : Int) = z
    omega
end Ly

/-! ### itertools.combinations(range(n), 2) -/
namespace Cmb
open PySem PySem.Spec PyProof.Rows
open Sem (wp)
theorem mro_c : mroOf (.type "itertools.combinations") = pure [.type "itertools.combinations", .type "object"] := by rw [mroOf_type]; kernel_rfl
theorem new_c : typeLookup (.type "itertools.combinations") "__new__" = pure (some (.builtin "itertools.combinations.__new__")) := by rw [typeLookup_type, builtinLookup_eq_fast]; kernel_rfl
theorem sub_c : isSubtype (.type "itertools.combinations") (.type "itertools.combinations") = pure true := by rw [isSubtype_type]; kernel_rfl
theorem init_c : Slot "itertools.combinations" "__init__" "object.__init__" := .of (owner := "object") (n := "__init__") (by rw [typeLookup_type, builtinLookup_eq_fast]; kernel_rfl) (by decide +kernel) (by decide +kernel) (by decide +kernel)
  (.inl (by decide +kernel)) (by rw [isSubtype_type]; kernel_rfl)
theorem called_c : TypeCalled "itertools.combinations" "itertools.combinations.__new__" "object.__init__" := ⟨by decide +kernel, by decide +kernel, ⟨_, _, mro_c⟩, madeBy_type mro_c new_c (by decide +kernel), by decide +kernel, sub_c, init_c⟩
theorem tcall_c (a b : Value) : checkTypeCall "itertools.combinations" ⟨[a, b], []⟩ = pure () := by kernel_rfl
theorem ncall_c (a b : Value) : checkBuiltinCall "itertools.combinations.__new__" ⟨[.type "itertools.combinations", a, b], []⟩ = pure () := by kernel_rfl
theorem plain_c : plainId "itertools.combinations.__new__" = true := by decide +kernel
theorem entry_c : entryFor table "itertools.combinations.__new__" = some Builtin.«itertools.combinations.__new__» := entryFor_of_tree (by kernel_rfl)
theorem iter_c : Slot "itertools.combinations" "__iter__" "itertools.combinations.__iter__" := .of (owner := "itertools.combinations") (n := "__iter__") (by rw [typeLookup_type, builtinLookup_eq_fast]; kernel_rfl) (by decide +kernel) (by decide +kernel) (by decide +kernel)
  (.inl (by decide +kernel)) sub_c
theorem next_c : Slot "itertools.combinations" "__next__" "itertools.combinations.__next__" := .of (owner := "itertools.combinations") (n := "__next__") (by rw [typeLookup_type, builtinLookup_eq_fast]; kernel_rfl) (by decide +kernel) (by decide +kernel) (by decide +kernel)
  (.inl (by decide +kernel)) sub_c
theorem eiter_c : entryFor table "itertools.combinations.__iter__" = some Builtin.«dict_keyiterator.__iter__» := entryFor_alias (id' := "dict_keyiterator.__iter__") (by kernel_rfl) (by first | rfl | decide +kernel | (unfold String.splitOn; simp +decide [String.splitOnAux])) (by decide +kernel) (by kernel_rfl)
theorem enext_c : entryFor table "itertools.combinations.__next__" = some Builtin.«itertools.combinations.__next__» := entryFor_of_tree (by kernel_rfl)
theorem owner_c : Manifest.owners.lookup (String.ofList ['s', 'n', 'o', 'i', 't', 'a', 'n', 'i', 'b', 'm', 'o', 'c', '.', 's', 'l', 'o', 'o', 't', 'r', 'e', 't', 'i'].reverse) = some Manifest.sig_itertools_combinations := by kernel_rfl
theorem aiter_c (a : Value) : argsOk "itertools.combinations.__iter__" ⟨[a], []⟩ := by
  unfold argsOk
  rw [signature?_of (id := "itertools.combinations.__iter__") (n := ['_', '_', 'r', 'e', 't', 'i', '_', '_']) (o := ['s', 'n', 'o', 'i', 't', 'a', 'n', 'i', 'b', 'm', 'o', 'c', '.', 's', 'l', 'o', 'o', 't', 'r', 'e', 't', 'i']) (by kernel_rfl) owner_c]
  kernel_rfl
theorem anext_c (a : Value) : argsOk "itertools.combinations.__next__" ⟨[a], []⟩ := by
  unfold argsOk
  rw [signature?_of (id := "itertools.combinations.__next__") (n := ['_', '_', 't', 'x', 'e', 'n', '_', '_']) (o := ['s', 'n', 'o', 'i', 't', 'a', 'n', 'i', 'b', 'm', 'o', 'c', '.', 's', 'l', 'o', 'o', 't', 'r', 'e', 't', 'i']) (by kernel_rfl) owner_c]
  kernel_rfl
theorem dict_c : typeHasDict (.type "itertools.combinations") = false := by decide +kernel
theorem nolen_c : typeLookup (.type "itertools.combinations") "__len__" = pure none := by rw [typeLookup_type, builtinLookup_eq_fast]; kernel_rfl
theorem nohint_c : typeLookup (.type "itertools.combinations") "__length_hint__" = pure none := by rw [typeLookup_type, builtinLookup_eq_fast]; kernel_rfl

/-! the next pair of places below n -/
def nx (n : Nat) (p : Nat × Nat) : Option (Nat × Nat) := if p.2 + 1 < n then some (p.1, p.2 + 1) else if p.1 + 2 < n then some (p.1 + 1, p.1 + 2) else none
def pa (n : Nat) : Nat → Option (Nat × Nat)
  | 0 => if 1 < n then some (0, 1) else none
  | i + 1 => (pa n i).bind (nx n)
theorem pa_lt {n : Nat} : ∀ {i a b : Nat}, pa n i = some (a, b) → a < b ∧ b < n
  | 0, a, b, h => by
    unfold pa at h
    split at h
    · cases h
      omega
    · cases h
  | i + 1, a, b, h => by
    have h2 : (pa n i).bind (nx n) = some (a, b) := h
    cases e : pa n i with
    | none =>
      rw [e] at h2
      cases h2
    | some p =>
      rw [e] at h2
      obtain ⟨c, d⟩ := p
      have q := pa_lt e
      have h3 : nx n (c, d) = some (a, b) := h2
      unfold nx at h3
      dsimp only at h3
      split at h3
      · cases h3
        omega
      · split at h3
        · cases h3
          omega
        · cases h3
theorem pa_code {n : Nat} : ∀ {i a b : Nat}, pa n i = some (a, b) → i ≤ a * n + b
  | 0, a, b, h => Nat.zero_le _
  | i + 1, a, b, h => by
    have h2 : (pa n i).bind (nx n) = some (a, b) := h
    cases e : pa n i with
    | none =>
      rw [e] at h2
      cases h2
    | some p =>
      rw [e] at h2
      obtain ⟨c, d⟩ := p
      have q := pa_lt e
      have k := pa_code e
      have h3 : nx n (c, d) = some (a, b) := h2
      unfold nx at h3
      dsimp only at h3
      split at h3
      · cases h3
        omega
      · split at h3
        · cases h3
          rw [Nat.add_mul]
          omega
        · cases h3
theorem pa_step {n i : Nat} {a b : Nat} (h : pa n i = some (a, b)) : pa n (i + 1) = nx n (a, b) := by
  show (pa n i).bind (nx n) = _
  rw [h]
  rfl
theorem pa_all {n : Nat} : ∀ a b : Nat, a < b → b < n → ∃ i, pa n i = some (a, b) := by
  have row : ∀ a : Nat, (∃ i, pa n i = some (a, a + 1)) → ∀ k : Nat, a + 1 + k < n → ∃ i, pa n i = some (a, a + 1 + k) := by
    intro a h k
    induction k with
    | zero => exact fun _ => h
    | succ k ih =>
      intro l
      obtain ⟨i, e⟩ := ih (by omega)
      refine ⟨i + 1, ?_⟩
      rw [pa_step e]
      unfold nx
      dsimp only
      rw [if_pos (by omega)]
      rfl
  have first : ∀ a : Nat, a + 1 < n → ∃ i, pa n i = some (a, a + 1) := by
    intro a
    induction a with
    | zero =>
      intro l
      refine ⟨0, ?_⟩
      unfold pa
      rw [if_pos (by omega)]
    | succ a ih =>
      intro l
      obtain ⟨i, e⟩ := row a (ih (by omega)) (n - 1 - (a + 1)) (by omega)
      refine ⟨i + 1, ?_⟩
      rw [pa_step e]
      unfold nx
      dsimp only
      rw [if_neg (by omega), if_pos (by omega)]
  intro a b h1 h2
  obtain ⟨i, e⟩ := row a (first a (by omega)) (b - (a + 1)) (by omega)
  exact ⟨i, by rw [e, show a + 1 + (b - (a + 1)) = b by omega]⟩
theorem pa_none {n : Nat} : pa n (n * n) = none := by
  cases e : pa n (n * n) with
  | none => rfl
  | some p =>
    obtain ⟨a, b⟩ := p
    have h1 := pa_lt e
    have h2 := pa_code e
    have h3 : (a + 1) * n ≤ n * n := Nat.mul_le_mul_right n (by omega)
    rw [Nat.add_mul] at h3
    omega
theorem least_none (f : Nat → Option (Nat × Nat)) : ∀ m : Nat, f m = none → ∃ N, N ≤ m ∧ f N = none ∧ ∀ i, i < N → ∃ p, f i = some p := by
  intro m
  induction m using Nat.strongRecOn with
  | _ m ih =>
    intro h
    by_cases c : ∃ i, i < m ∧ f i = none
    · obtain ⟨i, l, e⟩ := c
      obtain ⟨N, hN, r⟩ := ih i l e
      exact ⟨N, by omega, r⟩
    · refine ⟨m, Nat.le_refl _, h, fun i l => ?_⟩
      cases e : f i with
      | some p => exact ⟨p, rfl⟩
      | none => exact absurd ⟨i, l, e⟩ c
/-- how many pairs -/
theorem pa_many (n : Nat) : ∃ N, N ≤ n * n ∧ pa n N = none ∧ ∀ i, i < N → ∃ p, pa n i = some p := least_none _ _ pa_none
theorem pa_stay {n i : Nat} (h : pa n i = none) : ∀ k : Nat, pa n (i + k) = none
  | 0 => h
  | k + 1 => by
    show (pa n (i + k)).bind (nx n) = none
    rw [pa_stay h k]
    rfl
end Cmb
namespace Cmb
open PySem PySem.Spec PyProof.Rows
open Sem (wp)
/-- the next two places, as the library finds them -/
def nc (n : Nat) (ks : List Nat) : Option (List Nat) :=
  match (List.range ks.length).reverse.find? (fun j => ks.getD j 0 != j + n - ks.length) with
  | none => none
  | some j => some (ks.take j ++ (List.range (ks.length - j)).map (ks.getD j 0 + 1 + ·))
theorem nc_is {n c d : Nat} (h : c < d) (l : d < n) : nc n [c, d] = (nx n (c, d)).map fun p => [p.1, p.2] := by
  have e : (List.range [c, d].length).reverse = [1, 0] := rfl
  unfold nc nx
  rw [e]
  have g1 : ([c, d].getD 1 0 != 1 + n - [c, d].length) = (d != n - 1) := by
    show (d != 1 + n - 2) = _
    rw [show 1 + n - 2 = n - 1 by omega]
  have g0 : ([c, d].getD 0 0 != 0 + n - [c, d].length) = (c != n - 2) := by
    show (c != 0 + n - 2) = _
    rw [Nat.zero_add]
  dsimp only
  by_cases q : d + 1 < n
  · rw [List.find?_cons_of_pos (by rw [g1]; simp; omega), if_pos q]
    rfl
  · rw [List.find?_cons_of_neg (by rw [g1]; simp; omega), if_neg q]
    by_cases r : c + 2 < n
    · rw [List.find?_cons_of_pos (by rw [g0]; simp; omega), if_pos r]
      rfl
    · rw [List.find?_cons_of_neg (by rw [g0]; simp; omega), if_neg r]
      rfl
/-- the numbers 0 .. n - 1 in a tuple -/
def Pool (h : Heap) (pl : Addr) (f n : Nat) : Prop := ∃ us : Array Value, (∃ m, h.get? pl = some { cls := .type "tuple", data := .seq us m }) ∧ us.size = n ∧ ∀ (j : Nat) v, us[j]? = some v → ∃ t, v = .int ((j + f : Nat) : Int) t
/-- the object's fields ahead of its i-th pair -/
def fds (pl : Addr) (n : Nat) (i : Nat) (old : Value) : Array Value := match i with
  | 0 => #[.ref pl, .int (if 1 < n then 0 else 2) 0, .none, .int 0 0, .int 1 0]
  | i + 1 => #[.ref pl, .int 1 0, old, .int ((pa n i).getD (0, 0)).1 0, .int ((pa n i).getD (0, 0)).2 0]
theorem fds_succ {pl : Addr} {n i : Nat} {old : Value} {a b : Nat} (h : pa n i = some (a, b)) : fds pl n (i + 1) old = #[.ref pl, .int 1 0, old, .int a 0, .int b 0] := by
  show #[.ref pl, .int 1 0, old, .int ((pa n i).getD (0, 0)).1 0, .int ((pa n i).getD (0, 0)).2 0] = _
  rw [h]
  rfl
/-- ahead of its i-th pair -/
structure CAt (h : Heap) (it pl : Addr) (f n i : Nat) : Prop where
  pool : Pool h pl f n
  fld : ∃ old, h.get? it = some { cls := .type "itertools.combinations", dict := none, data := .fields (fds pl n i old), slots := #[] }
  was : ∀ j, i = j + 1 → ∃ p, pa n j = some p
theorem CAt.ne {h : Heap} {it pl : Addr} {f n i : Nat} (c : CAt h it pl f n i) : pl ≠ it := fun e => by
  obtain ⟨us, ⟨m, q⟩, _⟩ := c.pool
  obtain ⟨old, r⟩ := c.fld
  rw [e, r] at q
  have z : Value.type "itertools.combinations" = Value.type "tuple" := congrArg Obj.cls (Option.some.inj q)
  exact absurd (Value.type.inj z) (by decide)
theorem CAt.keep {h h' : Heap} {it pl : Addr} {f n i : Nat} (c : CAt h it pl f n i) (k : ∀ b, b = it ∨ b = pl → ∀ o, h.get? b = some o → h'.get? b = some o) : CAt h' it pl f n i := by
  obtain ⟨us, ⟨m, q⟩, r⟩ := c.pool
  obtain ⟨old, e⟩ := c.fld
  exact ⟨⟨us, ⟨m, k _ (.inr rfl) _ q⟩, r⟩, ⟨old, k _ (.inl rfl) _ e⟩, c.was⟩
section
variable {prog : Program} {w : World} {A : Around} {E : Value → Shared → Prop} {s : Shared} {it pl : Addr} {f n i : Nat}
theorem iter_self {Q : Value → Shared → Prop} (c : CAt s.heap it pl f n i) (h : Q (.ref it) s) : wpAny (model prog w) A (pyIter (.ref it)) Q E s := by
  obtain ⟨old, e⟩ := c.fld
  have hT : s.TypeIs (.ref it) "itertools.combinations" := ⟨_, e, rfl⟩
  refine wpAny_pyIter_slot hT iter_c (wpAny_call_entry iter_c hT eiter_c ?_ (aiter_c _))
  show wpAny _ _ (ret (.ref it)) _ _ s
  exact wpAny_pure ⟨_, rfl, "itertools.combinations", _, hT, next_c.lookup, h⟩
/-- the numbers of two fields -/
theorem nums {Q : List Nat → Shared → Prop} {fs : Array Value} {a b : Nat} (e : s.heap.get? it = some { cls := .type "itertools.combinations", dict := none, data := .fields fs, slots := #[] }) (h3 : fs.toList.drop 3 = [.int a 0, .int b 0])
    (h : Q [a, b] s) : wpAny (model prog w) A (Builtin.Itertools.itNumbersFrom (.ref it) 3) Q E s := by
  show wpAny _ _ (load it >>= _) _ _ s
  refine wpAny_bind (wpAny_load e ?_)
  show wpAny _ _ (pure ((fs.toList.drop 3).map _)) _ _ s
  rw [h3]
  exact wpAny_pure h
/-- a pair is made of the pool, told, kept in the third field -/
theorem hand_out {a b : Nat} {fs : Array Value} {Q : PySem.Fin → Shared → Prop} (e : s.heap.get? it = some { cls := .type "itertools.combinations", dict := none, data := .fields fs, slots := #[] }) (hs : fs.size = 5)
    (P : Pool s.heap pl f n) (ha : a < n) (hb : b < n) (hpi : pl ≠ it)
    (hQ : ∀ (h' : Heap) (t u : Tok), h'.get? s.heap.objs.size = some { cls := .type "tuple", data := .seq #[.int ((a + f : Nat) : Int) t, .int ((b + f : Nat) : Int) u] } → h'.get? it = some { cls := .type "itertools.combinations", dict := none, data := .fields (fs.setIfInBounds 2 (.ref s.heap.objs.size)), slots := #[] } →
      (∀ c o, c ≠ it → s.heap.get? c = some o → h'.get? c = some o) → s.heap.objs.size ≤ h'.objs.size → Q (.done (.ret (.ref s.heap.objs.size))) { s with heap := h' }) :
    wpAny (model prog w) A ((Builtin.Itertools.itPoolItems (.ref pl) >>= fun items => newTuple ([a, b].map fun i => items.getD i .none)) >>= fun result => field (.ref it) 2 >>= fun before => setField (.ref it) 2 result >>= fun _ => letGo [before] [result] >>= fun _ => ret result) Q E s := by
  obtain ⟨us, ⟨m, hpl⟩, hu, hv⟩ := P
  refine wpAny_bind (wpAny_bind ?_)
  show wpAny _ _ (seqItems? (.ref pl) >>= _) _ _ s
  refine wpAny_bind (wpAny_seqItems hpl rfl (wpAny_pure ?_))
  have ga : ∀ j, j < n → ∃ t, us.getD j .none = .int ((j + f : Nat) : Int) t := fun j hj => by
    have l : j < us.size := by omega
    obtain ⟨t, e⟩ := hv j us[j] (Array.getElem?_eq_getElem l)
    refine ⟨t, ?_⟩
    rw [Array.getD_eq_getD_getElem?, Array.getElem?_eq_getElem l]
    exact e
  obtain ⟨t, et⟩ := ga a ha
  obtain ⟨u, eu⟩ := ga b hb
  show wpAny _ _ (newTuple [us.getD a .none, us.getD b .none]) _ _ s
  rw [et, eu]
  refine wpAny_newObj_type ?_ (by size_fits)
  have e1 := Heap.get?_push_of_some { cls := .type "tuple", data := .seq [Value.int ((a + f : Nat) : Int) t, Value.int ((b + f : Nat) : Int) u].toArray } e
  obtain ⟨x, hx⟩ : ∃ x, fs[2]? = some x := ⟨fs[2], Array.getElem?_eq_getElem (by omega)⟩
  refine wpAny_bind (wpAny_field e1 rfl hx ?_)
  refine wpAny_bind (wpAny_setField e1 rfl (by omega) ?_)
  refine wpAny_bind (wpAny_letGo (wpAny_pure ?_))
  have nb : s.heap.objs.size ≠ it := Nat.ne_of_gt (Heap.lt_size e)
  refine hQ _ t u ?_ (Heap.get?_update_self _ e1 rfl) (fun c o hc q => ?_) ?_
  · exact (Heap.get?_update_other _ _ (Ne.symm nb)).trans (Heap.get?_push_size _ rfl)
  · exact (Heap.get?_update_other _ _ (Ne.symm hc)).trans (Heap.get?_push_of_some _ q)
  · rw [Heap.size_after_update]
    exact Nat.le_of_lt (Heap.lt_size (Heap.get?_push_size s.heap (o := { cls := .type "tuple", data := .seq [Value.int ((a + f : Nat) : Int) t, Value.int ((b + f : Nat) : Int) u].toArray }) rfl))
theorem item_next {a b : Nat} {Q : Option Value → Shared → Prop} (c : CAt s.heap it pl f n i) (hp : pa n i = some (a, b))
    (hQ : ∀ (h' : Heap) (t u : Tok), h'.get? s.heap.objs.size = some { cls := .type "tuple", data := .seq #[.int ((a + f : Nat) : Int) t, .int ((b + f : Nat) : Int) u] } → CAt h' it pl f n (i + 1) → (∀ c o, c ≠ it → s.heap.get? c = some o → h'.get? c = some o) → s.heap.objs.size ≤ h'.objs.size → Q (some (.ref s.heap.objs.size)) { s with heap := h' }) :
    wpAny (model prog w) A (callSpecial? (.ref it) "__next__") Q E s := by
  obtain ⟨old, e⟩ := c.fld
  have hT : s.TypeIs (.ref it) "itertools.combinations" := ⟨_, e, rfl⟩
  refine wpAny_callSpecial?_slot (name := Str.ofString "__next__") hT next_c (wpAny_call_entry next_c hT enext_c ?_ (anext_c _))
  have key := c.ne
  have pl' := c.pool
  have lt := pa_lt hp
  have done : ∀ (h' : Heap) (t u : Tok) (fs : Array Value), fs.setIfInBounds 2 (.ref s.heap.objs.size) = fds pl n (i + 1) (.ref s.heap.objs.size) → h'.get? s.heap.objs.size = some { cls := .type "tuple", data := .seq #[.int ((a + f : Nat) : Int) t, .int ((b + f : Nat) : Int) u] } → h'.get? it = some { cls := .type "itertools.combinations", dict := none, data := .fields (fs.setIfInBounds 2 (.ref s.heap.objs.size)), slots := #[] } →
      (∀ c o, c ≠ it → s.heap.get? c = some o → h'.get? c = some o) → s.heap.objs.size ≤ h'.objs.size → Q (some (.ref s.heap.objs.size)) { s with heap := h' } := fun h' t u fs ef h1 h2 h3 h4 => by
    rw [ef] at h2
    obtain ⟨us, ⟨m, q⟩, r⟩ := pl'
    exact hQ h' t u h1 ⟨⟨us, ⟨m, h3 _ _ key q⟩, r⟩, ⟨_, h2⟩, fun j hj => by
      have ej : j = i := by omega
      rw [ej]
      exact ⟨_, hp⟩⟩ h3 h4
  show wpAny _ _ (field (.ref it) 0 >>= _) _ _ s
  have f0 : (fds pl n i old)[0]? = some (.ref pl) := by
    cases i <;> rfl
  refine wpAny_bind (wpAny_field e rfl f0 ?_)
  cases i with
  | zero =>
    have h1n : 1 < n := by
      by_cases q : 1 < n
      · exact q
      · unfold pa at hp
        rw [if_neg q] at hp
        cases hp
    have eab : a = 0 ∧ b = 1 := by
      unfold pa at hp
      rw [if_pos h1n] at hp
      cases hp
      exact ⟨rfl, rfl⟩
    obtain ⟨rfl, rfl⟩ := eab
    refine wpAny_bind (nums (a := 0) (b := 1) e rfl ?_)
    show wpAny _ _ (Builtin.Itertools.itIntField (.ref it) 1 >>= _) _ _ s
    refine wpAny_bind ?_
    show wpAny _ _ (field (.ref it) 1 >>= _) _ _ s
    have e' : s.heap.get? it = some { cls := .type "itertools.combinations", dict := none, data := .fields #[.ref pl, .int 0 0, .none, .int 0 0, .int 1 0], slots := #[] } := by
      rw [e]
      unfold fds
      rw [if_pos h1n]
    refine wpAny_bind (wpAny_field e' rfl (x := .int 0 0) rfl (wpAny_pure ?_))
    refine wpAny_bind (wpAny_setField e' rfl (by simp) ?_)
    have e2 := Heap.get?_update_self (Obj.mapFields fun x => x.setIfInBounds 1 (rawInt 1)) e' rfl
    have pl2 : Pool (s.heap.update it (Obj.mapFields fun x => x.setIfInBounds 1 (rawInt 1))) pl f n := by
      obtain ⟨us, ⟨m, q⟩, r⟩ := pl'
      exact ⟨us, ⟨m, (Heap.get?_update_other _ _ (Ne.symm key)).trans q⟩, r⟩
    have sz : (s.heap.update it (Obj.mapFields fun x => x.setIfInBounds 1 (rawInt 1))).objs.size = s.heap.objs.size := Heap.size_after_update _ _ _
    refine hand_out (s := { s with heap := _ }) (n := n) e2 rfl pl2 (by omega) (by omega) key fun h' t u h1 h2 h3 h4 => ?_
    rw [sz] at h1 h2 h4 ⊢
    refine ⟨_, rfl, done h' t u _ ?_ h1 h2 (fun c o hc q => h3 c o hc ((Heap.get?_update_other _ _ (Ne.symm hc)).trans q)) h4⟩
    rw [fds_succ hp]
    rfl
  | succ i =>
    obtain ⟨⟨c, d⟩, hcd⟩ := c.was i rfl
    have lcd := pa_lt hcd
    have e' : s.heap.get? it = some { cls := .type "itertools.combinations", dict := none, data := .fields #[.ref pl, .int 1 0, old, .int c 0, .int d 0], slots := #[] } := by
      rw [e, fds_succ hcd]
    refine wpAny_bind (nums (a := c) (b := d) e' rfl ?_)
    show wpAny _ _ (Builtin.Itertools.itIntField (.ref it) 1 >>= _) _ _ s
    refine wpAny_bind ?_
    show wpAny _ _ (field (.ref it) 1 >>= _) _ _ s
    refine wpAny_bind (wpAny_field e' rfl (x := .int 1 0) rfl (wpAny_pure ?_))
    obtain ⟨us, ⟨m, hpl⟩, hu, hv⟩ := id pl'
    refine wpAny_bind ?_
    show wpAny _ _ (seqItems? (.ref pl) >>= _) _ _ s
    refine wpAny_bind (wpAny_seqItems hpl rfl (wpAny_pure ?_))
    rw [hu]
    have hn2 : 2 ≤ n := by omega
    have setN : ∀ (x y : Nat) (R : Unit → Shared → Prop), R () { s with heap := s.heap.update it (Obj.mapFields fun fs => fs.extract 0 3 ++ (([x, y] : List Nat).map fun (n : Nat) => rawInt n).toArray) } → wpAny (model prog w) A.in1 (Builtin.Itertools.itSetNumbersFrom (.ref it) 3 [x, y]) R E s := fun x y R r => by
      show wpAny _ _ (updateFields it _) _ _ s
      exact wpAny_updateFields e' rfl r (by show 5 ≤ sizeLine + 3; decide)
    have fin : ∀ (x y : Nat), x < n → y < n → pa n (i + 1) = some (x, y) → x = a → y = b → wpAny (model prog w) A.in1 (Builtin.Itertools.itSetNumbersFrom (.ref it) 3 [x, y] >>= fun _ => ((Builtin.Itertools.itPoolItems (.ref pl) >>= fun items => newTuple ([x, y].map fun i => items.getD i .none)) >>= fun result => field (.ref it) 2 >>= fun before => setField (.ref it) 2 result >>= fun _ => letGo [before] [result] >>= fun _ => ret result)) (fun fin s' => ∃ v, fin = Fin.done (Flow.ret v) ∧ Q (some v) s') E s := fun x y lx ly hxy ex ey => by
      subst ex ey
      refine wpAny_bind (setN x y _ ?_)
      have e2 := Heap.get?_update_self (Obj.mapFields fun fs => fs.extract 0 3 ++ (([x, y] : List Nat).map fun (n : Nat) => rawInt n).toArray) e' rfl
      have pl2 : Pool (s.heap.update it (Obj.mapFields fun fs => fs.extract 0 3 ++ (([x, y] : List Nat).map fun (n : Nat) => rawInt n).toArray)) pl f n := ⟨us, ⟨m, (Heap.get?_update_other _ _ (Ne.symm key)).trans hpl⟩, hu, hv⟩
      have sz : (s.heap.update it (Obj.mapFields fun fs => fs.extract 0 3 ++ (([x, y] : List Nat).map fun (n : Nat) => rawInt n).toArray)).objs.size = s.heap.objs.size := Heap.size_after_update _ _ _
      refine hand_out (s := { s with heap := _ }) (n := n) e2 rfl pl2 lx ly key fun h' t u h1 h2 h3 h4 => ?_
      rw [sz] at h1 h2 h4 ⊢
      refine ⟨_, rfl, done h' t u _ ?_ h1 h2 (fun c o hc q => h3 c o hc ((Heap.get?_update_other _ _ (Ne.symm hc)).trans q)) h4⟩
      rw [fds_succ hxy]
      rfl
    have hp0 := hp
    rw [pa_step hcd] at hp
    split
    · rename_i next heq
      have h2 : nc n [c, d] = some next := heq
      rw [nc_is lcd.1 lcd.2, hp] at h2
      have h3 : [a, b] = next := Option.some.inj h2
      subst h3
      exact fin a b (by omega) (by omega) hp0 rfl rfl
    · rename_i heq
      have h2 : nc n [c, d] = none := heq
      rw [nc_is lcd.1 lcd.2, hp] at h2
      cases h2
/-- no pair is left -/
theorem item_stop {Q : Option Value → Shared → Prop} (hh : A.handled = none) (c : CAt s.heap it pl f n i) (hp : pa n i = none)
    (hQ : ∀ (h' : Heap) (e : Addr), (∃ o, h'.get? e = some o ∧ o.cls = .type "StopIteration") → (∀ c o, c ≠ it → s.heap.get? c = some o → h'.get? c = some o) → E (.ref e) { s with heap := h' }) :
    wpAny (model prog w) A (callSpecial? (.ref it) "__next__") Q E s := by
  obtain ⟨old, e⟩ := c.fld
  have hT : s.TypeIs (.ref it) "itertools.combinations" := ⟨_, e, rfl⟩
  refine wpAny_callSpecial?_slot (name := Str.ofString "__next__") hT next_c (wpAny_call_entry next_c hT enext_c ?_ (anext_c _))
  have key := c.ne
  have pl' := c.pool
  have stop : ∀ {P : PySem.Fin → Shared → Prop} (h' : Heap), (∀ c o, c ≠ it → s.heap.get? c = some o → h'.get? c = some o) → wpAny (model prog w) A.in1 (Builtin.Itertools.itStop : Sem PySem.Fin) P E { s with heap := h' } := fun {P} h' k => by
    show wpAny _ _ (newExc (.type "StopIteration") [] >>= _) _ _ _
    refine wpAny_bind ?_
    simp only [newExc, newTuple]
    refine wpAny_bind (wpAny_newObj_type ?_ (by size_fits))
    refine wpAny_bind (m := firstArgMember _ _) (wpAny_of_eq (a := Value.none) (by first | rfl | (simp only [firstArgMember]; rfl)) ?_)
    refine wpAny_newObj_type ?_ (by size_fits)
    simp only [raiseNew]
    refine wpAny_bind (wpAny_handled ?_)
    first | rw [show A.in1.handled = none from hh] | rw [hh]
    refine wpAny_bind (wpAny_pure (wpAny_throw ?_))
    exact hQ _ _ ⟨_, Heap.get?_push_size _ rfl, rfl⟩ fun b o hb q => Heap.get?_push_of_some _ (Heap.get?_push_of_some _ (k b o hb q))
  show wpAny _ _ (field (.ref it) 0 >>= _) _ _ s
  have f0 : (fds pl n i old)[0]? = some (.ref pl) := by
    cases i <;> rfl
  refine wpAny_bind (wpAny_field e rfl f0 ?_)
  cases i with
  | zero =>
    have h1n : ¬ 1 < n := fun q => by
      unfold pa at hp
      rw [if_pos q] at hp
      cases hp
    refine wpAny_bind (nums (a := 0) (b := 1) e rfl ?_)
    show wpAny _ _ (Builtin.Itertools.itIntField (.ref it) 1 >>= _) _ _ s
    refine wpAny_bind ?_
    show wpAny _ _ (field (.ref it) 1 >>= _) _ _ s
    have e' : s.heap.get? it = some { cls := .type "itertools.combinations", dict := none, data := .fields #[.ref pl, .int 2 0, .none, .int 0 0, .int 1 0], slots := #[] } := by
      rw [e]
      unfold fds
      rw [if_neg h1n]
    refine wpAny_bind (wpAny_field e' rfl (x := .int 2 0) rfl (wpAny_pure ?_))
    refine wpAny_bind (wpAny_rule ?_)
    exact stop s.heap fun _ _ _ q => q
  | succ i =>
    obtain ⟨⟨c, d⟩, hcd⟩ := c.was i rfl
    have lcd := pa_lt hcd
    have e' : s.heap.get? it = some { cls := .type "itertools.combinations", dict := none, data := .fields #[.ref pl, .int 1 0, old, .int c 0, .int d 0], slots := #[] } := by
      rw [e, fds_succ hcd]
    refine wpAny_bind (nums (a := c) (b := d) e' rfl ?_)
    show wpAny _ _ (Builtin.Itertools.itIntField (.ref it) 1 >>= _) _ _ s
    refine wpAny_bind ?_
    show wpAny _ _ (field (.ref it) 1 >>= _) _ _ s
    refine wpAny_bind (wpAny_field e' rfl (x := .int 1 0) rfl (wpAny_pure ?_))
    obtain ⟨us, ⟨m, hpl⟩, hu, hv⟩ := id pl'
    refine wpAny_bind ?_
    show wpAny _ _ (seqItems? (.ref pl) >>= _) _ _ s
    refine wpAny_bind (wpAny_seqItems hpl rfl (wpAny_pure ?_))
    rw [hu]
    rw [pa_step hcd] at hp
    split
    · rename_i next heq
      have h2 : nc n [c, d] = some next := heq
      rw [nc_is lcd.1 lcd.2, hp] at h2
      cases h2
    · refine wpAny_bind (wpAny_setField e' rfl (by simp) ?_)
      exact stop _ fun b o hb q => (Heap.get?_update_other _ _ (Ne.symm hb)).trans q
/-- the next of a for, of a comprehension -/
theorem next_item {a b : Nat} {Q : Option Value → Shared → Prop} (c : CAt s.heap it pl f n i) (hp : pa n i = some (a, b))
    (hQ : ∀ (h' : Heap) (t u : Tok), h'.get? s.heap.objs.size = some { cls := .type "tuple", data := .seq #[.int ((a + f : Nat) : Int) t, .int ((b + f : Nat) : Int) u] } → CAt h' it pl f n (i + 1) → (∀ c o, c ≠ it → s.heap.get? c = some o → h'.get? c = some o) → s.heap.objs.size ≤ h'.objs.size → Q (some (.ref s.heap.objs.size)) { s with heap := h' }) :
    wpAny (model prog w) A (pyNext (.ref it)) Q E s := by
  unfold pyNext
  exact wpAny_bind (wpAny_attempt (item_next c hp fun h' t u h1 h2 h3 h4 => wpAny_pure (hQ h' t u h1 h2 h3 h4)))
theorem next_stop {Q : Option Value → Shared → Prop} (hh : A.handled = none) (c : CAt s.heap it pl f n i) (hp : pa n i = none)
    (hQ : ∀ h' : Heap, (∀ c o, c ≠ it → s.heap.get? c = some o → h'.get? c = some o) → Q none { s with heap := h' }) : wpAny (model prog w) A (pyNext (.ref it)) Q E s := by
  unfold pyNext
  refine wpAny_bind (wpAny_attempt (item_stop hh c hp fun h' e he k => ?_))
  obtain ⟨o, ho, hc⟩ := he
  refine wpAny_bind (wpAny_isInstance (T := "StopIteration") (b := true) ⟨o, ho, hc⟩ (by rw [isSubtype_type]; kernel_rfl) ?_)
  exact wpAny_pure (hQ h' k)
end
end Cmb
namespace Cmb
open PySem PySem.Spec PyProof.Rows L2
open Sem (wp)
section
variable {prog : Program} {w : World} {A : Around} {E : Value → Shared → Prop} {s : Shared} {r : Addr} {f n : Nat} {t u v k : Tok}
theorem bind_c (a b : Value) : Builtin.Itertools.itBindNamed "combinations" ["iterable", "r"] 2 2 [a, b] [] = pure [some a, some b] := by rfl
theorem ssize_c (k : Tok) : Builtin.Itertools.itSsizeArg (.int 2 k) = pure 2 := by rfl
theorem code_new {Q₁ : Value → Shared → Prop} (hh : A.handled = none) (hr : IsRange s.heap r (f : Int) ((f + n : Nat) : Int) 1 t u v) (hf : f ≤ 1000) (hn : n ≤ 1000)
    (h : ∀ (h1 h' : Heap) (tk : Nat) (it pl : Addr), (∀ b o, s.heap.get? b = some o → h1.get? b = some o) → h1.objs.size ≤ it → h1.objs.size ≤ pl → CAt h' it pl f n 0 → (∀ b o, h1.get? b = some o → h'.get? b = some o) → Q₁ (.ref it) { s with heap := h', toks := tk }) :
    codeAny (model prog w) A (.call (.builtin "itertools.combinations.__new__") ⟨[.type "itertools.combinations", .ref r, .int 2 k], []⟩) (wants Q₁ E) s := by
  refine codeAny_of_tree ?_
  show wpAny _ A.in1 (checkBuiltinCall "itertools.combinations.__new__" ⟨[.type "itertools.combinations", .ref r, .int 2 k], []⟩ >>= fun _ => again (.builtin "itertools.combinations.__new__" ⟨[.type "itertools.combinations", .ref r, .int 2 k], []⟩)) _ _ s
  refine wpAny_bind (wpAny_of_eq (ncall_c _ _) (wpAny_pure ⟨plainId_quiet plain_c _, codeAny_builtin entry_c ?_⟩))
  rw [Around.under_plainId plain_c _]
  have hh1 : A.in1.handled = none := hh
  refine wpAny_bind ?_
  refine wpAny_bind (m := Builtin.Itertools.itClassAndRest "combinations" ⟨[.type "itertools.combinations", .ref r, .int 2 k], []⟩) ?_
  show wpAny _ _ (isType (.type "itertools.combinations") >>= _) _ _ s
  refine wpAny_bind (wpAny_of_eq (a := true) rfl ?_)
  refine wpAny_ite_false (by decide) ?_
  rw [show ("itertools." ++ "combinations") = "itertools.combinations" by decide]
  refine wpAny_bind (wpAny_of_eq sub_c ?_)
  refine wpAny_ite_false (by decide) (wpAny_pure ?_)
  refine wpAny_bind (m := Builtin.Itertools.itBindNamed "combinations" ["iterable", "r"] 2 2 [.ref r, .int 2 k] []) (wpAny_of_eq (bind_c _ _) ?_)
  show wpAny _ _ (Builtin.Itertools.itSsizeArg (.int 2 k) >>= _) _ _ s
  refine wpAny_bind (wpAny_of_eq (ssize_c k) ?_)
  refine wpAny_bind (collect_range (A := A.in1) (n := n) hh1 hr (small_one (by omega) (by omega) (by omega) (by omega)) (by rw [rangeSize_nat]; omega) (by omega) fun h' tk acc hk hacc => ?_)
  refine wpAny_ite_false (by decide) (wpAny_ite_false (by decide) ?_)
  have sz : acc.toList.length = n := by
    rw [Array.length_toList]
    exact hacc.1
  show wpAny _ _ (newTuple acc.toList >>= _) _ _ _
  refine wpAny_bind ?_
  refine wpAny_newObj_type (wpAny_pure ?_) (by show acc.toList.toArray.size ≤ sizeLine; rw [List.size_toArray, sz, sizeLine_eq]; omega)
  rw [sz]
  show wpAny _ _ (Builtin.Itertools.itNewRecord (.type "itertools.combinations") [.ref h'.objs.size, rawInt (if 2 > n then 2 else 0), .none, rawInt 0, rawInt 1] >>= _) _ _ _
  refine wpAny_bind ?_
  unfold Builtin.Itertools.itNewRecord
  rw [dict_c]
  refine wpAny_ite_true (by decide) ?_
  have e0 : (h'.push { cls := .type "tuple", data := .seq acc.toList.toArray }).get? h'.objs.size = some { cls := .type "tuple", data := .seq acc.toList.toArray } := Heap.get?_push_size _ rfl
  refine wpAny_newObj_type (wpAny_pure ?_) (by size_fits)
  refine h h' _ tk _ h'.objs.size hk (Nat.le_of_lt (Heap.lt_size e0)) (Nat.le_refl _) ⟨⟨acc.toList.toArray, ⟨_, Heap.get?_push_of_some _ e0⟩, ?_, ?_⟩, ⟨.none, ?_⟩, fun j hj => absurd hj (by omega)⟩ fun b o q => Heap.get?_push_of_some _ (Heap.get?_push_of_some _ q)
  · rw [List.size_toArray]
    exact sz
  · intro j v hj
    rw [Array.toArray_toList] at hj
    obtain ⟨t, rfl⟩ := hacc.2 j v hj
    exact ⟨t, by rw [Int.mul_one, Int.natCast_add, Int.add_comm]⟩
  · rw [Heap.get?_push_size _ rfl]
    unfold fds
    by_cases c : 1 < n
    · rw [if_pos c, if_neg (show ¬ 2 > n by omega)]
      rfl
    · rw [if_neg c, if_pos (show 2 > n by omega)]
      rfl
/-- combinations(range(n), 2) -/
theorem call_c {Q : Value → Shared → Prop} (hh : A.handled = none) (hr : IsRange s.heap r (f : Int) ((f + n : Nat) : Int) 1 t u v) (hf : f ≤ 1000) (hn : n ≤ 1000)
    (h : ∀ (h1 h' : Heap) (tk : Nat) (it pl : Addr), (∀ b o, s.heap.get? b = some o → h1.get? b = some o) → h1.objs.size ≤ it → h1.objs.size ≤ pl → CAt h' it pl f n 0 → (∀ b o, h1.get? b = some o → h'.get? b = some o) → Q (.ref it) { s with heap := h', toks := tk }) :
    wpAny (model prog w) A (call (.type "itertools.combinations") [.ref r, .int 2 k]) Q E s := by
  refine callType_codes (Q₁ := fun obj s₁ => s₁.TypeIs obj "itertools.combinations" ∧ Q obj s₁) called_c (tcall_c _ _) F.entry_object_init
    (code_new (A := A.in1) hh hr hf hn fun h1 h' tk it pl k1 l1 l2 c k2 => ⟨?_, h h1 h' tk it pl k1 l1 l2 c k2⟩) fun obj s₁ h₁ => ?_
  · obtain ⟨old, e⟩ := c.fld
    exact ⟨_, e, rfl⟩
  · exact ⟨h₁.1, F.args_object_init_3 obj _ _, object_init_meets init_c.lookup called_c.made (by decide) prog w A.in1 _ s₁ ⟨h₁.1, rfl, h₁.2⟩⟩
end
/-! ### walked by a for, by a comprehension -/
def Itcb (f n : Nat) : It := ⟨fun i _ => ∃ p, pa n i = some p, fun i H v H' => ∃ (T : Addr) (a b : Nat), v = .ref T ∧ H T = none ∧ H' = upd H T (.tup [.int ((a + f : Nat) : Int), .int ((b + f : Nat) : Int)]) ∧ pa n i = some (a, b), fun i _ => pa n i = none⟩
theorem walk_c {f n N : Nat} (h0 : pa n N = none) (h1 : ∀ i, i < N → ∃ p, pa n i = some p) : Walk (Itcb f n) N (fun _ => True) (fun i H v H' => ∃ (T : Addr) (a b : Nat), v = .ref T ∧ H T = none ∧ H' = upd H T (.tup [.int ((a + f : Nat) : Int), .int ((b + f : Nat) : Int)]) ∧ pa n i = some (a, b)) :=
  ⟨fun i _ hi _ => h1 i hi, fun _ _ => h0, fun _ _ _ _ _ _ y => y⟩
theorem turn_c {P : Program} {w : World} {K : PySem.W.Frag} {tg : Expr} {it pl : Addr} {f n : Nat} : Turn P w K tg (Itcb f n) [it, pl] it (fun i h => CAt h it pl f n i) where
  mem := by simp
  obj := fun i h c b hb => by
    have e : b = it ∨ b = pl := by simpa using hb
    obtain ⟨us, ⟨m, q⟩, _⟩ := c.pool
    obtain ⟨old, r⟩ := c.fld
    rcases e with e | e
    · rw [e]
      exact ⟨_, r, fun v z => nomatch z⟩
    · rw [e]
      exact ⟨_, q, fun v z => nomatch z⟩
  keep := fun i h h' c k => c.keep fun b hb o e => k b (by simpa using hb) o e
  item := by
    intro X hP hw hK hc i pins s σ H E I hf c hg
    subst hP hw hK
    obtain ⟨⟨a, b⟩, hp⟩ := hg
    have lit : it < s.heap.objs.size := by
      obtain ⟨old, e⟩ := c.fld
      exact Heap.lt_size e
    have lpl : pl < s.heap.objs.size := by
      obtain ⟨us, ⟨m, q⟩, _⟩ := c.pool
      exact Heap.lt_size q
    refine next_item c hp fun h' t u h1 c1 k _ => ⟨_, rfl, ?_⟩
    obtain ⟨old, e1⟩ := c1.fld
    refine go_of (s := { s with heap := h' }) (n := "itertools.combinations") e1 rfl rfl (by decide) ?_
    have nw : ObjOk X.prog X.w (upd H s.heap.objs.size (.tup [.int ((a + f : Nat) : Int), .int ((b + f : Nat) : Int)])) h' s.heap.objs.size (.tup [.int ((a + f : Nat) : Int), .int ((b + f : Nat) : Int)]) := ⟨by show 2 ≤ sizeLine; decide, [.int ((a + f : Nat) : Int) t, .int ((b + f : Nat) : Int) u], .cons ⟨t, rfl⟩ (.cons ⟨u, rfl⟩ .nil), ⟨_, h1, rfl, _, rfl⟩⟩
    refine ⟨.ref s.heap.objs.size, _, I.turnedNew (t' := s.toks) (ch := [it]) (fun b o hb q => k b o (by simpa using hb) q) (fun b hb => hf b (by rw [List.mem_singleton.mp hb]; exact List.mem_cons_self)) (Nat.le_refl _) nw, rfl, ⟨_, a, b, rfl, I.hok.fresh (Nat.le_refl _), rfl, hp⟩, c1, fun d hd => ?_⟩
    have e : d = it ∨ d = pl := by simpa using hd
    have ld : d < s.heap.objs.size := by
      rcases e with e | e
      · rw [e]; exact lit
      · rw [e]; exact lpl
    rw [upd_ne (Nat.ne_of_lt ld)]
    exact (hf d hd).1
  done := by
    intro X hP hw hK hc i pins s σ H E I hf c hg
    subst hP hw hK
    exact next_stop (I.ok.hd hc) c hg fun h' k => ⟨rfl, I.turnedL (t' := s.toks) (ch := [it]) (fun b o hb q => k b o (by simpa using hb) q) fun b hb => hf b (by rw [List.mem_singleton.mp hb]; exact List.mem_cons_self)⟩
  self := fun A i s Q E c h => iter_self c h
def iCmb (te : L2.St → Hp → (Int → Int → Hp → Prop) → Prop) : TI := fun σ H R => te σ H fun a b H1 => ∃ f n : Nat, a = (f : Int) ∧ b = ((f + n : Nat) : Int) ∧ f ≤ 1000 ∧ n ≤ 1000 ∧ R (Itcb f n) H1
/-- what stands for a type under the module's name -/
theorem ld_ty {X : Cx} {pins : List (Addr × Obj)} {s : Shared} {σ : L2.St} {H : Hp} {E : Value → Shared → Prop} {y : Str} {n : String} {q : Pos} {Q : Value → Shared → Prop} (I : Inv X pins σ H s) (hg : Gl X y) (hm : X.mg y = some (.type n)) (h : Q (.type n) s) (hd : (y == ("__debug__" : Str)) = false := by decide) :
    wpAny (model X.prog X.w) X.A (eval (.Name y q) X.env) Q E s := ld_glob I hg hm h hd
/-- the iterator is made -/
theorem made_c {X : Cx} {e : Expr} {te : L2.St → Hp → (Int → Int → Hp → Prop) → Prop} {p pos kp : Pos} {kk : Nat} (hg : Gl X "combinations") (hm : X.mg "combinations" = some (.type "itertools.combinations")) (hc : X.calm = true) (he : PRg X e te)
    (na : starEach [e, .Constant (.int 2) kk kp] X.env = (false, eval e X.env) :: starEach [.Constant (.int 2) kk kp] X.env) (nb : starEach [.Constant (.int 2) kk kp] X.env = (false, eval (.Constant (.int 2) kk kp) X.env) :: starEach [] X.env)
    (hp : (backTo pos (starEach [.Constant (.int 2) kk kp] X.env)).any (·.1) = false)
    (pins : List (Addr × Obj)) (s : Shared) (σ : L2.St) (H : Hp) (Q : Nat → Nat → Hp → Prop) (I : Inv X pins σ H s) (h : te σ H fun a b H1 => ∃ f n : Nat, a = (f : Int) ∧ b = ((f + n : Nat) : Int) ∧ f ≤ 1000 ∧ n ≤ 1000 ∧ Q f n H1) :
    wpAny (model X.prog X.w) X.A (eval (.Call (.Name "combinations" p) [e, .Constant (.int 2) kk kp] [] pos) X.env) (fun v s' => ∃ (it pl : Addr) (f n : Nat) (H' : Hp), v = .ref it ∧ CAt s'.heap it pl f n 0 ∧ Inv X pins σ H' s' ∧ (∀ b ∈ [it, pl], FpOk X pins H' b) ∧ n ≤ 1000 ∧ Q f n H') X.xe s := by
  refine Call_ (ld_ty I hg hm (PyProof.Rows.callWith_type1 (args_cons (thn (he pins s σ H _ I h) fun x s1 hx => ?_) na) na hp))
  obtain ⟨r, a, b, t, u, v, H1, rfl, hr, I1, f, n, rfl, rfl, hfb, hn, q⟩ := hx
  refine args_cons (wpAny_Constant_int (args_nil ?_)) nb
  have I2 : Inv X pins σ H1 { s1 with toks := s1.toks + 1 } := I1.tok _
  refine call_c (s := { s1 with toks := s1.toks + 1 }) (I2.ok.hd hc) hr hfb hn fun h1 h' tk it pl k1 l1 l2 c k2 => ?_
  have I3 : Inv X pins σ H1 { s1 with heap := h1, toks := tk } := I2.kept k1
  have I4 : Inv X pins σ H1 { s1 with heap := h', toks := tk } := I3.kept k2
  have I5 : ∀ b, h1.objs.size ≤ b → FpOk X pins H1 b := fun b hb => I3.fpOk hb (I3.hok.fresh hb)
  refine ⟨it, pl, f, n, H1, rfl, c, I4, fun b hb => ?_, hn, q⟩
  have e : b = it ∨ b = pl := by simpa using hb
  rcases e with e | e
  · rw [e]
    exact I5 _ l1
  · rw [e]
    exact I5 _ l2
/-- for a, b in combinations(range(n), 2) -/
theorem pi_comb {X : Cx} {tg e : Expr} {te : L2.St → Hp → (Int → Int → Hp → Prop) → Prop} {p pos kp : Pos} {kk : Nat} (hc : X.calm = true) (hg : Gl X "combinations") (hm : X.mg "combinations" = some (.type "itertools.combinations")) (he : PRg X e te)
    (na : starEach [e, .Constant (.int 2) kk kp] X.env = (false, eval e X.env) :: starEach [.Constant (.int 2) kk kp] X.env := by rfl) (nb : starEach [.Constant (.int 2) kk kp] X.env = (false, eval (.Constant (.int 2) kk kp) X.env) :: starEach [] X.env := by rfl)
    (hp : (backTo pos (starEach [.Constant (.int 2) kk kp] X.env)).any (·.1) = false := by rfl) : PI X tg (.Call (.Name "combinations" p) [e, .Constant (.int 2) kk kp] [] pos) (iCmb te) := by
  refine ⟨fun pins s σ H R I h => ?_⟩
  refine thn (made_c hg hm hc he na nb hp pins s σ H (fun f n H1 => R (Itcb f n) H1) I h) ?_
  rintro v s1 ⟨it, pl, f, n, H1, rfl, c, I1, hf, _, q⟩
  refine iter_self c ?_
  exact ⟨it, [it, pl], _, _, H1, rfl, I1, turn_c, c, hf, q⟩
/-! ### list(combinations(range(n), 2)) -/
section
variable {prog : Program} {w : World} {A : Around} {E : Value → Shared → Prop} {s : Shared} {it pl S : Addr} {n N : Nat}
/-- the pairs so far, all made since h0 -/
def Tups (h0 h : Heap) (S it : Addr) (n : Nat) (acc : Array Value) (i : Nat) : Prop := acc.size = i ∧ ∀ j a b, j < i → pa n j = some (a, b) → ∃ T t u, acc[j]? = some (.ref T) ∧ h0.objs.size ≤ T ∧ T ≠ S ∧ T ≠ it ∧ h.get? T = some { cls := .type "tuple", data := .seq #[.int (a : Int) t, .int (b : Int) u] }
theorem Tups.keep {h0 h h' : Heap} {acc : Array Value} {i : Nat} (x : Tups h0 h S it n acc i) (k : ∀ b o, b ≠ S → b ≠ it → h.get? b = some o → h'.get? b = some o) : Tups h0 h' S it n acc i :=
  ⟨x.1, fun j a b hj hp => by
    obtain ⟨T, t, u, e1, e2, e3, e4, e5⟩ := x.2 j a b hj hp
    exact ⟨T, t, u, e1, e2, e3, e4, k _ _ e3 e4 e5⟩⟩
theorem drain_c {R : Result → Shared → Prop} (hh : A.handled = none) (hSi : S ≠ it) (hSp : S ≠ pl) (res : Value) (h0 : pa n N = none) (h1 : ∀ i, i < N → ∃ p, pa n i = some p) (hN : N ≤ 1000000) (g0 : Heap)
    (hR : ∀ (h' : Heap) (tk : Nat) (acc : Array Value) (c : Nat), h'.get? S = some { cls := .type "list", dict := none, data := .seq acc c, slots := #[] } → Tups g0 h' S it n acc N → (∀ b o, b ≠ S → b ≠ it → g0.get? b = some o → h'.get? b = some o) → R (.ok (.ret res)) { s with heap := h', toks := tk }) :
    ∀ (k i : Nat) (h : Heap) (tk : Nat) (acc : Array Value) (c : Nat), N - i = k → i ≤ N → CAt h it pl 0 n i → h.get? S = some { cls := .type "list", dict := none, data := .seq acc c, slots := #[] } → Tups g0 h S it n acc i → g0.objs.size ≤ h.objs.size →
      (∀ b o, b ≠ S → b ≠ it → g0.get? b = some o → h.get? b = some o) → codeAny (model prog w) A (.builtin "list.extend.loop" ⟨[.ref S, .ref it, res], []⟩) R { s with heap := h, toks := tk } := by
  intro k
  induction k with
  | zero =>
    intro i h tk acc c hk hi hc hS ht hz ho
    have e : i = N := by omega
    subst e
    refine codeAny_builtin F.entry_extend_loop ?_
    rw [Around.under_plainId F.plain_extend_loop _]
    show wpAny _ A.in1 (pyNext (.ref it) >>= _) _ _ _
    refine wpAny_bind (next_stop (s := { s with heap := h, toks := tk }) hh hc h0 fun h' kk => ?_)
    exact wpAny_pure (hR h' tk acc c (kk _ _ hSi hS) (ht.keep fun b o _ b2 q => kk b o b2 q) fun b o b1 b2 q => kk b o b2 (ho b o b1 b2 q))
  | succ k ih =>
    intro i h tk acc c hk hi hc hS ht hz ho
    have hlt : i < N := by omega
    obtain ⟨⟨a, b⟩, hp⟩ := h1 i hlt
    refine codeAny_builtin F.entry_extend_loop ?_
    rw [Around.under_plainId F.plain_extend_loop _]
    show wpAny _ A.in1 (pyNext (.ref it) >>= _) _ _ _
    refine wpAny_bind (next_item (s := { s with heap := h, toks := tk }) hc hp fun h' t u hT hc' kk hz' => ?_)
    have hS' := kk _ _ hSi hS
    have nS : h.objs.size ≠ S := Nat.ne_of_gt (Heap.lt_size hS)
    have nI : h.objs.size ≠ it := by
      obtain ⟨old, e⟩ := hc.fld
      exact Nat.ne_of_gt (Heap.lt_size e)
    show wpAny _ A.in1 (updateSeq S (·.push (.ref h.objs.size)) >>= _) _ _ _
    refine wpAny_bind ?_
    have asz := ht.1
    refine wpAny_updateSeq hS' rfl (wpAny_pure ⟨plainId_quiet F.plain_extend_loop _, ?_⟩) (by rw [asz, sizeLine_eq]; omega) (by show (acc.push _).size ≤ sizeLine + 1; rw [Array.size_push, asz, sizeLine_eq]; omega)
    have k2 : ∀ b o, b ≠ S → h'.get? b = some o → (h'.update S (Obj.mapSeq (·.push (.ref h.objs.size)))).get? b = some o := fun b o hb q => (Heap.get?_update_other _ _ (Ne.symm hb)).trans q
    refine ih (i + 1) _ tk (acc.push (.ref h.objs.size)) _ (by omega) hlt (hc'.keep fun b hb o q => k2 b o ?_ q) (Heap.get?_update_self _ hS' rfl) ⟨by rw [Array.size_push, asz], fun j a' b' hj hp' => ?_⟩ (by rw [Heap.size_after_update]; exact Nat.le_trans hz hz') fun b o b1 b2 q => k2 b o b1 (kk b o b2 (ho b o b1 b2 q))
    · rcases hb with e | e
      · rw [e]; exact Ne.symm hSi
      · rw [e]; exact Ne.symm hSp
    · by_cases q : j < i
      · obtain ⟨T, t', u', e1, e2, e3, e4, e5⟩ := ht.2 j a' b' q hp'
        refine ⟨T, t', u', ?_, e2, e3, e4, k2 _ _ e3 (kk _ _ e4 e5)⟩
        rw [Array.getElem?_push_lt (by omega)]
        rw [Array.getElem?_eq_getElem (by omega)] at e1
        exact e1
      · have e : j = i := by omega
        subst e
        rw [hp] at hp'
        cases hp'
        refine ⟨h.objs.size, t, u, ?_, hz, nS, nI, k2 _ _ nS hT⟩
        rw [← asz, Array.getElem?_push_size]
end
end Cmb
namespace Cmb
open PySem PySem.Spec PyProof.Rows L2
open Sem (wp)
section
variable {X : Cx} {pins : List (Addr × Obj)} {σ : L2.St} {H H' : Hp} {s : Shared} {h' : Heap}
/-- several records of ours have turned, several new objects are laid -/
theorem turnedMany {t' : Nat} {ch : List Addr} (I : Inv X pins σ H s) (k : ∀ b o, b ∉ ch → s.heap.get? b = some o → h'.get? b = some o) (hf : ∀ b ∈ ch, FpOk X pins H b) (sm : Same H H') (od : ∀ b, b < s.heap.objs.size → H' b = H b)
    (new : ∀ b u, H b = none → H' b = some u → ObjOk X.prog X.w H' h' b u) : Inv X pins σ H' { s with heap := h', toks := t' } := by
  have nit : ∀ b u, H b = some u → b ∉ ch := fun b u e z => by
    rw [(hf b z).1] at e
    cases e
  refine I.step (g' := s.gens) (d' := s.drawn) (ch := ch) (fun b hb => ⟨(hf b hb).2.2.2.1, (hf b hb).2.1, (hf b hb).2.2.2.2.1, (hf b hb).2.2.2.2.2⟩) (fun b o _ _ hc e _ => k b o hc e) (fun b o _ _ hc e _ => ⟨o.slots, k b o hc e⟩)
    (fun b o _ e n => by rw [od b (Heap.lt_size e)]; exact n) (fun b o hc e => ⟨o, k b o hc e⟩) (fun b xs e => sm _ _ e) (fun b o u e => sm _ _ e) (fun b ps e => ⟨#[], by rw [sm _ _ e, Array.append_empty]⟩) (fun m hm => ?_) (fun b u e => ?_) I.bare
  · obtain ⟨o, es, ep, ho, r⟩ := hm
    exact ⟨o, es, ep, k _ o (fun z => (hf _ z).2.1 rfl) ho, r⟩
  · cases q : H b with
    | none => exact new b u q e
    | some w =>
      rw [sm _ _ q] at e
      have ew := Option.some.inj e
      subst ew
      refine (I.hok b w q).stay (fun c v hc z => k c v ?_ z) (fun c z => sm _ _ z) fun c xs z => sm _ _ z
      rcases hc with z | z
      · rw [z]; exact nit b w q
      · exact nit c _ z
end
section
variable {prog : Program} {w : World} {A : Around} {E : Value → Shared → Prop} {s : Shared} {it pl : Addr} {n N : Nat}
/-- list(combinations(..)) -/
theorem list_c {Q : Value → Shared → Prop} (hh : A.handled = none) (c : CAt s.heap it pl 0 n 0) (h0 : pa n N = none) (h1 : ∀ i, i < N → ∃ p, pa n i = some p) (hN : N ≤ 1000000)
    (hQ : ∀ (h' : Heap) (tk : Nat) (acc : Array Value) (c : Nat), h'.get? s.heap.objs.size = some { cls := .type "list", dict := none, data := .seq acc c, slots := #[] } → Tups s.heap h' s.heap.objs.size it n acc N → (∀ b o, b ≠ it → s.heap.get? b = some o → h'.get? b = some o) → Q (.ref s.heap.objs.size) { s with heap := h', toks := tk }) :
    wpAny (model prog w) A (call (.type "list") [.ref it]) Q E s := by
  have lit : it < s.heap.objs.size := by
    obtain ⟨old, e⟩ := c.fld
    exact Heap.lt_size e
  have lpl : pl < s.heap.objs.size := by
    obtain ⟨us, ⟨m, q⟩, _⟩ := c.pool
    exact Heap.lt_size q
  have nI : s.heap.objs.size ≠ it := Nat.ne_of_gt lit
  have nP : s.heap.objs.size ≠ pl := Nat.ne_of_gt lpl
  refine callType_codes (Q₁ := fun obj s₁ => obj = .ref s.heap.objs.size ∧ s₁ = { s with heap := s.heap.push { cls := .type "list", data := .seq #[] } }) F.called_list (F.typeCall_list_1 _) F.entry_list_init
    (code_list_new _ ⟨rfl, rfl⟩) fun obj s₁ h₁ => ?_
  obtain ⟨rfl, rfl⟩ := h₁
  have hS : (s.heap.push { cls := .type "list", data := .seq #[] }).get? s.heap.objs.size = some { cls := .type "list", data := .seq #[] } := Heap.get?_push_size _ rfl
  refine ⟨⟨_, hS, rfl⟩, F.args_list_init_2 _ _, ?_⟩
  show wpAny _ A.in1.in1 (Builtin.List.listItems (.ref s.heap.objs.size) >>= fun old => Builtin.List.listUpdate (.ref s.heap.objs.size) (fun _ => #[]) >>= fun _ => letGo old.toList.reverse >>= fun _ => Builtin.List.listExtendWith (.ref s.heap.objs.size) (.ref it) .none) _ _ _
  refine wpAny_bind ?_
  unfold Builtin.List.listItems
  refine wpAny_bind (wpAny_seqItems hS rfl (wpAny_pure ?_))
  show wpAny _ _ (updateSeq s.heap.objs.size (fun _ => #[]) >>= _) _ _ _
  refine wpAny_bind (wpAny_updateSeq hS rfl ?_)
  have hS2 := Heap.get?_update_self (Obj.mapSeq (fun _ => (#[] : Array Value))) hS rfl
  refine wpAny_bind (wpAny_letGo ?_)
  have k1 : ∀ b o, s.heap.get? b = some o → (s.heap.push { cls := .type "list", data := .seq #[] }).get? b = some o := fun b o e => Heap.get?_push_of_some _ e
  have up : ∀ (h : Heap) (f : Obj → Obj), (∀ b o, s.heap.get? b = some o → h.get? b = some o) → ∀ b o, s.heap.get? b = some o → (h.update s.heap.objs.size f).get? b = some o := fun h f q b o e =>
    (Heap.get?_update_other _ _ (Ne.symm (Nat.ne_of_lt (Heap.lt_size e)))).trans (q b o e)
  have k2 := up _ (Obj.mapSeq (fun _ => (#[] : Array Value))) k1
  have at_ : ∀ h : Heap, (∀ b o, s.heap.get? b = some o → h.get? b = some o) → CAt h it pl 0 n 0 := fun h k => c.keep fun b _ o e => k b o e
  have ty : ∀ h : Heap, (∀ b o, s.heap.get? b = some o → h.get? b = some o) → ({ s with heap := h } : Shared).TypeIs (.ref it) "itertools.combinations" := fun h k => by
    obtain ⟨old, e⟩ := (at_ h k).fld
    exact ⟨_, e, rfl⟩
  unfold Builtin.List.listExtendWith
  refine wpAny_bind (wpAny_typeOf (ty _ k2) ?_)
  have g1 : Builtin.List.listSameRef (.ref s.heap.objs.size) (.ref it) = false := by simp [Builtin.List.listSameRef, nI]
  have g2 : (Value.type "itertools.combinations" == Value.type "list") = false := by decide
  have g3 : (Value.type "itertools.combinations" == Value.type "tuple") = false := by decide
  simp only [g1, g2, g3, Bool.or_false, Bool.false_eq_true, if_false]
  refine wpAny_bind (iter_self (s := { s with heap := _ }) (at_ _ k2) ?_)
  refine wpAny_bind (wpAny_holding ?_)
  unfold Builtin.List.listLengthHint
  refine wpAny_bind (wpAny_specialOf (ty _ k2) nolen_c ?_)
  show wpAny _ _ (specialOf (Value.ref it) (Str.ofString "__length_hint__") >>= _) _ _ _
  refine wpAny_bind (wpAny_specialOf (ty _ k2) nohint_c ?_)
  refine wpAny_pure ?_
  show wpAny _ _ (rule "list.extend.makes-room" >>= fun _ => Builtin.List.listTouch (.ref s.heap.objs.size) >>= fun _ => again (.builtin "list.extend.loop" ⟨[.ref s.heap.objs.size, .ref it, .none], []⟩)) _ _ _
  refine wpAny_bind (wpAny_rule ?_)
  refine wpAny_bind ?_
  show wpAny _ _ (updateSeq s.heap.objs.size (·.push .none) >>= fun _ => updateSeq s.heap.objs.size (·.pop)) _ _ _
  refine wpAny_bind (wpAny_updateSeq hS2 rfl ?_)
  have hS3 := Heap.get?_update_self (Obj.mapSeq (·.push Value.none)) hS2 rfl
  refine wpAny_updateSeq (hz := by seq_fits) hS3 rfl ?_
  have hS4 := Heap.get?_update_self (Obj.mapSeq (·.pop)) hS3 rfl
  have k4 := up _ (Obj.mapSeq (·.pop)) (up _ (Obj.mapSeq (·.push Value.none)) k2)
  refine wpAny_pure ⟨plainId_quiet F.plain_extend_loop _, ?_⟩
  refine drain_c (A := A.in1) hh nI nP .none h0 h1 hN s.heap (fun h' tk acc c' e ht k => ⟨rfl, hQ h' tk acc c' e ht fun b o b2 q => k b o (Nat.ne_of_lt (Heap.lt_size q)) b2 q⟩) N 0 _ s.toks #[] _ (by omega) (Nat.zero_le _) (at_ _ k4) hS4 ⟨rfl, fun j a b hj => absurd hj (Nat.not_lt_zero _)⟩ ?_ fun b o _ _ q => k4 b o q
  rw [Heap.size_after_update, Heap.size_after_update, Heap.size_after_update]
  exact Nat.le_of_lt (Heap.lt_size hS)
end
/-- the pairs at their places -/
def layH (H : Hp) (n : Nat) (acc : Array Value) : Nat → Hp
  | 0 => H
  | i + 1 => match acc[i]?, pa n i with
    | some (.ref T), some (a, b) => upd (layH H n acc i) T (.tup [.int (a : Int), .int (b : Int)])
    | _, _ => layH H n acc i
theorem layH_succ {H : Hp} {n : Nat} {acc : Array Value} {i : Nat} {T : Addr} {a b : Nat} (h1 : acc[i]? = some (.ref T)) (h2 : pa n i = some (a, b)) : layH H n acc (i + 1) = upd (layH H n acc i) T (.tup [.int (a : Int), .int (b : Int)]) := by
  show (match acc[i]?, pa n i with
    | some (.ref T), some (a, b) => upd (layH H n acc i) T (.tup [.int (a : Int), .int (b : Int)])
    | _, _ => layH H n acc i) = _
  rw [h1, h2]
section
variable {H : Hp} {g0 h : Heap} {S it : Addr} {n N : Nat} {acc : Array Value}
theorem layH_ok (ht : Tups g0 h S it n acc N) (h1 : ∀ i, i < N → ∃ p, pa n i = some p) (fr : ∀ b, g0.objs.size ≤ b → H b = none) : ∀ i, i ≤ N → Same H (layH H n acc i) ∧ (∀ b, b < g0.objs.size → layH H n acc i b = H b) ∧ (layH H n acc i S = H S) ∧
    (∀ b u, H b = none → layH H n acc i b = some u → ∃ (x y : Nat) (t v : Tok), u = .tup [.int (x : Int), .int (y : Int)] ∧ h.get? b = some { cls := .type "tuple", data := .seq #[.int (x : Int) t, .int (y : Int) v] }) ∧
    ∀ j x y, j < i → pa n j = some (x, y) → ∃ T, acc[j]? = some (.ref T) ∧ layH H n acc i T = some (.tup [.int (x : Int), .int (y : Int)]) := by
  intro i
  induction i with
  | zero => exact fun _ => ⟨fun _ _ e => e, fun _ _ => rfl, rfl, (fun b u e1 e2 => by rw [show layH H n acc 0 b = H b from rfl, e1] at e2; cases e2), fun _ _ _ hj => absurd hj (Nat.not_lt_zero _)⟩
  | succ i ih =>
    intro hi
    obtain ⟨q1, q2, q3, q4, q5⟩ := ih (by omega)
    obtain ⟨⟨a, b⟩, hp⟩ := h1 i (by omega)
    obtain ⟨T, t, u, e1, e2, e3, e4, e5⟩ := ht.2 i a b (by omega) hp
    rw [layH_succ e1 hp]
    have hT : H T = none := fr T e2
    refine ⟨fun c o e => ?_, fun c hc => ?_, ?_, fun c v e f => ?_, fun j x y hj hxy => ?_⟩
    · rw [upd_ne (ne_of_none e hT)]
      exact q1 _ _ e
    · rw [upd_ne (Nat.ne_of_lt (Nat.lt_of_lt_of_le hc e2))]
      exact q2 c hc
    · rw [upd_ne (Ne.symm e3)]
      exact q3
    · by_cases z : c = T
      · rw [z, upd_same] at f
        rw [z]
        exact ⟨a, b, t, u, (Option.some.inj f).symm, e5⟩
      · rw [upd_ne z] at f
        exact q4 c v e f
    · by_cases z : j < i
      · obtain ⟨T2, f1, f2⟩ := q5 j x y z hxy
        refine ⟨T2, f1, ?_⟩
        by_cases w : T2 = T
        · obtain ⟨T3, t3, u3, k1, k2, k3, k4, k5⟩ := ht.2 j x y (by omega) hxy
          rw [f1] at k1
          have e : T2 = T3 := Value.ref.inj (Option.some.inj k1)
          rw [← e, w, e5] at k5
          have e6 := congrArg Obj.data (Option.some.inj k5)
          simp only [Data.seq.injEq, Array.mk.injEq, List.cons.injEq, Value.int.injEq] at e6
          obtain ⟨⟨⟨e7, _⟩, ⟨e8, _⟩, _⟩, _⟩ := e6
          rw [w, upd_same, e7, e8]
        · rw [upd_ne w]
          exact f2
      · have e : j = i := by omega
        subst e
        rw [hp] at hxy
        cases hxy
        exact ⟨T, e1, upd_same⟩
end
def adV : Value → V
  | .ref T => .ref T
  | _ => .non
def tLstCmb (te : L2.St → Hp → (Int → Int → Hp → Prop) → Prop) : TE := fun σ H Q => te σ H fun a b H1 => ∃ f n : Nat, a = (f : Int) ∧ b = ((f + n : Nat) : Int) ∧ f ≤ 1000 ∧ n ≤ 1000 ∧ f = 0 ∧
  ∀ (p : Addr) (rs : List V) (H' : Hp), H1 p = none → Same H1 H' → H' p = some (.lst rs) → rs.length ≤ n * n → Ly.Prs n n rs H' → Q (.ref p) H'
theorem pe_listCmb {X : Cx} {e : Expr} {te : L2.St → Hp → (Int → Int → Hp → Prop) → Prop} {p pos kp lp lpos : Pos} {kk : Nat} (hc : X.calm = true) (hgl : Gl X "list") (hml : X.mg "list" = none) (hg : Gl X "combinations") (hm : X.mg "combinations" = some (.type "itertools.combinations")) (he : PRg X e te)
    (na : starEach [e, .Constant (.int 2) kk kp] X.env = (false, eval e X.env) :: starEach [.Constant (.int 2) kk kp] X.env := by rfl) (nb : starEach [.Constant (.int 2) kk kp] X.env = (false, eval (.Constant (.int 2) kk kp) X.env) :: starEach [] X.env := by rfl)
    (hp : (backTo pos (starEach [.Constant (.int 2) kk kp] X.env)).any (·.1) = false := by rfl)
    (nc : starEach [.Call (.Name "combinations" p) [e, .Constant (.int 2) kk kp] [] pos] X.env = (false, eval (.Call (.Name "combinations" p) [e, .Constant (.int 2) kk kp] [] pos) X.env) :: starEach [] X.env := by rfl) :
    PE X (.Call (.Name "list" lp) [.Call (.Name "combinations" p) [e, .Constant (.int 2) kk kp] [] pos] [] lpos) (tLstCmb te) := by
  refine ⟨fun pins s σ H Q I h => ?_⟩
  refine Call_ (ld_blt I hgl hml boot_list (PyProof.Rows.callWith_type1 (args_cons (thn (made_c hg hm hc he na nb hp pins s σ H (fun f n H1 => f = 0 ∧ ∀ (p : Addr) (rs : List V) (H' : Hp), H1 p = none → Same H1 H' → H' p = some (.lst rs) → rs.length ≤ n * n → Ly.Prs n n rs H' → Q (.ref p) H') I ?_) fun v s1 hv => args_nil ?_) nc) nc))
  · exact h
  obtain ⟨it, pl, f, n, H1, rfl, c, I1, hf, hn0, rfl, q⟩ := hv
  obtain ⟨N, hN, h0, h1⟩ := pa_many n
  have hn : N ≤ 1000000 := Nat.le_trans hN (Nat.mul_le_mul hn0 hn0)
  refine list_c (I1.ok.hd hc) c h0 h1 hn fun h' tk acc c' hS ht k => ?_
  have fr : ∀ b, s1.heap.objs.size ≤ b → H1 b = none := fun b hb => I1.hok.fresh hb
  obtain ⟨l1, l2, l3, l4, l5⟩ := layH_ok ht h1 fr N (Nat.le_refl _)
  have hSn : H1 s1.heap.objs.size = none := fr _ (Nat.le_refl _)
  have lS : layH H1 n acc N s1.heap.objs.size = none := l3.trans hSn
  have len : acc.toList.length = N := by
    rw [Array.length_toList]
    exact ht.1
  have lz : (acc.toList.map adV).length ≤ sizeLine := by
    rw [List.length_map, len, sizeLine_eq]
    omega
  have rv : Vals (acc.toList.map adV) acc.toList := by
    refine vals_of_at (by rw [List.length_map]) fun j x u hx hu => ?_
    rw [List.getElem?_map, hu] at hx
    have ex := Option.some.inj hx
    have hj : j < N := by
      have := (List.getElem?_eq_some_iff.mp hu).1
      omega
    obtain ⟨⟨a, b⟩, hp⟩ := h1 j hj
    obtain ⟨T, t, w, e1, _⟩ := ht.2 j a b hj hp
    rw [Array.getElem?_toList] at hu
    rw [hu] at e1
    have eu := Option.some.inj e1
    subst eu
    rw [← ex]
    rfl
  have sm : Same H1 (upd (layH H1 n acc N) s1.heap.objs.size (.lst (acc.toList.map adV))) := fun b o e => by
    rw [upd_ne (ne_of_none e hSn)]
    exact l1 _ _ e
  have I2 := turnedMany (t' := tk) (ch := [it]) (h' := h') (H' := upd (layH H1 n acc N) s1.heap.objs.size (.lst (acc.toList.map adV))) I1 (fun b o hb e => k b o (by simpa using hb) e) (fun b hb => hf b (by rw [List.mem_singleton.mp hb]; exact List.mem_cons_self)) sm
    (fun b hb => by rw [upd_ne (Nat.ne_of_lt hb)]; exact l2 b hb) fun b u e f => by
      by_cases z : b = s1.heap.objs.size
      · rw [z, upd_same] at f
        have ef := Option.some.inj f
        subst ef
        rw [z]
        exact ⟨lz, acc.toList, c', rv, by rw [Array.toArray_toList]; exact hS⟩
      · rw [upd_ne z] at f
        obtain ⟨x, y, t, v, rfl, hx⟩ := l4 b u e f
        exact ⟨by show 2 ≤ sizeLine; decide, [.int (x : Int) t, .int (y : Int) v], .cons ⟨t, rfl⟩ (.cons ⟨v, rfl⟩ .nil), ⟨_, hx, rfl, _, rfl⟩⟩
  refine ⟨.ref s1.heap.objs.size, _, I2, rfl, q _ (acc.toList.map adV) _ hSn sm upd_same (by rw [List.length_map, len]; exact hN) ?_⟩
  have pr : ∀ j a b, j < N → pa n j = some (a, b) → ∃ x, (acc.toList.map adV)[j]? = some x ∧ Ly.PrAt (upd (layH H1 n acc N) s1.heap.objs.size (.lst (acc.toList.map adV))) x a b := fun j a b hj hp => by
    obtain ⟨T, e1, e2⟩ := l5 j a b hj hp
    refine ⟨.ref T, ?_, T, rfl, ?_⟩
    · rw [List.getElem?_map, Array.getElem?_toList, e1]
      rfl
    · rw [upd_ne (ne_of_none e2 lS)]
      exact e2
  refine ⟨fun x hx => ?_, fun a b hab hb _ => ?_⟩
  · obtain ⟨j, hj, ej⟩ := List.mem_iff_getElem.mp hx
    rw [List.length_map, len] at hj
    obtain ⟨⟨a, b⟩, hp⟩ := h1 j hj
    obtain ⟨y, ey, py⟩ := pr j a b hj hp
    have lt := pa_lt hp
    rw [List.getElem?_eq_getElem (by rw [List.length_map, len]; exact hj), ej] at ey
    rw [Option.some.inj ey]
    exact ⟨a, b, lt.1, lt.2, by omega, py⟩
  · obtain ⟨j, hp⟩ := pa_all a b hab hb
    have hj : j < N := by
      by_cases z : j < N
      · exact z
      · have e := pa_stay h0 (j - N)
        rw [show N + (j - N) = j by omega, hp] at e
        cases e
    obtain ⟨x, ex, px⟩ := pr j a b hj hp
    exact ⟨x, List.mem_of_getElem? ex, px⟩
end Cmb

/-! ### the head's facts and one more -/
namespace Ly
open PySem PySem.Spec PyProof.Rows L2
abbrev AlM : Type := He.AlD × Bool
def obsM (n : Nat) (fa : List He.Fa) (fn : List He.DefD) (ex : PySem.W.Frag → Bool) (g : Addr → Option Obj) : AlM := (He.obsDG n fa fn g, ex (He.frG g (He.asD g n)))
def hookM (n : Nat) (fa : List He.Fa) (fn : List He.DefD) (ex : PySem.W.Frag → Bool) : PySem.W.Hook where
  α := AlM
  obs := fun s => obsM n fa fn ex s.heap.get?
  val := fun _ => (He.valD fn, true)
  says := fun _ h => ∃ K : PySem.W.Frag, K.In h ∧ He.SaysD fa fn K ∧ ex K = true
  of := fun _ _ e => ⟨_, He.frG_in, congrArg (fun z : AlM => z.1) e, congrArg (fun z : AlM => z.2) e⟩
  keeps := fun _ _ _ ⟨K, hK, c⟩ k => ⟨K, PySem.W.Frag.In.keeps hK k, c⟩
theorem obsM_eq {n : Nat} {fa : List He.Fa} {fn : List He.DefD} {ex : PySem.W.Frag → Bool} {g : Addr → Option Obj} {s : Shared} (h : ∀ a, g a = s.heap.get? a) : obsM n fa fn ex g = (hookM n fa fn ex).obs s := by
  have e : g = s.heap.get? := funext h
  rw [e] <;> rfl
/-! ### a star in a display; a tuple's count -/
def tStarQ (K : PySem.W.Frag) (te : TE) (t : TA) : TA := fun σ H Q => te σ H fun x H1 => ∃ p xs, x = V.ref p ∧ (SqT K H1 p xs ∨ SqL K H1 p xs) ∧ t σ H1 fun ys H2 => Q (xs ++ ys) H2
theorem kz_star {X : Cx} {K : PySem.W.Frag} {e : Expr} {es : List Expr} {te : TE} {t : TA} {p : Pos} (he : PE X e te) (hr : PA X es t) (hK : X.K = K := by rfl) (hs : starEach (.Starred e p :: es) X.env = (true, eval e X.env) :: starEach es X.env := by rfl) : PA X (.Starred e p :: es) (tStarQ K te t) := hK ▸ StX.pa_star he hr hs
def rCntT (K : PySem.W.Frag) : V → List V → Hp → VK → Prop := fun x xs H Q => ∃ (p : Addr) (ns : List Int) (k : Int), x = .ref p ∧ xs = [.int k] ∧ SqT K H p (ns.map V.int) ∧ Q (.int (ns.count k : Nat)) H
theorem mt_tcount {X : Cx} : MtR X "tuple.count" (rCntT X.K) := by
  intro pins s σ H x xs v us Q I rx rxs h
  obtain ⟨p, ns, k, rfl, rfl, hs, q⟩ := h
  cases rx
  obtain ⟨u, rfl, ru⟩ := rxs.one
  obtain ⟨t, rfl⟩ := ru
  obtain ⟨its, rv, ⟨⟨cls, dd, data, sl⟩, ho, hc, n, hd⟩, hlen⟩ := I.tuple hs
  simp only at hc hd
  subst hc hd
  have hi := ints_of_vals rv
  refine call_meets PySem.F.slot_tuple_count ⟨_, ho, rfl⟩ PySem.F.entry_tuple_count (PySem.F.args_tuple_count_2 _ _) (SeqAt.tuple_countAt p its.toArray n dd sl (.int k t) (eqk k)) ⟨ho, fun y hy => (eqk_gives hi y (by simpa using hy)).at _ _, ?_⟩
  have ec : its.toArray.toList.countP (eqk k) = ns.count k := eqk_count hi
  refine ⟨.int (ns.count k : Nat), H, I.tok _, ⟨s.toks, ?_⟩, q⟩
  rw [ec]
end Ly
/-! ### a comprehension with two for -/
namespace Ly
open PySem PySem.Spec PyProof.Rows L2
/-- the inner for of a comprehension: what it asks -/
def InnerLc (D : Addr) (g1 : TG) (tt1 : TT) (te : TE) (vs1 : List Nat) (σ2 : L2.St) (Nx : Hp → Prop) : It → Hp → Prop := fun J1 H4 => ∃ W1 : Nat → Nat → Hp → Prop, (∃ m, W1 0 m H4) ∧ ∀ j k H, W1 j k H →
  (J1.stop j H ∧ Nx H) ∨ (J1.go j H ∧ ∃ Nx1 : Hp → Prop, (∀ H', Nx1 H' → ∃ k', k' < k ∧ W1 (j + 1) k' H') ∧ ∀ x H', J1.yld j H x H' → g1 x (wipe σ2 vs1) H' fun σ3 H5 => wipe σ3 vs1 = wipe σ2 vs1 ∧ tt1 σ3 H5 fun b H6 =>
    if b = true then te σ3 H6 fun y H7 => ∃ acc, H7 D = some (.lst acc) ∧ acc.length < sizeLine ∧ Nx1 (upd H7 D (.lst (acc ++ [y]))) else Nx1 H6)
section
variable {J : It} {n : Nat} {G : Hp → Prop} {Y : Nat → Hp → V → Hp → Prop} {g g1 : TG} {tt tt1 : TT} {wi1 : TI} {te : TE} {vs vs1 : List Nat} {σ σ2 : L2.St} {H1 H4 : Hp} {D : Addr} {Qd Nx : Hp → Prop}
theorem lc_two (w : Walk J n G Y) (Pv : Nat → Hp → Prop) (h0 : Pv 0 (upd H1 D (.lst []))) (hG : ∀ i H, i ≤ n → Pv i H → G H)
    (hs : ∀ i x H H', i < n → Pv i H → Y i H x H' → g x (wipe σ vs) H' fun σ2 H2 => wipe σ2 vs = wipe σ vs ∧ tt σ2 H2 fun b H3 => if b = true then wi1 σ2 H3 (InnerLc D g1 tt1 te vs1 σ2 (Pv (i + 1))) else Pv (i + 1) H3) (hd : ∀ H, Pv n H → Qd H) :
    ∃ W : Nat → Nat → Hp → Prop, (∃ m, W 0 m (upd H1 D (.lst []))) ∧ ∀ i m H, W i m H →
      (J.stop i H ∧ Qd H) ∨ (J.go i H ∧ ∃ Nx : Hp → Prop, (∀ H', Nx H' → ∃ m', m' < m ∧ W (i + 1) m' H') ∧ ∀ x H', J.yld i H x H' → g x (wipe σ vs) H' fun σ2 H2 => wipe σ2 vs = wipe σ vs ∧ tt σ2 H2 fun b H3 =>
        if b = true then wi1 σ2 H3 (InnerLc D g1 tt1 te vs1 σ2 Nx) else Nx H3) := by
  refine ⟨fun i m H => m = n - i ∧ i ≤ n ∧ Pv i H, ⟨n, by simp, Nat.zero_le _, h0⟩, ?_⟩
  rintro i m H ⟨rfl, hi, p⟩
  by_cases hlt : i < n
  · exact .inr ⟨w.goes i H hlt (hG i H hi p), Pv (i + 1), fun H' p' => ⟨n - (i + 1), by omega, rfl, hlt, p'⟩, fun x H' y => hs i x H H' hlt p (w.yields i H x H' hlt (hG i H hi p) y)⟩
  · have e : i = n := by omega
    rw [e] at p ⊢
    exact .inl ⟨w.stops H (hG n H (Nat.le_refl _) p), hd H p⟩
theorem lc_in (w : Walk J n G Y) (Pv : Nat → Hp → Prop) (h0 : Pv 0 H4) (hG : ∀ i H, i ≤ n → Pv i H → G H)
    (hs : ∀ i x H H', i < n → Pv i H → Y i H x H' → g1 x (wipe σ2 vs1) H' fun σ3 H5 => wipe σ3 vs1 = wipe σ2 vs1 ∧ tt1 σ3 H5 fun b H6 => if b = true then te σ3 H6 fun y H7 => ∃ acc, H7 D = some (.lst acc) ∧ acc.length < sizeLine ∧ Pv (i + 1) (upd H7 D (.lst (acc ++ [y]))) else Pv (i + 1) H6)
    (hd : ∀ H, Pv n H → Nx H) : InnerLc D g1 tt1 te vs1 σ2 Nx J H4 := by
  refine ⟨fun i m H => m = n - i ∧ i ≤ n ∧ Pv i H, ⟨n, by simp, Nat.zero_le _, h0⟩, ?_⟩
  rintro i m H ⟨rfl, hi, p⟩
  by_cases hlt : i < n
  · exact .inr ⟨w.goes i H hlt (hG i H hi p), Pv (i + 1), fun H' p' => ⟨n - (i + 1), by omega, rfl, hlt, p'⟩, fun x H' y => hs i x H H' hlt p (w.yields i H x H' hlt (hG i H hi p) y)⟩
  · have e : i = n := by omega
    rw [e] at p ⊢
    exact .inl ⟨w.stops H (hG n H (Nat.le_refl _) p), hd H p⟩
end
end Ly
/-! ### a tuple times one, and more -/
namespace Ly
open PySem PySem.Spec PyProof.Rows L2
theorem tup_once (l : Addr) (items : Array Value) (n : Nat) (dd : Option Addr) (sl : Array (Option Value)) (u : Tok) :
    Meets (Builtin.«tuple.__mul__» ⟨[.ref l, .int 1 u], []⟩) (fun _ R s => s.heap.get? l = some { cls := .type "tuple", dict := dd, data := .seq items n, slots := sl } ∧ R (.ok (.ret (.ref l))) s) :=
  .of_wp fun prog w A R s h => by
    obtain ⟨hp, g, d, tk, os⟩ := s
    obtain ⟨hl, h⟩ := h
    have f1 := AutoSeq1.idx_int
    have c1 : (items.isEmpty || (1 : Int) == 1) = true := by simp
    have c2 : ((Value.type "tuple") == (Value.type "tuple")) = true := by decide
    wp_walk using wpAny_loadPart' hl
    exact ⟨_, rfl, h⟩
/-- a tuple, not empty, so many times: itself, or a new one -/
def rRepA (K : PySem.W.Frag) : R2 := fun x y H Q => ∃ l k xs, x = .ref l ∧ y = .int k ∧ SqT K H l xs ∧ xs ≠ [] ∧ 1 ≤ k ∧ k ≤ 1000 ∧ xs.length ≤ 1000 ∧ (k = 1 → Q (.ref l) H) ∧ (2 ≤ k → ∀ p, H p = none → Q (.ref p) (upd H p (.tup (List.replicate k.toNat xs).flatten)))
theorem kz_repT {X : Cx} {K : PySem.W.Frag} (hK : X.K = K := by rfl) : OpR X (binaryOp .Mult) (rRepA K) := by
  subst hK
  intro pins s σ H x y v u Q I rx ry h
  obtain ⟨l, k, xs, rfl, rfl, hT, hne, h1, h2, hz, q1, q2⟩ := h
  by_cases c : 2 ≤ k
  · exact op_repT pins s σ H _ _ v u Q I rx ry ⟨l, k, xs, rfl, rfl, hT, hne, c, h2, hz, q2 c⟩
  · have e : k = 1 := by omega
    subst e
    cases rx
    obtain ⟨t, rfl⟩ := ry
    obtain ⟨its, r, ⟨⟨cls, dd, data, sl⟩, ho, hc, n, hd⟩, hs⟩ := I.tuple hT
    simp only at hc hd
    subst hc hd
    refine wpAny_binaryOp_repeat_ref (T := "tuple") (U := "int") (by decide) ⟨_, ho, rfl⟩ (fun s' => typeIs_int s' 1 t) noFill_tuple_mul F.fills_int_mul F.slot_int_rmul repeat_tuple F.slot_int_index.lookup
      (call_meets F.slot_int_rmul (typeIs_int s 1 t) F.entry_int_rmul (F.args_int_rmul_2 _ _) (int_rmul_tuple 1 t l its.toArray n dd sl) ⟨ho, rfl, ⟨_, ho, rfl⟩, call_meets F.slot_tuple_mul ⟨_, ho, rfl⟩ F.entry_tuple_mul (F.args_tuple_mul_2 _ _) (tup_once l its.toArray n dd sl t) ⟨ho, ?_⟩⟩)
    exact ⟨.ref l, H, I, rfl, q1 rfl⟩
end Ly
/-! ### a word between a statement and the rest -/
namespace Ly
open PySem PySem.Spec PyProof.Rows L2
def tCutC (t u : TS) : TS := fun D σ H => ∃ Mid : L2.St → Hp → Prop, t { D with nx := Mid } σ H ∧ ∀ σ' H', Mid σ' H' → u D σ' H'
theorem pss_cutC {X : Cx} {st : Stmt} {rest : List Stmt} {t u : TS} (h1 : PS X st t) (h2 : PSs X rest u) : PSs X (st :: rest) (tCutC t u) := C8.pss_cut h1 h2
end Ly
/-! ### the first of a tuple; a tuple so many times; two hands, either way -/
namespace Ly
open PySem PySem.Spec PyProof.Rows L2
theorem slT_to {K : PySem.W.Frag} {H : Hp} {a : Addr} {xs : List V} {j : Nat} {Q : VK} (h : SqT K H a xs) (q : ∀ p H', Same H H' → SqT K H' p (xs.take j) → Q (.ref p) H') : rSlA K (.ref a) none (some (j : Int)) H Q := by
  refine ⟨a, xs, rfl, h, fun e => ?_, fun _ p np => ?_⟩
  · refine q a H (L2.Same.refl _) ?_
    have e2 : min j xs.length = xs.length := e.2
    rw [List.take_of_length_le (by omega)]
    exact h
  · rw [cut_to]
    exact q p _ (same_new np) (.inl (.inl upd_same))
theorem repT_ {K : PySem.W.Frag} {H : Hp} {l : Addr} {xs : List V} {k : Int} {Q : VK} (h : SqT K H l xs) (hne : xs ≠ []) (k1 : 1 ≤ k) (k2 : k ≤ 1000) (hl : xs.length ≤ 1000) (q : ∀ p H', Same H H' → SqT K H' p (List.replicate k.toNat xs).flatten → Q (.ref p) H') : rRepA K (.ref l) (.int k) H Q := by
  refine ⟨l, k, xs, rfl, rfl, h, hne, k1, k2, hl, fun e => ?_, fun _ p np => q p _ (same_new np) (.inl (.inl upd_same))⟩
  refine q l H (L2.Same.refl _) ?_
  rw [e]
  show SqT K H l (xs ++ [])
  rw [List.append_nil]
  exact h
theorem REv.two {m : Nat} {row : List Int} {k : Nat} (h : REv (m : Int) row k) {a b : Int} (ha : 0 ≤ a ∧ a < (m : Int)) (hb : 0 ≤ b ∧ b < (m : Int)) (hab : a ≠ b) : Lz row.length (sg row a b) k := by
  obtain ⟨x, rfl⟩ : ∃ x : Nat, a = (x : Int) := ⟨a.toNat, by omega⟩
  obtain ⟨y, rfl⟩ : ∃ y : Nat, b = (y : Int) := ⟨b.toNat, by omega⟩
  by_cases c : x < y
  · exact h x y c (by omega)
  · have z := h y x (by omega) (by omega)
    rw [sg_turn row (a := (y : Int)) (b := (x : Int)) (by omega)]
    exact Lz_neg z
end Ly
/-! ### two lists that grow -/
namespace Ly
open PySem PySem.Spec PyProof.Rows L2
theorem Scr.mv {K : PySem.W.Frag} {H H' : Hp} {b a : Addr} {ns : List Int} (h : Scr K H b a ns) (k : SqL K H' a (ns.map V.int)) : Scr K H' b a ns := ⟨h.1, h.2.elim (fun x => .inl x) (fun x => .inr ⟨k, x.2⟩)⟩
theorem Scr.upd2 {K : PySem.W.Frag} {H : Hp} {b D a : Addr} {ns : List Int} {o : HO} (h : Scr K H b a ns) (d : Scr K H D a ns) : Scr K (upd H D o) b a ns := h.mv (d.but But.at).sq
theorem Town.upd {b D : Addr} {n : Nat} {H : Hp} {o : HO} (h : Town b n H) (ne : D ≠ b) : Town b n (upd H D o) := by
  obtain ⟨xs, e, l⟩ := h
  exact ⟨xs, by rw [upd_ne (Ne.symm ne)]; exact e, l⟩
theorem butT_lst {K : PySem.W.Frag} {D : Addr} {H : Hp} {o : HO} {a : Addr} {xs ys : List V} (hD : H D = some (.lst ys)) (h : SqT K H a xs) : SqT K (upd H D o) a xs := butT_town But.at (⟨ys, hD, Nat.le_refl _⟩ : Town D ys.length H) h
theorem tup_upd {D u : Addr} {H : Hp} {o : HO} {xs ys : List V} (hD : H D = some (.lst ys)) (h : H u = some (.tup xs)) : (upd H D o) u = some (.tup xs) := by
  rw [upd_ne (fun z => by rw [z, hD] at h; cases h)]
  exact h
end Ly
/-! ### sorted(t), t.index(i): a tuple of whole numbers -/
namespace Ly
open PySem PySem.Spec PyProof.Rows L2
theorem bt_sorted : bootBuiltins "sorted" = some (.builtin "sorted") := by decide +kernel
def rSortT (K : PySem.W.Frag) : List V → Hp → VK → Prop := fun vs H Q => ∃ (a : Addr) (ns : List Int), vs = [V.ref a] ∧ SqT K H a (ns.map V.int) ∧ ns.length < 64 ∧
  ∀ (ns' : List Int) (p : Addr), ns'.Perm ns → ns'.Pairwise (· ≤ ·) → H p = none → Q (.ref p) (upd H p (.lst (ns'.map V.int)))
theorem kz_sortedT {X : Cx} {K : PySem.W.Frag} (hK : X.K = K := by rfl) : CallR X (.builtin "sorted") (rSortT K) := by
  subst hK
  intro pins s σ H vs us Q I r h
  obtain ⟨a, ns, rfl, hs, hl, q⟩ := h
  obtain ⟨its, rv, ⟨o, ho, hc, n, hd⟩, hz⟩ := I.tuple hs
  rw [Vals.ref1 r]
  have hi := rv.ints
  have len : its.length = ns.length := by rw [← rv.length, List.length_map]
  have hL : its.length ≤ sizeLine := by rw [sizeLine_eq]; omega
  refine Calls.call_function_entry kind_sorted plain_sorted entry_sorted (args_sorted1 _) ?_
  unfold Builtin.«sorted»
  refine wpAny_bind (m := checkCount "sorted" 1 1 _) (wpAny_pure ?_)
  refine wpAny_bind (wpAny_collect_seq a (.inr rfl) ho hc hd (fun h' k => ?_) (by rw [List.size_toArray]; exact hL))
  rw [List.toList_toArray]
  refine wpAny_bind (wpAny_newList ?_ hL)
  have I1 : Inv X pins σ H { s with heap := h' } := I.kept (t' := s.toks) k
  have hoL : (h'.push (seqObj "list" its.toArray 0)).get? h'.objs.size = some (seqObj "list" its.toArray 0) := Heap.get?_push_size _ rfl
  refine wpAny_bind (wpAny_holding (wpAny_call_entry slot_list_sort ⟨_, hoL, rfl⟩ entry_list_sort (list_sort_tree hoL hi (by rw [len]; exact hl) fun out ns' h1 h2 h3 => ⟨_, rfl, ?_⟩) (args_list_sort _)))
  refine wpAny_pure ⟨_, rfl, ?_⟩
  obtain ⟨ep, he'⟩ := sortedHeap_at (out := out) hoL
  have hlen : (ns'.map V.int).length ≤ sizeLine := by
    rw [List.length_map, h2.length_eq, sizeLine_eq]
    omega
  have old : ∀ b ob, h'.get? b = some ob → (sortedHeap (h'.push (seqObj "list" its.toArray 0)) h'.objs.size its out).get? b = some ob := fun b ob e => by
    have lt := Heap.lt_size e
    rw [sortedHeap_old (Nat.ne_of_lt lt) (Nat.lt_trans lt (Heap.lt_size hoL))]
    exact Heap.get?_push_of_some _ e
  exact ⟨.ref _, upd H h'.objs.size (.lst (ns'.map V.int)), I1.laid (t' := s.toks) old (Nat.le_refl _) ⟨hlen, out.toList, ep, vals_of_ints h1, he'⟩, rfl, q ns' _ h2 h3 (I1.hok.fresh (Nat.le_refl _))⟩
def rIdxT (K : PySem.W.Frag) : V → List V → Hp → VK → Prop := fun x xs H Q => ∃ (p : Addr) (ns : List Int) (z : Int) (j : Nat), x = .ref p ∧ xs = [.int z] ∧ SqT K H p (ns.map V.int) ∧ ns[j]? = some z ∧ (∀ m, m < j → ns[m]? ≠ some z) ∧ Q (.int (j : Int)) H
theorem mt_tindex {X : Cx} : MtR X "tuple.index" (rIdxT X.K) := by
  intro pins s σ H x xs v us Q I rx rs h
  obtain ⟨p, ns, z, j, rfl, rfl, hq, hy, hno, q⟩ := h
  cases rx
  obtain ⟨u, rfl, t, rfl⟩ := vals1 rs
  obtain ⟨its, r, pl, hz⟩ := I.tuple hq
  obtain ⟨⟨cls, dd, dt, sl⟩, ho, hc, n, hd⟩ := pl
  simp only at hc hd
  subst hc
  subst hd
  have hl : its.toArray.size = ns.length := by rw [List.size_toArray, ← r.length, List.length_map]
  have hj : j < its.toArray.size := by rw [hl]; exact (List.getElem?_eq_some_iff.mp hy).1
  have hi := ints_of_vals r
  have at' : ∀ (m : Nat) (hm : m < its.toArray.size), ∃ y t', ns[m]? = some y ∧ its.toArray[m] = Value.int y t' := fun m hm => by
    have hm' : m < ns.length := by rw [← hl]; exact hm
    obtain ⟨w, hw, t', hw'⟩ := r.get (i := m) (x := .int ns[m]) (by simp [hm'])
    refine ⟨ns[m], t', List.getElem?_eq_getElem hm', ?_⟩
    have e := (List.getElem?_eq_some_iff.mp hw).2
    rw [← hw', ← e]
    simp
  refine call_meets PySem.F.slot_tuple_index ⟨_, ho, rfl⟩ PySem.F.entry_tuple_index (PySem.F.args_tuple_index_2 _ _) (TI.tuple_indexAt p its.toArray n dd sl (.int z t) (eqk z) j hj ?_ ?_)
    ⟨ho, fun w hw => (eqk_gives hi w (by simpa using hw)).at _ _, ⟨.int (j : Int), H, I.tok _, ⟨_, rfl⟩, q⟩⟩
  · obtain ⟨y, t', h1, h2⟩ := at' j hj
    rw [hy] at h1
    cases h1
    rw [h2]
    exact beq_self_eq_true z
  · intro m hm hmj
    obtain ⟨y, t', h1, h2⟩ := at' m hm
    rw [h2]
    refine beq_eq_false_iff_ne.mpr fun e => hno m hmj ?_
    rw [h1, e]
end Ly
namespace Ly
open PySem PySem.Spec PyProof.Rows L2
theorem nums_rising (m : Nat) : (nums m).Pairwise (· ≤ ·) := List.Pairwise.map _ (fun x y h => Int.ofNat_le.mpr (Nat.le_of_lt h)) List.pairwise_lt_range
theorem rising_one : ∀ {xs ys : List Int}, xs.Perm ys → xs.Pairwise (· ≤ ·) → ys.Pairwise (· ≤ ·) → xs = ys
  | [], ys, p, _, _ => (List.Perm.nil_eq p)
  | x :: xs, [], p, _, _ => absurd p.length_eq (by simp)
  | x :: xs, y :: ys, p, h1, h2 => by
    have a1 := List.pairwise_cons.mp h1
    have a2 := List.pairwise_cons.mp h2
    have xy : x = y := by
      have m1 : x ∈ y :: ys := p.mem_iff.mp List.mem_cons_self
      have m2 : y ∈ x :: xs := p.mem_iff.mpr List.mem_cons_self
      rcases List.mem_cons.mp m1 with e | e
      · exact e
      · rcases List.mem_cons.mp m2 with f | f
        · exact f.symm
        · have g1 := a2.1 x e
          have g2 := a1.1 y f
          omega
    subst xy
    rw [rising_one ((List.perm_cons x).mp p) a1.2 a2.2]
theorem rgV_nums (m : Nat) : rgV 0 (m : Int) = (nums m).map V.int := by
  unfold rgV nums
  rw [List.map_map, show ((m : Int) - 0).toNat = m by omega]
  refine List.map_congr_left fun i _ => ?_
  show V.int (0 + (i : Int)) = _
  rw [Int.zero_add]
  rfl
end Ly
/-! ### tuples whose very object is told: made, asked by a method -/
namespace Ly
open PySem PySem.Spec PyProof.Rows L2
theorem kz_tindex {X : Cx} {K : PySem.W.Frag} (hK : X.K = K := by rfl) : MtR X "tuple.index" (rIdxT K) := hK ▸ mt_tindex
theorem kz_tcount {X : Cx} {K : PySem.W.Frag} (hK : X.K = K := by rfl) : MtR X "tuple.count" (rCntT K) := hK ▸ mt_tcount
/-- a tuple's object, no more than that -/
def PlT (o : Obj) : Prop := o.cls = .type "tuple" ∧ o.dict = none
def FzT (H : Hp) (p : Addr) (xs : List V) : Prop := ∃ o, PlT o ∧ H p = some (.frz o (.tup xs))
theorem FzT.sq {K : PySem.W.Frag} {H : Hp} {p : Addr} {xs : List V} (h : FzT H p xs) : SqT K H p xs := by
  obtain ⟨o, _, e⟩ := h
  exact .inl (.inr ⟨o, e⟩)
theorem FzT.same {H H' : Hp} {p : Addr} {xs : List V} (s : Same H H') (h : FzT H p xs) : FzT H' p xs := by
  obtain ⟨o, c, e⟩ := h
  exact ⟨o, c, s _ _ e⟩
theorem FzT.new {H : Hp} {p : Addr} {xs : List V} {o : Obj} (c : PlT o) : FzT (upd H p (.frz o (.tup xs))) p xs := ⟨o, c, upd_same⟩
def rTupF (K : PySem.W.Frag) : List V → Hp → VK → Prop := fun vs H Q => ∃ p xs, vs = [.ref p] ∧ SqL K H p xs ∧ ∀ q o, H q = none → PlT o → Q (.ref q) (upd H q (.frz o (.tup xs)))
theorem kz_tupleF {X : Cx} {K : PySem.W.Frag} (hK : X.K = K := by rfl) : CallR X (.type "tuple") (rTupF K) := by
  subst hK
  intro pins s σ H vs us Q I r h
  obtain ⟨p, xs, rfl, hs, q⟩ := h
  rw [Vals.ref1 r]
  obtain ⟨its, rv, pl, hz⟩ := I.list hs
  refine call_tuple_list pl.isList (fun h' hk => ?_) (by rw [List.size_toArray, ← rv.length]; exact hz)
  have I1 : Inv X pins σ H { s with heap := h' } := I.kept (t' := s.toks) hk
  have e : (h'.push { cls := .type "tuple", data := .seq its.toArray }).get? h'.objs.size = some { cls := .type "tuple", data := .seq its.toArray } := Heap.get?_push_size _ rfl
  have I2 : Inv X pins σ (upd H h'.objs.size (.frz { cls := .type "tuple", data := .seq its.toArray } (.tup xs))) { s with heap := h'.push { cls := .type "tuple", data := .seq its.toArray } } :=
    I1.laid (t' := s.toks) (fun b o e => Heap.get?_push_of_some _ e) (Nat.le_refl _) ⟨e, hz, its, rv, IsTup.new _ _⟩
  exact ⟨.ref h'.objs.size, _, I2, rfl, q _ _ (I1.hok.fresh (Nat.le_refl _)) ⟨rfl, rfl⟩⟩
def tTupF (t : TA) : TE := fun σ H Q => t σ H fun xs H1 => xs.length ≤ sizeLine ∧ ∀ p o, H1 p = none → PlT o → Q (.ref p) (upd H1 p (.frz o (.tup xs)))
theorem pe_tupF {X : Cx} {es : List Expr} {t : TA} {x1} {pos : Pos} (h : PA X es t) : PE X (.Tuple es x1 pos) (tTupF t) := by
  refine ⟨fun pins s σ H Q I hq => ?_⟩
  refine wpAny_Tuple_spliced (thn (h.run pos pins s σ H _ I hq) fun us s1 ⟨xs, H1, I1, r, z, q⟩ => ⟨by rw [← r.length]; exact z, ?_⟩)
  have e : (s1.heap.push { cls := .type "tuple", data := .seq us.toArray }).get? s1.heap.objs.size = some { cls := .type "tuple", data := .seq us.toArray } := Heap.get?_push_size _ rfl
  exact ⟨.ref s1.heap.objs.size, _, I1.laid (t' := s1.toks) (o := .frz { cls := .type "tuple", data := .seq us.toArray } (.tup xs)) (fun b u e => Heap.get?_push_of_some _ e) (Nat.le_refl _) ⟨e, z, us, r, ⟨_, e, rfl, _, rfl⟩⟩, rfl, q _ _ (I1.hok.fresh (Nat.le_refl _)) ⟨rfl, rfl⟩⟩
def tBMF (r : V → List V → Hp → VK → Prop) (to : TE) (t : TA) : TE := fun σ H Q => to σ H fun x H1 => (∃ p xs, x = .ref p ∧ FzT H1 p xs) ∧ t σ H1 fun xs H2 => r x xs H2 Q
section
variable {X : Cx} {o e : Expr} {es : List Expr} {to : TE} {t : TA} {name : Str} {apos cpos : Pos} {id : String} {r : V → List V → Hp → VK → Prop}
theorem pe_bmF (pa : PlainAttrs "tuple") (slot : Slot "tuple" name id) (hty : typeOf (.builtin id) = pure (.type "method_descriptor")) (hm : MtR X id r) (ho : PE X o to) (ha : PA X (e :: es) t)
    (hbase : attributeBase o name X.env (eval o X.env) = eval o X.env := by rfl)
    (hfew : ((backTo cpos (starEach (e :: es) X.env)).all (fun x => !x.1) && (backToKw cpos (keywordEach [] X.env)).all (fun x => x.1.isSome) && decide ((e :: es).length + ([] : List Keyword).length + (if ([] : List Keyword).isEmpty then 0 else 1) < 30)) = true := by rfl)
    (hline : (apos.endLine == cpos.line) = true := by rfl) (hs : starEach (e :: es) X.env = (false, eval e X.env) :: starEach es X.env := by rfl) (hplain : (backTo cpos (starEach es X.env)).any (·.1) = false := by rfl) :
    PE X (.Call (.Attribute o name apos) (e :: es) [] cpos) (tBMF r to t) := by
  refine ⟨fun pins s σ H Q I h => ?_⟩
  refine wpAny_Call_method_late hbase hfew hline rfl (thn (ho.run pins s σ H _ I h) fun v s1 ⟨x, H1, I1, r1, ty, q1⟩ => ?_)
  obtain ⟨p, xs, rfl, ob, ⟨oc, od⟩, eF⟩ := ty
  cases r1
  have ok : ObjOk X.prog X.w H1 s1.heap p (.frz ob (.tup xs)) := I1.hok p _ eF
  have at_ : s1.heap.get? p = some ob := ok.1
  refine ⟨"tuple", id, pa, slot, hty, ⟨ob, at_, oc⟩, fun a e2 => ?_, ?_⟩
  · cases e2
    exact ⟨ob, at_, od⟩
  have hA := ha.run cpos pins s1 σ H1 _ I1 q1
  rw [hs] at hA ⊢
  refine Calls.callWith_builtin (by show (false || (backTo cpos (starEach es X.env)).any (·.1)) = false; rw [hplain] <;> rfl) (Calls.evalArgs_plain ?_)
  exact thn hA fun us s2 ⟨vs, H2, I2, r2, q2⟩ => hm pins s2 σ H2 (.ref p) vs (.ref p) us Q I2 rfl r2 q2
end
end Ly
namespace Ly
open PySem PySem.Spec PyProof.Rows L2 RZ
/-- a method of a built-in type, K said outright -/
theorem pe_bmK {X : Cx} {K : PySem.W.Frag} {T id : String} {name : Str} {r : V → List V → Hp → VK → Prop} {o e : Expr} {es : List Expr} {to : TE} {t : TA} {apos cpos : Pos} (pa : PlainAttrs T) (slot : Slot T name id) (hty : typeOf (.builtin id) = pure (.type "method_descriptor")) (hm : MtR X id r) (ho : PE X o to) (ha : PA X (e :: es) t)
    (hK : X.K = K := by rfl) (hbase : attributeBase o name X.env (eval o X.env) = eval o X.env := by rfl)
    (hfew : ((backTo cpos (starEach (e :: es) X.env)).all (fun x => !x.1) && (backToKw cpos (keywordEach [] X.env)).all (fun x => x.1.isSome) && decide ((e :: es).length + ([] : List Keyword).length + (if ([] : List Keyword).isEmpty then 0 else 1) < 30)) = true := by rfl)
    (hline : (apos.endLine == cpos.line) = true := by rfl) (hs : starEach (e :: es) X.env = (false, eval e X.env) :: starEach es X.env := by rfl) (hplain : (backTo cpos (starEach es X.env)).any (·.1) = false := by rfl) :
    PE X (.Call (.Attribute o name apos) (e :: es) [] cpos) (tBM K T r to t) := by
  subst hK
  exact pe_bm pa slot hty hm ho ha hbase hfew hline hs hplain
end Ly

/-! ### the least of a list of rows of whole numbers -/
namespace Ly
open PySem PySem.Spec PyProof.Rows L2
theorem minD_low {c : PyData → Int} : ∀ (xs : List PyData) (x : PyData), (∀ d ∈ x :: xs, ∀ e ∈ x :: xs, PySem.W.dataLt d e = decide (c d < c e)) →
    PySem.W.minD x xs ∈ x :: xs ∧ ∀ d ∈ x :: xs, c (PySem.W.minD x xs) ≤ c d
  | [], x, _ => ⟨List.mem_cons_self, fun d hd => by rw [List.mem_singleton.mp hd]; exact Int.le_refl _⟩
  | y :: ys, x, h => by
    have e : PySem.W.minD x (y :: ys) = PySem.W.minD (if PySem.W.dataLt y x = true then y else x) ys := rfl
    have hz : (if PySem.W.dataLt y x = true then y else x) ∈ x :: y :: ys := by
      split
      · exact List.mem_cons_of_mem _ List.mem_cons_self
      · exact List.mem_cons_self
    have sub : ∀ d ∈ (if PySem.W.dataLt y x = true then y else x) :: ys, d ∈ x :: y :: ys := fun d hd => by
      rcases List.mem_cons.mp hd with g | g
      · rw [g]
        exact hz
      · exact List.mem_cons_of_mem _ (List.mem_cons_of_mem _ g)
    have lo : c (if PySem.W.dataLt y x = true then y else x) ≤ c x ∧ c (if PySem.W.dataLt y x = true then y else x) ≤ c y := by
      have t := h y (List.mem_cons_of_mem _ List.mem_cons_self) x List.mem_cons_self
      by_cases g : c y < c x
      · rw [decide_eq_true g] at t
        rw [if_pos t]
        omega
      · rw [decide_eq_false g] at t
        rw [if_neg (by rw [t]; exact Bool.false_ne_true)]
        omega
    obtain ⟨p, q⟩ := minD_low ys (if PySem.W.dataLt y x = true then y else x) fun d hd f hf => h d (sub d hd) f (sub f hf)
    rw [e]
    have q0 := q _ List.mem_cons_self
    refine ⟨sub _ p, fun d hd => ?_⟩
    rcases List.mem_cons.mp hd with g | g
    · rw [g]
      omega
    · rcases List.mem_cons.mp g with g | g
      · rw [g]
        omega
      · exact q d (List.mem_cons_of_mem _ g)
theorem readsAll_get {h : Heap} : ∀ {vs : List Value} {ds : List PyData} {as : List Addr}, ReadsAll h vs ds as → ∀ (i : Nat) (v : Value), vs[i]? = some v → ∃ d bs, ds[i]? = some d ∧ Reads h v d bs
  | _, _, _, .nil, _, _, z => by simp at z
  | _, _, _, .cons r _, 0, v, z => by
    cases (show some _ = some v from z)
    exact ⟨_, _, rfl, r⟩
  | _, _, _, .cons _ r, i + 1, v, z => by
    obtain ⟨d, bs, e, g⟩ := readsAll_get r i v (by simpa using z)
    exact ⟨d, bs, by simpa using e, g⟩
def rMinD (K : PySem.W.Frag) : List V → Hp → VK → Prop := fun vs H Q => ∃ (a : Addr) (xs : List V) (ds : List PyData) (c : PyData → Int), vs = [V.ref a] ∧ SqL K H a xs ∧ xs ≠ [] ∧ DpAll K H xs ds ∧ PySem.W.AlikeAll ds ∧ PyData.depthAll ds ≤ 9 ∧
  (∀ d ∈ ds, ∀ e ∈ ds, PySem.W.dataLt d e = decide (c d < c e)) ∧ ∀ (i : Nat) (x : V) (d : PyData), xs[i]? = some x → ds[i]? = some d → (∀ e ∈ ds, c d ≤ c e) → Q x H
theorem kz_minD {X : Cx} {K : PySem.W.Frag} (hu : X.A.units + 64 < cLine) (hc : X.calm = true) (hK : X.K = K := by rfl) : CallR X (.builtin "min") (rMinD K) := by
  subst hK
  intro pins s σ H vs us Q I r h
  obtain ⟨a, xs, ds, c, rfl, hs, hne, hd, al, dp, hlt, q⟩ := h
  obtain ⟨its, rv, hl, _⟩ := I.list hs
  rw [Vals.ref1 r]
  obtain ⟨as, hr⟩ := Dp.readsAll I ds _ _ hd rv
  cases hd with
  | nil => exact absurd rfl hne
  | @cons x0 xs0 d0 ds0 h0 h1 =>
  obtain ⟨p, lo⟩ := minD_low (c := c) ds0 d0 hlt
  refine PySem.W.min_list_data (I.ok.hd hc) hl.isList (x := d0) (xs := ds0) (as := as) hr al (by omega) fun i v h' tk bs hv rd hk => ?_
  have hv' : its[i]? = some v := by simpa using hv
  obtain ⟨d, bs', hdi, rdi⟩ := readsAll_get hr i v hv'
  have e : d = PySem.W.minD d0 ds0 := (reads_det (fun b o _ _ => by assumption) rd (Reads.keeps hk rdi)).1
  have li : i < its.length := (List.getElem?_eq_some_iff.mp hv').1
  have li2 : i < (x0 :: xs0).length := by rw [rv.length]; exact li
  obtain ⟨u, hu2, rel⟩ := rv.get (List.getElem?_eq_getElem li2)
  rw [hv'] at hu2
  cases hu2
  exact ⟨_, H, I.kept hk, rel, q i _ d (List.getElem?_eq_getElem li2) hdi fun f hf => by rw [e]; exact lo f hf⟩
/-! ### exchanges of two places -/
def swp (row : List Int) (i j : Nat) : List Int := (row.set i (row.getD j 0)).set j (row.getD i 0)
theorem swp_len (row : List Int) (i j : Nat) : (swp row i j).length = row.length := by rw [swp, List.length_set, List.length_set]
theorem swp_ok {h : Int} {row : List Int} (ok : RowOk h row) {i j : Nat} (hi : i < row.length) (hj : j < row.length) : RowOk h (swp row i j) := by
  obtain ⟨a, b, c, d, e⟩ := ok
  have g : ∀ k : Nat, k < row.length → 0 ≤ row.getD k 0 ∧ row.getD k 0 < h := fun k hk => by
    rw [List.getD_eq_getElem?_getD, List.getElem?_eq_getElem hk]
    exact e _ (List.getElem_mem hk)
  refine ⟨a, b, fun z => ?_, by rw [swp_len]; exact d, fun z hz => ?_⟩
  · have := congrArg List.length z
    rw [swp_len, List.length_nil] at this
    omega
  · rcases List.mem_or_eq_of_mem_set hz with y | y
    · rcases List.mem_or_eq_of_mem_set y with x | x
      · exact e z x
      · rw [x]
        exact g j hj
    · rw [y]
      exact g i hi
def cd (t : Int × Nat × Nat) : Int := t.1 * 4096 + (t.2.1 : Int) * 64 + (t.2.2 : Int)
/-- an exchange of unlike hands behind which there is a greatest lead: that, and both places -/
def Cand (m : Nat) (row : List Int) (k : Nat) (t : Int × Nat × Nat) : Prop := t.2.1 < t.2.2 ∧ t.2.2 < row.length ∧ row.getD t.2.1 0 ≠ row.getD t.2.2 0 ∧ REv (m : Int) (swp row t.2.1 t.2.2) k ∧ GrtIs (m : Int) (swp row t.2.1 t.2.2) k t.1
def Low (m : Nat) (row : List Int) (k : Nat) (t : Int × Nat × Nat) : Prop := Cand m row k t ∧ ∀ M, REv (m : Int) row k → GrtIs (m : Int) row k M → t.1 < M
def Best (m : Nat) (row : List Int) (k : Nat) (t : Int × Nat × Nat) : Prop := Low m row k t ∧ ∀ s, Low m row k s → cd t ≤ cd s
theorem cd_one {s t : Int × Nat × Nat} (h1 : s.2.1 < 64) (h2 : s.2.2 < 64) (h3 : t.2.1 < 64) (h4 : t.2.2 < 64) (e : cd s = cd t) : s = t := by
  obtain ⟨a, b, c⟩ := s
  obtain ⟨d, f, g⟩ := t
  simp only [cd] at h1 h2 h3 h4 e
  have e1 : a = d := by omega
  have e2 : b = f := by omega
  have e3 : c = g := by omega
  rw [e1, e2, e3]
theorem Best.one {m k : Nat} {row : List Int} {s t : Int × Nat × Nat} (l : row.length ≤ 64) (h : Best m row k s) (g : Best m row k t) : s = t := by
  have h1 := h.1.1
  have g1 := g.1.1
  unfold Cand at h1 g1
  exact cd_one (by omega) (by omega) (by omega) (by omega) (by have := h.2 _ g.1; have := g.2 _ h.1; omega)
theorem cd_lead {s t : Int × Nat × Nat} (h3 : t.2.1 < 64) (h4 : t.2.2 < 64) (e : cd s ≤ cd t) : s.1 ≤ t.1 := by
  obtain ⟨a, b, c⟩ := s
  obtain ⟨d, f, g⟩ := t
  simp only [cd] at h3 h4 e
  show a ≤ d
  omega
/-- the least of all is the best one, or none is -/
theorem best_of {m k : Nat} {row : List Int} {t : Int × Nat × Nat} (l : row.length ≤ 64) (h : Cand m row k t) (lo : ∀ s, Cand m row k s → cd t ≤ cd s) (b : ∀ M, REv (m : Int) row k → GrtIs (m : Int) row k M → t.1 < M) : Best m row k t := ⟨⟨h, b⟩, fun s hs => lo s hs.1⟩
theorem no_low {m k : Nat} {row : List Int} {t : Int × Nat × Nat} {M : Int} (l : row.length ≤ 64) (lo : ∀ s, Cand m row k s → cd t ≤ cd s) (r : REv (m : Int) row k) (g : GrtIs (m : Int) row k M) (b : M ≤ t.1) : ∀ s, ¬ Low m row k s := fun s hs => by
  have h1 := hs.1
  have h2 := cd_lead (s := t) (t := s) (by unfold Cand at h1; omega) (by unfold Cand at h1; omega) (lo s h1)
  have h3 := hs.2 M r g
  omega
/-! ### lists of three numbers -/
def triV (t : Int × Nat × Nat) : List V := [.int t.1, .int (t.2.1 : Int), .int (t.2.2 : Int)]
def Trs (H : Hp) (rs : List V) (ts : List (Int × Nat × Nat)) : Prop := rs.length = ts.length ∧ ∀ (i : Nat) t, ts[i]? = some t → ∃ u, rs[i]? = some (.ref u) ∧ H u = some (.tup (triV t))
theorem Trs.nil (H : Hp) : Trs H [] [] := ⟨rfl, fun i t h => by simp at h⟩
theorem Trs.keep {H H' : Hp} {rs : List V} {ts : List (Int × Nat × Nat)} (h : Trs H rs ts) (k : ∀ u xs, H u = some (.tup xs) → H' u = some (.tup xs)) : Trs H' rs ts := ⟨h.1, fun i t e => by
  obtain ⟨u, a, b⟩ := h.2 i t e
  exact ⟨u, a, k _ _ b⟩⟩
theorem Trs.next {H : Hp} {rs : List V} {ts : List (Int × Nat × Nat)} {u : Addr} {t : Int × Nat × Nat} (h : Trs H rs ts) (g : H u = some (.tup (triV t))) : Trs H (rs ++ [.ref u]) (ts ++ [t]) := by
  refine ⟨by rw [List.length_append, List.length_append, h.1]; rfl, fun i s e => ?_⟩
  by_cases c : i < ts.length
  · rw [List.getElem?_append_left c] at e
    obtain ⟨v, a, b⟩ := h.2 i s e
    exact ⟨v, by rw [List.getElem?_append_left (by rw [h.1]; exact c)]; exact a, b⟩
  · rw [List.getElem?_append_right (by omega)] at e
    have z : i - ts.length = 0 := by
      have := (List.getElem?_eq_some_iff.mp e).1
      rw [List.length_singleton] at this
      omega
    rw [z] at e
    cases (show some t = some s from e)
    exact ⟨u, by rw [List.getElem?_append_right (by rw [h.1]; omega), h.1, z]; rfl, g⟩
def dat (t : Int × Nat × Nat) : PyData := .tuple ([t.1, (t.2.1 : Int), (t.2.2 : Int)].map .int)
def cdP : PyData → Int
  | .tuple [.int a, .int b, .int c] => a * 4096 + b * 64 + c
  | _ => 0
theorem dat_lt {s t : Int × Nat × Nat} (h1 : s.2.1 < 64) (h2 : s.2.2 < 64) (h3 : t.2.1 < 64) (h4 : t.2.2 < 64) : PySem.W.dataLt (dat s) (dat t) = decide (cdP (dat s) < cdP (dat t)) := by
  obtain ⟨a, b, c⟩ := s
  obtain ⟨d, f, g⟩ := t
  have e : PySem.W.dataLt (dat (a, b, c)) (dat (d, f, g)) = decide ([a, (b : Int), (c : Int)] < [d, (f : Int), (g : Int)]) := (PySem.W.dataLt_tuple _ _).trans (PySem.W.dataLt_ints [a, (b : Int), (c : Int)] [d, (f : Int), (g : Int)])
  rw [e]
  refine decide_eq_decide.mpr ?_
  show _ ↔ a * 4096 + (b : Int) * 64 + (c : Int) < d * 4096 + (f : Int) * 64 + (g : Int)
  simp only [List.cons_lt_cons_iff, List.not_lt_nil, and_false, or_false] at h1 h2 h3 h4 ⊢
  omega
theorem trs_dp {K : PySem.W.Frag} {H : Hp} : ∀ {ts : List (Int × Nat × Nat)} {rs : List V}, Trs H rs ts → DpAll K H rs (ts.map dat)
  | [], [], _ => .nil
  | [], x :: rs, h => by
    have := h.1
    simp at this
  | t :: ts, [], h => by
    have := h.1
    simp at this
  | t :: ts, x :: rs, h => by
    obtain ⟨u, e, g⟩ := h.2 0 t rfl
    cases (show some x = some (.ref u) from e)
    refine .cons (.tup (.inl (.inl g)) (.cons (.int _) (.cons (.int _) (.cons (.int _) .nil)))) (trs_dp ⟨?_, fun i s z => ?_⟩)
    · have := h.1
      simpa using this
    · obtain ⟨v, p, q⟩ := h.2 (i + 1) s (by simpa using z)
      exact ⟨v, by simpa using p, q⟩
theorem dat_depth : ∀ ts : List (Int × Nat × Nat), PyData.depthAll (ts.map dat) ≤ 9
  | [] => by decide
  | t :: ts => Nat.max_le.mpr ⟨by simp [dat, PyData.depth, PyData.depthAll], dat_depth ts⟩
theorem min_trs {K : PySem.W.Frag} {H : Hp} {D : Addr} {rs : List V} {ts : List (Int × Nat × Nat)} {Q : VK} (hD : H D = some (.lst rs)) (h : Trs H rs ts) (hne : ts ≠ []) (hb : ∀ t ∈ ts, t.2.1 < 64 ∧ t.2.2 < 64)
    (q : ∀ t u, t ∈ ts → (∀ s ∈ ts, cd t ≤ cd s) → H u = some (.tup (triV t)) → Q (.ref u) H) : rMinD K [.ref D] H Q := by
  refine ⟨D, rs, ts.map dat, cdP, rfl, .inl (.inl hD), fun z => hne (List.length_eq_zero_iff.mp (by rw [← h.1, z]; rfl)), trs_dp h, ⟨?_, ?_⟩, dat_depth ts, ?_, ?_⟩
  · intro x hx y hy
    obtain ⟨s, _, rfl⟩ := List.mem_map.mp hx
    obtain ⟨t, _, rfl⟩ := List.mem_map.mp hy
    simp [dat, PySem.W.alike, PySem.W.alikeAll]
  · intro x hx
    obtain ⟨s, _, rfl⟩ := List.mem_map.mp hx
    exact fun z => PyData.noConfusion z
  · intro x hx y hy
    obtain ⟨s, hs, rfl⟩ := List.mem_map.mp hx
    obtain ⟨t, ht, rfl⟩ := List.mem_map.mp hy
    exact dat_lt (hb s hs).1 (hb s hs).2 (hb t ht).1 (hb t ht).2
  · intro i x d hx hd lo
    rw [List.getElem?_map] at hd
    cases e : ts[i]? with
    | none =>
      rw [e] at hd
      cases hd
    | some t =>
      rw [e] at hd
      cases (show some (dat t) = some d from hd)
      obtain ⟨u, p, g⟩ := h.2 i t e
      rw [p] at hx
      cases hx
      refine q t u (List.mem_of_getElem? e) (fun s hs => ?_) g
      exact lo _ (List.mem_map.mpr ⟨s, hs, rfl⟩)
/-! ### how great a lead can be -/
theorem sumTo_box {n : Nat} {f : Nat → Int} {B : Nat} (h : ∀ i, i < n → -(B : Int) ≤ f i ∧ f i ≤ (B : Int)) : -((n * B : Nat) : Int) ≤ sumTo n f ∧ sumTo n f ≤ ((n * B : Nat) : Int) := by
  induction n with
  | zero => exact ⟨by simp [sumTo], by simp [sumTo]⟩
  | succ n ih =>
    have a := ih fun i hi => h i (by omega)
    have b := h n (Nat.lt_succ_self n)
    rw [Nat.succ_mul]
    show -((n * B + B : Nat) : Int) ≤ sumTo n f + f n ∧ sumTo n f + f n ≤ ((n * B + B : Nat) : Int)
    generalize n * B = c at a ⊢
    omega
theorem sn_box {n : Nat} {s : Nat → Int} (h : ∀ i, i < n → -1 ≤ s i ∧ s i ≤ 1) : ∀ k i : Nat, i < n → -((n ^ k : Nat) : Int) ≤ SN k s i ∧ SN k s i ≤ ((n ^ k : Nat) : Int)
  | 0, i, hi => h i hi
  | k + 1, i, hi => by
    have a := sumTo_box (n := i + 1) (f := SN k s) (B := n ^ k) fun j hj => sn_box h k j (by omega)
    have b : (i + 1) * n ^ k ≤ n ^ (k + 1) := by
      rw [Nat.pow_succ, Nat.mul_comm (n ^ k)]
      exact Nat.mul_le_mul_right _ hi
    show -((n ^ (k + 1) : Nat) : Int) ≤ sumTo (i + 1) (SN k s) ∧ sumTo (i + 1) (SN k s) ≤ ((n ^ (k + 1) : Nat) : Int)
    generalize (i + 1) * n ^ k = c at a b
    generalize n ^ (k + 1) = d at b ⊢
    omega
theorem amt_box {n k : Nat} {s : Nat → Int} (h : ∀ i, i < n → -1 ≤ s i ∧ s i ≤ 1) : 0 ≤ Amt n k s ∧ Amt n k s ≤ ((n * n ^ k : Nat) : Int) := by
  refine ⟨?_, (sumTo_box (n := n) (f := fun i => absI (SN k s i)) (B := n ^ k) fun i hi => ?_).2⟩
  · have z := sumTo_le (n := n) (f := fun _ => 0) (g := fun i => absI (SN k s i)) fun i _ => absI_pos _
    rw [sumTo_zero fun _ _ => rfl] at z
    exact z
  · have b := sn_box h k i hi
    exact ⟨by have := absI_pos (SN k s i); show -((n ^ k : Nat) : Int) ≤ absI (SN k s i); omega, absI_le b.1 b.2⟩
theorem grt_box {m k : Nat} {row : List Int} {M : Int} (hl : row.length ≤ 16) (hk : k ≤ 3) (g : GrtIs (m : Int) row k M) : 0 ≤ M ∧ M ≤ 65536 := by
  obtain ⟨a, b, _, _, rfl⟩ := g.2
  have z := amt_box (n := row.length) (k := k) (s := sg row a b) fun i _ => by
    have := signOf_small (row.getD i 0) a b
    show -1 ≤ signOf (row.getD i 0) a b ∧ signOf (row.getD i 0) a b ≤ 1
    omega
  have y : row.length * row.length ^ k ≤ 16 * 16 ^ 3 := Nat.mul_le_mul hl (Nat.le_trans (Nat.pow_le_pow_left hl k) (Nat.pow_le_pow_right (by decide) hk))
  generalize row.length * row.length ^ k = c at z y
  omega
/-! ### exchanges one behind the other -/
def exs (row : List Int) (ts : List (Int × Nat × Nat)) : List Int := ts.foldl (fun r t => swp r t.2.1 t.2.2) row
theorem exs_snoc (row : List Int) (ts : List (Int × Nat × Nat)) (t : Int × Nat × Nat) : exs row (ts ++ [t]) = swp (exs row ts) t.2.1 t.2.2 := by
  unfold exs
  rw [List.foldl_append]
  rfl
def Chain (m k : Nat) (row : List Int) (ts : List (Int × Nat × Nat)) : Prop := ∀ i t, ts[i]? = some t → Best m (exs row (ts.take i)) k t
theorem Chain.nil (m k : Nat) (row : List Int) : Chain m k row [] := fun i t h => by simp at h
theorem Chain.snoc {m k : Nat} {row : List Int} {ts : List (Int × Nat × Nat)} {t : Int × Nat × Nat} (h : Chain m k row ts) (b : Best m (exs row ts) k t) : Chain m k row (ts ++ [t]) := fun i s e => by
  by_cases c : i < ts.length
  · rw [List.getElem?_append_left c] at e
    rw [List.take_append_of_le_length (by omega)]
    exact h i s e
  · rw [List.getElem?_append_right (by omega)] at e
    have z : i - ts.length = 0 := by
      have := (List.getElem?_eq_some_iff.mp e).1
      rw [List.length_singleton] at this
      omega
    rw [z] at e
    cases (show some t = some s from e)
    rw [show i = ts.length by omega, List.take_left]
    exact b
def mndV (t : Int × Nat × Nat) : List V := [.int (t.2.1 : Int), .int (t.2.2 : Int), .int t.1]
def Mds (H : Hp) (rs : List V) (ts : List (Int × Nat × Nat)) : Prop := rs.length = ts.length ∧ ∀ (i : Nat) t, ts[i]? = some t → ∃ u, rs[i]? = some (.ref u) ∧ H u = some (.tup (mndV t))
theorem Mds.nil (H : Hp) : Mds H [] [] := ⟨rfl, fun i t h => by simp at h⟩
theorem Mds.keep {H H' : Hp} {rs : List V} {ts : List (Int × Nat × Nat)} (h : Mds H rs ts) (k : ∀ u xs, H u = some (.tup xs) → H' u = some (.tup xs)) : Mds H' rs ts := ⟨h.1, fun i t e => by
  obtain ⟨u, a, b⟩ := h.2 i t e
  exact ⟨u, a, k _ _ b⟩⟩
theorem Mds.next {H : Hp} {rs : List V} {ts : List (Int × Nat × Nat)} {u : Addr} {t : Int × Nat × Nat} (h : Mds H rs ts) (g : H u = some (.tup (mndV t))) : Mds H (rs ++ [.ref u]) (ts ++ [t]) := by
  refine ⟨by rw [List.length_append, List.length_append, h.1]; rfl, fun i s e => ?_⟩
  by_cases c : i < ts.length
  · rw [List.getElem?_append_left c] at e
    obtain ⟨v, a, b⟩ := h.2 i s e
    exact ⟨v, by rw [List.getElem?_append_left (by rw [h.1]; exact c)]; exact a, b⟩
  · rw [List.getElem?_append_right (by omega)] at e
    have z : i - ts.length = 0 := by
      have := (List.getElem?_eq_some_iff.mp e).1
      rw [List.length_singleton] at this
      omega
    rw [z] at e
    cases (show some t = some s from e)
    exact ⟨u, by rw [List.getElem?_append_right (by rw [h.1]; omega), h.1, z]; rfl, g⟩
theorem dat_flat {ts : List (Int × Nat × Nat)} : ∀ d ∈ ts.map dat, Flat d := fun d hd => by
  obtain ⟨t, _, rfl⟩ := List.mem_map.mp hd
  exact ⟨_, .inr rfl⟩
theorem trs_ne {K : PySem.W.Frag} {H : Hp} {D b : Addr} {rs : List V} {ts : List (Int × Nat × Nat)} {Q : VK} (hD : SqL K H D rs) (h : Trs H rs ts) (hb : H b = some (.lst [])) (q : Q (.bl (!decide (ts = []))) H) : rNeD K (.ref D) (.ref b) H Q := by
  refine ⟨_, _, .lst hD (trs_dp h), .lst (.inl (.inl hb)) .nil, shaped_flat dat_flat, shaped_nil, ?_⟩
  rw [eqv_nil]
  have e : decide (ts.map dat = []) = decide (ts = []) := decide_eq_decide.mpr List.map_eq_nil_iff
  rw [e]
  exact q
theorem ne_nn {K : PySem.W.Frag} {H : Hp} {Q : VK} (q : Q (.bl false) H) : rNeD K .non .non H Q := ⟨_, _, .non, .non, by decide, by decide, q⟩
theorem mnd_ne {K : PySem.W.Frag} {H : Hp} {a b : Addr} {t : Int × Nat × Nat} {Q : VK} (h1 : H a = some (.tup (mndV t))) (h2 : H b = some (.tup (mndV t))) (q : Q (.bl false) H) : rNeD K (.ref a) (.ref b) H Q := by
  have e : mndV t = [(t.2.1 : Int), (t.2.2 : Int), t.1].map V.int := rfl
  rw [e] at h1 h2
  refine neT (.inl (.inl h1)) (.inl (.inl h2)) ?_
  rw [decide_eq_true rfl]
  exact q
end Ly

/-! ### rows in which all hands have as many turns -/
namespace Ly
open PySem PySem.Spec PyProof.Rows L2
def more1 (share : Nat) (row : List Int) (j : Nat) : List (List Int) := ((nums j).filter fun h => decide (row.count h < share)).map fun h => row ++ [h]
def grow (m share : Nat) (rows : List (List Int)) : List (List Int) := rows.flatMap fun row => more1 share row m
def balN (m share : Nat) : Nat → List (List Int)
  | 0 => [[]]
  | n + 1 => grow m share (balN m share n)
def bal (m n : Nat) : List (List Int) := if n / m * m = n then balN m (n / m) n else []
theorem more1_len (share : Nat) (row : List Int) (j : Nat) : (more1 share row j).length ≤ j := by
  unfold more1
  rw [List.length_map]
  exact Nat.le_trans (List.length_filter_le _ _) (Nat.le_of_eq (nums_len j))
theorem more1_next (share : Nat) (row : List Int) (j : Nat) : more1 share row (j + 1) = more1 share row j ++ if row.count (j : Int) < share then [row ++ [(j : Int)]] else [] := by
  unfold more1 nums
  rw [List.range_succ, List.map_append, List.filter_append, List.map_append]
  congr 1
  by_cases c : row.count (j : Int) < share
  · rw [if_pos c]
    simp [c]
  · rw [if_neg c]
    simp [c]
theorem grow_len (m share : Nat) : ∀ rows : List (List Int), (grow m share rows).length ≤ rows.length * m
  | [] => Nat.zero_le _
  | r :: rs => by
    have e : grow m share (r :: rs) = more1 share r m ++ grow m share rs := rfl
    rw [e, List.length_append, List.length_cons, Nat.succ_mul]
    have := more1_len share r m
    have := grow_len m share rs
    omega
theorem grow_take {m share : Nat} {rows : List (List Int)} {i : Nat} {row : List Int} (h : rows[i]? = some row) : grow m share (rows.take (i + 1)) = grow m share (rows.take i) ++ more1 share row m := by
  unfold grow
  rw [List.take_add_one, h, List.flatMap_append]
  simp
theorem balN_len (m share : Nat) : ∀ n : Nat, (balN m share n).length ≤ m ^ n
  | 0 => Nat.le_refl 1
  | n + 1 => by
    rw [Nat.pow_succ]
    exact Nat.le_trans (grow_len m share _) (Nat.mul_le_mul_right _ (balN_len m share n))
theorem bal_len (m n : Nat) : (bal m n).length ≤ m ^ n := by
  unfold bal
  split
  · exact balN_len _ _ _
  · exact Nat.zero_le _
theorem balN_mem {m share : Nat} : ∀ {n : Nat} {row : List Int}, row ∈ balN m share n ↔ row.length = n ∧ (∀ z ∈ row, 0 ≤ z ∧ z < (m : Int)) ∧ ∀ z, row.count z ≤ share
  | 0, row => by
    constructor
    · intro h
      have e : row = [] := List.mem_singleton.mp h
      subst e
      exact ⟨rfl, fun _ h => (nomatch h), fun _ => Nat.zero_le _⟩
    · rintro ⟨h, _⟩
      rw [List.length_eq_zero_iff.mp h]
      exact List.mem_singleton.mpr rfl
  | n + 1, row => by
    constructor
    · intro h
      obtain ⟨r, hr, h2⟩ := List.mem_flatMap.mp (show row ∈ (balN m share n).flatMap _ from h)
      obtain ⟨z, hz, rfl⟩ := List.mem_map.mp h2
      obtain ⟨zm, zc⟩ := List.mem_filter.mp hz
      have zc' := of_decide_eq_true zc
      have zb := nums_mem.mp zm
      obtain ⟨l, b, c⟩ := balN_mem.mp hr
      refine ⟨by rw [List.length_append, l]; rfl, fun y hy => ?_, fun y => ?_⟩
      · rcases List.mem_append.mp hy with g | g
        · exact b y g
        · rw [List.mem_singleton.mp g]
          exact zb
      · rw [List.count_append, List.count_singleton]
        by_cases e : z = y
        · rw [← e]
          simp
          omega
        · have := c y
          simp [e]
          omega
    · rintro ⟨l, b, c⟩
      have ne : row ≠ [] := fun e => by rw [e] at l; cases l
      have e := List.dropLast_concat_getLast ne
      have cn : ∀ y, row.dropLast.count y + [row.getLast ne].count y ≤ share := fun y => by
        rw [← List.count_append, e]
        exact c y
      refine List.mem_flatMap.mpr ⟨row.dropLast, balN_mem.mpr ⟨by rw [List.length_dropLast, l]; rfl, fun z hz => b z (by rw [← e]; exact List.mem_append.mpr (.inl hz)), fun y => by have := cn y; omega⟩, List.mem_map.mpr ⟨row.getLast ne, List.mem_filter.mpr ⟨nums_mem.mpr (b _ (List.getLast_mem ne)), ?_⟩, e⟩⟩
      have := cn (row.getLast ne)
      rw [List.count_singleton] at this
      simp at this
      exact decide_eq_true (by omega)
def Rws (H : Hp) (rs : List V) (rows : List (List Int)) : Prop := rs.length = rows.length ∧ ∀ (i : Nat) row, rows[i]? = some row → ∃ u, rs[i]? = some (.ref u) ∧ FzT H u (row.map V.int)
theorem Rws.nil (H : Hp) : Rws H [] [] := ⟨rfl, fun i t h => by simp at h⟩
theorem Rws.keep {H H' : Hp} {rs : List V} {ts : List (List Int)} (h : Rws H rs ts) (k : ∀ u xs, FzT H u xs → FzT H' u xs) : Rws H' rs ts := ⟨h.1, fun i t e => by
  obtain ⟨u, a, b⟩ := h.2 i t e
  exact ⟨u, a, k _ _ b⟩⟩
theorem Rws.next {H : Hp} {rs : List V} {ts : List (List Int)} {u : Addr} {t : List Int} (h : Rws H rs ts) (g : FzT H u (t.map V.int)) : Rws H (rs ++ [.ref u]) (ts ++ [t]) := by
  refine ⟨by rw [List.length_append, List.length_append, h.1]; rfl, fun i s e => ?_⟩
  by_cases c : i < ts.length
  · rw [List.getElem?_append_left c] at e
    obtain ⟨v, a, b⟩ := h.2 i s e
    exact ⟨v, by rw [List.getElem?_append_left (by rw [h.1]; exact c)]; exact a, b⟩
  · rw [List.getElem?_append_right (by omega)] at e
    have z : i - ts.length = 0 := by
      have := (List.getElem?_eq_some_iff.mp e).1
      rw [List.length_singleton] at this
      omega
    rw [z] at e
    cases (show some t = some s from e)
    exact ⟨u, by rw [List.getElem?_append_right (by rw [h.1]; omega), h.1, z]; rfl, g⟩
theorem fzT_upd {D u : Addr} {H : Hp} {o : HO} {xs ys : List V} (hD : H D = some (.lst ys)) (h : FzT H u xs) : FzT (upd H D o) u xs := by
  obtain ⟨b, p, e⟩ := h
  exact ⟨b, p, by rw [upd_ne (fun z => by rw [z, hD] at e; cases e)]; exact e⟩
end Ly
namespace Ly
open PySem PySem.Spec PyProof.Rows L2
open Classical in
noncomputable def evens (m n d : Nat) : List (List Int) := (bal m n).filter fun row => decide (REv (m : Int) row (d + 1))
theorem bal_mem {m n : Nat} {row : List Int} (h : row ∈ bal m n) : n / m * m = n ∧ row.length = n ∧ (∀ z ∈ row, 0 ≤ z ∧ z < (m : Int)) ∧ ∀ z, row.count z ≤ n / m := by
  unfold bal at h
  split at h
  · next c => exact ⟨c, balN_mem.mp h⟩
  · cases h
open Classical in
theorem evens_mem {m n d : Nat} {row : List Int} (h : row ∈ evens m n d) : row ∈ bal m n ∧ REv (m : Int) row (d + 1) := by
  obtain ⟨a, b⟩ := List.mem_filter.mp h
  exact ⟨a, of_decide_eq_true b⟩
end Ly
namespace Ly
def unl (A B : List Int) : Nat := ((A.zip B).filter fun p => decide (p.1 ≠ p.2)).length
end Ly
/-! ### all rows -/
namespace Ly
open PySem PySem.Spec PyProof.Rows L2
def ends (row : List Int) (j : Nat) : List (List Int) := (nums j).map fun h => row ++ [h]
def grwA (m : Nat) (rows : List (List Int)) : List (List Int) := rows.flatMap fun row => ends row m
def allN (m : Nat) : Nat → List (List Int)
  | 0 => [[]]
  | n + 1 => grwA m (allN m n)
theorem ends_len (row : List Int) (j : Nat) : (ends row j).length = j := by rw [ends, List.length_map, nums_len]
theorem ends_next (row : List Int) (j : Nat) : ends row (j + 1) = ends row j ++ [row ++ [(j : Int)]] := by
  unfold ends nums
  rw [List.range_succ, List.map_append, List.map_append]
  rfl
theorem grwA_len (m : Nat) : ∀ rows : List (List Int), (grwA m rows).length = rows.length * m
  | [] => by rw [List.length_nil, Nat.zero_mul]; rfl
  | r :: rs => by
    have e : grwA m (r :: rs) = ends r m ++ grwA m rs := rfl
    rw [e, List.length_append, List.length_cons, Nat.succ_mul, ends_len, grwA_len m rs, Nat.add_comm]
theorem grwA_take {m : Nat} {rows : List (List Int)} {i : Nat} {row : List Int} (h : rows[i]? = some row) : grwA m (rows.take (i + 1)) = grwA m (rows.take i) ++ ends row m := by
  unfold grwA
  rw [List.take_add_one, h, List.flatMap_append]
  simp
theorem allN_len (m : Nat) : ∀ n : Nat, (allN m n).length = m ^ n
  | 0 => rfl
  | n + 1 => by
    rw [Nat.pow_succ, ← allN_len m n]
    exact grwA_len m _
theorem allN_mem {m : Nat} : ∀ {n : Nat} {row : List Int}, row ∈ allN m n ↔ row.length = n ∧ ∀ z ∈ row, 0 ≤ z ∧ z < (m : Int)
  | 0, row => by
    constructor
    · intro h
      have e : row = [] := List.mem_singleton.mp h
      subst e
      exact ⟨rfl, fun _ h => (nomatch h)⟩
    · rintro ⟨h, _⟩
      rw [List.length_eq_zero_iff.mp h]
      exact List.mem_singleton.mpr rfl
  | n + 1, row => by
    constructor
    · intro h
      obtain ⟨r, hr, h2⟩ := List.mem_flatMap.mp (show row ∈ (allN m n).flatMap _ from h)
      obtain ⟨z, zm, rfl⟩ := List.mem_map.mp h2
      have zb := nums_mem.mp zm
      obtain ⟨l, b⟩ := allN_mem.mp hr
      refine ⟨by rw [List.length_append, l]; rfl, fun y hy => ?_⟩
      rcases List.mem_append.mp hy with g | g
      · exact b y g
      · rw [List.mem_singleton.mp g]
        exact zb
    · rintro ⟨l, b⟩
      have ne : row ≠ [] := fun e => by rw [e] at l; cases l
      have e := List.dropLast_concat_getLast ne
      exact List.mem_flatMap.mpr ⟨row.dropLast, allN_mem.mpr ⟨by rw [List.length_dropLast, l]; rfl, fun z hz => b z (by rw [← e]; exact List.mem_append.mpr (.inl hz))⟩, List.mem_map.mpr ⟨row.getLast ne, nums_mem.mpr (b _ (List.getLast_mem ne)), e⟩⟩
def RwK (K : PySem.W.Frag) (H : Hp) (rs : List V) (rows : List (List Int)) : Prop := rs.length = rows.length ∧ ∀ (i : Nat) row, rows[i]? = some row → ∃ u, rs[i]? = some (.ref u) ∧ SqT K H u (row.map V.int)
theorem RwK.nil (K : PySem.W.Frag) (H : Hp) : RwK K H [] [] := ⟨rfl, fun i t h => by simp at h⟩
theorem RwK.keep {K : PySem.W.Frag} {H H' : Hp} {rs : List V} {ts : List (List Int)} (h : RwK K H rs ts) (k : ∀ u xs, SqT K H u xs → SqT K H' u xs) : RwK K H' rs ts := ⟨h.1, fun i t e => by
  obtain ⟨u, a, b⟩ := h.2 i t e
  exact ⟨u, a, k _ _ b⟩⟩
theorem RwK.cat {K : PySem.W.Frag} {H : Hp} {rs qs : List V} {ts us : List (List Int)} (h : RwK K H rs ts) (g : RwK K H qs us) : RwK K H (rs ++ qs) (ts ++ us) := by
  refine ⟨by rw [List.length_append, List.length_append, h.1, g.1], fun i s e => ?_⟩
  by_cases c : i < ts.length
  · rw [List.getElem?_append_left c] at e
    obtain ⟨v, a, b⟩ := h.2 i s e
    exact ⟨v, by rw [List.getElem?_append_left (by rw [h.1]; exact c)]; exact a, b⟩
  · rw [List.getElem?_append_right (by omega)] at e
    obtain ⟨v, a, b⟩ := g.2 _ s e
    exact ⟨v, by rw [List.getElem?_append_right (by rw [h.1]; omega), h.1]; exact a, b⟩
theorem RwK.one {K : PySem.W.Frag} {H : Hp} {u : Addr} {t : List Int} (g : SqT K H u (t.map V.int)) : RwK K H [.ref u] [t] := ⟨rfl, fun i s e => by
  match i, e with
  | 0, e => cases e; exact ⟨u, rfl, g⟩
  | i + 1, e => simp at e⟩
end Ly

/-! ### d[k], of a dict of the top whose keys are whole numbers -/
namespace Ly
open PySem PySem.Spec PyProof.Rows L2
def KeysInt : List DictEntry → Prop
  | [] => True
  | e :: r => (∃ z t, e.key = .int z t ∧ e.hash = hashInt z) ∧ KeysInt r
theorem KeysInt.all : ∀ {l : List DictEntry}, KeysInt l → ∀ e ∈ l, ∃ z t, e.key = .int z t ∧ e.hash = hashInt z
  | _ :: _, ⟨h, _⟩, _, .head _ => h
  | _ :: _, ⟨_, r⟩, _, .tail _ m => r.all _ m
def KDcI (K : PySem.W.Frag) (a : Addr) (k : Int) (v : V) : Prop := ∃ es n u, K.lookup a = some ⟨.type "dict", none, .dict es n, #[]⟩ ∧ KeysInt es.toList ∧ findBy Value.isInt es k = some u ∧ RelV v u
def rIxI (K : PySem.W.Frag) : R2 := fun x y H Q => ∃ p z v, x = .ref p ∧ y = .int z ∧ KDcI K p z v ∧ Q v H
theorem kz_ixI {X : Cx} {K : PySem.W.Frag} (hK : X.K = K := by rfl) : IxR X (rIxI K) := by
  subst hK
  intro value slice pins s σ H x y v u Q I rx ry h hs
  obtain ⟨p, z, r, rfl, rfl, ⟨es, n, u0, hl, hk, e, ru⟩, q⟩ := h
  obtain rfl : v = Value.ref p := rx
  obtain ⟨t, rfl⟩ := ry
  have hm : s.heap.MapOf (PySem.intKind X.prog X.w) p (fun k => findBy Value.isInt es k) := ⟨_, es, n, I.kIn _ _ hl, ⟨rfl, rfl, rfl⟩, rfl, fun e he => by
    obtain ⟨x, t, e1, e2⟩ := hk.all e (Array.mem_toList_iff.mpr he)
    exact ⟨x, by rw [e1]; simp [PySem.intKind, Value.isInt], e2⟩, fun _ => rfl⟩
  exact tail_any hm.typeIs slot_dict_getitem.lookup (wpAny_getItem_of (knd := intKind X.prog X.w) (k := z) (by simp [PySem.intKind, Value.isInt]) hm e ⟨r, H, I.tok _, ru, q⟩) hs
def keyI (e : DictEntry) : Bool := match e.key with
  | .int z _ => decide (e.hash = hashInt z)
  | _ => false
theorem keysI_ok : ∀ {l : List DictEntry}, l.all keyI = true → KeysInt l
  | [], _ => trivial
  | e :: r, h => by
    rw [List.all_cons, Bool.and_eq_true] at h
    refine ⟨?_, keysI_ok h.2⟩
    have k := h.1
    unfold keyI at k
    split at k
    · next z t eq => exact ⟨z, t, eq, of_decide_eq_true k⟩
    · cases k
def valI (es : Array DictEntry) (q : Int × Int) : Bool := match findBy Value.isInt es q.1 with
  | some (.int v _) => decide (v = q.2)
  | _ => false
def esOf (o : Obj) : Option (Array DictEntry × Nat) := match o.data with
  | .dict es n => if decide (o.cls = .type "dict") && (o.dict.isNone && o.slots.isEmpty) then some (es, n) else none
  | _ => none
theorem esOf_ok {o : Obj} {es : Array DictEntry} {n : Nat} (h : esOf o = some (es, n)) : o = ⟨.type "dict", none, .dict es n, #[]⟩ := by
  obtain ⟨c, d, dt, sl⟩ := o
  unfold esOf at h
  split at h
  · next es' n' eq =>
    split at h
    · next g =>
      rw [Bool.and_eq_true, Bool.and_eq_true] at g
      cases h
      have g1 : c = .type "dict" := of_decide_eq_true g.1
      have g2 : d = none := Option.isNone_iff_eq_none.mp g.2.1
      have g3 : sl = #[] := Array.isEmpty_iff.mp g.2.2
      have g4 : dt = .dict es n := eq
      rw [g1, g2, g3, g4]
    · cases h
  · cases h
def dicOk (K : PySem.W.Frag) (x : Str) (kvs : List (Int × Int)) : Bool := He.eqO (PySem.W.nsIn K mainGlobals x) (some (some (.ref (He.ga K x)))) && match (K.lookup (He.ga K x)).bind esOf with
  | some (es, _) => es.toList.all keyI && kvs.all (valI es)
  | none => false
def DicAt (K : PySem.W.Frag) (a : Addr) (kvs : List (Int × Int)) : Prop := ∀ q ∈ kvs, KDcI K a q.1 (.int q.2)
theorem dic_ok {K : PySem.W.Frag} {h : Heap} {mg : Str → Option Value} {x : Str} {kvs : List (Int × Int)} (X : K.In h) (G : h.Ns mainGlobals mg) (e : dicOk K x kvs = true) : mg x = some (.ref (He.ga K x)) ∧ DicAt K (He.ga K x) kvs := by
  unfold dicOk at e
  rw [Bool.and_eq_true] at e
  refine ⟨PySem.W.mg_of X G (He.eqO_ok e.1), fun q hq => ?_⟩
  have e2 := e.2
  split at e2
  · next es n hl0 =>
    obtain ⟨o, ho, eo⟩ := Option.bind_eq_some_iff.mp hl0
    rw [esOf_ok eo] at ho
    rw [Bool.and_eq_true] at e2
    have hl := ho
    have v := (List.all_eq_true.mp e2.2) q hq
    unfold valI at v
    split at v
    · next z t eq =>
      have ez := of_decide_eq_true v
      rw [ez] at eq
      exact ⟨es, n, _, hl, keysI_ok e2.1, eq, ⟨t, rfl⟩⟩
    · cases v
  · cases e2
end Ly

/-! ### there are even rows of so many places -/
namespace Ly
open PySem PySem.Spec PyProof.Rows L2
/-- the degrees at which rows are looked for -/
def DegOk (m d : Nat) : Prop := (m = 2 ∧ d ≤ 3) ∨ ((m = 3 ∨ m = 4) ∧ d ≤ 1)
/-- in so many blocks there is one for sure -/
def blocks (m d : Nat) : Nat := if m = 2 then 2 ^ d else d + 1
def sure (m d : Nat) : List Int := if m = 2 then built 2 (List.replicate (d + 1) (nums 2)) else if d = 0 then nums m else nums m ++ (nums m).reverse
theorem sure_rev {m d : Nat} (h : DegOk m d) : REv (m : Int) (sure m d) (d + 1) := by
  have self : ∀ k : Nat, ∀ zs ∈ [nums k], zs.Perm (nums k) := fun k zs hz => by rw [List.mem_singleton.mp hz]
  have one : ∀ k : Nat, 2 ≤ k ∧ k ≤ 4 → REv (k : Int) (nums k) 1 := fun k hk => by
    have := built_rev hk (self k)
    rw [built_one (self k _ (List.mem_singleton.mpr rfl))] at this
    exact this
  rcases h with ⟨rfl, hd⟩ | ⟨hm, hd⟩
  · unfold sure
    rw [if_pos rfl]
    have := built_rev (m := 2) (zss := List.replicate (d + 1) (nums 2)) (by decide) fun zs hz => by rw [(List.mem_replicate.mp hz).2]
    rw [List.length_replicate] at this
    exact this
  · have hm24 : 2 ≤ m ∧ m ≤ 4 := by omega
    unfold sure
    rw [if_neg (by omega)]
    by_cases c : d = 0
    · rw [if_pos c, c]
      exact one m hm24
    · rw [if_neg c, show d = 1 by omega]
      exact twice_rev (by omega) (one m hm24)
theorem count_le {row : List Int} {s : Nat} (h : (row.all fun z => decide (row.count z ≤ s)) = true) (z : Int) : row.count z ≤ s := by
  by_cases c : z ∈ row
  · exact of_decide_eq_true (List.all_eq_true.mp h z c)
  · rw [List.count_eq_zero_of_not_mem c]
    exact Nat.zero_le _
def sureB (m d : Nat) : Bool := decide ((sure m d).length = blocks m d * m) && ((sure m d).all (fun z => decide (0 ≤ z ∧ z < (m : Int))) && (sure m d).all fun z => decide ((sure m d).count z ≤ blocks m d))
theorem sureB_ok {m d : Nat} (h : DegOk m d) : sureB m d = true := by
  rcases h with ⟨rfl, hd⟩ | ⟨rfl | rfl, hd⟩
  · have e : ∀ k : Nat, k ≤ 3 → sureB 2 k = true := by decide +kernel
    exact e d hd
  · have e : ∀ k : Nat, k ≤ 1 → sureB 3 k = true := by decide +kernel
    exact e d hd
  · have e : ∀ k : Nat, k ≤ 1 → sureB 4 k = true := by decide +kernel
    exact e d hd
theorem bal_of {m c : Nat} (hm : 0 < m) {row : List Int} (l : row.length = c * m) (b : ∀ z ∈ row, 0 ≤ z ∧ z < (m : Int)) (k : ∀ z, row.count z ≤ c) : row ∈ bal m (c * m) := by
  have e : c * m / m = c := Nat.mul_div_cancel c hm
  unfold bal
  rw [e, if_pos rfl]
  exact balN_mem.mpr ⟨l, b, k⟩
open Classical in
theorem sure_in {m d : Nat} (h : DegOk m d) : sure m d ∈ evens m (blocks m d * m) d := by
  have z := sureB_ok h
  unfold sureB at z
  rw [Bool.and_eq_true, Bool.and_eq_true] at z
  refine List.mem_filter.mpr ⟨bal_of (by unfold DegOk at h; omega) (of_decide_eq_true z.1) (fun y hy => of_decide_eq_true (List.all_eq_true.mp z.2.1 y hy)) (count_le z.2.2), decide_eq_true (sure_rev h)⟩
end Ly
namespace Ly
theorem deg_pow {m d c : Nat} (h : DegOk m d) (hc : c ≤ blocks m d) : m ^ (c * m) ≤ 70000 ∧ c * m ≤ 64 := by
  rcases h with ⟨rfl, hd⟩ | ⟨rfl | rfl, hd⟩
  · have b : blocks 2 d ≤ 8 := Nat.pow_le_pow_right (n := 2) (by decide) hd
    exact ⟨Nat.le_trans (Nat.pow_le_pow_right (by decide) (show c * 2 ≤ 16 by omega)) (by decide), by omega⟩
  · have b : blocks 3 d = d + 1 := rfl
    exact ⟨Nat.le_trans (Nat.pow_le_pow_right (by decide) (show c * 3 ≤ 6 by omega)) (by decide), by omega⟩
  · have b : blocks 4 d = d + 1 := rfl
    exact ⟨Nat.le_trans (Nat.pow_le_pow_right (by decide) (show c * 4 ≤ 8 by omega)) (by decide), by omega⟩
def mostDeg (m : Nat) : Nat := if m = 2 then 3 else 1
theorem mostDeg_mem {m d : Nat} (h : DegOk m d) : ((m : Int), (mostDeg m : Int)) ∈ [((2 : Int), (3 : Int)), ((3 : Int), (1 : Int)), ((4 : Int), (1 : Int))] := by
  rcases h with ⟨rfl, hd⟩ | ⟨rfl | rfl, hd⟩ <;> decide
theorem mostDeg_le {m d : Nat} (h : DegOk m d) : d ≤ mostDeg m := by
  unfold DegOk at h
  unfold mostDeg
  split <;> omega
end Ly

/-! ### rows rising -/
namespace Ly
open PySem PySem.Spec PyProof.Rows L2
theorem ris_eq {α : Type} {c : α → Int} : ∀ {A B : List α}, A.Pairwise (fun x y => c x < c y) → B.Pairwise (fun x y => c x < c y) → (∀ x, x ∈ A ↔ x ∈ B) → A = B
  | [], [], _, _, _ => rfl
  | [], b :: B, _, _, h => absurd ((h b).mpr List.mem_cons_self) (List.not_mem_nil)
  | a :: A, [], _, _, h => absurd ((h a).mp List.mem_cons_self) (List.not_mem_nil)
  | a :: A, b :: B, hA, hB, h => by
    obtain ⟨a1, a2⟩ := List.pairwise_cons.mp hA
    obtain ⟨b1, b2⟩ := List.pairwise_cons.mp hB
    have e : a = b := by
      rcases List.mem_cons.mp ((h a).mp List.mem_cons_self) with g | g
      · exact g
      · rcases List.mem_cons.mp ((h b).mpr List.mem_cons_self) with k | k
        · exact k.symm
        · have := a1 b k
          have := b1 a g
          omega
    subst e
    refine congrArg (a :: ·) (ris_eq a2 b2 fun x => ⟨fun hx => ?_, fun hx => ?_⟩)
    · rcases List.mem_cons.mp ((h x).mp (List.mem_cons_of_mem _ hx)) with g | g
      · have := a1 x hx
        rw [g] at this
        omega
      · exact g
    · rcases List.mem_cons.mp ((h x).mpr (List.mem_cons_of_mem _ hx)) with g | g
      · have := b1 x hx
        rw [g] at this
        omega
      · exact g
/-- a row as a number, by which it rises as tuples do -/
def cod (row : List Int) : Int := row.foldl (fun a z => 4 * a + z) 0
theorem cod_snoc (row : List Int) (h : Int) : cod (row ++ [h]) = 4 * cod row + h := by
  unfold cod
  rw [List.foldl_append]
  rfl
theorem cod_from : ∀ (row : List Int) (a : Int), row.foldl (fun a z => 4 * a + z) a = 4 ^ row.length * a + cod row
  | [], a => by
    show a = 4 ^ 0 * a + 0
    rw [Int.pow_zero]
    omega
  | z :: r, a => by
    show r.foldl (fun a z => 4 * a + z) (4 * a + z) = 4 ^ (r.length + 1) * a + r.foldl (fun a z => 4 * a + z) (4 * 0 + z)
    rw [cod_from r, cod_from r (4 * 0 + z), Int.pow_succ, Int.mul_add, Int.mul_add, Int.mul_assoc]
    rw [show (4 : Int) * 0 = 0 from rfl, Int.mul_zero, Int.zero_add]
    omega
theorem cod_cons (z : Int) (r : List Int) : cod (z :: r) = 4 ^ r.length * z + cod r := by
  show r.foldl (fun a z => 4 * a + z) (4 * 0 + z) = _
  rw [cod_from, show (4 : Int) * 0 + z = z by omega]
theorem cod_range : ∀ {row : List Int}, (∀ z ∈ row, 0 ≤ z ∧ z < 4) → 0 ≤ cod row ∧ cod row < 4 ^ row.length
  | [], _ => ⟨Int.le_refl _, by decide⟩
  | z :: r, h => by
    obtain ⟨a, b⟩ := cod_range (row := r) fun y hy => h y (List.mem_cons_of_mem _ hy)
    obtain ⟨z0, z1⟩ := h z List.mem_cons_self
    rw [cod_cons, List.length_cons, Int.pow_succ]
    have p : (0 : Int) < 4 ^ r.length := by omega
    have d : z = 0 ∨ z = 1 ∨ z = 2 ∨ z = 3 := by omega
    rcases d with rfl | rfl | rfl | rfl <;> omega
theorem nums_ris (j : Nat) : (nums j).Pairwise fun x y => x < y := by
  unfold nums
  exact List.pairwise_map.mpr (List.pairwise_lt_range.imp fun h => by omega)
def Ris (rows : List (List Int)) : Prop := rows.Pairwise fun x y => cod x < cod y
theorem nums_lt {j : Nat} {z : Int} (h : z ∈ nums j) (hj : j ≤ 4) : 0 ≤ z ∧ z < 4 := by
  have := nums_mem.mp h
  omega
theorem balN_ris {m share : Nat} (hm : m ≤ 4) : ∀ n : Nat, Ris (balN m share n)
  | 0 => List.pairwise_singleton _ _
  | n + 1 => by
    show ((balN m share n).flatMap fun row => more1 share row m).Pairwise _
    refine List.pairwise_flatMap.mpr ⟨fun row _ => ?_, (balN_ris hm n).imp fun {r s} h x hx y hy => ?_⟩
    · unfold more1
      refine List.pairwise_map.mpr (((nums_ris m).filter _).imp fun h => ?_)
      rw [cod_snoc, cod_snoc]
      omega
    · obtain ⟨a, ha, rfl⟩ := List.mem_map.mp hx
      obtain ⟨b, hb, rfl⟩ := List.mem_map.mp hy
      have := nums_lt (List.mem_filter.mp ha).1 hm
      have := nums_lt (List.mem_filter.mp hb).1 hm
      rw [cod_snoc, cod_snoc]
      omega
theorem bal_ris {m : Nat} (hm : m ≤ 4) (n : Nat) : Ris (bal m n) := by
  unfold bal
  split
  · exact balN_ris hm n
  · exact List.Pairwise.nil
theorem evens_ris {m : Nat} (hm : m ≤ 4) (n d : Nat) : Ris (evens m n d) := (bal_ris hm n).filter _
theorem allN_ris {m : Nat} (hm : m ≤ 4) : ∀ n : Nat, Ris (allN m n)
  | 0 => List.pairwise_singleton _ _
  | n + 1 => by
    show ((allN m n).flatMap fun row => ends row m).Pairwise _
    refine List.pairwise_flatMap.mpr ⟨fun row _ => ?_, (allN_ris hm n).imp fun {r s} h x hx y hy => ?_⟩
    · unfold ends
      refine List.pairwise_map.mpr ((nums_ris m).imp fun h => ?_)
      rw [cod_snoc, cod_snoc]
      omega
    · obtain ⟨a, ha, rfl⟩ := List.mem_map.mp hx
      obtain ⟨b, hb, rfl⟩ := List.mem_map.mp hy
      have := nums_lt ha hm
      have := nums_lt hb hm
      rw [cod_snoc, cod_snoc]
      omega
/-! even rows have as many turns of each hand -/
theorem count_hs (h : Int) : ∀ row : List Int, hs row h (fun (_ : Nat) => 1) = (row.count h : Int)
  | [] => rfl
  | t :: r => by
    show (if t = h then (1 : Int) else 0) + hs r h (fun _ => 1) = _
    rw [count_hs h r, List.count_cons]
    by_cases c : t = h
    · rw [if_pos c, if_pos (by rw [c]; exact beq_self_eq_true h)]
      omega
    · rw [if_neg c, if_neg (by simpa using c)]
      omega
theorem mom_count (row : List Int) (h : Int) : mom row h 0 = (row.count h : Int) := by
  rw [← count_hs, hs_sumTo]
  exact sumTo_ext fun i _ => by rw [Int.pow_zero]
theorem sumTo_one {i : Nat} : ∀ {m : Nat}, sumTo m (fun j => if i = j then 1 else 0) = if i < m then 1 else 0
  | 0 => rfl
  | m + 1 => by
    show sumTo m _ + (if i = m then (1 : Int) else 0) = _
    rw [sumTo_one (m := m)]
    by_cases c : i < m
    · rw [if_pos c, if_neg (by omega), if_pos (by omega)]
      rfl
    · rw [if_neg c]
      by_cases e : i = m
      · rw [if_pos e, if_pos (by omega)]
        rfl
      · rw [if_neg e, if_neg (by omega)]
        rfl
theorem counts_sum {m : Nat} : ∀ {row : List Int}, (∀ z ∈ row, 0 ≤ z ∧ z < (m : Int)) → sumTo m (fun h => (row.count (h : Int) : Int)) = row.length
  | [], _ => sumTo_zero fun _ _ => rfl
  | t :: r, b => by
    have ih := counts_sum (row := r) fun z hz => b z (List.mem_cons_of_mem _ hz)
    have tb := b t List.mem_cons_self
    have e : sumTo m (fun h => ((t :: r).count (h : Int) : Int)) = sumTo m (fun h => (r.count (h : Int) : Int) + if t.toNat = h then 1 else 0) := sumTo_ext fun i _ => by
      rw [List.count_cons]
      by_cases c : t.toNat = i
      · rw [if_pos c, if_pos (by rw [show t = (i : Int) by omega]; exact beq_self_eq_true _)]
        rfl
      · rw [if_neg c, if_neg (by simp; omega)]
        rfl
    rw [e, sumTo_add, ih, sumTo_one, if_pos (by omega), List.length_cons]
    rfl
theorem sumTo_same (c : Int) : ∀ n : Nat, sumTo n (fun _ => c) = n * c
  | 0 => (Int.zero_mul c).symm
  | n + 1 => by
    show sumTo n _ + c = _
    rw [sumTo_same c n, Int.natCast_succ, Int.add_mul, Int.one_mul]
theorem even_bal {m n : Nat} (hm : 0 < m) {row : List Int} (l : row.length = n) (b : ∀ z ∈ row, 0 ≤ z ∧ z < (m : Int)) (r : REv (m : Int) row 1) : row ∈ bal m n := by
  have c : ∀ h : Nat, h < m → row.count (h : Int) = row.count 0 := fun h hh => by
    have := (rev_mom (by omega)).mp r h (by omega) 0 (by omega)
    rw [mom_count, mom_count] at this
    omega
  have s := counts_sum b
  rw [sumTo_ext (g := fun _ => (row.count 0 : Int)) fun i hi => by rw [c i hi], sumTo_same] at s
  have e : n = row.count 0 * m := by
    have : ((m * row.count 0 : Nat) : Int) = (row.length : Int) := by rw [Int.natCast_mul]; exact s
    rw [Nat.mul_comm]
    omega
  rw [e]
  refine bal_of hm (by rw [l]; exact e) b fun z => ?_
  by_cases k : z ∈ row
  · have zb := b z k
    rw [show z = (z.toNat : Int) by omega, c z.toNat (by omega)]
    exact Nat.le_refl _
  · rw [List.count_eq_zero_of_not_mem k]
    exact Nat.zero_le _
open Classical in
theorem evens_all {m n d : Nat} (hm : 0 < m) (hm4 : m ≤ 4) : evens m n d = (allN m n).filter fun row => decide (REv (m : Int) row (d + 1)) := by
  refine ris_eq (evens_ris hm4 n d) ((allN_ris hm4 n).filter _) fun row => ?_
  rw [List.mem_filter]
  constructor
  · intro h
    obtain ⟨a, b⟩ := evens_mem h
    obtain ⟨_, c, d, _⟩ := bal_mem a
    exact ⟨allN_mem.mpr ⟨c, d⟩, decide_eq_true b⟩
  · rintro ⟨a, b⟩
    obtain ⟨c, d⟩ := allN_mem.mp a
    have b' := of_decide_eq_true b
    exact List.mem_filter.mpr ⟨even_bal hm c d (b'.le (by omega)), decide_eq_true b'⟩
/-! ### even rows, to be counted -/
def evB (m d : Nat) (row : List Int) : Bool := (List.range m).all fun h => (List.range (d + 1)).all fun k => decide (mom row (h : Int) k = mom row 0 k)
theorem evB_iff {m d : Nat} (hm : 0 < m) {row : List Int} : evB m d row = true ↔ REv (m : Int) row (d + 1) := by
  rw [rev_mom (by omega)]
  unfold evB
  rw [List.all_eq_true]
  constructor
  · intro z h hh k hk
    have := List.all_eq_true.mp (z h (List.mem_range.mpr (by omega))) k (List.mem_range.mpr hk)
    exact of_decide_eq_true this
  · intro z h hh
    refine List.all_eq_true.mpr fun k hk => decide_eq_true ?_
    exact z h (by have := List.mem_range.mp hh; omega) k (List.mem_range.mp hk)
open Classical in
theorem evens_B {m n d : Nat} (hm : 0 < m) : evens m n d = (bal m n).filter (evB m d) := by
  unfold evens
  refine List.filter_congr fun row _ => ?_
  by_cases c : REv (m : Int) row (d + 1)
  · rw [decide_eq_true c, evB_iff hm |>.mpr c]
  · rw [decide_eq_false c]
    cases e : evB m d row with
    | false => rfl
    | true => exact absurd ((evB_iff hm).mp e) c
open Classical in
theorem evens_allB {m n d : Nat} (hm : 0 < m) (hm4 : m ≤ 4) : evens m n d = (allN m n).filter (evB m d) := by
  rw [evens_all hm hm4]
  refine List.filter_congr fun row _ => ?_
  by_cases c : REv (m : Int) row (d + 1)
  · rw [decide_eq_true c, evB_iff hm |>.mpr c]
  · rw [decide_eq_false c]
    cases e : evB m d row with
    | false => rfl
    | true => exact absurd ((evB_iff hm).mp e) c
end Ly

/-! ### tails of signs, worths gone on -/
namespace Ly
open PySem PySem.Spec PyProof.Rows L2
def Tl (n : Nat) (s : Nat → Int) : Nat → Int := fun i => sumTo n s - sumTo i s
def TN (n : Nat) : Nat → (Nat → Int) → Nat → Int
  | 0, s => s
  | k + 1, s => Tl n (TN n k s)
theorem TN_succ (n : Nat) : ∀ (k : Nat) (s : Nat → Int), TN n (k + 1) s = TN n k (Tl n s)
  | 0, _ => rfl
  | k + 1, s => congrArg (Tl n) (TN_succ n k s)
def tails (l : List Int) : List Int := (List.range l.length).map fun i => (l.drop i).sum
def tailsN : Nat → List Int → List Int
  | 0, l => l
  | k + 1, l => tails (tailsN k l)
theorem tails_len (l : List Int) : (tails l).length = l.length := by rw [tails, List.length_map, List.length_range]
theorem tailsN_len (l : List Int) : ∀ k : Nat, (tailsN k l).length = l.length
  | 0 => rfl
  | k + 1 => (tails_len _).trans (tailsN_len l k)
theorem drop_sum {s : Nat → Int} {n i : Nat} (h : i ≤ n) : ((line s n).drop i).sum = sumTo n s - sumTo i s := by
  have e := congrArg List.sum (List.take_append_drop i (line s n))
  rw [List.sum_append, line_take h, line_sum, line_sum] at e
  omega
theorem tails_line (s : Nat → Int) (n : Nat) : tails (line s n) = line (Tl n s) n := by
  refine line_ext (by rw [tails_len, line_len]) fun i hi => ?_
  unfold tails
  rw [List.getElem?_map, line_len, List.getElem?_range hi]
  show some ((line s n).drop i).sum = _
  rw [drop_sum (by omega)]
  rfl
theorem tailsN_line (s : Nat → Int) (n : Nat) : ∀ k : Nat, tailsN k (line s n) = line (TN n k s) n
  | 0 => rfl
  | k + 1 => by
    show tails (tailsN k (line s n)) = _
    rw [tailsN_line s n k, tails_line]
    rfl
theorem line_back (s : Nat → Int) (n : Nat) : (line s n).reverse = line (fun i => s (n - 1 - i)) n := by
  refine line_ext (by rw [List.length_reverse, line_len]) fun i hi => ?_
  rw [List.getElem?_reverse (by rw [line_len]; exact hi), line_len, line_at (by omega)]
theorem back_sum {n : Nat} (g : Nat → Int) : ∀ i : Nat, i < n → sumTo (i + 1) (fun j => g (n - 1 - j)) = sumTo n g - sumTo (n - 1 - i) g
  | 0, h => by
    obtain ⟨m, rfl⟩ : ∃ m, n = m + 1 := ⟨n - 1, by omega⟩
    show (0 : Int) + g (m + 1 - 1 - 0) = (sumTo m g + g m) - sumTo (m + 1 - 1 - 0) g
    rw [show m + 1 - 1 - 0 = m by omega]
    omega
  | i + 1, h => by
    show sumTo (i + 1) (fun j => g (n - 1 - j)) + g (n - 1 - (i + 1)) = _
    rw [back_sum g i (by omega)]
    have e : n - 1 - i = (n - 1 - (i + 1)) + 1 := by omega
    rw [e]
    show sumTo n g - (sumTo (n - 1 - (i + 1)) g + g (n - 1 - (i + 1))) + _ = _
    omega
theorem sn_back {n : Nat} {s t : Nat → Int} (h : ∀ i, i < n → t i = s (n - 1 - i)) : ∀ k i : Nat, i < n → SN k t i = TN n k s (n - 1 - i)
  | 0, i, hi => h i hi
  | k + 1, i, hi => by
    show sumTo (i + 1) (SN k t) = sumTo n (TN n k s) - sumTo (n - 1 - i) (TN n k s)
    rw [← back_sum _ i hi]
    exact sumTo_ext fun j hj => sn_back h k j (by omega)
theorem tails_of_eq (k : Nat) (s : Nat → Int) (n : Nat) : (psumsN k (line s n).reverse).reverse = line (TN n k s) n := by
  rw [line_back, psumsN_line, line_back]
  refine line_ext (line_len _ _) fun i hi => ?_
  rw [line_at hi, sn_back (fun _ _ => rfl) k _ (by omega), show n - 1 - (n - 1 - i) = i by omega]
def bk (h : Nat → Int) : Nat → Int
  | 0 => h 0
  | j + 1 => Df h j
theorem bk_sum (h : Nat → Int) : ∀ n : Nat, sumTo (n + 1) (bk h) = h n
  | 0 => Int.zero_add _
  | n + 1 => by
    show sumTo (n + 1) (bk h) + (h (n + 1) - h n) = _
    rw [bk_sum h n]
    omega
theorem tl_parts (s h : Nat → Int) : ∀ n : Nat, sumTo n (fun j => s j * h j) = sumTo n (fun j => Tl n s j * bk h j)
  | 0 => rfl
  | n + 1 => by
    have e : sumTo (n + 1) (fun j => Tl (n + 1) s j * bk h j) = sumTo (n + 1) (fun j => Tl n s j * bk h j + s n * bk h j) := sumTo_ext fun j _ => by
      show (sumTo n s + s n - sumTo j s) * bk h j = (sumTo n s - sumTo j s) * bk h j + s n * bk h j
      rw [← Int.add_mul]
      congr 1
      omega
    rw [e, sumTo_add, sumTo_mul, bk_sum]
    show _ = sumTo n (fun j => Tl n s j * bk h j) + (sumTo n s - sumTo n s) * bk h n + s n * h n
    rw [← tl_parts s h n, Int.sub_self, Int.zero_mul, Int.add_zero]
    rfl
def bkN : Nat → (Nat → Int) → Nat → Int
  | 0, h => h
  | k + 1, h => bkN k (bk h)
theorem tn_parts (n : Nat) : ∀ (k : Nat) (s h : Nat → Int), sumTo n (fun j => s j * h j) = sumTo n (fun j => TN n k s j * bkN k h j)
  | 0, _, _ => rfl
  | k + 1, s, h => by
    rw [tl_parts, tn_parts n k, TN_succ]
    rfl
theorem bk_low {n0 : Nat} {h : Nat → Int} (z : ∀ j, j < n0 → h j = 0) : ∀ j, j < n0 → bk h j = 0
  | 0, hj => z 0 hj
  | j + 1, hj => by
    show h (j + 1) - h j = 0
    rw [z _ hj, z _ (by omega)]
    rfl
theorem bkN_low {n0 : Nat} : ∀ (k : Nat) {h : Nat → Int}, (∀ j, j < n0 → h j = 0) → ∀ j, j < n0 → bkN k h j = 0
  | 0, _, z => z
  | k + 1, _, z => bkN_low k (bk_low z)
theorem bkN_dn : ∀ (k : Nat) (h : Nat → Int) (j : Nat), k ≤ j → bkN k h j = DN k h (j - k)
  | 0, _, _, _ => rfl
  | k + 1, h, j, l => by
    show bkN k (bk h) j = _
    rw [bkN_dn k (bk h) j (by omega), DN_succ, show j - k = (j - (k + 1)) + 1 by omega, ← dn_shift]
    rfl
/-- worths told, gone on straight -/
def Gone (n k : Nat) (ws : List Int) (st : Nat → Int) : Prop := (∀ i, i < ws.length → ws[i]? = some (st i)) ∧ ∀ i, ws.length ≤ i + k → i + k < n → DN k st i = 0
theorem Gone.one {n k : Nat} {ws : List Int} {f g : Nat → Int} (hk : k ≤ ws.length) (hf : Gone n k ws f) (hg : Gone n k ws g) : ∀ i, i < n → f i = g i := by
  have a : ∀ i, i < ws.length → f i = g i := fun i hi => by
    have := hf.1 i hi
    rw [hg.1 i hi] at this
    exact (Option.some.inj this).symm
  refine dn_one k (fun i hi => a i (by omega)) fun i hi => ?_
  by_cases c : ws.length ≤ i + k
  · rw [hf.2 i c hi, hg.2 i c hi]
  · exact dn_agree k i fun j hj => a j (by omega)
def Far (n n0 k : Nat) (s : Nat → Int) : Int := sumTo (n - n0) fun i => absI (TN n k s (n0 + i))
theorem gone_diff {n n0 k : Nat} (hk : k ≤ n0) (hn : n0 ≤ n) {s st g : Nat → Int} (e : ∀ i, i < n0 → g i = st i) (z : ∀ i, n0 ≤ i + k → i + k < n → DN k st i = 0) :
    sumTo n (fun i => s i * g i) = sumTo n (fun i => s i * st i) + sumTo (n - n0) fun i => TN n k s (n0 + i) * DN k g (n0 + i - k) := by
  have e1 : sumTo n (fun i => s i * g i) = sumTo n (fun i => s i * st i + s i * (g i + (-1) * st i)) := sumTo_ext fun i _ => by
    rw [← Int.mul_add]
    congr 1
    omega
  rw [e1, sumTo_add, tn_parts n k s fun i => g i + (-1) * st i]
  congr 1
  have hs : n = n0 + (n - n0) := by omega
  have e2 : sumTo n (fun j => TN n k s j * bkN k (fun i => g i + (-1) * st i) j) = sumTo (n0 + (n - n0)) (fun j => TN n k s j * bkN k (fun i => g i + (-1) * st i) j) := by rw [← hs]
  rw [e2, sumTo_cat, sumTo_zero (n := n0) fun i hi => by rw [bkN_low k (n0 := n0) (fun j hj => by rw [e j hj]; omega) i hi, Int.mul_zero], Int.zero_add]
  refine sumTo_ext fun i hi => ?_
  rw [bkN_dn k _ _ (by omega), DN_add, DN_mul]
  show _ * (DN k g _ + (-1) * DN k st _) = _
  rw [z (n0 + i - k) (by omega) (by omega), Int.mul_zero, Int.add_zero]
theorem gone_within {n n0 k : Nat} (hk : k ≤ n0) (hn : n0 ≤ n) {s st g : Nat → Int} (e : ∀ i, i < n0 → g i = st i) (z : ∀ i, n0 ≤ i + k → i + k < n → DN k st i = 0) {M : Int} (hM : ∀ i, n0 ≤ i + k → i + k < n → -M ≤ DN k g i ∧ DN k g i ≤ M) :
    sumTo n (fun i => s i * st i) - M * Far n n0 k s ≤ sumTo n (fun i => s i * g i) ∧ sumTo n (fun i => s i * g i) ≤ sumTo n (fun i => s i * st i) + M * Far n n0 k s := by
  rw [gone_diff hk hn (s := s) e z]
  have up : sumTo (n - n0) (fun i => TN n k s (n0 + i) * DN k g (n0 + i - k)) ≤ M * Far n n0 k s := by
    unfold Far
    rw [← sumTo_mul]
    refine sumTo_le fun i hi => ?_
    obtain ⟨a, b⟩ := hM (n0 + i - k) (by omega) (by omega)
    exact mul_le_abs a b
  have dn : -(sumTo (n - n0) (fun i => TN n k s (n0 + i) * DN k g (n0 + i - k))) ≤ M * Far n n0 k s := by
    have e1 : -(sumTo (n - n0) (fun i => TN n k s (n0 + i) * DN k g (n0 + i - k))) = sumTo (n - n0) (fun i => (-1) * (TN n k s (n0 + i) * DN k g (n0 + i - k))) := by
      rw [sumTo_mul]
      omega
    rw [e1]
    unfold Far
    rw [← sumTo_mul]
    refine sumTo_le fun i hi => ?_
    obtain ⟨a, b⟩ := hM (n0 + i - k) (by omega) (by omega)
    have := mul_le_abs (a := TN n k s (n0 + i)) (x := - DN k g (n0 + i - k)) (M := M) (by omega) (by omega)
    rw [Int.mul_neg] at this
    omega
  omega
/-- the difference that goes with a tail -/
def turnT (t M : Int) : Int := if t = 0 then 0 else if t > 0 then M else 0 - M
theorem turn_abs (t M : Int) : t * turnT t M = M * absI t := by
  unfold turnT absI
  by_cases c : t = 0
  · rw [if_pos c, c, if_neg (by omega), Int.zero_mul, Int.mul_zero]
  · rw [if_neg c]
    by_cases d : t > 0
    · rw [if_pos d, if_neg (by omega), Int.mul_comm]
    · rw [if_neg d, if_pos (by omega), Int.zero_sub, Int.mul_neg, Int.mul_neg, Int.mul_comm]
theorem gone_met {n n0 k : Nat} (hk : k ≤ n0) (hn : n0 ≤ n) {s st g : Nat → Int} (e : ∀ i, i < n0 → g i = st i) (z : ∀ i, n0 ≤ i + k → i + k < n → DN k st i = 0) {M c : Int} (hM : ∀ j, n0 ≤ j → j < n → DN k g (j - k) = c * turnT (TN n k s j) M) :
    sumTo n (fun i => s i * g i) = sumTo n (fun i => s i * st i) + c * (M * Far n n0 k s) := by
  rw [gone_diff hk hn (s := s) e z]
  congr 1
  unfold Far
  rw [← sumTo_mul, ← sumTo_mul]
  refine sumTo_ext fun i hi => ?_
  rw [hM (n0 + i) (by omega) (by omega), ← Int.mul_assoc, Int.mul_comm _ c, Int.mul_assoc, turn_abs]
theorem Tl_neg (n : Nat) (s : Nat → Int) : Tl n (fun i => - s i) = fun i => - Tl n s i := funext fun i => by
  have e : ∀ m : Nat, sumTo m (fun i => - s i) = - sumTo m s := fun m => by
    have := sumTo_mul m (-1) s
    rw [sumTo_ext (g := fun i => (-1) * s i) fun i _ => by omega, this]
    omega
  show sumTo n _ - sumTo i _ = -(sumTo n s - sumTo i s)
  rw [e, e]
  omega
theorem TN_neg (n : Nat) (s : Nat → Int) : ∀ k : Nat, TN n k (fun i => - s i) = fun i => - TN n k s i
  | 0 => rfl
  | k + 1 => by
    show Tl n (TN n k fun i => - s i) = _
    rw [TN_neg n s k, Tl_neg]
    rfl
theorem Far_swap {n n0 k : Nat} (row : List Int) {a b : Int} (h : a ≠ b) : Far n n0 k (sg row b a) = Far n n0 k (sg row a b) := by
  rw [sg_turn row h]
  unfold Far
  rw [TN_neg]
  exact sumTo_ext fun i _ => absI_neg _
theorem Far_list {n n0 k : Nat} {s : Nat → Int} (h : n0 ≤ n) : (((line (TN n k s) n).drop n0).map absI).sum = Far n n0 k s := by
  have e : ((line (TN n k s) n).drop n0).map absI = line (fun i => absI (TN n k s (n0 + i))) (n - n0) := by
    refine line_ext (by rw [List.length_map, List.length_drop, line_len]) fun i hi => ?_
    rw [List.getElem?_map, List.getElem?_drop, line_at (by omega)]
    rfl
  rw [e, line_sum]
  rfl
/-- one worth more, straight on -/
theorem gone_more {n k : Nat} (hk : k ≤ n) {f : Nat → Int} {v c : Int} (h : v = sumTo k (fun u => DN u f (n - 1 - u)) + c) : DN k (fun i => if i < n then f i else v) (n - k) = c := by
  have g : (if n < n then f n else v) = _ := gone_on (fun i => if i < n then f i else v) n k hk
  rw [if_neg (Nat.lt_irrefl n)] at g
  rw [sumTo_ext (g := fun u => DN u f (n - 1 - u)) fun u hu => dn_agree u (n - 1 - u) fun j hj => if_pos (by omega)] at g
  omega
theorem ends_more {n k : Nat} (hk : k ≤ n) {f : Nat → Int} {v : Int} (hv : v = sumTo k fun u => DN u f (n - 1 - u)) : ∀ s, s ≤ k →
    Tl k (fun u => DN u f (n - 1 - u)) s = DN s (fun i => if i < n then f i else v) (n - s)
  | 0, _ => by
    show sumTo k _ - 0 = (if n < n then f n else v)
    rw [if_neg (Nat.lt_irrefl n), hv]
    omega
  | s + 1, hs => by
    have ih := ends_more hk hv s (by omega)
    have e : DN (s + 1) (fun i => if i < n then f i else v) (n - (s + 1)) = DN s (fun i => if i < n then f i else v) (n - (s + 1) + 1) - DN s (fun i => if i < n then f i else v) (n - (s + 1)) := rfl
    rw [e, show n - (s + 1) + 1 = n - s by omega, ← ih, dn_agree s (n - (s + 1)) (f := fun i => if i < n then f i else v) (g := f) fun j hj => if_pos (by omega), show n - (s + 1) = n - 1 - s by omega]
    show sumTo k _ - (sumTo s _ + DN s f (n - 1 - s)) = sumTo k _ - sumTo s _ - _
    omega
theorem cut_from (xs : List V) (j : Nat) : cutV xs (some (j : Int)) none = xs.drop j := by
  rw [cutV, show HT.sIx xs.length 0 (some (j : Int)) = min j xs.length from HT.sIx_nat _ 0 _, HT.sIx_none]
  by_cases h : j ≤ xs.length
  · rw [Nat.min_eq_left h, List.take_of_length_le (by rw [List.length_drop]; omega)]
  · rw [Nat.min_eq_right (by omega), List.drop_of_length_le (Nat.le_refl _), List.drop_of_length_le (by omega), List.take_nil]
end Ly

/-! ### what calms the leads foreseen -/
namespace Ly
open PySem PySem.Spec PyProof.Rows L2
theorem gone_ex {k : Nat} {ws : List Int} (hk : k ≤ ws.length) : ∀ d : Nat, ∃ st, Gone (ws.length + d) k ws st
  | 0 => ⟨fun i => ws.getD i 0, fun i hi => by
    show _ = some (ws.getD i 0)
    rw [List.getD_eq_getElem?_getD, List.getElem?_eq_getElem hi]
    rfl, fun i a b => by omega⟩
  | d + 1 => by
    obtain ⟨st, g1, g2⟩ := gone_ex hk d
    refine ⟨fun i => if i < ws.length + d then st i else sumTo k fun u => DN u st (ws.length + d - 1 - u), fun i hi => ?_, fun i a b => ?_⟩
    · rw [g1 i hi]
      exact congrArg some (if_pos (by omega)).symm
    · by_cases c : i + k < ws.length + d
      · rw [dn_agree k i (f := fun i => if i < ws.length + d then st i else sumTo k fun u => DN u st (ws.length + d - 1 - u)) (g := st) fun j hj => if_pos (by omega)]
        exact g2 i a c
      · rw [show i = ws.length + d - k by omega]
        exact gone_more (by omega) (by omega)
/-- the greatest lead foreseen of one hand of another one -/
def LF (row : List Int) (k n0 : Nat) (M : Int) (st : Nat → Int) (a b : Int) : Int := sumTo row.length (fun i => sg row a b i * st i) + M * Far row.length n0 k (sg row a b)
/-- .. of any hand of any other one -/
def MF (m k : Nat) (M : Int) (ws row : List Int) (X : Int) : Prop := ∃ st, Gone row.length k ws st ∧ (∀ a b : Nat, a < m → b < m → a ≠ b → LF row k ws.length M st a b ≤ X) ∧ ∃ a b : Nat, a < m ∧ b < m ∧ a ≠ b ∧ LF row k ws.length M st a b = X
theorem LF.one {row : List Int} {k : Nat} {M : Int} {ws : List Int} (hk : k ≤ ws.length) {f g : Nat → Int} (hf : Gone row.length k ws f) (hg : Gone row.length k ws g) (a b : Int) : LF row k ws.length M f a b = LF row k ws.length M g a b := by
  unfold LF
  rw [sumTo_ext fun i hi => by rw [hf.one hk hg i hi]]
theorem MF.one {m k : Nat} {M : Int} {ws row : List Int} {X Y : Int} (hk : k ≤ ws.length) (h : MF m k M ws row X) (g : MF m k M ws row Y) : X = Y := by
  obtain ⟨f, hf, u1, a, b, ha, hb, ab, e1⟩ := h
  obtain ⟨f2, hf2, u2, c, d, hc, hd, cd, e2⟩ := g
  have l1 := u2 a b ha hb ab
  have l2 := u1 c d hc hd cd
  rw [← LF.one hk hf hf2] at l1
  rw [LF.one hk hf hf2] at l2
  omega
def CandF (m k : Nat) (M : Int) (ws row : List Int) (t : Int × Nat × Nat) : Prop := ws.length ≤ t.2.1 ∧ t.2.1 < t.2.2 ∧ t.2.2 < row.length ∧ row.getD t.2.1 0 ≠ row.getD t.2.2 0 ∧ MF m k M ws (swp row t.2.1 t.2.2) t.1
def LowF (m k : Nat) (M : Int) (ws row : List Int) (t : Int × Nat × Nat) : Prop := CandF m k M ws row t ∧ ∀ N, MF m k M ws row N → t.1 < N
def BestF (m k : Nat) (M : Int) (ws row : List Int) (t : Int × Nat × Nat) : Prop := LowF m k M ws row t ∧ ∀ s, LowF m k M ws row s → cd t ≤ cd s
theorem BestF.one {m k : Nat} {M : Int} {ws row : List Int} {s t : Int × Nat × Nat} (l : row.length ≤ 64) (h : BestF m k M ws row s) (g : BestF m k M ws row t) : s = t := by
  have h1 := h.1.1
  have g1 := g.1.1
  unfold CandF at h1 g1
  have a := h.2 t g.1
  have b := g.2 s h.1
  exact cd_one (by omega) (by omega) (by omega) (by omega) (by omega)
end Ly

/-! ### all rows with so many turns of each hand -/
namespace Ly
open PySem PySem.Spec PyProof.Rows L2
def less (left : List Int) (h : Nat) : List Int := left.set h (left.getD h 0 - 1)
def shd (m : Nat) : Nat → List Int → List (List Int)
  | 0, _ => [[]]
  | n + 1, left => (List.range m).flatMap fun h => if left.getD h 0 > 0 then (shd m n (less left h)).map fun r => (h : Int) :: r else []
def shdTo (m n : Nat) (left : List Int) (i : Nat) : List (List Int) := (List.range i).flatMap fun h => if left.getD h 0 > 0 then (shd m n (less left h)).map fun r => (h : Int) :: r else []
theorem shdTo_next (m n : Nat) (left : List Int) (i : Nat) : shdTo m n left (i + 1) = shdTo m n left i ++ if left.getD i 0 > 0 then (shd m n (less left i)).map fun r => (i : Int) :: r else [] := by
  unfold shdTo
  rw [List.range_succ, List.flatMap_append]
  simp
theorem less_len (left : List Int) (h : Nat) : (less left h).length = left.length := List.length_set
theorem less_at (left : List Int) (h : Nat) (hh : h < left.length) (j : Nat) : (less left h).getD j 0 = if h = j then left.getD h 0 - 1 else left.getD j 0 := by
  unfold less
  rw [List.getD_eq_getElem?_getD, List.getElem?_set]
  by_cases c : h = j
  · rw [if_pos c, if_pos c, if_pos hh]
    rfl
  · rw [if_neg c, if_neg c, ← List.getD_eq_getElem?_getD]
theorem getD_nn {left : List Int} (h : ∀ z ∈ left, 0 ≤ z) (j : Nat) : 0 ≤ left.getD j 0 := by
  rw [List.getD_eq_getElem?_getD]
  cases e : left[j]? with
  | none => exact Int.le_refl _
  | some z => exact h z (List.mem_of_getElem? e)
theorem less_nn {left : List Int} (h : ∀ z ∈ left, 0 ≤ z) {j : Nat} (p : left.getD j 0 > 0) : ∀ z ∈ less left j, 0 ≤ z := fun z hz => by
  rcases List.mem_or_eq_of_mem_set hz with g | g
  · exact h z g
  · omega
theorem less_sum : ∀ {left : List Int} {j : Nat}, j < left.length → (less left j).sum = left.sum - 1
  | [], _, h => absurd h (Nat.not_lt_zero _)
  | a :: r, 0, _ => by
    show (a - 1 + r.sum) = a + r.sum - 1
    omega
  | a :: r, j + 1, h => by
    have ih := less_sum (left := r) (j := j) (Nat.lt_of_succ_lt_succ h)
    show a + (less r j).sum = a + r.sum - 1
    omega
theorem shd_len {m : Nat} : ∀ (n : Nat) (left : List Int), (shd m n left).length ≤ m ^ n
  | 0, _ => Nat.le_refl 1
  | n + 1, left => by
    have g : ∀ i : Nat, (shdTo m n left i).length ≤ i * m ^ n := fun i => by
      induction i with
      | zero => exact Nat.zero_le _
      | succ i ih =>
        rw [shdTo_next, List.length_append, Nat.succ_mul]
        have : (if left.getD i 0 > 0 then (shd m n (less left i)).map fun r => (i : Int) :: r else []).length ≤ m ^ n := by
          split
          · rw [List.length_map]
            exact shd_len n _
          · exact Nat.zero_le _
        omega
    rw [Nat.pow_succ, Nat.mul_comm]
    exact g m
theorem shdTo_len {m n : Nat} {left : List Int} {i : Nat} (h : i ≤ m) : (shdTo m n left i).length ≤ m ^ (n + 1) := by
  have g : ∀ i : Nat, (shdTo m n left i).length ≤ i * m ^ n := fun i => by
    induction i with
    | zero => exact Nat.zero_le _
    | succ i ih =>
      rw [shdTo_next, List.length_append, Nat.succ_mul]
      have : (if left.getD i 0 > 0 then (shd m n (less left i)).map fun r => (i : Int) :: r else []).length ≤ m ^ n := by
        split
        · rw [List.length_map]
          exact shd_len n _
        · exact Nat.zero_le _
      omega
  rw [Nat.pow_succ, Nat.mul_comm]
  exact Nat.le_trans (g i) (Nat.mul_le_mul_right _ h)
theorem shd_mem {m : Nat} : ∀ {n : Nat} {left row : List Int}, left.length = m → (∀ z ∈ left, 0 ≤ z) → left.sum = n → (row ∈ shd m n left ↔ row.length = n ∧ (∀ z ∈ row, 0 ≤ z ∧ z < (m : Int)) ∧ ∀ h : Nat, h < m → (row.count (h : Int) : Int) = left.getD h 0)
  | 0, left, row, hl, h0, hs => by
    have z : ∀ l : List Int, (∀ z ∈ l, 0 ≤ z) → l.sum = 0 → ∀ z ∈ l, z = 0 := fun l => by
      induction l with
      | nil => exact fun _ _ _ h => (nomatch h)
      | cons a r ih =>
        intro hn hs z hz
        rw [List.sum_cons] at hs
        have a0 := hn a List.mem_cons_self
        have rn : 0 ≤ r.sum := by
          have g : ∀ l : List Int, (∀ z ∈ l, 0 ≤ z) → 0 ≤ l.sum := fun l => by
            induction l with
            | nil => exact fun _ => Int.le_refl _
            | cons b t ih =>
              intro h
              rw [List.sum_cons]
              have := ih fun z hz => h z (List.mem_cons_of_mem _ hz)
              have := h b List.mem_cons_self
              omega
          exact g r fun z hz => hn z (List.mem_cons_of_mem _ hz)
        rcases List.mem_cons.mp hz with e | e
        · rw [e]
          omega
        · exact ih (fun z hz => hn z (List.mem_cons_of_mem _ hz)) (by omega) z e
    constructor
    · intro h
      have e : row = [] := List.mem_singleton.mp h
      subst e
      refine ⟨rfl, fun _ h => (nomatch h), fun h hh => ?_⟩
      show (0 : Int) = _
      rw [List.getD_eq_getElem?_getD, List.getElem?_eq_getElem (by omega)]
      exact (z left h0 hs _ (List.getElem_mem _)).symm
    · rintro ⟨h, _⟩
      rw [List.length_eq_zero_iff.mp h]
      exact List.mem_singleton.mpr rfl
  | n + 1, left, row, hl, h0, hs => by
    constructor
    · intro h
      obtain ⟨a, ha, h2⟩ := List.mem_flatMap.mp (show row ∈ (List.range m).flatMap _ from h)
      have am := List.mem_range.mp ha
      split at h2
      · next c =>
        obtain ⟨r, hr, rfl⟩ := List.mem_map.mp h2
        obtain ⟨l, b, k⟩ := (shd_mem (by rw [less_len]; exact hl) (less_nn h0 c) (by rw [less_sum (by omega)]; omega)).mp hr
        refine ⟨by rw [List.length_cons, l], fun z hz => ?_, fun h hh => ?_⟩
        · rcases List.mem_cons.mp hz with e | e
          · rw [e]
            omega
          · exact b z e
        · have := k h hh
          rw [less_at _ _ (by omega)] at this
          rw [List.count_cons]
          by_cases e : a = h
          · rw [if_pos e] at this
            rw [if_pos (by rw [e]; exact beq_self_eq_true _), ← e]
            rw [← e] at this
            omega
          · rw [if_neg e] at this
            rw [if_neg (by simp; omega)]
            omega
      · cases h2
    · rintro ⟨l, b, k⟩
      match row, l with
      | a :: r, l =>
        have ab := b a List.mem_cons_self
        have ea : ((a.toNat : Nat) : Int) = a := by omega
        have ka := k a.toNat (by omega)
        rw [ea, List.count_cons, if_pos (beq_self_eq_true _)] at ka
        have c : left.getD a.toNat 0 > 0 := by omega
        refine List.mem_flatMap.mpr ⟨a.toNat, List.mem_range.mpr (by omega), ?_⟩
        rw [if_pos c]
        refine List.mem_map.mpr ⟨r, (shd_mem (by rw [less_len]; exact hl) (less_nn h0 c) (by rw [less_sum (by omega)]; omega)).mpr ⟨Nat.succ.inj l, fun z hz => b z (List.mem_cons_of_mem _ hz), fun h hh => ?_⟩, by rw [ea]⟩
        have kh := k h hh
        rw [List.count_cons] at kh
        rw [less_at _ _ (by omega)]
        by_cases e : a.toNat = h
        · rw [if_pos e]
          rw [if_pos (by rw [show a = (h : Int) by omega]; exact beq_self_eq_true _)] at kh
          rw [e]
          omega
        · rw [if_neg e]
          rw [if_neg (by simp; omega)] at kh
          omega
theorem shd_ris {m : Nat} (hm : m ≤ 4) : ∀ {n : Nat} {left : List Int}, left.length = m → (∀ z ∈ left, 0 ≤ z) → left.sum = n → Ris (shd m n left)
  | 0, _, _, _, _ => List.pairwise_singleton _ _
  | n + 1, left, hl, h0, hs => by
    have inn : ∀ a : Nat, a < m → left.getD a 0 > 0 → Ris (shd m n (less left a)) ∧ ∀ r ∈ shd m n (less left a), r.length = n ∧ 0 ≤ cod r ∧ cod r < 4 ^ n := fun a am c => by
      have e1 : (less left a).length = m := by rw [less_len]; exact hl
      have e2 := less_nn h0 c
      have e3 : (less left a).sum = n := by rw [less_sum (by omega)]; omega
      refine ⟨shd_ris hm e1 e2 e3, fun r hr => ?_⟩
      obtain ⟨l, b, _⟩ := (shd_mem e1 e2 e3).mp hr
      have := cod_range (row := r) fun z hz => by have := b z hz; omega
      rw [l] at this
      exact ⟨l, this⟩
    show ((List.range m).flatMap _).Pairwise _
    refine List.pairwise_flatMap.mpr ⟨fun a ha => ?_, List.pairwise_lt_range.imp_of_mem fun {a b} ha hb lt x hx y hy => ?_⟩
    · have am := List.mem_range.mp ha
      split
      · next c =>
        obtain ⟨r1, r2⟩ := inn a am c
        refine List.pairwise_map.mpr (r1.imp_of_mem fun {x y} hx hy h => ?_)
        rw [cod_cons, cod_cons, (r2 x hx).1, (r2 y hy).1]
        omega
      · exact List.Pairwise.nil
    · have am := List.mem_range.mp ha
      have bm := List.mem_range.mp hb
      split at hx
      · next c =>
        split at hy
        · next d =>
          obtain ⟨r, hr, rfl⟩ := List.mem_map.mp hx
          obtain ⟨s, hs, rfl⟩ := List.mem_map.mp hy
          obtain ⟨l1, p1, q1⟩ := (inn a am c).2 r hr
          obtain ⟨l2, p2, q2⟩ := (inn b bm d).2 s hs
          rw [cod_cons, cod_cons, l1, l2]
          have e : (4 : Int) ^ n * (b : Int) = 4 ^ n * (a : Int) + 4 ^ n * ((b : Int) - (a : Int)) := by
            rw [← Int.mul_add]
            congr 1
            omega
          have f : (4 : Int) ^ n * 1 ≤ 4 ^ n * ((b : Int) - (a : Int)) := Int.mul_le_mul_of_nonneg_left (by omega) (by omega)
          rw [Int.mul_one] at f
          omega
        · cases hy
      · cases hx
theorem shd_bal {m n : Nat} (hm : 2 ≤ m ∧ m ≤ 4) (e : n / m * m = n) : shd m n (List.replicate m ((n / m : Nat) : Int)) = bal m n := by
  obtain ⟨sh, hsh⟩ : ∃ sh, n / m = sh := ⟨_, rfl⟩
  rw [hsh] at e ⊢
  have hl : (List.replicate m (sh : Int)).length = m := List.length_replicate
  have h0 : ∀ z ∈ List.replicate m (sh : Int), 0 ≤ z := fun z hz => by
    rw [(List.mem_replicate.mp hz).2]
    omega
  have hs : (List.replicate m (sh : Int)).sum = n := by
    have g : ∀ (k : Nat) (c : Int), (List.replicate k c).sum = k * c := fun k c => by
      induction k with
      | zero => exact (Int.zero_mul c).symm
      | succ k ih =>
        rw [List.replicate_succ, List.sum_cons, ih, Int.natCast_succ, Int.add_mul, Int.one_mul, Int.add_comm]
    rw [g, ← Int.natCast_mul, Nat.mul_comm]
    omega
  have gd : ∀ h : Nat, h < m → (List.replicate m (sh : Int)).getD h 0 = (sh : Int) := fun h hh => by
    rw [List.getD_eq_getElem?_getD, List.getElem?_replicate, if_pos hh]
    rfl
  refine ris_eq (shd_ris hm.2 hl h0 hs) (bal_ris hm.2 n) fun row => ?_
  rw [shd_mem hl h0 hs]
  constructor
  · rintro ⟨l, b, k⟩
    have := bal_of (m := m) (c := sh) (by omega) (row := row) (by omega) b fun z => by
      by_cases c : z ∈ row
      · have zb := b z c
        have := k z.toNat (by omega)
        rw [gd _ (by omega), show ((z.toNat : Nat) : Int) = z by omega] at this
        omega
      · rw [List.count_eq_zero_of_not_mem c]
        exact Nat.zero_le _
    rw [e] at this
    exact this
  · intro h
    obtain ⟨_, l, b, k⟩ := bal_mem h
    rw [hsh] at k
    refine ⟨l, b, fun h hh => ?_⟩
    rw [gd h hh]
    -- all counts are at most the share, and together they are all places
    have s := counts_sum b
    have g : ∀ j : Nat, j ≤ m → sumTo j (fun h => (row.count (h : Int) : Int)) ≤ j * (sh : Int) := fun j => by
      induction j with
      | zero => exact fun _ => by rw [show ((0 : Nat) : Int) * _ = 0 from Int.zero_mul _]; exact Int.le_refl _
      | succ j ih =>
        intro hj
        have := ih (by omega)
        have := k (j : Int)
        show sumTo j _ + (row.count (j : Int) : Int) ≤ _
        rw [Int.natCast_succ, Int.add_mul, Int.one_mul]
        omega
    have up : ∀ j : Nat, h < j → j ≤ m → sumTo j (fun h => (row.count (h : Int) : Int)) ≤ j * (sh : Int) - (sh : Int) + (row.count (h : Int) : Int) := fun j => by
      induction j with
      | zero => exact fun h _ => absurd h (Nat.not_lt_zero _)
      | succ j ih =>
        intro h1 h2
        show sumTo j _ + (row.count (j : Int) : Int) ≤ _
        rw [Int.natCast_succ, Int.add_mul, Int.one_mul]
        by_cases c : h = j
        · subst c
          have := g h (by omega)
          omega
        · have := ih (by omega) (by omega)
          have := k (j : Int)
          omega
    have u := up m hh (Nat.le_refl _)
    have kh := k (h : Int)
    have em : (m : Int) * (sh : Int) = (n : Int) := by
      rw [← Int.natCast_mul, Nat.mul_comm]
      omega
    rw [s, em, l] at u
    omega
end Ly

/-! ### the first even row -/
namespace Ly
open PySem PySem.Spec PyProof.Rows L2
theorem head_first {α : Type} {P : α → Bool} : ∀ (l : List α) {x : α}, (l.filter P).head? = some x → ∀ (j : Nat) (y : α), l[j]? = some y → P y = true → ∃ i, i ≤ j ∧ l[i]? = some x
  | [], _, h, _, _, _, _ => by cases h
  | a :: r, x, h, j, y, hj, hy => by
    by_cases c : P a = true
    · rw [List.filter_cons_of_pos c] at h
      have e : a = x := Option.some.inj h
      exact ⟨0, Nat.zero_le _, by rw [e]; rfl⟩
    · rw [List.filter_cons_of_neg c] at h
      match j, hj with
      | 0, hj =>
        rw [show a = y from Option.some.inj hj] at c
        exact absurd hy c
      | j + 1, hj =>
        obtain ⟨i, l, e⟩ := head_first r h j y (by simpa using hj) hy
        exact ⟨i + 1, by omega, by simpa using e⟩
theorem head_mem {α : Type} : ∀ {l : List α} {x : α}, l.head? = some x → x ∈ l
  | a :: r, x, h => by
    cases h
    exact List.mem_cons_self
theorem short_facts {m n d : Nat} (hm : 0 < m) (hm4 : m ≤ 4) (hn : 0 < n) {row : List Int} (h : (evens m n d).head? = some row) : row ≠ [] ∧ row.length = n ∧ (∀ z ∈ row, 0 ≤ z ∧ z < (m : Int)) ∧ REv (m : Int) row (d + 1) ∧ row ∈ bal m n := by
  have mem := head_mem h
  obtain ⟨b, e⟩ := evens_mem mem
  obtain ⟨_, l, r, _⟩ := bal_mem b
  refine ⟨fun z => ?_, l, r, e, b⟩
  rw [z] at l
  simp only [List.length_nil] at l
  omega
def swapN (a z : Int) : Int := if z = 0 then a else if z = a then 0 else z
theorem swapN_naming {m : Nat} {a : Int} (h : 0 ≤ a ∧ a < (m : Int)) : Naming m (swapN a) := by
  have tw : ∀ z : Int, swapN a (swapN a z) = z := fun z => by
    unfold swapN
    by_cases c : z = 0
    · rw [if_pos c]
      by_cases d : a = 0
      · rw [if_pos d, c, d]
      · rw [if_neg d, if_pos rfl, c]
    · rw [if_neg c]
      by_cases d : z = a
      · rw [if_pos d, if_pos rfl, d]
      · rw [if_neg d, if_neg c, if_neg d]
  have lo : ∀ z : Int, 0 ≤ z → z < m → 0 ≤ swapN a z ∧ swapN a z < m := fun z h0 h1 => by
    unfold swapN
    split
    · exact h
    · split
      · omega
      · exact ⟨h0, h1⟩
  exact ⟨fun x y _ _ _ _ e => by rw [← tw x, e, tw], fun b h0 h1 => ⟨swapN a b, (lo b h0 h1).1, (lo b h0 h1).2, tw b⟩, fun z h0 h1 => lo z h0 h1⟩
theorem evens_iff {m n d : Nat} (hm : 0 < m) (hm4 : m ≤ 4) {row : List Int} : row ∈ evens m n d ↔ row.length = n ∧ (∀ z ∈ row, 0 ≤ z ∧ z < (m : Int)) ∧ REv (m : Int) row (d + 1) := by
  rw [evens_allB hm hm4, List.mem_filter, allN_mem, evB_iff hm]
  exact ⟨fun h => ⟨h.1.1, h.1.2, h.2⟩, fun h => ⟨⟨h.1, h.2.1⟩, h.2.2⟩⟩
theorem first_nought {m n d : Nat} (hm : 0 < m) (hm4 : m ≤ 4) {a : Int} {r : List Int} (h : (evens m n d).head? = some (a :: r)) : a = 0 := by
  have rs := evens_ris hm4 n d
  cases e : evens m n d with
  | nil =>
    rw [e] at h
    cases h
  | cons x more =>
    rw [e] at h rs
    have ex : x = a :: r := Option.some.inj h
    subst ex
    obtain ⟨l, b, ev⟩ := (evens_iff hm hm4 (n := n) (d := d) (row := a :: r)).mp (by rw [e]; exact List.mem_cons_self)
    have ab := b a List.mem_cons_self
    have N := swapN_naming (m := m) ab
    by_cases c : a = 0
    · exact c
    exfalso
    have sw : (a :: r).map (swapN a) = 0 :: r.map (swapN a) := by
      rw [List.map_cons]
      congr 1
      unfold swapN
      rw [if_neg c, if_pos rfl]
    have mem : (a :: r).map (swapN a) ∈ evens m n d := (evens_iff hm hm4).mpr ⟨by rw [List.length_map]; exact l, fun z hz => by
      obtain ⟨y, hy, e⟩ := List.mem_map.mp hz
      rw [← e]
      exact N.low y (b y hy).1 (b y hy).2, (N.rev b _).mpr ev⟩
    rw [e, sw] at mem
    have b4 : ∀ z ∈ r, 0 ≤ z ∧ z < 4 := fun z hz => by have := b z (List.mem_cons_of_mem _ hz); omega
    have b4' : ∀ z ∈ r.map (swapN a), 0 ≤ z ∧ z < 4 := fun z hz => by
      obtain ⟨y, hy, e⟩ := List.mem_map.mp hz
      have := b y (List.mem_cons_of_mem _ hy)
      have := N.low y this.1 this.2
      omega
    rcases List.mem_cons.mp mem with g | g
    · injection g with g1 _
      exact c g1.symm
    · have lt := (List.pairwise_cons.mp rs).1 _ g
      rw [cod_cons, cod_cons, List.length_map] at lt
      have r1 := cod_range b4
      have r2 := cod_range b4'
      rw [List.length_map] at r2
      have f : (4 : Int) ^ r.length * 1 ≤ 4 ^ r.length * a := Int.mul_le_mul_of_nonneg_left (by omega) (by omega)
      rw [Int.mul_zero, Int.mul_one] at *
      omega
theorem first_at {m n d : Nat} (hm : 0 < m) (hm4 : m ≤ 4) {row : List Int} (h : (evens m n d).head? = some row) : row.getD 0 0 = 0 := by
  match row, h with
  | [], _ => rfl
  | a :: r, h => exact first_nought hm hm4 h
/-! how long the shortest ones are -/
theorem none21 : evens 2 2 1 = [] := by
  rw [evens_B (by decide)]
  decide +kernel
theorem none31 : evens 3 3 1 = [] := by
  rw [evens_B (by decide)]
  decide +kernel
theorem none41 : evens 4 4 1 = [] := by
  rw [evens_B (by decide)]
  decide +kernel
theorem none222 : evens 2 2 2 = [] := by
  rw [evens_B (by decide)]
  decide +kernel
theorem none242 : evens 2 4 2 = [] := by
  rw [evens_B (by decide)]
  decide +kernel
theorem none262 : evens 2 6 2 = [] := by
  rw [evens_B (by decide)]
  decide +kernel
def shortLen (m d : Nat) : Nat := if d = 0 then m else if d = 1 then 2 * m else 8
theorem short_len {m d c : Nat} (hd : (m = 2 ∧ d ≤ 2) ∨ ((m = 3 ∨ m = 4) ∧ d ≤ 1)) (c1 : 1 ≤ c) (cb : c ≤ blocks m d) {row : List Int} (h : (evens m (c * m) d).head? = some row) : c * m = shortLen m d := by
  have ne : evens m (c * m) d ≠ [] := fun z => by
    rw [z] at h
    cases h
  rcases hd with ⟨rfl, hd⟩ | ⟨rfl | rfl, hd⟩
  · match d, hd with
    | 0, _ =>
      have : blocks 2 0 = 1 := rfl
      rw [show c = 1 by omega]
      rfl
    | 1, _ =>
      have : blocks 2 1 = 2 := rfl
      by_cases e : c = 1
      · rw [e] at ne
        exact absurd none21 ne
      · rw [show c = 2 by omega]
        rfl
    | 2, _ =>
      have : blocks 2 2 = 4 := rfl
      by_cases e : c = 1
      · rw [e] at ne
        exact absurd none222 ne
      by_cases e : c = 2
      · rw [e] at ne
        exact absurd none242 ne
      by_cases e : c = 3
      · rw [e] at ne
        exact absurd none262 ne
      rw [show c = 4 by omega]
      rfl
  · match d, hd with
    | 0, _ =>
      have : blocks 3 0 = 1 := rfl
      rw [show c = 1 by omega]
      rfl
    | 1, _ =>
      have : blocks 3 1 = 2 := rfl
      by_cases e : c = 1
      · rw [e] at ne
        exact absurd none31 ne
      · rw [show c = 2 by omega]
        rfl
  · match d, hd with
    | 0, _ =>
      have : blocks 4 0 = 1 := rfl
      rw [show c = 1 by omega]
      rfl
    | 1, _ =>
      have : blocks 4 1 = 2 := rfl
      by_cases e : c = 1
      · rw [e] at ne
        exact absurd none41 ne
      · rw [show c = 2 by omega]
        rfl
end Ly

/-! ### a lambda of one parameter, and min(list, key=.., default=None) -/
namespace Ly
open PySem PySem.Spec PyProof.Rows L2 LamX
/-- one parameter, no other name of its own: captured ones and globals -/
structure Lam1 (sc scope : Scope) (x : Str) : Prop where
  kind : scope.kind = .function
  co : scope.isCoroutine = false
  gen : scope.isGenerator = false
  own : ∀ y ∈ scope.names, (y.2 = .local → y.1 = x) ∧ y.2 ≠ .cell
  par : scope.names.lookup x = some .local
  free : ∀ y ∈ scope.names, y.2 = .free → sc.names.lookup y.1 = some .cell ∨ sc.names.lookup y.1 = some .free
def lam1B (sc scope : Scope) (x : Str) : Bool :=
  decide (scope.kind = .function) && !scope.isCoroutine && !scope.isGenerator && (scope.names.all fun y => (!decide (y.2 = .local) || decide (y.1 = x)) && !decide (y.2 = .cell) && (!decide (y.2 = .free) || decide (sc.names.lookup y.1 = some .cell) || decide (sc.names.lookup y.1 = some .free))) && decide (scope.names.lookup x = some .local)
theorem lam1_by {sc scope : Scope} {x : Str} (h : lam1B sc scope x = true) : Lam1 sc scope x := by
  unfold lam1B at h
  simp only [Bool.and_eq_true, Bool.or_eq_true, Bool.not_eq_true', decide_eq_true_eq, decide_eq_false_iff_not, List.all_eq_true] at h
  obtain ⟨⟨⟨⟨h1, h2⟩, h3⟩, h4⟩, h5⟩ := h
  refine ⟨h1, h2, h3, fun y hy => ⟨fun e => ?_, (h4 y hy).1.2⟩, h5, fun y hy e => ?_⟩
  · rcases (h4 y hy).1.1 with z | z
    · exact absurd e z
    · exact z
  · rcases (h4 y hy).2 with (z | z) | z
    · exact absurd e z
    · exact .inl z
    · exact .inr z
theorem Lam1.has {X : Cx} {scope : Scope} {x : Str} (L : Lam1 X.env.scope scope x) (ok : X.Ok) : ∀ y ∈ scope.names, y.2 = .free → ∃ c, X.env.cells.lookup y.1 = some c := fun y hy e => by
  rcases L.free y hy e with k | k
  · exact ok.has _ (.inl k)
  · exact ok.has _ (.inr k)
/-- the context of the lambda's body: the names of the def that made it, and the parameter behind them -/
def lamCx1 (X : Cx) (A : Around) (outer : List Env) (s : Shared) (H : Hp) (E : XK) (scope : Scope) (f c' : Addr) (x : Str) : Cx where
  prog := X.prog
  w := X.w
  K := X.K
  mg := X.mg
  base := X.base
  A := A.deeper (lamEnv X scope s.heap.objs.size f c')
  N := X.N ++ [x]
  s_0 := s
  H_0 := H
  env := lamEnv X scope s.heap.objs.size f c'
  outer := outer
  stack := lamEnv X scope s.heap.objs.size f c' :: outer
  ex := []
  fn := fun _ => false
  calm := true
  pn := []
  xe := fun e s' => wpAny (model X.prog X.w) (A.deeper (lamEnv X scope s.heap.objs.size f c')) (leaving (lamEnv X scope s.heap.objs.size f c') e) (fun _ s'' => CX0 outer H s E e s'') (fun e' s'' => CX0 outer H s E e' s'') s'
section
variable {X : Cx} {pins : List (Addr × Obj)} {σ : L2.St} {H HZ : Hp} {s s1 : Shared}
theorem lam_start1 {A : Around} {outer : List Env} {E : XK} {scope : Scope} {f c' : Addr} {x : Str} {v : V} {u : Value} {h₁ : Heap} {tk : Nat} (I : Inv X pins σ H s) (L : Lam1 X.env.scope scope x) (hx : x ∉ X.N) (rv : RelV v u) (e0 : Env0 X.prog X.w X.K X.mg X.base A outer s1 HZ) (hd : A.handled = none)
    (un : Un (frs X.stack) [] H HZ s.heap s1.heap) (hns : h₁.Ns s1.heap.objs.size fun y => ([(x, u)] : List (Str × Value)).reverse.lookup y) (kp : ∀ b o, s1.heap.get? b = some o → h₁.get? b = some o) :
    Inv (lamCx1 X A outer s1 HZ E scope f c' x) [] (σ ++ [some v]) HZ { s1 with heap := h₁, toks := tk } := by
  have hfree := L.has I.ok
  have cm : ∀ {y c}, (cloFrom X.env.cells scope.names []).lookup y = some c → X.env.cells.lookup y = some c := fun {y c} e => by
    rcases cloFrom_mem (PySem.mem_of_lookup e) with hm | ⟨h1, h2⟩
    · cases hm
    · obtain ⟨c1, hc⟩ := hfree _ h1 rfl
      have hc : X.env.cells.lookup y = some c1 := hc
      have e2 : c = c1 := by
        rw [h2, hc] <;> rfl
      rw [e2]
      exact hc
  have look : ∀ {y}, scope.names.lookup y = some .free → ∃ c, (cloFrom X.env.cells scope.names []).lookup y = some c := fun {y} hl => by
    have hy : (y, NameKind.free) ∈ scope.names := PySem.mem_of_lookup hl
    exact mem_lookup (cloFrom_has (cells := X.env.cells) (acc := []) hy)
  have cellK : ∀ {c : Addr} {v : Option Value}, H c = none → s.heap.IsCell c v → h₁.IsCell c v := fun {c v} n ⟨o, ho, hd⟩ => by
    obtain ⟨sl, q⟩ := un.any ho n (by simp)
    exact ⟨_, kp _ _ q, hd⟩
  have noA : ∀ b : Addr, b ∉ (lamCx1 X A outer s1 HZ E scope f c' x).ex := fun b z => absurd (show b ∈ ([] : List Addr) from z) (by simp)
  refine ⟨⟨e0.mod, L.kind, rfl, rfl, Nat.le_refl _, fun y z c e1 e2 => I.ok.inj y z c (cm e1) (cm e2), fun y hy => ?_, fun y c z _ => ?_, fun _ => hd, Around.frames_deeper e0.frames, .inr ⟨rfl, rfl⟩, fun b z => absurd z (noA b), e0.bs, e0.bsz, fun b _ _ => noA b,
      fun b z => absurd z (noA b), e0.funs, e0.frf⟩,
    rfl, e0.bare, Un.kept kp, ⟨_, hns, fun i y v' e1 e2 e3 => ?_⟩, fun y c e => ?_, e0.hok.fresh (Nat.le_refl _), fun y c e => ?_, fun q hq => absurd (show q ∈ ([] : List (Addr × Obj)) ++ [] from hq) (by simp), e0.hok.kept kp, ?_⟩
  · have hy : scope.names.lookup y = some .cell ∨ scope.names.lookup y = some .free := hy
    rcases hy with hy | hy
    · exact absurd rfl (L.own _ (PySem.mem_of_lookup hy)).2
    · exact look hy
  · have z : false = true := z
    cases z
  · have e3 : Vis scope y := e3
    have e1 : (X.N ++ [x])[i]? = some y := e1
    have len := I.len
    by_cases c : i < X.N.length
    · rw [List.getElem?_append_left c] at e1
      rw [List.getElem?_append_left (by omega)] at e2
      rcases e3 with k | k | k
      · have : y = x := (L.own _ (PySem.mem_of_lookup k)).1 rfl
        rw [this] at e1
        exact absurd (List.mem_of_getElem? e1) hx
      · exact absurd rfl (L.own _ (PySem.mem_of_lookup k)).2
      · obtain ⟨m, hn, hl⟩ := I.loc
        have hvis : Vis X.env.scope y := (L.free _ (PySem.mem_of_lookup k) rfl).elim (fun k => .inr (.inl k)) (fun k => .inr (.inr k))
        obtain ⟨w', r, q⟩ := hl i y v' e1 e2 hvis
        obtain ⟨c2, h2⟩ := look k
        refine ⟨w', r, .inr ⟨.inr k, c2, h2, ?_⟩⟩
        have c1 := cm h2
        rcases q with ⟨k', _⟩ | ⟨_, c3, e', z⟩
        · have k' : X.env.scope.names.lookup y = some .local := k'
          rcases L.free _ (PySem.mem_of_lookup k) rfl with k2 | k2 <;> rw [show X.env.scope.names.lookup y = _ from k2] at k' <;> cases k'
        · rw [c1] at e'
          cases e'
          exact cellK (I.freeC y _ c1) z
    · have hi : i = X.N.length := by
        have := (List.getElem?_eq_some_iff.mp e1).1
        rw [List.length_append, List.length_singleton] at this
        omega
      rw [hi, List.getElem?_append_right (Nat.le_refl _), Nat.sub_self] at e1
      rw [hi, ← len, List.getElem?_append_right (Nat.le_refl _), Nat.sub_self] at e2
      have ey : x = y := Option.some.inj e1
      have ev : v = v' := Option.some.inj (Option.some.inj e2)
      subst ey ev
      exact ⟨u, rv, .inl ⟨L.par, by simp⟩⟩
  · obtain ⟨w', z⟩ := I.cell y c (cm e)
    exact ⟨w', cellK (I.freeC y c (cm e)) z⟩
  · obtain ⟨v, o, ho, hd⟩ := I.cell y c (cm e)
    exact un.free c o ho (I.freeC y c (cm e)) (by simp)
  · show (σ ++ [some v]).length = (X.N ++ [x]).length
    rw [List.length_append, List.length_append, I.len]
    rfl
/-- the lambda called with u, by what goes on beside the def's body (A: around that) -/
theorem lam_turn {A : Around} {scope : Scope} {f c' : Addr} {x : Str} {v : V} {u pm ctv : Value} {params : Arguments} {body : Expr} {k : Nat} {tb : TE} {Q : VK} {E : Value → Shared → Prop} (I : Inv X pins σ H s) (L : Lam1 X.env.scope scope x) (hx : x ∉ X.N) (rv : RelV v u)
    (hf : s.heap.get? f = some (PySem.W.kla_obj "<lambda>" (X.env.qual ++ "<lambda>") params body scope (cloFrom X.env.cells scope.names []) pm c' ctv))
    (hbind : bindArgs (PySem.W.kla_fn "<lambda>" (X.env.qual ++ "<lambda>") params body scope (cloFrom X.env.cells scope.names []) pm (.ref c') ctv) ⟨[u], []⟩ = pure [(x, u)])
    (e0 : Env0 X.prog X.w X.K X.mg X.base A X.stack s H) (hr : Room (k + 1) A) (hc : H c' = some (CodeO c' (X.env.qual ++ "<lambda>")))
    (hbody : ∀ (A : Around) (outer : List Env) (s : Shared) (H : Hp), Room k (A.deeper (lamEnv X scope s.heap.objs.size f c')) → PE (lamCx1 X A outer s H E0 scope f c' x) body tb) (ht : tb (σ ++ [some v]) H Q) :
    wpAny (model X.prog X.w) A (call (.ref f) [u]) (fun r s' => ∃ v' H', Inv X pins σ H' s' ∧ Un (frs X.stack) [] H H' s.heap s'.heap ∧ RelV v' r ∧ Q v' H') E s := by
  obtain ⟨⟨oc, vs, t, hoc, hdc, hvc⟩, _, _⟩ := I.hok c' _ hc
  have rc : codeAny (model X.prog X.w) A (.call (.ref f) ⟨[u], []⟩) (CR CX0 X.stack X.prog X.w H s Q E0) s := by
    refine PySem.W.kla_callFunE hr.depth hf rfl L.co L.gen rfl ⟨c', oc, vs, t, rfl, hoc, hdc, hvc⟩ ?_
    rw [hbind]
    refine wpAny_pure (wpAny_newFunctionEnv (fun y hy => (L.own y hy).2) (fun y hy => by rw [List.mem_singleton.mp hy]; exact L.par) (fun h₁ hns hsb => ⟨I.nolimit.fresh _ hsb, ?_⟩) L.kind)
    show codeAny _ _ (.expr body (lamEnv X scope s.heap.objs.size f c')) _ _
    have kp : ∀ b o, s.heap.get? b = some o → h₁.get? b = some o := fun b o e => hsb.extBut b o (Nat.ne_of_lt (Heap.lt_size e)) (Heap.get?_push_of_some _ e)
    have J : Inv (lamCx1 X A X.stack s H E0 scope f c' x) [] (σ ++ [some v]) H { s with heap := h₁, toks := s.toks + ([(x, u)] : List (Str × Value)).length } :=
      lam_start1 I L hx rv e0 hr.hd Un.refl hns kp
    refine PySem.W.kla_codeExpr (wpAny_mono ((hbody _ _ s H (hr.deeper _)).run [] _ _ H Q J ht) (fun v s' hq => ?_) fun e s' hq => hq)
    obtain ⟨w', H', J', rv, q⟩ := hq
    exact ⟨w', H', J'.os, J'.bare, J'.base, J'.hok, rv, q⟩
  refine wpAny_call (codeAny_mono rc fun r s' hq => ?_)
  cases r with
  | error e => exact (show False from hq).elim
  | ok fl =>
    cases fl with
    | ret u =>
      have hq : CE X.stack X.prog X.w H s Q u s' := hq
      obtain ⟨v1, H1, I1, r1, q1⟩ := I.after (Q := fun v' H' => Un (frs X.stack) [] H H' s.heap s'.heap ∧ Q v' H') (by
        obtain ⟨v, H', os, bare, un, hok, r, q⟩ := hq
        exact ⟨v, H', os, bare, un, hok, r, un, q⟩)
      exact ⟨v1, H1, I1, q1.1, r1, q1.2⟩
    | next => exact False.elim hq
    | brk => exact False.elim hq
    | cont => exact False.elim hq
theorem fresh_ch (I : Inv X pins σ H s) {b : Addr} (hb : s.heap.objs.size ≤ b) : (b ∈ X.ex ∨ X.s_0.heap.objs.size ≤ b) ∧ b ≠ X.env.locals ∧ (∀ x c, X.env.cells.lookup x = some c → c ≠ b) ∧ ∀ p ∈ X.pn ++ pins, p.1 ≠ b := by
  refine ⟨.inr (Nat.le_trans I.sz hb), fun e => ?_, fun x c e z => ?_, fun p hp z => ?_⟩
  · have := I.lt
    rw [← e] at this
    exact Nat.lt_irrefl _ (Nat.lt_of_lt_of_le this hb)
  · obtain ⟨v, o, ho, _⟩ := I.cell x c e
    have := Heap.lt_size ho
    rw [z] at this
    exact Nat.lt_irrefl _ (Nat.lt_of_lt_of_le this hb)
  · have := Heap.lt_size (I.pin p hp).1
    rw [z] at this
    exact Nat.lt_irrefl _ (Nat.lt_of_lt_of_le this hb)
/-- untracked things of ours have changed -/
theorem inv_moved {h' : Heap} {t' : Nat} {ch : List Addr} (I : Inv X pins σ H s) (k : ∀ b o, b ∉ ch → s.heap.get? b = some o → h'.get? b = some o) (hn : ∀ b ∈ ch, H b = none)
    (hch : ∀ b ∈ ch, (b ∈ X.ex ∨ X.s_0.heap.objs.size ≤ b) ∧ b ≠ X.env.locals ∧ (∀ x c, X.env.cells.lookup x = some c → c ≠ b) ∧ ∀ p ∈ X.pn ++ pins, p.1 ≠ b) : Inv X pins σ H { s with heap := h', toks := t' } := by
  have nit : ∀ b u, H b = some u → b ∉ ch := fun b u e z => by rw [hn b z] at e; cases e
  refine I.step (g' := s.gens) (d' := s.drawn) (ch := ch) hch (fun b o _ _ hc e _ => k b o hc e) (fun b o _ _ hc e _ => ⟨o.slots, k b o hc e⟩) (fun _ _ _ _ n => n)
    (fun b o hc e => ⟨o, k b o hc e⟩) (fun _ _ e => e) (fun _ _ _ e => e) (fun b ps e => ⟨#[], by rw [e]; simp⟩) (fun m hm => ?_) (fun b u e => ?_) I.bare
  · obtain ⟨o, es, ep, ho, r⟩ := hm
    exact ⟨o, es, ep, k _ o (fun z => (hch _ z).2.1 rfl) ho, r⟩
  · refine (I.hok b u e).stay (fun c v hc q => k c v ?_ q) (fun _ q => q) fun _ _ q => q
    rcases hc with z | z
    · rw [z]; exact nit b u e
    · exact nit c _ z
theorem vals_refs : ∀ {as : List Addr} {us : List Value}, Vals (as.map V.ref) us → us = as.map Value.ref
  | [], _, .nil => rfl
  | a :: as, _, .cons r rs => by
    rw [vals_refs rs, show _ = Value.ref a from r]
    rfl
theorem argBest_first (num : Nat → Int) : ∀ k, argBest (fun i j => decide (num i < num j)) k ≤ k ∧ ∀ j, j ≤ k → num (argBest (fun i j => decide (num i < num j)) k) ≤ num j ∧ (j < argBest (fun i j => decide (num i < num j)) k → num (argBest (fun i j => decide (num i < num j)) k) < num j)
  | 0 => ⟨Nat.le_refl _, fun j hj => by
    have : j = 0 := by omega
    subst this
    exact ⟨Int.le_refl _, fun h => absurd h (Nat.lt_irrefl _)⟩⟩
  | k + 1 => by
    obtain ⟨h1, h2⟩ := argBest_first num k
    simp only [argBest]
    by_cases hc : num (k + 1) < num (argBest (fun i j => decide (num i < num j)) k)
    · rw [if_pos (decide_eq_true hc)]
      refine ⟨Nat.le_refl _, fun j hj => ?_⟩
      by_cases e : j = k + 1
      · rw [e]
        exact ⟨Int.le_refl _, fun h => absurd h (Nat.lt_irrefl _)⟩
      · have := (h2 j (by omega)).1
        exact ⟨by omega, fun _ => by omega⟩
    · rw [if_neg (fun z => hc (of_decide_eq_true z))]
      refine ⟨by omega, fun j hj => ?_⟩
      by_cases e : j = k + 1
      · rw [e]
        exact ⟨by omega, fun h => by omega⟩
      · exact h2 j (by omega)
theorem minkey_run {scope : Scope} {f c' l : Addr} {x : Str} {pm ctv : Value} {params : Arguments} {body : Expr} {k : Nat} {tb : TE} {Q : VK} {E : Value → Shared → Prop} {as : List Addr} {kf : Nat → Int} {Jh : Hp → Prop} (I : Inv X pins σ H s) (L : Lam1 X.env.scope scope x) (hx : x ∉ X.N)
    (hf : s.heap.get? f = some (PySem.W.kla_obj "<lambda>" (X.env.qual ++ "<lambda>") params body scope (cloFrom X.env.cells scope.names []) pm c' ctv)) (hfn : H f = none) (hfr : f ∉ frs X.stack)
    (hbind : ∀ u, bindArgs (PySem.W.kla_fn "<lambda>" (X.env.qual ++ "<lambda>") params body scope (cloFrom X.env.cells scope.names []) pm (.ref c') ctv) ⟨[u], []⟩ = pure [(x, u)])
    (hr : Room (k + 2) X.A) (hbody : ∀ (A : Around) (outer : List Env) (s : Shared) (H : Hp), Room k (A.deeper (lamEnv X scope s.heap.objs.size f c')) → PE (lamCx1 X A outer s H E0 scope f c' x) body tb)
    (jc : ∀ H', Jh H' → H' c' = some (CodeO c' (X.env.qual ++ "<lambda>"))) (jD : ∀ H', Jh H' → SqL X.K H' l (as.map V.ref)) (j0 : Jh H)
    (ht : ∀ (i : Nat) a H', as[i]? = some a → Jh H' → tb (σ ++ [some (.ref a)]) H' fun v H'' => v = .int (kf i) ∧ Jh H'')
    (q0 : as = [] → ∀ H', Jh H' → Q .non H') (q1 : ∀ (i : Nat) a H', as[i]? = some a → (∀ j, j < as.length → kf i ≤ kf j ∧ (j < i → kf i < kf j)) → Jh H' → Q (.ref a) H') :
    wpAny (model X.prog X.w) X.A (call (.builtin "min") [.ref l] [(Str.ofString "key", .ref f), (Str.ofString "default", .none)]) (EP X pins σ Q) E s := by
  obtain ⟨its, rv, hpl, _⟩ := I.list (jD _ j0)
  have eits := vals_refs rv
  subst eits
  have hl : s.heap.IsList l (as.map Value.ref).toArray := by
    obtain ⟨o, n, e, c, d, z⟩ := hpl
    exact ⟨o, e, c, by exact ⟨n, z⟩⟩
  have nofr : ∀ b, s.heap.objs.size ≤ b → b ∉ frs X.stack := fun b hb z => by
    rcases List.mem_cons.mp (I.stkSub _ z) with e | e
    · have h1 := I.lt
      rw [← e] at h1
      exact Nat.lt_irrefl _ (Nat.lt_of_lt_of_le h1 hb)
    · exact I.nofs hb e
  refine call_min_walkKD (PySem.W.iter_listW (A := X.A.in1) hr.hd hl fun s₂ e W st hfp hw hk => ?_)
  subst e
  have I2 : Inv X pins σ H { s with heap := s.heap.push { cls := .type "list_iterator", data := .fields #[.ref l, .int 0 0] }, toks := s.toks } := I.kept fun b o e => Heap.get?_push_of_some _ e
  have hsz : (as.map Value.ref).toArray.size = as.length := by simp
  have zS : (s.heap.push { cls := .type "list_iterator", data := .fields #[.ref l, .int 0 0] }).objs.size = s.heap.objs.size + 1 := Heap.size_push ..
  have gf2 : (s.heap.push { cls := .type "list_iterator", data := .fields #[.ref l, .int 0 0] }).get? f = _ := Heap.get?_push_of_some _ hf
  have lf : f < s.heap.objs.size := Heap.lt_size hf
  have hitem : ∀ (i : Nat) (v : Value), (as.map Value.ref).toArray[i]? = some v → ∃ a, as[i]? = some a ∧ v = .ref a := fun i v h => by
    rw [List.getElem?_toArray, List.getElem?_map] at h
    cases h2 : as[i]? with
    | none => rw [h2] at h; cases h
    | some a => rw [h2] at h; cases h; exact ⟨a, rfl, rfl⟩
  generalize hS : (s.heap.push { cls := .type "list_iterator", data := .fields #[.ref l, .int 0 0] }).objs.size = S at zS
  have chI := fresh_ch I (b := s.heap.objs.size) (Nat.le_refl _)
  have chS := fresh_ch I (b := S) (by omega)
  have hch : ∀ b ∈ [S, s.heap.objs.size], (b ∈ X.ex ∨ X.s_0.heap.objs.size ≤ b) ∧ b ≠ X.env.locals ∧ (∀ x c, X.env.cells.lookup x = some c → c ≠ b) ∧ ∀ p ∈ X.pn ++ pins, p.1 ≠ b := fun b hb => by
    rcases List.mem_cons.mp hb with z | z
    · rw [z]; exact chS
    · rw [List.mem_singleton.mp z]; exact chI
  refine ⟨_, _, _, _, _, _, _, fun s' => ∃ H', Inv X pins σ H' s' ∧ Jh H' ∧ H' s.heap.objs.size = none ∧ H' S = none ∧ H' f = none ∧ s'.heap.get? f = some (PySem.W.kla_obj "<lambda>" (X.env.qual ++ "<lambda>") params body scope (cloFrom X.env.cells scope.names []) pm c' ctv),
    fun i k _ => ∃ t, k = .int (kf i) t, fun i j => decide (kf i < kf j), rfl, W, st, fun b hb => by rw [← hS]; exact hfp b hb, ⟨?_, ?_, ?_, ?_⟩, ⟨H, I2, j0, I.hok.fresh (Nat.le_refl _), I.hok.fresh (by omega), hfn, gf2⟩, ?_, ?_⟩
  · rintro s1 s2 ⟨H', I1, jh, n1, n2, n3, g⟩ mv
    refine ⟨H', ?_, jh, n1, n2, n3, mv.heap f _ (fun z => ?_) g⟩
    · rw [Moved.eq_with mv]
      exact inv_moved (ch := [S, s.heap.objs.size]) I1 mv.heap (fun b hb => by
        rcases List.mem_cons.mp hb with z | z
        · rw [z]; exact n2
        · rw [List.mem_singleton.mp z]; exact n1) hch
    · rcases List.mem_cons.mp z with z | z
      · exact absurd z (Nat.ne_of_lt (by rw [zS]; exact Nat.lt_succ_of_lt lf))
      · exact absurd (List.mem_singleton.mp z) (Nat.ne_of_lt lf)
  · rintro i k s1 s2 h _
    exact h
  · rintro i v s1 o Q' E' hi hv ⟨H', I1, jh, n1, n2, n3, g⟩ ⟨hit, hli⟩ hSo kk
    obtain ⟨a, ha, rfl⟩ := hitem i v hv
    have eR : Env0 X.prog X.w X.K X.mg X.base X.A.in1 X.stack s1 H' := I1.env0.in1
    refine wpAny_mono (lam_turn (v := .ref a) I1 L hx rfl g (hbind _) eR hr.in1 (jc _ jh) hbody (ht i a H' ha jh)) (fun r s' h => ?_) fun _ _ z => z
    obtain ⟨v', H2, I2', un, rv', e', jh2⟩ := h
    rw [e'] at rv'
    obtain ⟨t', et⟩ := _root_.id rv'
    obtain ⟨oI, hoI, hoc, hod⟩ := _root_.id hit
    have gI := un.keep _ oI hoI n1 (nofr _ (Nat.le_refl _)) (by simp)
    have gS := un.keep _ o hSo n2 (nofr _ (by omega)) (by simp)
    refine kk r s' ⟨H2, I2', jh2, un.free _ _ hoI n1 (by simp), un.free _ _ hSo n2 (by simp), un.free _ _ g n3 (by simp), un.keep _ _ g n3 hfr (by simp)⟩ ⟨⟨oI, gI, hoc, hod⟩, ?_⟩ gS ⟨t', et⟩ fun j k' h => h
    obtain ⟨its2, rv2, hpl2, _⟩ := I2'.list (jD _ jh2)
    have eits2 := vals_refs rv2
    subst eits2
    obtain ⟨o2, n, e2, c2, d2, z2⟩ := hpl2
    exact ⟨o2, e2, c2, by exact ⟨n, z2⟩⟩
  · rintro i j ki kj s1 Q' E' hJ ⟨t1, e1⟩ ⟨t2, e2⟩ q
    exact CmpOf.ints_lt (P := fun i v => ∃ t, v = .int (kf i) t) kf (fun i v h => h) i j _ _ _ _ _ ⟨t1, e1⟩ ⟨t2, e2⟩ q
  · rintro hn s' ⟨H', I1, jh, _⟩
    rw [hsz] at hn
    exact ⟨.non, H', I1, rfl, q0 (List.length_eq_zero_iff.mp hn) H' jh⟩
  · rintro hn v s' hv ⟨H', I1, jh, _⟩
    obtain ⟨a, ha, rfl⟩ := hitem _ v hv
    rw [hsz] at ha hn
    obtain ⟨b1, b2⟩ := argBest_first kf (as.length - 1)
    exact ⟨.ref a, H', I1, rfl, q1 _ a H' ha (fun j hj => b2 j (by omega)) jh⟩
end
/-- what min(ta, key=lambda x: tb, default=None) answers: tb gives numbers and keeps Jh; the first of the least, or None of nothing -/
def tMinKey (K : PySem.W.Frag) (T : List (Addr × Str)) (q : Str) (ta : TA) (tb : TE) : TE := fun σ H Q => ta σ H fun vs H1 => Tabs T H1 ∧ ∃ (l : Addr) (as : List Addr) (kf : Nat → Int), vs = [.ref l] ∧
  ∀ (H2 : Hp) (c' : Addr), ExtN H1 H2 → Tabs T H2 → H2 c' = some (CodeO c' q) → ∃ Jh : Hp → Prop, Jh H2 ∧ (∀ H', Jh H' → H' c' = some (CodeO c' q)) ∧ (∀ H', Jh H' → SqL K H' l (as.map V.ref)) ∧
    (∀ (i : Nat) a H', as[i]? = some a → Jh H' → tb (σ ++ [some (.ref a)]) H' fun v H'' => v = .int (kf i) ∧ Jh H'') ∧
    (as = [] → ∀ H', Jh H' → Q .non H') ∧ ∀ (i : Nat) a H', as[i]? = some a → (∀ j, j < as.length → kf i ≤ kf j ∧ (j < i → kf i < kf j)) → Jh H' → Q (.ref a) H'
section
variable {X : Cx}
theorem pe_minkey {T : List (Addr × Str)} {c P : Addr} {x : Str} {params : Arguments} {body e : Expr} {scope : Scope} {k n : Nat} {ta : TA} {tb : TE} {p lpos npos pos k1 k2 : Pos} (hg : Gl X (Str.ofString "min")) (hm : X.mg (Str.ofString "min") = none) (ha : PA X [e] ta) (TB : TabB X.base X.mg c P) (hcode : X.env.code = .ref c)
    (hmT : (P, X.env.qual ++ "<lambda>") ∈ T) (hu : ∀ p ∈ T, p.1 = P → p.2 = X.env.qual ++ "<lambda>") (hdef : defaultsOf params X.env = ([], [])) (L : Lam1 X.env.scope scope x) (hx : x ∉ X.N)
    (hbind : ∀ (u : Value) (cl : List (Str × Addr)) (pm cv ctv : Value), bindArgs (PySem.W.kla_fn "<lambda>" (X.env.qual ++ "<lambda>") params body scope cl pm cv ctv) ⟨[u], []⟩ = pure [(x, u)])
    (hr : Room (k + 2) X.A) (hbody : ∀ (A : Around) (outer : List Env) (s : Shared) (H : Hp) (f c' : Addr), Room k (A.deeper (lamEnv X scope s.heap.objs.size f c')) → PE (lamCx1 X A outer s H E0 scope f c' x) body tb)
    (he : starEach [e] X.env = (false, eval e X.env) :: starEach [] X.env := by rfl) :
    PE X (.Call (.Name "min" p) [e] [⟨some "key", .Lambda params body scope lpos, k1⟩, ⟨some "default", .Constant .none n npos, k2⟩] pos) (tMinKey X.K T (X.env.qual ++ "<lambda>") ta tb) := by
  refine ⟨fun pins s σ H Q I h => ?_⟩
  refine wpAny_Call_Name_kw (ld_blt I hg hm (u := .builtin "min") (by rfl) ?_ (by decide) (by decide))
  refine PyProof.Rows.callWith_kw (thn (ha.run pos pins s σ H _ I h) fun us s1 ⟨vs, H1, I1, r1, q1⟩ => ?_) (by rw [he]; rfl) (by rw [he]; rfl) (by rfl) (by rfl)
  obtain ⟨hT, l, as, kf, evs, q1⟩ := q1
  subst evs
  obtain ⟨u, us', eu⟩ : ∃ u us', us = u :: us' := by cases r1; exact ⟨_, _, rfl⟩
  subst eu
  have e1 : u = .ref l := by cases r1 with | cons r rs => exact r
  have e2 : us' = [] := by cases r1 with | cons r rs => cases rs; rfl
  subst e1 e2
  refine PyProof.Rows.kws_cons ?_
  refine lam_make2 I1 TB hcode hmT hu hT hdef (L.has I1.ok) fun f c' pm ctv H2 s2 I2 eN T2 hf hfn hfr hco => ?_
  obtain ⟨Jh, j0, jc, jD, ht, a0, a1⟩ := q1 H2 c' eN T2 hco
  refine PyProof.Rows.kws_cons ?_
  have hN : ∀ {Q' : Value → Shared → Prop} {E'}, Q' .none s2 → wpAny (model X.prog X.w) X.A (eval (.Constant .none n npos) X.env) Q' E' s2 := fun {Q' E'} h => by
    first
    | exact Calls.Constant_none h
    | exact wpAny_Constant_none h
    | exact wpAny_pure h
  refine hN (PyProof.Rows.kws_nil ?_)
  exact minkey_run I2 L hx hf hfn hfr (fun u => hbind u _ _ _ _) hr (fun A outer s H hr2 => hbody A outer s H f c' hr2) jc jD j0 ht a0 a1
end
/-- the code object of the def x of the top is c -/
def CodeIs (K : PySem.W.Frag) (mg : Str → Option Value) (x : Str) (c : Addr) : Prop := ∀ (f : Addr) (o : Obj) (fd : FuncData), mg x = some (.ref f) → K.lookup f = some o → o.data = .func fd → fd.code = .ref c
section
variable {P : Program} {w : World} {K : PySem.W.Frag} {mg : Str → Option Value} {base : Heap} {x : Str} {st : Stmt} {N ps : List Str} {k : Nat} {sp : Sp} {c : Addr}
/-- At.cal, the code object known -/
theorem At.calT (F : At K mg x st []) (C : CodeIs K mg x c) (S : FnScope N ps (defScope st))
    (hb : ∀ (kV doc pm : Value) (an : Option Addr) (cdv ct : Value) (us : List Value), us.length = ps.length → bindArgs (PySem.W.fnOf x x (defArgs st) (defBody st) (defScope st) .none kV doc pm an cdv ct) ⟨us, []⟩ = pure (ps.zip us))
    (len : ∀ vs H Q E, sp vs H Q E → vs.length = ps.length)
    (hbody : ∀ (A : Around) (outer : List Env) (s : Shared) (H : Hp) (vs : List V) (Q : VK) (E : XK) (f : Addr), Room k (A.deeper (envOfC x (defScope st) s.heap.objs.size f (.ref c))) → sp vs H Q E →
      ∃ t, PSs (cxOf CX0 P w K mg base N x (defScope st) f (.ref c) A outer s H E).nox (defBody st) t ∧ t { nx := fun _ H' => Q .non H', rt := Q } (start N vs) H) : Cal P w K mg base (k + 1) x ps sp := by
  obtain ⟨f, fd, G, m⟩ := F.ex
  have B := G.bindsN hb
  have kp := G.kp
  obtain ⟨oc, od, dV, kV, doc, pm, an, cdv, ct, osl, rfl, lk, hcd, _, _⟩ := G.ex
  have e : cdv = .ref c := C f _ _ m lk rfl
  subst e
  exact ⟨f, _, fn_of lk hcd S len fun A outer s H vs Q E hr h => by
    obtain ⟨t, h1, h2⟩ := hbody A outer s H vs Q E f hr h
    exact ⟨t, PSs.nox h1, h2⟩, m, kp, B⟩
end
/-! ### what stays where a code table grows -/
theorem extN_lst {H H' : Hp} {p : Addr} {xs : List V} (s : ExtN H H') (h : H p = some (.lst xs)) : H' p = some (.lst xs) := s _ _ h fun _ z => nomatch z
theorem extN_seqT {K : PySem.W.Frag} {H H' : Hp} {a : Addr} {xs : List V} (s : ExtN H H') (h : SqT K H a xs) : SqT K H' a xs := by
  rcases h with (h | ⟨o, h⟩) | h
  · exact .inl (.inl (s _ _ h fun _ z => nomatch z))
  · exact .inl (.inr ⟨o, s _ _ h fun _ z => nomatch z⟩)
  · exact .inr h
theorem extN_fz {H H' : Hp} {p : Addr} {xs : List V} (s : ExtN H H') (h : FzT H p xs) : FzT H' p xs := by
  obtain ⟨o, c, e⟩ := h
  exact ⟨o, c, s _ _ e fun _ z => nomatch z⟩
theorem extN_same {H H' : Hp} (s : Same H H') : ExtN H H' := ExtN.of s
theorem rws_as {H : Hp} {rs : List V} {rows : List (List Int)} (h : Rws H rs rows) : ∃ as : List Addr, rs = as.map V.ref ∧ ∀ (i : Nat) a, as[i]? = some a → ∃ row, rows[i]? = some row ∧ FzT H a (row.map V.int) := by
  have get : ∀ (i : Nat) v, rs[i]? = some v → ∃ row u, rows[i]? = some row ∧ v = .ref u ∧ FzT H u (row.map V.int) := fun i v e => by
    have li : i < rows.length := by
      rw [← h.1]
      exact (List.getElem?_eq_some_iff.mp e).1
    obtain ⟨u, e2, f⟩ := h.2 i _ (List.getElem?_eq_getElem li)
    rw [e] at e2
    exact ⟨_, u, List.getElem?_eq_getElem li, Option.some.inj e2, f⟩
  let un : V → Addr := fun v => match v with | .ref a => a | _ => 0
  refine ⟨rs.map un, List.ext_getElem? fun i => ?_, fun i a e => ?_⟩
  · rw [List.map_map, List.getElem?_map]
    cases e : rs[i]? with
    | none => rfl
    | some v =>
      obtain ⟨row, u, _, ev, _⟩ := get i v e
      subst ev
      rfl
  · rw [List.getElem?_map] at e
    cases e2 : rs[i]? with
    | none => rw [e2] at e; cases e
    | some v =>
      obtain ⟨row, u, r1, ev, f⟩ := get i v e2
      subst ev
      rw [e2] at e
      have : u = a := Option.some.inj e
      subst this
      exact ⟨row, r1, f⟩
/-! ### the head, the tables of code objects left out of what is kept; the end with one such table -/
def isTab (o : Obj) : Bool := match o.data with
  | .fields vs => vs.isEmpty
  | _ => false
def asT (g : Addr → Option Obj) (n : Nat) : List Addr := (He.asD g n).filter fun a => match g a with
  | some o => !isTab o
  | none => false
def obsT (n : Nat) (fa : List He.Fa) (fn : List He.DefD) (ex : PySem.W.Frag → Bool) (g : Addr → Option Obj) : AlM := (He.obsD fa fn (He.frG g (asT g n)), ex (He.frG g (asT g n)))
def NoTab (K : PySem.W.Frag) : Prop := ∀ a o, K.lookup a = some o → isTab o = false
theorem fr_mem {a : Addr} {o : Obj} : ∀ K : List (Addr × Obj), K.lookup a = some o → (a, o) ∈ K
  | [], h => nomatch (show (none : Option Obj) = some o from h)
  | (b, p) :: r, h => by
    rw [List.lookup_cons] at h
    by_cases e : a = b
    · rw [show (a == b) = true from beq_iff_eq.mpr e] at h
      cases h
      rw [e]
      exact List.mem_cons_self ..
    · rw [show (a == b) = false from beq_eq_false_iff_ne.mpr e] at h
      exact List.mem_cons_of_mem _ (fr_mem r h)
theorem frG_mem {g : Addr → Option Obj} {as : List Addr} {a : Addr} {o : Obj} (h : (He.frG g as).lookup a = some o) : a ∈ as ∧ g a = some o := by
  have m : (a, o) ∈ He.frG g as := fr_mem _ h
  unfold He.frG at m
  obtain ⟨b, hb, e⟩ := List.mem_filterMap.mp m
  cases e2 : g b with
  | none => rw [e2] at e; cases e
  | some ob =>
    rw [e2] at e
    cases e
    exact ⟨hb, e2⟩
theorem asT_no {g : Addr → Option Obj} {n : Nat} : NoTab (He.frG g (asT g n)) := fun a o h => by
  obtain ⟨m, e⟩ := frG_mem h
  have := (List.mem_filter.mp m).2
  rw [e] at this
  simpa using this
def hookT (n : Nat) (fa : List He.Fa) (fn : List He.DefD) (ex : PySem.W.Frag → Bool) : PySem.W.Hook where
  α := AlM
  obs := fun s => obsT n fa fn ex s.heap.get?
  val := fun _ => (He.valD fn, true)
  says := fun _ h => ∃ K : PySem.W.Frag, K.In h ∧ He.SaysD fa fn K ∧ ex K = true ∧ NoTab K
  of := fun _ _ e => ⟨_, He.frG_in, congrArg (fun z : AlM => z.1) e, congrArg (fun z : AlM => z.2) e, asT_no⟩
  keeps := fun _ _ _ ⟨K, hK, c⟩ k => ⟨K, PySem.W.Frag.In.keeps hK k, c⟩
theorem obsT_eq {n : Nat} {fa : List He.Fa} {fn : List He.DefD} {ex : PySem.W.Frag → Bool} {g : Addr → Option Obj} {s : Shared} (h : ∀ a, g a = s.heap.get? a) : obsT n fa fn ex g = (hookT n fa fn ex).obs s := by
  have e : g = s.heap.get? := funext h
  rw [e] <;> rfl
/-- the def of the name z: its code object c, and c's table P, which is empty -/
def TabIs (mg : Str → Option Value) (h : Heap) (z : Str) (c P : Addr) : Prop := ∃ (a : Addr) (o : Obj) (fd : FuncData), mg z = some (.ref a) ∧ h.get? a = some o ∧ o.data = .func fd ∧ fd.code = .ref c ∧ PySem.W.CodeHd h c P ∧ h.get? P = some { cls := .none, data := .fields #[] }
theorem TabIs.code {K : PySem.W.Frag} {mg : Str → Option Value} {h : Heap} {z : Str} {c P : Addr} (t : TabIs mg h z c P) (KX : K.In h) : CodeIs K mg z c := fun f o fd e1 e2 e3 => by
  obtain ⟨a, o', fd', h1, h2, h3, h4, _, _⟩ := t
  rw [h1] at e1
  cases e1
  rw [KX _ _ e2] at h2
  cases h2
  rw [e3] at h3
  cases h3
  exact h4
theorem TabIs.out {K : PySem.W.Frag} {mg : Str → Option Value} {h : Heap} {z : Str} {c P : Addr} (t : TabIs mg h z c P) (KX : K.In h) (n : NoTab K) : K.lookup P = none := by
  obtain ⟨a, o', fd', h1, h2, h3, h4, h5, h6⟩ := t
  cases e : K.lookup P with
  | none => rfl
  | some o =>
    have z := n _ _ e
    rw [KX _ _ e] at h6
    cases h6
    cases z
theorem walk_ofTb {l : PySem.W.OpenLaw} {n k : Nat} {q : Program} {loose : List Str} {XP : (Str → Option Value) → Heap → Prop} {YP : World → Heap → Prop} {d : DefRec} {CX : World → CXT} {x z : Str}
    (hn : l.most = some n) (hn2 : n ≤ sizeLine) (hdf : d.params.defaults = []) (hr : Room k callerA) (hrec : ((recsOf q).any fun e => e.name == z) = true)
    (F : ∀ (w : World) (mg : Str → Option Value) (fa : Addr) (h : Heap) (c P : Addr), YP w h → h.Ns mainGlobals mg → mg d.name = some (.ref fa) → TabIs mg h z c P → ∃ K : PySem.W.Frag, K.In h ∧ LawAtS l w K (CX w) k n x mg fa h)
    (hCX : ∀ (w : World) (H : Hp) (s : Shared) (e : Value) (s' : Shared), CX w [] H s (fun _ _ _ => False) e s' → False) :
    PySem.W.WalkO q loose XP YP l.row.toRowW d [] (fun f vs => PySem.call f vs) := by
  refine Att.attach_callB hn hdf fun w s₀ s₁ mg mb fa o pm cd doc a vs ns G Y ho hd hcd hmg hobj hints hlen hbits hg => ?_
  obtain ⟨dL, hm, hn1⟩ := List.any_eq_true.mp hrec
  have hn2' : dL.name = z := beq_iff_eq.mp hn1
  obtain ⟨a', o', fd', c', P', h1, h2, h3, h4, h5, h6⟩ := G.T.tab dL hm
  rw [hn2'] at h1
  have hCP : PySem.W.CodeHd s₁.heap c' P' := by
    exact PySem.W.CodeHd.of h5 h6
  have t : TabIs mg s₁.heap z c' P' := ⟨a', o', fd', h1, h2, h3, h4, hCP, h6.2⟩
  obtain ⟨K, KX, fd, cs, sp, hT, nT, C, hb, hsp, hF⟩ := F w mg fa _ c' P' Y G.T.g hmg t
  exact law_callTs KX G.T.g G.T.b G.T.builtins G.T.nolimit hg hT nT C G.T.bmain hobj hints (Nat.le_trans hlen hn2) hr hF hb (fun H hH hS => hsp H a ns hlen hbits hH hS) fun H e s' => hCX w H s₁ e s'
/-! two such tables -/
def codeOf (o : Obj) : Option Addr := match o.data with
  | .func fd => match fd.code with
    | .ref c => some c
    | _ => none
  | _ => none
def tblOf (o : Obj) : Option Addr := match o.data with
  | .fields vs => match (vs[11]? : Option Value) with
    | some (.ref P) => some P
    | _ => none
  | _ => none
def tabOf (K : PySem.W.Frag) (z : Str) : Option Addr := if He.eqO (PySem.W.nsIn K mainGlobals z) (some (some (.ref (He.ga K z)))) = true then ((K.lookup (He.ga K z)).bind codeOf).bind fun c => (K.lookup c).bind tblOf else none
theorem codeOf_ok {o : Obj} {fd : FuncData} {c c' : Addr} (h : o.data = .func fd) (e : fd.code = .ref c) (g : codeOf o = some c') : c = c' := by
  unfold codeOf at g
  rw [h] at g
  dsimp only at g
  rw [e] at g
  exact Option.some.inj g
theorem tblOf_ok {o : Obj} {vs : Array Value} {P Q : Addr} (h : o.data = .fields vs) (e : vs[11]? = some (.ref P)) (g : tblOf o = some Q) : P = Q := by
  unfold tblOf at g
  rw [h] at g
  dsimp only at g
  rw [e] at g
  exact Option.some.inj g
theorem tabOf_ok {K : PySem.W.Frag} {mg : Str → Option Value} {h : Heap} {z : Str} {c P Q : Addr} (X : K.In h) (G : h.Ns mainGlobals mg) (t : TabIs mg h z c P) (e : tabOf K z = some Q) : P = Q := by
  obtain ⟨a, o, fd, h1, h2, h3, h4, h5, _⟩ := t
  obtain ⟨oc, vs, file, tf, flags, tg, inF, text, tt, g1, _, g3, g4, _⟩ := h5
  unfold tabOf at e
  split at e
  · next c0 =>
    have m := PySem.W.mg_of X G (He.eqO_ok c0)
    rw [h1] at m
    have ea : a = He.ga K z := by
      cases m
      rfl
    rw [← ea] at e
    obtain ⟨c', e1, e2⟩ := Option.bind_eq_some_iff.mp e
    obtain ⟨o', e3, e4⟩ := Option.bind_eq_some_iff.mp e1
    obtain ⟨o2, e5, e6⟩ := Option.bind_eq_some_iff.mp e2
    have q1 := X _ _ e3
    rw [h2] at q1
    cases q1
    have ec := codeOf_ok h3 h4 e4
    rw [← ec] at e5
    have q2 := X _ _ e5
    rw [g1] at q2
    cases q2
    exact tblOf_ok g3 g4 e6
  · cases e
def tabsNe (K : PySem.W.Frag) (x y : Str) : Bool := match tabOf K x, tabOf K y with
  | some P, some Q => decide (P ≠ Q)
  | _, _ => false
theorem tabs_apart {K : PySem.W.Frag} {mg : Str → Option Value} {h : Heap} {z1 z2 : Str} {c1 P1 c2 P2 : Addr} (X : K.In h) (G : h.Ns mainGlobals mg) (t1 : TabIs mg h z1 c1 P1) (t2 : TabIs mg h z2 c2 P2) (e : tabsNe K z1 z2 = true) : P1 ≠ P2 := by
  unfold tabsNe at e
  split at e
  · next P Q e1 e2 =>
    rw [tabOf_ok X G t1 e1, tabOf_ok X G t2 e2]
    exact of_decide_eq_true e
  · cases e
theorem lawAt2 {l : PySem.W.OpenLaw} {w : World} {K : PySem.W.Frag} {CX : CXT} {k n : Nat} {x : Str} {mg : Str → Option Value} {fa : Addr} {h : Heap} {z1 z2 q1 q2 : Str} {c1 P1 c2 P2 : Addr} {fd : FuncData} {sp : Sp} (X : K.In h) (nt : NoTab K) (t1 : TabIs mg h z1 c1 P1) (t2 : TabIs mg h z2 c2 P2) (hb : ∀ (s : Shared) (v : Value), BindsTo s fd ⟨[v], []⟩ [(x, v)])
    (hF : ∀ base : Heap, K.In base → base.Ns mainGlobals mg → TabB base mg c1 P1 → TabB base mg c2 P2 → FnOk l.prog w K mg base CX k fa fd [x] sp)
    (hsp : ∀ (H : Hp) (a : Addr) (ns : List Int), ns.length ≤ n → SqL K H a (ns.map V.int) → LamX.Tabs [(P1, q1), (P2, q2)] H → sp [.ref a] H (fun v _ => v = .bl true) fun _ _ _ => False) : LawAtS l w K CX k n x mg fa h := by
  have e1 := t1
  obtain ⟨_, _, _, _, _, _, _, hcd1, hemp1⟩ := e1
  have e2 := t2
  obtain ⟨_, _, _, _, _, _, _, hcd2, hemp2⟩ := e2
  have two : ∀ {R : Addr × Addr → Prop}, R (c1, P1) → R (c2, P2) → ∀ p ∈ [(c1, P1), (c2, P2)], R p := fun {R} a b p hp => by
    rcases List.mem_cons.mp hp with z | z
    · rw [z]; exact a
    · rw [List.mem_singleton.mp z]; exact b
  have m1 : (c1, P1) ∈ [(c1, P1), (c2, P2)] := List.mem_cons_self
  have m2 : (c2, P2) ∈ [(c1, P1), (c2, P2)] := List.mem_cons_of_mem _ (List.mem_singleton.mpr rfl)
  refine ⟨fd, [(c1, P1), (c2, P2)], sp, two (R := fun p => h.get? p.2 = some { cls := .none, data := .fields #[] }) hemp1 hemp2, two (R := fun p => K.lookup p.2 = none) (t1.out X nt) (t2.out X nt), two (R := fun p => PySem.W.CodeHd h p.1 p.2) hcd1 hcd2, hb, fun H a ns hl _ hH hS => hsp H a ns hl hS ?_, fun base hK hN hB => hF base hK hN (hB _ m1) (hB _ m2)⟩
  intro p hp
  rcases List.mem_cons.mp hp with z | z
  · rw [z]; exact LamX.TabS.nil (hH _ m1)
  · rw [List.mem_singleton.mp z]; exact LamX.TabS.nil (hH _ m2)
theorem walk_ofTb2 {l : PySem.W.OpenLaw} {n k : Nat} {q : Program} {loose : List Str} {XP : (Str → Option Value) → Heap → Prop} {YP : World → Heap → Prop} {d : DefRec} {CX : World → CXT} {x z1 z2 : Str}
    (hn : l.most = some n) (hn2 : n ≤ sizeLine) (hdf : d.params.defaults = []) (hr : Room k callerA) (hrec1 : ((recsOf q).any fun e => e.name == z1) = true) (hrec2 : ((recsOf q).any fun e => e.name == z2) = true)
    (F : ∀ (w : World) (mg : Str → Option Value) (fa : Addr) (h : Heap) (c1 P1 c2 P2 : Addr), YP w h → h.Ns mainGlobals mg → mg d.name = some (.ref fa) → TabIs mg h z1 c1 P1 → TabIs mg h z2 c2 P2 → ∃ K : PySem.W.Frag, K.In h ∧ LawAtS l w K (CX w) k n x mg fa h)
    (hCX : ∀ (w : World) (H : Hp) (s : Shared) (e : Value) (s' : Shared), CX w [] H s (fun _ _ _ => False) e s' → False) :
    PySem.W.WalkO q loose XP YP l.row.toRowW d [] (fun f vs => PySem.call f vs) := by
  refine Att.attach_callB hn hdf fun w s₀ s₁ mg mb fa o pm cd doc a vs ns G Y ho hd hcd hmg hobj hints hlen hbits hg => ?_
  have get : ∀ {z : Str}, ((recsOf q).any fun e => e.name == z) = true → ∃ c P, TabIs mg s₁.heap z c P := fun {z} hrec => by
    obtain ⟨dL, hm, hn1⟩ := List.any_eq_true.mp hrec
    have hn2' : dL.name = z := beq_iff_eq.mp hn1
    obtain ⟨a', o', fd', c', P', h1, h2, h3, h4, h5, h6⟩ := G.T.tab dL hm
    rw [hn2'] at h1
    exact ⟨c', P', a', o', fd', h1, h2, h3, h4, PySem.W.CodeHd.of h5 h6, h6.2⟩
  obtain ⟨c1, P1, t1⟩ := get hrec1
  obtain ⟨c2, P2, t2⟩ := get hrec2
  obtain ⟨K, KX, fd, cs, sp, hT, nT, C, hb, hsp, hF⟩ := F w mg fa _ c1 P1 c2 P2 Y G.T.g hmg t1 t2
  exact law_callTs KX G.T.g G.T.b G.T.builtins G.T.nolimit hg hT nT C G.T.bmain hobj hints (Nat.le_trans hlen hn2) hr hF hb (fun H hH hS => hsp H a ns hlen hbits hH hS) fun H e s' => hCX w H s₁ e s'
theorem two_u1 {P Q : Addr} {a b : Str} (n : P ≠ Q) : ∀ p ∈ [(P, a), (Q, b)], p.1 = P → p.2 = a := fun p hp e => by
  rcases List.mem_cons.mp hp with z | z
  · rw [z]
  · rw [List.mem_singleton.mp z] at e
    exact absurd e.symm n
theorem two_u2 {P Q : Addr} {a b : Str} (n : P ≠ Q) : ∀ p ∈ [(P, a), (Q, b)], p.1 = Q → p.2 = b := fun p hp e => by
  rcases List.mem_cons.mp hp with z | z
  · rw [z] at e
    exact absurd e n
  · rw [List.mem_singleton.mp z]
theorem two_m1 {P Q : Addr} {a b : Str} : (P, a) ∈ [(P, a), (Q, b)] := List.mem_cons_self
theorem two_m2 {P Q : Addr} {a b : Str} : (Q, b) ∈ [(P, a), (Q, b)] := List.mem_cons_of_mem _ (List.mem_singleton.mpr rfl)
end Ly

/-! ### a number and a row: the order of such things -/
namespace Ly
open PySem PySem.Spec PyProof.Rows L2
theorem cod_lt_iff : ∀ {xs ys : List Int}, xs.length = ys.length → (∀ z ∈ xs, 0 ≤ z ∧ z < 4) → (∀ z ∈ ys, 0 ≤ z ∧ z < 4) → (xs < ys ↔ cod xs < cod ys)
  | [], [], _, _, _ => by simp [cod]
  | [], y :: ys, h, _, _ => by cases h
  | x :: xs, [], h, _, _ => by cases h
  | x :: xs, y :: ys, h, hx, hy => by
    have hl : xs.length = ys.length := by simpa using h
    have hx' : ∀ z ∈ xs, 0 ≤ z ∧ z < 4 := fun z hz => hx z (List.mem_cons_of_mem _ hz)
    have hy' : ∀ z ∈ ys, 0 ≤ z ∧ z < 4 := fun z hz => hy z (List.mem_cons_of_mem _ hz)
    have ih := cod_lt_iff hl hx' hy'
    obtain ⟨a1, a2⟩ := cod_range hx'
    obtain ⟨b1, b2⟩ := cod_range hy'
    rw [List.cons_lt_cons_iff, cod_cons, cod_cons, hl, ih]
    rw [hl] at a2
    generalize (4 : Int) ^ ys.length = B at a2 b2 ⊢
    constructor
    · rintro (g | ⟨g, k⟩)
      · have e : B * (x + 1) ≤ B * y := Int.mul_le_mul_of_nonneg_left (by omega) (by omega)
        rw [Int.mul_add, Int.mul_one] at e
        omega
      · rw [g]
        omega
    · intro g
      by_cases c : x < y
      · exact .inl c
      by_cases c2 : x = y
      · rw [c2] at g
        exact .inr ⟨c2, by omega⟩
      · exfalso
        have e : B * (y + 1) ≤ B * x := Int.mul_le_mul_of_nonneg_left (by omega) (by omega)
        rw [Int.mul_add, Int.mul_one] at e
        omega
/-- (number, row) as data; its code, rows of up to 10 turns -/
def datN (t : Nat × List Int) : PyData := .tuple [.int (t.1 : Int), .tuple (t.2.map .int)]
def cdN (t : Nat × List Int) : Int := (t.1 : Int) * 1048576 + cod t.2
def unN : PyData → List Int
  | .tuple [.int _, .tuple xs] => xs.map fun x => match x with
    | .int z => z
    | _ => 0
  | _ => []
def cdNP : PyData → Int
  | .tuple [.int a, .tuple xs] => a * 1048576 + cod (unN (.tuple [.int a, .tuple xs]))
  | _ => 0
theorem cdNP_dat (t : Nat × List Int) : cdNP (datN t) = cdN t := by
  show (t.1 : Int) * 1048576 + cod ((t.2.map PyData.int).map fun x => match x with | .int z => z | _ => 0) = _
  have e : (t.2.map PyData.int).map (fun x => match x with | .int z => z | _ => 0) = t.2 := by
    rw [List.map_map]
    exact (List.map_congr_left (fun _ _ => rfl)).trans (List.map_id _)
  rw [e]
  rfl
theorem four_le : ∀ n : Nat, n ≤ 10 → (4 : Int) ^ n ≤ 1048576 := fun n hn => by
  rcases (show n = 0 ∨ n = 1 ∨ n = 2 ∨ n = 3 ∨ n = 4 ∨ n = 5 ∨ n = 6 ∨ n = 7 ∨ n = 8 ∨ n = 9 ∨ n = 10 by omega) with z | z | z | z | z | z | z | z | z | z | z <;> subst z <;> decide
theorem datN_lt {s t : Nat × List Int} (hl : s.2.length = t.2.length) (h8 : t.2.length ≤ 10) (hs : ∀ z ∈ s.2, 0 ≤ z ∧ z < 4) (ht : ∀ z ∈ t.2, 0 ≤ z ∧ z < 4) : PySem.W.dataLt (datN s) (datN t) = decide (cdN s < cdN t) := by
  obtain ⟨a, xs⟩ := s
  obtain ⟨b, ys⟩ := t
  have al : PySem.W.alike (.tuple (xs.map PyData.int)) (.tuple (ys.map PyData.int)) = true := by
    rw [PySem.W.alike]
    exact PySem.W.alike_ints xs ys
  have e1 : PySem.W.dataLt (datN (a, xs)) (datN (b, ys)) = if PyData.eqv (.int (a : Int)) (.int (b : Int)) = true then (if PyData.eqv (.tuple (xs.map PyData.int)) (.tuple (ys.map PyData.int)) = true then false else PySem.W.dataLt (.tuple (xs.map PyData.int)) (.tuple (ys.map PyData.int))) else PySem.W.dataLt (.int (a : Int)) (.int (b : Int)) :=
    PySem.W.dataLt_pair (by simp [PySem.W.alike]) al
  rw [e1, eqv_tup, PySem.W.dataLt_int, show PySem.W.dataLt (.tuple (xs.map PyData.int)) (.tuple (ys.map PyData.int)) = decide (xs < ys) from (PySem.W.dataLt_tuple _ _).trans (PySem.W.dataLt_ints xs ys)]
  have lt : xs < ys ↔ cod xs < cod ys := cod_lt_iff hl hs ht
  obtain ⟨c1, c2⟩ := cod_range hs
  obtain ⟨d1, d2⟩ := cod_range ht
  have p8 := four_le
  have q1 := p8 ys.length h8
  have q2 := p8 xs.length (by rw [show xs.length = ys.length from hl]; exact h8)
  show _ = decide ((a : Int) * 1048576 + cod xs < (b : Int) * 1048576 + cod ys)
  simp only at c1 c2 d1 d2
  by_cases e : a = b
  · subst e
    rw [show PyData.eqv (.int (a : Int)) (.int (a : Int)) = true by simp [PyData.eqv], if_pos rfl]
    by_cases f : xs = ys
    · subst f
      simp
    · rw [show decide (xs = ys) = false from decide_eq_false f, if_neg Bool.false_ne_true]
      refine decide_eq_decide.mpr ?_
      rw [lt]
      omega
  · rw [show PyData.eqv (.int (a : Int)) (.int (b : Int)) = false by simp [PyData.eqv]; omega, if_neg Bool.false_ne_true]
    refine decide_eq_decide.mpr ?_
    constructor <;> intro h <;> omega
/-- a list of such tuples -/
def Nrs (K : PySem.W.Frag) (H : Hp) (rs : List V) (ts : List (Nat × List Int)) : Prop := rs.length = ts.length ∧ ∀ (i : Nat) t, ts[i]? = some t → ∃ u w, rs[i]? = some (.ref u) ∧ H u = some (.tup [.int (t.1 : Int), .ref w]) ∧ SqT K H w (t.2.map V.int)
theorem Nrs.nil (K : PySem.W.Frag) (H : Hp) : Nrs K H [] [] := ⟨rfl, fun i t h => by simp at h⟩
theorem Nrs.keep {K : PySem.W.Frag} {H H' : Hp} {rs : List V} {ts : List (Nat × List Int)} (h : Nrs K H rs ts) (k : ∀ u xs, H u = some (.tup xs) → H' u = some (.tup xs)) (k2 : ∀ u xs, SqT K H u xs → SqT K H' u xs) : Nrs K H' rs ts := ⟨h.1, fun i t e => by
  obtain ⟨u, w, a, b, c⟩ := h.2 i t e
  exact ⟨u, w, a, k _ _ b, k2 _ _ c⟩⟩
theorem Nrs.next {K : PySem.W.Frag} {H : Hp} {rs : List V} {ts : List (Nat × List Int)} {u w : Addr} {t : Nat × List Int} (h : Nrs K H rs ts) (g : H u = some (.tup [.int (t.1 : Int), .ref w])) (f : SqT K H w (t.2.map V.int)) : Nrs K H (rs ++ [.ref u]) (ts ++ [t]) := by
  refine ⟨by rw [List.length_append, List.length_append, h.1]; rfl, fun i s e => ?_⟩
  by_cases c : i < ts.length
  · rw [List.getElem?_append_left c] at e
    obtain ⟨v, w2, a, b, d⟩ := h.2 i s e
    exact ⟨v, w2, by rw [List.getElem?_append_left (by rw [h.1]; exact c)]; exact a, b, d⟩
  · rw [List.getElem?_append_right (by omega)] at e
    have z : i - ts.length = 0 := by
      have := (List.getElem?_eq_some_iff.mp e).1
      rw [List.length_singleton] at this
      omega
    rw [z] at e
    cases (show some t = some s from e)
    exact ⟨u, w, by rw [List.getElem?_append_right (by rw [h.1]; omega), h.1, z]; rfl, g, f⟩
theorem nrs_dp {K : PySem.W.Frag} {H : Hp} : ∀ {ts : List (Nat × List Int)} {rs : List V}, Nrs K H rs ts → DpAll K H rs (ts.map datN)
  | [], [], _ => .nil
  | [], x :: rs, h => by
    have := h.1
    simp at this
  | t :: ts, [], h => by
    have := h.1
    simp at this
  | t :: ts, x :: rs, h => by
    obtain ⟨u, w, e, g, f⟩ := h.2 0 t rfl
    cases (show some x = some (V.ref u) from e)
    exact .cons (.tup (.inl (.inl g)) (.cons (.int _) (.cons (.tup f (dp_ints t.2)) .nil))) (nrs_dp ⟨by have := h.1; simpa using this, fun i s e => h.2 (i + 1) s (by simpa using e)⟩)
theorem depth_intsT (xs : List Int) : PyData.depth (.tuple (xs.map PyData.int)) ≤ 2 := by
  have := PySem.W.depth_ints xs
  simp [PyData.depth, this]
theorem datN_depth : ∀ ts : List (Nat × List Int), PyData.depthAll (ts.map datN) ≤ 9
  | [] => by decide
  | t :: ts => Nat.max_le.mpr ⟨by
    have := PySem.W.depth_ints t.2
    simp [datN, PyData.depth, PyData.depthAll, this], datN_depth ts⟩
theorem min_nrs {K : PySem.W.Frag} {H : Hp} {D : Addr} {rs : List V} {ts : List (Nat × List Int)} {n : Nat} {Q : VK} (hD : H D = some (.lst rs)) (h : Nrs K H rs ts) (hne : ts ≠ []) (h8 : n ≤ 10) (hb : ∀ t ∈ ts, t.2.length = n ∧ ∀ z ∈ t.2, 0 ≤ z ∧ z < 4)
    (q : ∀ t u w, t ∈ ts → (∀ s ∈ ts, cdN t ≤ cdN s) → H u = some (.tup [.int (t.1 : Int), .ref w]) → SqT K H w (t.2.map V.int) → Q (.ref u) H) : rMinD K [.ref D] H Q := by
  refine ⟨D, rs, ts.map datN, cdNP, rfl, .inl (.inl hD), fun z => hne (List.length_eq_zero_iff.mp (by rw [← h.1, z]; rfl)), nrs_dp h, ⟨?_, ?_⟩, datN_depth ts, ?_, ?_⟩
  · intro x hx y hy
    obtain ⟨s, _, rfl⟩ := List.mem_map.mp hx
    obtain ⟨t, _, rfl⟩ := List.mem_map.mp hy
    have := PySem.W.alike_ints s.2 t.2
    simp [datN, PySem.W.alike, PySem.W.alikeAll, this]
  · intro x hx
    obtain ⟨s, _, rfl⟩ := List.mem_map.mp hx
    exact fun z => PyData.noConfusion z
  · intro x hx y hy
    obtain ⟨s, hs, rfl⟩ := List.mem_map.mp hx
    obtain ⟨t, ht, rfl⟩ := List.mem_map.mp hy
    rw [cdNP_dat, cdNP_dat]
    exact datN_lt (by rw [(hb s hs).1, (hb t ht).1]) (by rw [(hb t ht).1]; exact h8) (hb s hs).2 (hb t ht).2
  · intro i x d hx hd lo
    rw [List.getElem?_map] at hd
    cases e : ts[i]? with
    | none =>
      rw [e] at hd
      cases hd
    | some t =>
      rw [e] at hd
      cases (show some (datN t) = some d from hd)
      obtain ⟨u, w, p, g, f⟩ := h.2 i t e
      rw [hx] at p
      cases p
      refine q t u w (List.mem_of_getElem? e) (fun s hs => ?_) g f
      have := lo _ (List.mem_map_of_mem hs)
      rw [cdNP_dat, cdNP_dat] at this
      exact this
/-- the first of the rows of which f is least -/
def FirstLow (f : List Int → Nat) (rows : List (List Int)) (e : List Int) : Prop := ∃ i, rows[i]? = some e ∧ ∀ (j : Nat) e', rows[j]? = some e' → f e ≤ f e' ∧ (j < i → f e < f e')
theorem low_min {f : List Int → Nat} {rows : List (List Int)} {e ro : List Int} (ris : Ris rows) (h8 : ∀ x ∈ rows, x.length ≤ 10 ∧ ∀ z ∈ x, 0 ≤ z ∧ z < 4) (near : FirstLow f rows e) (hro : ro ∈ rows) (lo : cdN (f ro, ro) ≤ cdN (f e, e)) : ro = e := by
  obtain ⟨i, ei, best⟩ := near
  obtain ⟨j, lj, ej⟩ := List.mem_iff_getElem.mp hro
  have ej' : rows[j]? = some ro := by rw [List.getElem?_eq_getElem lj, ej]
  obtain ⟨li, ei'⟩ := List.getElem?_eq_some_iff.mp ei
  obtain ⟨b1, b2⟩ := best j ro ej'
  have rng : ∀ x ∈ rows, 0 ≤ cod x ∧ cod x < 1048576 := fun x hx => by
    obtain ⟨l8, dg⟩ := h8 x hx
    obtain ⟨c1, c2⟩ := cod_range dg
    have := four_le x.length l8
    exact ⟨c1, by omega⟩
  have r1 := rng ro hro
  have r2 := rng e (List.mem_of_getElem? ei)
  have lo' : ((f ro : Nat) : Int) * 1048576 + cod ro ≤ ((f e : Nat) : Int) * 1048576 + cod e := lo
  have pw := List.pairwise_iff_getElem.mp ris
  rcases Nat.lt_trichotomy j i with g | g | g
  · have := b2 g
    omega
  · subst g
    rw [ei] at ej'
    exact (Option.some.inj ej').symm
  · have := pw i j li lj g
    rw [ei', ej] at this
    omega
theorem datN_lay : ∀ ts : List (Nat × List Int), PyData.canLayAll0 (ts.map datN) = true ∧ PyData.depthAll (ts.map datN) ≤ 9
  | [] => by simp [PyData.canLayAll0, PyData.depthAll]
  | t :: ts => by
    obtain ⟨h1, h2⟩ := datN_lay ts
    refine ⟨?_, datN_depth (t :: ts)⟩
    rw [List.map_cons, PyData.canLayAll0, h1]
    simp [datN, PyData.canLay0, PyData.canLayAll0, PySem.W.ke_canLayAll0]
theorem nrs_eq {K : PySem.W.Frag} {H : Hp} {D b : Addr} {rs : List V} {ts : List (Nat × List Int)} {Q : VK} (hD : SqL K H D rs) (h : Nrs K H rs ts) (hb : H b = some (.lst [])) (q : Q (.bl (decide (ts = []))) H) : rEqD K (.ref D) (.ref b) H Q := by
  obtain ⟨l1, l2⟩ := datN_lay ts
  refine ⟨_, _, .lst hD (nrs_dp h), .lst (.inl (.inl hb)) .nil, ?_, shaped_nil, ?_⟩
  · simp [SeqAt.shaped, PyData.canLay0, PyData.depth, l1]
    omega
  · rw [eqv_nil, decide_eq_decide.mpr (List.map_eq_nil_iff (f := datN) (l := ts))]
    exact q
theorem tabs_but {T : List (Addr × Str)} {b : Addr} {H H' : Hp} (t : LamX.Tabs T H) (ne : ∀ p ∈ T, p.1 ≠ b) (nl : ∀ c q, H c = some (LamX.CodeO c q) → c ≠ b) (s : But b H H') : LamX.Tabs T H' := fun p hp => by
  obtain ⟨ps, h1, h2, h3⟩ := t p hp
  refine ⟨ps, s _ _ (ne p hp) h1, h2, fun pos cv hc => ?_⟩
  obtain ⟨c, e1, e2⟩ := h3 pos cv hc
  exact ⟨c, e1, s _ _ (nl c p.2 e2) e2⟩
theorem pair_dp {K : PySem.W.Frag} {H : Hp} {p u : Addr} {n : Nat} {xs : List Int} (h : H p = some (.tup [.ref u, .int (n : Int)])) (f : SqT K H u (xs.map V.int)) : Dp K H (.ref p) (.tuple [.tuple (xs.map .int), .int (n : Int)]) := .tup (.inl (.inl h)) (.cons (.tup f (dp_ints xs)) (.cons (.int _) .nil))
theorem pair_shaped (xs : List Int) (n : Nat) : SeqAt.shaped (.tuple [.tuple (xs.map PyData.int), .int (n : Int)]) = true := by
  simp [SeqAt.shaped, PyData.canLay0, PyData.canLayAll0, PyData.depth, PyData.depthAll, PySem.W.ke_canLayAll0, PySem.W.ke_depthAll]
theorem pair_eqv (xs ys : List Int) (n k : Nat) : PyData.eqv (.tuple [.tuple (xs.map PyData.int), .int (n : Int)]) (.tuple [.tuple (ys.map PyData.int), .int (k : Int)]) = decide (xs = ys ∧ n = k) := by
  rw [PyData.eqv, PyData.eqvAll, PyData.eqvAll, PyData.eqvAll, eqv_tup]
  simp only [PyData.eqv, Bool.and_true]
  by_cases c : xs = ys <;> by_cases c2 : n = k <;> simp [c, c2] <;> omega
end Ly

/-! ### exceptions of the program's own classes: defs that raise, a def that is told a caught one -/
namespace Ly
open PySem PySem.Spec PyProof.Rows L2
/-- the refusals, in the order in which they are asked -/
def errs : List Str := ["NoHands", "NoRow", "NoHand", "NoWorths", "NoOrder", "NoBound", "NotEven", "TooLong", "NoDegree", "NoPlaces", "NoText", "Done", "Nothing"]
/-- the class of the name x, at C -/
structure ExcAt (K : PySem.W.Frag) (mg : Str → Option Value) (x : Str) (C : Addr) : Prop where
  gC : mg x = some (.ref C)
  ex : PySem.W.excIn K C PySem.HandSPX.veTail "ValueError.__new__" = true
  kC : PySem.W.keepIn K (.ref C) = true
  bP : PySem.W.subIn K (.ref C) (.type "BaseException") = some true
  tP : PySem.W.typeIn K (.ref C) = some (.type "type")
  ec : ExcC K C
def excB (K : PySem.W.Frag) (x : Str) : Bool := He.eqO (PySem.W.nsIn K mainGlobals x) (some (some (.ref (He.ga K x)))) && (PySem.W.excIn K (He.ga K x) PySem.HandSPX.veTail "ValueError.__new__" && (PySem.W.keepIn K (.ref (He.ga K x)) &&
  (decide (PySem.W.subIn K (.ref (He.ga K x)) (.type "BaseException") = some true) && ((PySem.W.typeIn K (.ref (He.ga K x)) == some (.type "type")) && ((PySem.W.findIn K (.ref (He.ga K x)) "__getattribute__" == some (some (.builtin "BaseException.__getattribute__"))) &&
  ((PySem.W.findIn K (.ref (He.ga K x)) "__getattr__" == some none) && (PySem.W.hasDictIn K (He.ga K x) && ((PySem.W.findIn K (.ref (He.ga K x)) "__class__" == some (some (.builtin "object.__class__"))) &&
  ((PySem.W.specialIn K (.builtin "object.__class__") "__get__" == some (some (.builtin "getset_descriptor.__get__"))) && (decide (PySem.W.takesIn K (.builtin "object.__class__") = some true) && decide (PySem.W.mroIn K (He.ga K x) (.type "object") = some true)))))))))))
theorem excB_ok {K : PySem.W.Frag} {h : Heap} {mg : Str → Option Value} {x : Str} (X : K.In h) (G : h.Ns mainGlobals mg) (e : excB K x = true) : ExcAt K mg x (He.ga K x) := by
  unfold excB at e
  simp only [Bool.and_eq_true, decide_eq_true_eq, beq_iff_eq] at e
  obtain ⟨e1, e2, e3, e4, e5, e6, e7, e8, e9, e10, e11, e12⟩ := e
  exact ⟨PySem.W.mg_of X G (He.eqO_ok e1), e2, e3, e4, e5, ⟨e6, e7, e4, e8, e9, e10, e11, e12⟩⟩
/-- what the head says of all refusals: each class, what isinstance tells of two of them, TurnError over all -/
structure Excs (K : PySem.W.Frag) (mg : Str → Option Value) : Prop where
  cls : ∀ x ∈ errs, ExcAt K mg x (He.ga K x)
  two : ∀ x ∈ errs, ∀ y ∈ errs, PySem.W.kitOne K (.ref (He.ga K x)) (.ref (He.ga K y)) = some (decide (x = y))
  val : ∀ x ∈ errs, PySem.W.kitOne K (.ref (He.ga K x)) (.type "ValueError") = some true
  top : ExcAt K mg "TurnError" (He.ga K "TurnError")
  tops : ∀ x ∈ errs, PySem.W.exmOne K (.ref (He.ga K x)) (.ref (He.ga K "TurnError")) = some true
def excsB (K : PySem.W.Frag) : Bool := (errs.all fun x => excB K x) && ((errs.all fun x => errs.all fun y => decide (PySem.W.kitOne K (.ref (He.ga K x)) (.ref (He.ga K y)) = some (decide (x = y)))) && ((errs.all fun x => decide (PySem.W.kitOne K (.ref (He.ga K x)) (.type "ValueError") = some true)) &&
  (excB K "TurnError" && (errs.all fun x => decide (PySem.W.subIn K (.ref (He.ga K x)) (.ref (He.ga K "TurnError")) = some true)))))
theorem excs_ok {K : PySem.W.Frag} {h : Heap} {mg : Str → Option Value} (X : K.In h) (G : h.Ns mainGlobals mg) (e : excsB K = true) : Excs K mg := by
  unfold excsB at e
  simp only [Bool.and_eq_true, List.all_eq_true, decide_eq_true_eq] at e
  obtain ⟨e1, e2, e3, e4, e5⟩ := e
  have t := excB_ok X G e4
  exact ⟨fun x hx => excB_ok X G (e1 x hx), e2, e3, t, fun x hx => PySem.W.exm_ref t.bP t.ec.hd t.tP (e5 x hx)⟩
/-! a def that is called within the suite of an except clause, and told the exception: a, its class and dict -/
structure FnE (P : Program) (w : World) (K : PySem.W.Frag) (mg : Str → Option Value) (base : Heap) (k : Nat) (f : Addr) (fd : FuncData) (ps : List Str) (sp : Addr → Value → Option Addr → Sp) : Prop where
  len : ∀ a c d vs H Q E, sp a c d vs H Q E → vs.length = ps.length
  run : ∀ (A : Around) (outer : List Env) (s : Shared) (H : Hp) (args : Args) (us : List Value) (vs : List V) (Q : VK) (E : XK) (p : Addr × Obj) (c : Value) (d : Option Addr), L2H.RoomH k A → L2H.Hot1 A p → L2N.Zn c d p.2 → L2H.PinOk outer H s p → Env0 P w K mg base A outer s H →
    BindsTo s fd args (ps.zip us) → Vals vs us → sp p.1 c d vs H Q E → codeAny (model P w) A (.call (.ref f) args) (CR CX0 outer P w H s Q E) s
section
variable {P : Program} {w : World} {K : PySem.W.Frag} {mg : Str → Option Value} {base : Heap} {x qual : Str} {params : Arguments} {body : List Stmt} {scope : Scope} {dvs : List V} {kws : List (Str × V)} {f : Addr} {fd : FuncData}
theorem FunD.okE {N ps : List Str} {k : Nat} {sp : Addr → Value → Option Addr → Sp} (F : FunD K x qual params body scope dvs kws f fd) (S : FnScope N ps scope) (len : ∀ a c d vs H Q E, sp a c d vs H Q E → vs.length = ps.length)
    (hbody : ∀ (cdv : Value) (A : Around) (outer : List Env) (s : Shared) (H : Hp) (vs : List V) (Q : VK) (E : XK) (p : Addr × Obj) (c : Value) (d : Option Addr), L2H.Hot1 A p → L2N.Zn c d p.2 → L2H.RoomH k (A.deeper (envOfC qual scope s.heap.objs.size f cdv)) → sp p.1 c d vs H Q E →
      ∃ t, PSs (L2H.cxH CX0 P w K mg base N qual scope f cdv A outer s H E p) body t ∧ t { nx := fun _ H' => Q .non H', rt := Q } (L2.start N vs) H) : FnE P w K mg base (k + 1) f fd ps sp := by
  obtain ⟨oc, od, dV, kV, doc, pm, an, cdv, ct, osl, rfl, lk, hcd, _, _⟩ := F.ex
  refine ⟨len, fun A outer s H args us vs Q E p c d hr hot hz hpin e0 hb r hsp => ?_⟩
  have hl := len _ _ _ _ _ _ _ hsp
  have KX : K.In s.heap := e0.mod.kin.keeps fun b o z => (e0.bs b o z).1
  have lim : s.heap.NoLimit := e0.mod.nolimit.keeps fun b o z => (e0.bs b o z).1
  have kinds : ∀ y ∈ ps.zip us, scope.names.lookup y.1 = some .local ∨ (scope.names.lookup y.1 = some .cell ∧ ((cellsFrom (s.heap.objs.size + 1) scope.names []).lookup y.1).isSome = true) := fun y hy => by
    obtain ⟨n, v⟩ := y
    rcases S.par n (List.of_mem_zip hy).1 with z | z
    · exact .inl z
    · exact .inr ⟨z, PySem.W.cellsFrom_some _ _ _ (.inl z)⟩
  refine codeAny_call_function hr.depth (KX _ _ lk) rfl S.co S.gen rfl (PySem.W.codeRec_of KX hcd) (hb _ _ _ _ (wpAny_newFunctionEnv_cells S.kind kinds fun env he s1 y => ?_))
  subst he
  refine ⟨lim.keeps y.toInCall.keep, codeAny_func ?_⟩
  obtain ⟨t, ht, hq⟩ := hbody cdv A outer s H vs Q E p c d hot hz (hr.deeper _) hsp
  have I : Inv (L2H.cxH CX0 P w K mg base N qual scope f cdv A outer s H E p) [] (L2.start N vs) H s1 := L2H.inv_startH S hpin e0 hl r y
  refine wpAny_mono (ht.run [] s1 (L2.start N vs) H _ I hq) (fun fl s' hs => ?_) fun _ _ z => z
  have fin : ∀ {σ' : L2.St} {H' : Hp} {v : V} {u : Value}, Inv (L2H.cxH CX0 P w K mg base N qual scope f cdv A outer s H E p) [] σ' H' s' → RelV v u → Q v H' → CE outer P w H s Q u s' := fun J rv q => ⟨_, _, J.os, J.bare, J.base, J.hok, rv, q⟩
  cases fl with
  | ret u => obtain ⟨v, σ', H', J, rv, q⟩ := hs; exact fin J rv q
  | next => obtain ⟨σ', H', J, q⟩ := hs; exact fin (v := V.non) (u := Value.none) J rfl q
  | brk => obtain ⟨_, _, _, q⟩ := hs; exact False.elim q
  | cont => obtain ⟨_, _, _, q⟩ := hs; exact False.elim q
end
section
variable {X : Cx} {k : Nat} {f : Addr} {fd : FuncData} {ps : List Str} {sp : Addr → Value → Option Addr → Sp} {x : Str} {q pos : Pos} {e : Expr} {es : List Expr} {t : TA} {a : Addr} {oe : Obj} {c : Value} {d : Option Addr}
theorem pe_callE (F : FnE X.prog X.w X.K X.mg X.base k f fd ps sp) (hr : L2H.RoomH k X.A) (hot : L2H.Hot1 X.A (a, oe)) (hz : L2N.Zn c d oe) (hp : (a, oe) ∈ X.pn) (hg : Gl X x) (hm : X.mg x = some (.ref f)) (hk : PySem.W.keepIn X.K (.ref f) = true) (hb : Binds X.K fd ps [])
    (ha : PA X (e :: es) t) (hdb : (x == ("__debug__" : Str)) = false := by decide) (he : starEach (e :: es) X.env = (false, eval e X.env) :: starEach es X.env := by rfl) (hpl : (backTo pos (starEach es X.env)).any (·.1) = false := by rfl) :
    PE X (.Call (.Name x q) (e :: es) [] pos) (tCallS (sp a c d) (fun _ => E0) t) := by
  refine ⟨fun pins s σ H Q I h => wpAny_Call_Name_kw (ld_glob I hg hm ?_ hdb)⟩
  refine PySem.W.callWith_K (h₀ := X.base) I.ok.mod.kin hk (thn (ha.run pos pins s σ H _ I h) fun us s1 ⟨vs, H1, I1, r, q⟩ => ⟨I1.kIn, ?_⟩) he hpl
  have hl : us.length = ps.length := by rw [← r.length]; exact F.len _ _ _ _ _ _ _ q
  have b := hb s1 us I1.kIn (by rw [List.append_nil]; exact hl)
  rw [List.append_nil] at b
  obtain ⟨g1, g2, g3, g4, g5⟩ := I1.pin (a, oe) (List.mem_append_left _ hp)
  refine wpAny_call (codeAny_mono (F.run X.A X.stack s1 H1 ⟨us, []⟩ us vs Q E0 (a, oe) c d hr hot hz ⟨g1, g2, fun hm => (List.mem_cons.mp (I1.stkSub a hm)).elim g3 g4, g5⟩ I1.env0 b r q) fun r s' hq => ?_)
  cases r with
  | error e => exact (show False from hq).elim
  | ok fl =>
    cases fl with
    | ret u => exact I1.after hq
    | next => exact False.elim hq
    | brk => exact False.elim hq
    | cont => exact False.elim hq
/-- isinstance(e, c), e an exception that is pinned -/
theorem call_isP {D : Addr} (hp : (a, oe) ∈ X.pn) (C : ExcC X.K D) (hz : Zc (.ref D) none oe) (hf : ∃ vs, oe.data = .fields vs) : CallR X (.builtin "isinstance") (rIsE X.K D a) := by
  intro pins s σ H xs us Q I r h
  obtain ⟨y, cv, b, rfl, hcv, e, q⟩ := h
  cases r with
  | cons rx rr =>
    cases rr with
    | cons rt rr =>
      cases rr; cases rx
      obtain rfl := hcv _ rt
      obtain ⟨vs, hv⟩ := hf
      have J : PySem.W.InstAt s.heap a oe D none := by
        have g := (I.pin (a, oe) (List.mem_append_left _ hp)).1
        obtain ⟨oc, od, oda, osl⟩ := oe
        obtain ⟨h1, h2⟩ := hz
        dsimp only at h1 h2 hv
        subst h1 h2 hv
        exact ⟨g, rfl, rfl, trivial⟩
      refine PySem.W.kia_one (PySem.W.handS_kitx_exc C.hg C.hk C.hs C.hd C.ha C.hn C.ht C.hm) I.kIn J e (fun z => nomatch z) fun tk => ?_
      exact ⟨.bl b, H, I.kept (t' := tk) fun _ _ z => z, rfl, q⟩
end
/-- nothing is let out -/
theorem takesN0 {X : Cx} : L2N.Takes X.nox (fun _ _ _ _ => False) := fun u s' ⟨_, _, _, _, _, _, _, _, _, _, _, _, _, _, _, _, w⟩ => w.elim
theorem hot_suite {A : Around} {a : Addr} {oe : Obj} {c : Value} {d : Option Addr} (hz : L2N.Zn c d oe) (hf : ∃ vs, oe.data = .fields vs) : L2H.Hot1 (A.mark (some (.ref a))) (a, oe) := by
  obtain ⟨vs, e⟩ := hf
  exact ⟨rfl, vs, e, hz.2.2 vs e⟩
/-! a def that may raise -/
theorem ps_nox {X : Cx} {st : Stmt} {t : TS} (h : PS X.nox st t) : PS X st t := ⟨fun pins s σ H D I hw => wpAny_mono (h.run pins s σ H D (I.wish _) hw) (fun _ _ q => q.unwish) fun _ _ z => False.elim z⟩
structure CalX (P : Program) (w : World) (K : PySem.W.Frag) (mg : Str → Option Value) (base : Heap) (k : Nat) (x : Str) (ps : List Str) (sp : Sp) : Prop where
  ex : ∃ f fd, FnOk P w K mg base (L2N.CX P w) k f fd ps sp ∧ mg x = some (.ref f) ∧ PySem.W.keepIn K (.ref f) = true ∧ Binds K fd ps []
structure CalDX (P : Program) (w : World) (K : PySem.W.Frag) (mg : Str → Option Value) (base : Heap) (k : Nat) (x : Str) (ps : List Str) (sp : Sp) (dv : V) : Prop where
  ex : ∃ f fd ds, FnOk P w K mg base (L2N.CX P w) k f fd ps sp ∧ mg x = some (.ref f) ∧ PySem.W.keepIn K (.ref f) = true ∧ Binds K fd ps ds ∧ Vals [dv] ds
def tCallSD (sp : Sp) (dvs : List V) (E : L2.St → XK) (t : TA) : TE := fun σ H Q => t σ H fun vs H1 => sp (vs ++ dvs) H1 Q (E σ)
section
variable {X : Cx} {CX : CXT} {j k : Nat} {f : Addr} {fd : FuncData} {x : Str} {ps : List Str} {sp : Sp} {p pos : Pos} {e : Expr} {es : List Expr} {t : TA} {W : WX} {E : L2.St → XK} {ds : List Value} {dvs : List V} {dv : V}
theorem pe_callSD (F : FnOk X.prog X.w X.K X.mg X.base CX k f fd ps sp) (hr : Room k X.A) (hg : Gl X x) (hm : X.mg x = some (.ref f)) (hk : PySem.W.keepIn X.K (.ref f) = true) (hb : Binds X.K fd ps ds) (rd : Vals dvs ds) (hx : ∀ σ, PassesAt CX X σ (E σ)) (ha : PA X (e :: es) t)
    (hdb : (x == ("__debug__" : Str)) = false := by decide) (he : starEach (e :: es) X.env = (false, eval e X.env) :: starEach es X.env := by rfl) (hpl : (backTo pos (starEach es X.env)).any (·.1) = false := by rfl) : PE X (.Call (.Name x p) (e :: es) [] pos) (tCallSD sp dvs E t) := by
  refine ⟨fun pins s σ H Q I h => wpAny_Call_Name_kw (ld_glob I hg hm ?_ hdb)⟩
  refine PySem.W.callWith_K (h₀ := X.base) I.ok.mod.kin hk (thn (ha.run pos pins s σ H _ I h) fun us s1 ⟨vs, H1, I1, r, q⟩ => ⟨I1.kIn, ?_⟩) he hpl
  have r2 : Vals (vs ++ dvs) (us ++ ds) := r.append rd
  have hl : (us ++ ds).length = ps.length := by rw [← r2.length]; exact F.len _ _ _ _ q
  refine wpAny_call (codeAny_mono (F.run X.A X.stack s1 H1 ⟨us, []⟩ (us ++ ds) (vs ++ dvs) Q (E σ) hr I1.env0 (hb s1 us I1.kIn hl) r2 q) fun r s' hq => ?_)
  cases r with
  | error e => exact hx σ pins H1 s1 e s' I1 hq
  | ok fl =>
    cases fl with
    | ret u => exact I1.after hq
    | next => exact False.elim hq
    | brk => exact False.elim hq
    | cont => exact False.elim hq
theorem pe_calX (C : CalX X.prog X.w X.K X.mg X.base j x ps sp) (hr : Room k X.A) (hj : j ≤ k) (tk : L2N.Takes X W) (ha : PA X (e :: es) t) (hg : Gl X x := by rfl) (hdb : (x == ("__debug__" : Str)) = false := by decide)
    (he : starEach (e :: es) X.env = (false, eval e X.env) :: starEach es X.env := by rfl) (hpl : (backTo pos (starEach es X.env)).any (·.1) = false := by rfl) : PE X (.Call (.Name x p) (e :: es) [] pos) (tCallSD sp [] (WE W) t) := by
  obtain ⟨f, fd, F, m, kp, b⟩ := C.ex
  exact pe_callSD F (hr.mono hj) hg m kp b .nil (fun σ => L2N.passAt tk σ) ha hdb he hpl
theorem pe_calDX (C : CalDX X.prog X.w X.K X.mg X.base j x ps sp dv) (hr : Room k X.A) (hj : j ≤ k) (tk : L2N.Takes X W) (ha : PA X (e :: es) t) (hg : Gl X x := by rfl) (hdb : (x == ("__debug__" : Str)) = false := by decide)
    (he : starEach (e :: es) X.env = (false, eval e X.env) :: starEach es X.env := by rfl) (hpl : (backTo pos (starEach es X.env)).any (·.1) = false := by rfl) : PE X (.Call (.Name x p) (e :: es) [] pos) (tCallSD sp [dv] (WE W) t) := by
  obtain ⟨f, fd, ds, F, m, kp, b, r⟩ := C.ex
  exact pe_callSD F (hr.mono hj) hg m kp b r (fun σ => L2N.passAt tk σ) ha hdb he hpl
/-- raise X('..') -/
theorem pmk_at {C : Addr} {m : Str} {i : Nat} {p2 : Pos} (T : ExcAt X.K X.mg x C) (hg : Gl X x := by rfl) (hdb : (x == ("__debug__" : Str)) = false := by decide) : L2N.PMk X (.Call (.Name x p) [.Constant (.str m) i p2] [] pos) (fun _ H Q => Q (.ref C) none H) :=
  L2N.pmk_own PySem.F.excBase_ValueError T.ex T.gC T.kC (raises_own T.bP T.tP) hg hdb
theorem roomM {h : Option Value} (hr : Room k X.A) (hj : j ≤ k) : L2H.RoomH j (X.A.mark h) := ⟨(hr.mono hj).dp, (hr.mono hj).un⟩
end
section
variable {P : Program} {w : World} {K : PySem.W.Frag} {mg : Str → Option Value} {base : Heap} {x : Str} {st : Stmt} {N ps : List Str} {k : Nat} {sp : Sp} {kws : List (Str × V)}
theorem At.fnX (F : At K mg x st kws) (S : FnScope N ps (defScope st)) (len : ∀ vs H Q E, sp vs H Q E → vs.length = ps.length)
    (hbody : ∀ (cdv : Value) (A : Around) (outer : List Env) (s : Shared) (H : Hp) (vs : List V) (Q : VK) (E : XK) (f : Addr), Room k (A.deeper (envOfC x (defScope st) s.heap.objs.size f cdv)) → sp vs H Q E →
      ∃ t, PSs (cxOf (L2N.CX P w) P w K mg base N x (defScope st) f cdv A outer s H E) (defBody st) t ∧ t { nx := fun _ H' => Q .non H', rt := Q } (L2.start N vs) H) :
    ∃ f fd, FunD K x x (defArgs st) (defBody st) (defScope st) [] kws f fd ∧ mg x = some (.ref f) ∧ FnOk P w K mg base (L2N.CX P w) (k + 1) f fd ps sp := by
  obtain ⟨f, fd, G, m⟩ := F.ex
  exact ⟨f, fd, G, m, G.ok (CX := L2N.CX P w) S len fun cdv A outer s H vs Q E hr h => hbody cdv A outer s H vs Q E f hr h⟩
theorem At.calX (F : At K mg x st []) (S : FnScope N ps (defScope st))
    (hb : ∀ (kV doc pm : Value) (an : Option Addr) (cdv ct : Value) (us : List Value), us.length = ps.length → bindArgs (PySem.W.fnOf x x (defArgs st) (defBody st) (defScope st) .none kV doc pm an cdv ct) ⟨us, []⟩ = pure (ps.zip us))
    (len : ∀ vs H Q E, sp vs H Q E → vs.length = ps.length)
    (hbody : ∀ (cdv : Value) (A : Around) (outer : List Env) (s : Shared) (H : Hp) (vs : List V) (Q : VK) (E : XK) (f : Addr), Room k (A.deeper (envOfC x (defScope st) s.heap.objs.size f cdv)) → sp vs H Q E →
      ∃ t, PSs (cxOf (L2N.CX P w) P w K mg base N x (defScope st) f cdv A outer s H E) (defBody st) t ∧ t { nx := fun _ H' => Q .non H', rt := Q } (L2.start N vs) H) : CalX P w K mg base (k + 1) x ps sp := by
  obtain ⟨f, fd, G, m, B⟩ := F.fnX S len hbody
  exact ⟨f, fd, B, m, G.kp, G.bindsN hb⟩
/-- the def that is told a caught exception -/
theorem At.calE {sp : Addr → Value → Option Addr → Sp} (F : At K mg x st []) (S : FnScope N ps (defScope st))
    (hb : ∀ (kV doc pm : Value) (an : Option Addr) (cdv ct : Value) (us : List Value), us.length = ps.length → bindArgs (PySem.W.fnOf x x (defArgs st) (defBody st) (defScope st) .none kV doc pm an cdv ct) ⟨us, []⟩ = pure (ps.zip us))
    (len : ∀ a c d vs H Q E, sp a c d vs H Q E → vs.length = ps.length)
    (hbody : ∀ (cdv : Value) (A : Around) (outer : List Env) (s : Shared) (H : Hp) (vs : List V) (Q : VK) (E : XK) (f : Addr) (p : Addr × Obj) (c : Value) (d : Option Addr), L2H.Hot1 A p → L2N.Zn c d p.2 → L2H.RoomH k (A.deeper (envOfC x (defScope st) s.heap.objs.size f cdv)) → sp p.1 c d vs H Q E →
      ∃ t, PSs (L2H.cxH CX0 P w K mg base N x (defScope st) f cdv A outer s H E p) (defBody st) t ∧ t { nx := fun _ H' => Q .non H', rt := Q } (L2.start N vs) H) :
    ∃ f fd, FnE P w K mg base (k + 1) f fd ps sp ∧ mg x = some (.ref f) ∧ PySem.W.keepIn K (.ref f) = true ∧ Binds K fd ps [] := by
  obtain ⟨f, fd, G, m⟩ := F.ex
  exact ⟨f, fd, FunD.okE G S len fun cdv A outer s H vs Q E p c d hot hz hr h => hbody cdv A outer s H vs Q E f p c d hot hz hr h, m, G.kp, G.bindsN hb⟩
end
/-! list.count of flat values -/
theorem countP_flat {y : V} (fy : flatV y = true) {uy : Value} (ry : RelV y uy) : ∀ {ys : List V} {us : List Value}, Vals ys us → ys.all flatV = true → us.countP (eqU y) = ys.countP fun z => eqV z y
  | _, _, .nil, _ => rfl
  | _, _, .cons r rs, h => by
    rw [List.all_cons, Bool.and_eq_true] at h
    rw [List.countP_cons, List.countP_cons, countP_flat fy ry rs h.2, eqU_of r h.1]
def rCntF (K : PySem.W.Frag) : V → List V → Hp → VK → Prop := fun x xs H Q => ∃ (a : Addr) (ys : List V) (y : V), x = V.ref a ∧ xs = [y] ∧ SqL K H a ys ∧ flatV y = true ∧ ys.all flatV = true ∧ Q (.int (ys.countP fun z => eqV z y : Nat)) H
theorem kz_countF {X : Cx} {K : PySem.W.Frag} (hK : X.K = K := by rfl) : MtR X "list.count" (rCntF K) := by
  subst hK
  intro pins s σ H x xs v us Q I rx rxs h
  obtain ⟨a, ys, y, rfl, rfl, hs, fy, fys, q⟩ := h
  cases rx
  cases rxs with
  | cons ry rt =>
    rename_i uy ut
    cases rt
    obtain ⟨its, rv, ⟨⟨cls, dd, data, sl⟩, n, ho, hc, hdn, hd⟩, hlen⟩ := I.list hs
    simp only at hc hd
    subst hc hd
    refine call_meets PySem.F.slot_list_count ⟨_, ho, rfl⟩ PySem.F.entry_list_count (PySem.F.args_list_count_2 _ _) (SeqAt.list_countAt a its.toArray n dd sl uy (eqU y)) ⟨ho, fun u' hu' => mem_eqAt ry fy rv fys u' (by simpa using hu'), ?_⟩
    refine ⟨.int (ys.countP fun z => eqV z y : Nat), H, I.tok _, ⟨s.toks, ?_⟩, q⟩
    show Value.int ((its.toArray.toList.countP (eqU y) : Nat) : Int) s.toks = _
    rw [show its.toArray.toList.countP (eqU y) = ys.countP (fun z => eqV z y) from countP_flat fy ry rv fys]
theorem bt_ValueError : bootBuiltins "ValueError" = some (.type "ValueError") := by decide +kernel
end Ly

/-! # Objects: a class's defs that are called, the Table's places -/
namespace Ly
open PySem PySem.Spec PyProof.Rows L2 RZ
/-- a class's method, where it stands -/
structure AtM (K : PySem.W.Frag) (C : Addr) (m q : Str) (st : Stmt) (kws : List (Str × V)) : Prop where
  ex : ∃ f fd, FunD K m q (defArgs st) (defBody st) (defScope st) [] kws f fd ∧ Meth K C m f
/-- a class's way of making -/
structure AtI (K : PySem.W.Frag) (C : Addr) (q : Str) (st : Stmt) : Prop where
  ex : ∃ f fd, FunD K "__init__" q (defArgs st) (defBody st) (defScope st) [] [] f fd ∧ Mk K C f
/-- the method can be called, and keeps the promise sp -/
structure CalM (P : Program) (w : World) (K : PySem.W.Frag) (mg : Str → Option Value) (base : Heap) (k : Nat) (C : Addr) (m : Str) (ps : List Str) (sp : Sp) : Prop where
  ex : ∃ f fd, FnOk P w K mg base CX0 k f fd ps sp ∧ Meth K C m f ∧ Binds K fd ps []
/-- the class can be made from -/
structure CalI (P : Program) (w : World) (K : PySem.W.Frag) (mg : Str → Option Value) (base : Heap) (k : Nat) (C : Addr) (ps : List Str) (sp : Sp) : Prop where
  ex : ∃ f fd, FnOk P w K mg base CX0 k f fd ps sp ∧ Mk K C f ∧ Binds K fd ps []
section
variable {P : Program} {w : World} {K : PySem.W.Frag} {mg : Str → Option Value} {base : Heap} {C : Addr} {m q : Str} {st : Stmt} {N ps : List Str} {k : Nat} {sp : Sp}
theorem AtM.cal (F : AtM K C m q st []) (S : FnScope N ps (defScope st))
    (hb : ∀ (kV doc pm : Value) (an : Option Addr) (cdv ct : Value) (us : List Value), us.length = ps.length → bindArgs (PySem.W.fnOf m q (defArgs st) (defBody st) (defScope st) .none kV doc pm an cdv ct) ⟨us, []⟩ = pure (ps.zip us))
    (len : ∀ vs H Q E, sp vs H Q E → vs.length = ps.length)
    (hbody : ∀ (cdv : Value) (A : Around) (outer : List Env) (s : Shared) (H : Hp) (vs : List V) (Q : VK) (E : XK) (f : Addr), Room k (A.deeper (envOfC q (defScope st) s.heap.objs.size f cdv)) → sp vs H Q E →
      ∃ t, PSs (cxOf CX0 P w K mg base N q (defScope st) f cdv A outer s H E).nox (defBody st) t ∧ t { nx := fun _ H' => Q .non H', rt := Q } (start N vs) H) : CalM P w K mg base (k + 1) C m ps sp := by
  obtain ⟨f, fd, F, m⟩ := F.ex
  exact ⟨f, fd, F.ok (CX := CX0) S len fun cdv A outer s H vs Q E hr h => by
    obtain ⟨t, h1, h2⟩ := hbody cdv A outer s H vs Q E f hr h
    exact ⟨t, PSs.nox h1, h2⟩, m, F.bindsN hb⟩
theorem AtI.cal (F : AtI K C q st) (S : FnScope N ps (defScope st))
    (hb : ∀ (kV doc pm : Value) (an : Option Addr) (cdv ct : Value) (us : List Value), us.length = ps.length → bindArgs (PySem.W.fnOf "__init__" q (defArgs st) (defBody st) (defScope st) .none kV doc pm an cdv ct) ⟨us, []⟩ = pure (ps.zip us))
    (len : ∀ vs H Q E, sp vs H Q E → vs.length = ps.length)
    (hbody : ∀ (cdv : Value) (A : Around) (outer : List Env) (s : Shared) (H : Hp) (vs : List V) (Q : VK) (E : XK) (f : Addr), Room k (A.deeper (envOfC q (defScope st) s.heap.objs.size f cdv)) → sp vs H Q E →
      ∃ t, PSs (cxOf CX0 P w K mg base N q (defScope st) f cdv A outer s H E).nox (defBody st) t ∧ t { nx := fun _ H' => Q .non H', rt := Q } (start N vs) H) : CalI P w K mg base (k + 1) C ps sp := by
  obtain ⟨f, fd, F, m⟩ := F.ex
  exact ⟨f, fd, F.ok (CX := CX0) S len fun cdv A outer s H vs Q E hr h => by
    obtain ⟨t, h1, h2⟩ := hbody cdv A outer s H vs Q E f hr h
    exact ⟨t, PSs.nox h1, h2⟩, m, F.bindsN hb⟩
theorem atm_of {fa : List He.Fa} {fn : List He.DefD} {x : Str} {d : He.DefD} (c : He.SaysD fa fn K) (i j : Nat) (hd : fn[i]? = some d) (hf : fa[j]? = some (.meth x m)) (e : d = ⟨(x, some m), m, q, defArgs st, defBody st, defScope st, [], d.kwd⟩) : AtM K (He.ga K x) m q st (d.kws K) := by
  obtain ⟨fd, F⟩ := c.def_ i (d := d) hd
  rw [e] at F
  exact ⟨_, fd, F, He.meth_ok (c.fact j (f := .meth x m) hf)⟩
theorem ati_of {fa : List He.Fa} {fn : List He.DefD} {x : Str} {d : He.DefD} (c : He.SaysD fa fn K) (i j : Nat) (hd : fn[i]? = some d) (hf : fa[j]? = some (.mkr x)) (e : d = ⟨(x, some "__init__"), "__init__", q, defArgs st, defBody st, defScope st, [], []⟩) : AtI K (He.ga K x) q st := by
  obtain ⟨fd, F⟩ := c.def_ i (d := d) hd
  rw [e] at F
  exact ⟨_, fd, F, He.mkr_ok (c.fact j (f := .mkr x) hf)⟩
end
section
variable {X : Cx} {j k : Nat} {C : Addr} {m x : Str} {ps : List Str} {sp : Sp} {p pos : Pos} {apos : Pos} {o e : Expr} {es : List Expr} {t : TA} {ta : TE}
theorem pe_mth {pl : Sem Bool} (he : PE X o ta) (c : Cls X.K C) (F : CalM X.prog X.w X.K X.mg X.base j C m ps sp) (hr : Room k X.A) (hj : j ≤ k) (ha : PA X (e :: es) t)
    (hst : starEach (e :: es) X.env = (false, eval e X.env) :: starEach es X.env := by rfl) (hpl : (backTo pos (starEach es X.env)).any (·.1) = false := by rfl)
    (ht : eval (.Call (.Attribute o m apos) (e :: es) [] pos) X.env = (do
      let ov ← eval o X.env
      standAt apos.atName
      let (f, first) ← holding [ov] (getMethod ov m pl)
      callWith pos f first (backTo pos (starEach (e :: es) X.env)) (backToKw pos (keywordEach [] X.env))) := by rfl) :
    PE X (.Call (.Attribute o m apos) (e :: es) [] pos) (tMeth C m sp [] E0 ta t) := by
  obtain ⟨f, fd, G, hm, b⟩ := F.ex
  exact pe_meth he c hm G (hr.mono hj) b .nil pass0 ha hst hpl ht
theorem pe_mth0 {pl : Sem Bool} (he : PE X o ta) (c : Cls X.K C) (F : CalM X.prog X.w X.K X.mg X.base j C m ps sp) (hr : Room k X.A) (hj : j ≤ k)
    (ht : eval (.Call (.Attribute o m apos) [] [] pos) X.env = (do
      let ov ← eval o X.env
      standAt apos.atName
      let (f, first) ← holding [ov] (getMethod ov m pl)
      callWith pos f first (backTo pos (starEach [] X.env)) (backToKw pos (keywordEach [] X.env))) := by rfl) :
    PE X (.Call (.Attribute o m apos) [] [] pos) (tMeth C m sp [] E0 ta tNil) := by
  obtain ⟨f, fd, G, hm, b⟩ := F.ex
  exact pe_meth0 he c hm G (hr.mono hj) b .nil pass0 ht
theorem pe_mke (F : CalI X.prog X.w X.K X.mg X.base j C ps sp) (hr : Room k X.A) (hj : j + 1 ≤ k) (hm : X.mg x = some (.ref C)) (ha : PA X (e :: es) t) (hg : Gl X x := by rfl) (hdb : (x == ("__debug__" : Str)) = false := by decide)
    (he : starEach (e :: es) X.env = (false, eval e X.env) :: starEach es X.env := by rfl) (hpl : (backTo pos (starEach es X.env)).any (·.1) = false := by rfl) :
    PE X (.Call (.Name x p) (e :: es) [] pos) (tMake C sp [] E0 t) := by
  obtain ⟨f, fd, G, M, b⟩ := F.ex
  exact pe_make M G (hr.mono hj) hg hm b .nil pass0 ha hdb he hpl
end
/-- a method with its one keyword-only name written, behind n others (the object counted) -/
structure CalMK (P : Program) (w : World) (K : PySem.W.Frag) (mg : Str → Option Value) (base : Heap) (k : Nat) (C : Addr) (m : Str) (ps : List Str) (sp : Sp) (n : Nat) (kw : Str) : Prop where
  ex : ∃ f fd, FnOk P w K mg base CX0 k f fd ps sp ∧ Meth K C m f ∧ KBn K fd ps n [kw] (fun us ws => us ++ ws) (fun vs zs => vs ++ zs)
theorem AtM.calK {P : Program} {w : World} {K : PySem.W.Frag} {mg : Str → Option Value} {base : Heap} {C : Addr} {m q kw : Str} {st : Stmt} {N ps : List Str} {k n : Nat} {sp : Sp} {kws : List (Str × V)} (F : AtM K C m q st kws) (S : FnScope N ps (defScope st))
    (hb : ∀ (kV doc pm : Value) (an : Option Addr) (cdv ct : Value) (us ws : List Value), us.length = n → ws.length = 1 → bindArgs (PySem.W.fnOf m q (defArgs st) (defBody st) (defScope st) .none kV doc pm an cdv ct) ⟨us, [kw].zip ws⟩ = pure (ps.zip (us ++ ws)))
    (len : ∀ vs H Q E, sp vs H Q E → vs.length = ps.length)
    (hbody : ∀ (cdv : Value) (A : Around) (outer : List Env) (s : Shared) (H : Hp) (vs : List V) (Q : VK) (E : XK) (f : Addr), Room k (A.deeper (envOfC q (defScope st) s.heap.objs.size f cdv)) → sp vs H Q E →
      ∃ t, PSs (cxOf CX0 P w K mg base N q (defScope st) f cdv A outer s H E).nox (defBody st) t ∧ t { nx := fun _ H' => Q .non H', rt := Q } (start N vs) H) : CalMK P w K mg base (k + 1) C m ps sp n kw := by
  obtain ⟨f, fd, F, mm⟩ := F.ex
  refine ⟨f, fd, F.ok (CX := CX0) S len fun cdv A outer s H vs Q E hr h => ?_, mm, ⟨fun s us ws _ hl hw => ?_, fun r1 r2 => r1.append r2⟩⟩
  · obtain ⟨t, h1, h2⟩ := hbody cdv A outer s H vs Q E f hr h
    exact ⟨t, PSs.nox h1, h2⟩
  · obtain ⟨oc, od, dV, kV, doc, pm, an, cdv, ct, osl, rfl, lk, hcd, hD, hK⟩ := F.ex
    rcases hD with ⟨_, rfl⟩ | ⟨e, _⟩
    · exact .of_eq (hb kV doc pm an cdv ct us ws hl hw)
    · exact absurd rfl e
def tMethN (C : Addr) (m : Str) (n : Nat) (sp : Sp) (E : XK) (ta : TE) (t tk : TA) : TE := fun σ H Q => ta σ H fun x H1 => ∃ a dx fs, x = .ref a ∧ H1 a = some (.ins C dx fs) ∧ fs.lookup m = none ∧
  t σ H1 fun vs H2 => tk σ H2 fun zs H3 => (x :: vs).length = n ∧ zs.length = 1 ∧ sp ((x :: vs) ++ zs) H3 Q E
section
variable {X : Cx} {j k n : Nat} {C : Addr} {m kw : Str} {ps : List Str} {sp : Sp} {p pos : Pos} {apos : Pos} {o e : Expr} {es : List Expr} {t tk : TA} {ta : TE} {kws : List Keyword}
theorem pe_mthK {pl : Sem Bool} (he : PE X o ta) (c : Cls X.K C) (F : CalMK X.prog X.w X.K X.mg X.base j C m ps sp n kw) (hr : Room k X.A) (hj : j ≤ k) (ha : PA X (e :: es) t) (hkw : PK X kws tk)
    (hall : (backToKw pos (keywordEach kws X.env)).all (·.1.isSome) = true := by rfl) (hks : (backToKw pos (keywordEach kws X.env)).filterMap (·.1) = [kw] := by rfl)
    (hst : starEach (e :: es) X.env = (false, eval e X.env) :: starEach es X.env := by rfl)
    (hpl : ((backTo pos (starEach (e :: es) X.env)).any (·.1) || (backToKw pos (keywordEach kws X.env)).any (·.1.isNone)) = false := by rfl)
    (ht : eval (.Call (.Attribute o m apos) (e :: es) kws pos) X.env = (do
      let ov ← eval o X.env
      standAt apos.atName
      let (f, first) ← holding [ov] (getMethod ov m pl)
      callWith pos f first (backTo pos (starEach (e :: es) X.env)) (backToKw pos (keywordEach kws X.env))) := by rfl) :
    PE X (.Call (.Attribute o m apos) (e :: es) kws pos) (tMethN C m n sp E0 ta t tk) := ⟨fun pins s σ H Q I h => by
  obtain ⟨f, fd, G, hm, b⟩ := F.ex
  refine PySem.W.methodCall_KW (pl := pl) (thn (he.run pins s σ H _ I h) fun u s1 g => ?_) ht
  obtain ⟨x, H1, I1, rx, a, dx, fs, rfl, ea, l, q⟩ := g
  obtain rfl : u = Value.ref a := rx
  refine getmeth_ok I1 ea c hm l (PySem.W.callWith_KW (first := [.ref a]) (h₀ := X.base) I.ok.mod.kin hm.kp hall (thn (ha.run pos pins s1 σ H1 _ I1 q) fun us s2 g => ?_) hpl hst)
  obtain ⟨vs, H2, I2, r, q2⟩ := g
  refine thn (hkw.run pos pins s2 σ H2 _ I2 q2) fun ws s3 g => ?_
  obtain ⟨zs, H3, I3, rz, l1, l2, q3⟩ := g
  refine ⟨I3.kIn, ?_⟩
  rw [hks]
  exact run_fnN (us := .ref a :: us) (vs := .ref a :: vs) G (hr.mono hj) b pass0 I3 (.cons rfl r) rz l1 l2 q3⟩
end
/-! ### a Table -/
abbrev tbC (K : PySem.W.Frag) : Addr := He.ga K "Table"
structure TabK (K : PySem.W.Frag) (mg : Str → Option Value) : Prop where
  cl : Cls K (tbC K)
  nH : NoAttr K (tbC K) "_hands"
  nT : NoAttr K (tbC K) "_turns"
  nW : NoAttr K (tbC K) "_told"
  nC : NoAttr K (tbC K) "_calls"
  gl : mg "Table" = some (.ref (tbC K))
/-- the places of a table, in the order in which they are first stored -/
def flds (m : Int) (T W L : Addr) : List (Str × V) := [("_hands", .int m), ("_turns", .ref T), ("_told", .ref W), ("_calls", .ref L)]
theorem f_ht : ¬ (("_hands" : Str) = "_turns") := by decide +kernel
theorem f_hw : ¬ (("_hands" : Str) = "_told") := by decide +kernel
theorem f_hc : ¬ (("_hands" : Str) = "_calls") := by decide +kernel
theorem f_tw : ¬ (("_turns" : Str) = "_told") := by decide +kernel
theorem f_tc : ¬ (("_turns" : Str) = "_calls") := by decide +kernel
theorem f_wc : ¬ (("_told" : Str) = "_calls") := by decide +kernel
theorem putF_ne {f g : Str} {v x : V} {r : List (Str × V)} (h : ¬ g = f) : putF f v ((g, x) :: r) = (g, x) :: putF f v r := if_neg h
theorem putF_eq {f : Str} {v x : V} {r : List (Str × V)} : putF f v ((f, x) :: r) = (f, v) :: r := if_pos rfl
def flds1 (m : Int) : List (Str × V) := [("_hands", .int m)]
def flds2 (m : Int) (T : Addr) : List (Str × V) := [("_hands", .int m), ("_turns", .ref T)]
def flds3 (m : Int) (T W : Addr) : List (Str × V) := [("_hands", .int m), ("_turns", .ref T), ("_told", .ref W)]
theorem put1 (m : Int) : putF "_hands" (.int m) [] = flds1 m := rfl
theorem put2 (m : Int) (T : Addr) : putF "_turns" (.ref T) (flds1 m) = flds2 m T := by
  unfold flds1
  rw [putF_ne f_ht]
  rfl
theorem put3 (m : Int) (T W : Addr) : putF "_told" (.ref W) (flds2 m T) = flds3 m T W := by
  unfold flds2
  rw [putF_ne f_hw, putF_ne f_tw]
  rfl
theorem put4 (m : Int) (T W L : Addr) : putF "_calls" (.ref L) (flds3 m T W) = flds m T W L := by
  unfold flds3
  rw [putF_ne f_hc, putF_ne f_tc, putF_ne f_wc]
  rfl
theorem But.free0 {b T : Addr} {H H' : Hp} {o : HO} (s : But b H H') (hb : H' b = some o) (n : H' T = none) : H T = none := by
  cases e : H T with
  | none => rfl
  | some o =>
    have h := s T o (fun z => by rw [z, hb] at n; cases n) e
    rw [n] at h
    cases h
theorem But.new {b l : Addr} {H H' : Hp} {o o' : HO} (s : But b H H') (hb : H' b = some o) (n : H' l = none) : But b H (upd H' l o') := fun c x nc e => by
  rw [upd_ne (ne_of_none e (s.free0 hb n))]
  exact s c x nc e
theorem But.own {b : Addr} {H H' : Hp} {o : HO} (s : But b H H') : But b H (upd H' b o) := fun c x nc e => by
  rw [upd_ne nc]
  exact s c x nc e
theorem flds_turns (m : Int) (T T' W L : Addr) : putF "_turns" (.ref T') (flds m T W L) = flds m T' W L := by
  unfold flds
  rw [putF_ne f_ht, putF_eq]
theorem flds_told (m : Int) (T W W' L : Addr) : putF "_told" (.ref W') (flds m T W L) = flds m T W' L := by
  unfold flds
  rw [putF_ne f_hw, putF_ne f_tw, putF_eq]
theorem look_ne {f g : Str} {x : V} {r : List (Str × V)} (h : ¬ g = f) : ((g, x) :: r).lookup f = r.lookup f := by
  have hb : (f == g) = false := by
    rw [beq_eq_false_iff_ne]
    exact fun e => h e.symm
  rw [List.lookup_cons, hb]
theorem look_eq {f : Str} {x : V} {r : List (Str × V)} : ((f, x) :: r).lookup f = some x := by
  rw [List.lookup_cons, beq_self_eq_true]
theorem fl_hands (m : Int) (T W L : Addr) : (flds m T W L).lookup ("_hands" : Str) = some (.int m) := look_eq
theorem fl_turns (m : Int) (T W L : Addr) : (flds m T W L).lookup ("_turns" : Str) = some (.ref T) := by
  unfold flds
  rw [look_ne f_ht, look_eq]
theorem fl_told (m : Int) (T W L : Addr) : (flds m T W L).lookup ("_told" : Str) = some (.ref W) := by
  unfold flds
  rw [look_ne f_hw, look_ne f_tw, look_eq]
theorem fl_calls (m : Int) (T W L : Addr) : (flds m T W L).lookup ("_calls" : Str) = some (.ref L) := by
  unfold flds
  rw [look_ne f_hc, look_ne f_tc, look_ne f_wc, look_eq]
theorem fl_no (m : Int) (T W L : Addr) {x : Str} (h1 : ¬ "_hands" = x) (h2 : ¬ "_turns" = x) (h3 : ¬ "_told" = x) (h4 : ¬ "_calls" = x) : (flds m T W L).lookup x = none := by
  unfold flds
  rw [look_ne h1, look_ne h2, look_ne h3, look_ne h4]
  rfl
/-- a table stands at p: its hands, its turns at T, the worths told at W, the calls at L -/
structure TblAt (K : PySem.W.Frag) (H : Hp) (p T W L : Addr) (m : Int) (turns told : List Int) (calls : List V) : Prop where
  ob : ∃ dx, H p = some (.ins (tbC K) dx (flds m T W L))
  tn : H T = some (.lst (turns.map V.int))
  td : H W = some (.lst (told.map V.int))
  cl : H L = some (.lst calls)
  tw : T ≠ W
  tl : T ≠ L
  wl : W ≠ L
theorem TblAt.same {K : PySem.W.Frag} {H H' : Hp} {p T W L : Addr} {m : Int} {turns told : List Int} {calls : List V} (D : TblAt K H p T W L m turns told calls) (s : Same H H') : TblAt K H' p T W L m turns told calls := by
  obtain ⟨dx, e⟩ := D.ob
  exact ⟨⟨dx, s _ _ e⟩, s _ _ D.tn, s _ _ D.td, s _ _ D.cl, D.tw, D.tl, D.wl⟩
/-- a list that is none of the table's own may change -/
theorem TblAt.but {K : PySem.W.Frag} {H H' : Hp} {b p T W L : Addr} {m : Int} {turns told : List Int} {calls : List V} (D : TblAt K H p T W L m turns told calls) (s : But b H H') (nb : b ≠ T ∧ b ≠ W ∧ b ≠ L) {xs : List V} (hb : H b = some (.lst xs)) : TblAt K H' p T W L m turns told calls := by
  obtain ⟨dx, e⟩ := D.ob
  exact ⟨⟨dx, s _ _ (fun z => by rw [z, hb] at e; cases e) e⟩, s _ _ (Ne.symm nb.1) D.tn, s _ _ (Ne.symm nb.2.1) D.td, s _ _ (Ne.symm nb.2.2) D.cl, D.tw, D.tl, D.wl⟩
section
variable {K : PySem.W.Frag} {mg : Str → Option Value} {H : Hp} {p T W L : Addr} {m : Int} {turns told : List Int} {calls : List V} {R : V → Prop}
theorem fld_hands (D : TblAt K H p T W L m turns told calls) (G : TabK K mg) (q : R (.int m)) : ∃ a C dx fs v, V.ref p = .ref a ∧ H a = some (.ins C dx fs) ∧ Cls K C ∧ NoAttr K C "_hands" ∧ fs.lookup ("_hands" : Str) = some v ∧ R v :=
  let ⟨dx, e⟩ := D.ob
  ⟨p, _, dx, _, _, rfl, e, G.cl, G.nH, fl_hands _ _ _ _, q⟩
theorem fld_turns (D : TblAt K H p T W L m turns told calls) (G : TabK K mg) (q : R (.ref T)) : ∃ a C dx fs v, V.ref p = .ref a ∧ H a = some (.ins C dx fs) ∧ Cls K C ∧ NoAttr K C "_turns" ∧ fs.lookup ("_turns" : Str) = some v ∧ R v :=
  let ⟨dx, e⟩ := D.ob
  ⟨p, _, dx, _, _, rfl, e, G.cl, G.nT, fl_turns _ _ _ _, q⟩
theorem fld_told (D : TblAt K H p T W L m turns told calls) (G : TabK K mg) (q : R (.ref W)) : ∃ a C dx fs v, V.ref p = .ref a ∧ H a = some (.ins C dx fs) ∧ Cls K C ∧ NoAttr K C "_told" ∧ fs.lookup ("_told" : Str) = some v ∧ R v :=
  let ⟨dx, e⟩ := D.ob
  ⟨p, _, dx, _, _, rfl, e, G.cl, G.nW, fl_told _ _ _ _, q⟩
theorem fld_calls (D : TblAt K H p T W L m turns told calls) (G : TabK K mg) (q : R (.ref L)) : ∃ a C dx fs v, V.ref p = .ref a ∧ H a = some (.ins C dx fs) ∧ Cls K C ∧ NoAttr K C "_calls" ∧ fs.lookup ("_calls" : Str) = some v ∧ R v :=
  let ⟨dx, e⟩ := D.ob
  ⟨p, _, dx, _, _, rfl, e, G.cl, G.nC, fl_calls _ _ _ _, q⟩
end
end Ly

/-! IMPORTS HandS.FStr -/
/-! ### what is refused: things by what they are, which refusal comes first -/
namespace Ly
open PySem PySem.Spec PyProof.Rows L2 RZ
inductive Rf where
  | hands | row | hand | worths | order | bound | even | long | degree | places | text
  deriving DecidableEq
def Rf.name : Rf → Str
  | .hands => "NoHands" | .row => "NoRow" | .hand => "NoHand" | .worths => "NoWorths" | .order => "NoOrder" | .bound => "NoBound"
  | .even => "NotEven" | .long => "TooLong" | .degree => "NoDegree" | .places => "NoPlaces" | .text => "NoText"
def Rf.code : Rf → Nat
  | .hands => 0 | .row => 1 | .hand => 2 | .worths => 3 | .order => 4 | .bound => 5 | .even => 6 | .long => 7 | .degree => 8 | .places => 9 | .text => 10
theorem Rf.at_ (r : Rf) : errs[r.code]? = some r.name := by cases r <;> rfl
theorem Rf.mem (r : Rf) : r.name ∈ errs := List.mem_of_getElem? r.at_
/-- the first refusal of two -/
def Rf.or (a b : Option Rf) : Option Rf := match a with
  | some r => some r
  | none => b
/-- a plain thing, a tuple of plain ones, a list -/
inductive Ar where
  | pl (x : V) | tup (xs : List V) | lst (xs : List V)
def pln : V → Bool
  | .int _ => true | .bl _ => true | .non => true | .str _ => true | _ => false
def isI : V → Bool
  | .int _ => true | _ => false
def ArOk (K : PySem.W.Frag) (H : Hp) (a : Ar) (v : V) : Prop := match a with
  | .pl x => v = x ∧ pln x = true
  | .tup xs => ∃ r, v = .ref r ∧ SqT K H r xs ∧ xs.all pln = true ∧ xs.length ≤ 100000
  | .lst xs => ∃ r, v = .ref r ∧ SqL K H r xs
section
variable {K : PySem.W.Frag} {H H' : Hp} {a : Ar} {v x : V}
theorem ArOk.same (s : Same H H') (h : ArOk K H a v) : ArOk K H' a v := by
  cases a with
  | pl x => exact h
  | tup xs =>
    obtain ⟨r, e, hS, p, l⟩ := h
    exact ⟨r, e, seqT s hS, p, l⟩
  | lst xs =>
    obtain ⟨r, e, hS⟩ := h
    exact ⟨r, e, seqL s hS⟩
theorem pln_wh (h : pln x = true) : ∃ b, ∀ H, Wh K H x b := by
  cases x with
  | int i => exact ⟨true, fun _ => .int i⟩
  | bl b => exact ⟨false, fun _ => .bl b⟩
  | non => exact ⟨false, fun _ => .no (.base .non) (by decide +kernel : kitB "NoneType" "int" = some false) fun _ => V.noConfusion⟩
  | str z => exact ⟨false, fun _ => .no (.base (.str z)) (by decide +kernel : kitB "str" "int" = some false) fun _ => V.noConfusion⟩
  | _ => cases h
theorem pln_whI (h : pln x = true) (H : Hp) : Wh K H x (isI x) := by
  cases x with
  | int i => exact .int i
  | bl b => exact .bl b
  | non => exact .no (.base .non) (by decide +kernel : kitB "NoneType" "int" = some false) fun _ => V.noConfusion
  | str z => exact .no (.base (.str z)) (by decide +kernel : kitB "str" "int" = some false) fun _ => V.noConfusion
  | _ => cases h
theorem ArOk.wh (h : ArOk K H a v) : ∃ b, Wh K H v b := by
  cases a with
  | pl x =>
    obtain ⟨rfl, p⟩ := h
    obtain ⟨b, e⟩ := pln_wh (K := K) p
    exact ⟨b, e H⟩
  | tup xs =>
    obtain ⟨r, rfl, hS, _⟩ := h
    exact ⟨false, .no (ty_tup hS) (by decide +kernel : kitB "tuple" "int" = some false) fun _ => V.noConfusion⟩
  | lst xs =>
    obtain ⟨r, rfl, hS⟩ := h
    exact ⟨false, .no (ty_lst hS) (by decide +kernel : kitB "list" "int" = some false) fun _ => V.noConfusion⟩
/-- of a type that is not tuple, or a tuple -/
theorem ArOk.tuple (h : ArOk K H a v) : (∃ xs r, a = .tup xs ∧ v = .ref r ∧ SqT K H r xs ∧ xs.all pln = true ∧ xs.length ≤ 100000) ∨ ((∀ xs, a ≠ .tup xs) ∧ ∃ n : String, TyX K H v (.type n) ∧ kitB n "tuple" = some false) := by
  cases a with
  | pl x =>
    obtain ⟨rfl, p⟩ := h
    refine .inr ⟨fun xs e => Ar.noConfusion e, ?_⟩
    cases v with
    | int i => exact ⟨_, .base (.int i), by decide +kernel⟩
    | bl b => exact ⟨_, .base (.bl b), by decide +kernel⟩
    | non => exact ⟨_, .base .non, by decide +kernel⟩
    | str z => exact ⟨_, .base (.str z), by decide +kernel⟩
    | _ => cases p
  | tup xs =>
    obtain ⟨r, e, hS, p, l⟩ := h
    exact .inl ⟨xs, r, rfl, e, hS, p, l⟩
  | lst xs =>
    obtain ⟨r, rfl, hS⟩ := h
    exact .inr ⟨fun xs e => Ar.noConfusion e, _, ty_lst hS, by decide +kernel⟩
end
/-! what each check refuses -/
def frA (a : Ar) (lo hi : Int) : Bool := match a with
  | .pl x => whB x lo hi
  | _ => false
theorem ArOk.fr {K : PySem.W.Frag} {H : Hp} {a : Ar} {v : V} (h : ArOk K H a v) (lo hi : Int) : whB v lo hi = frA a lo hi := by
  cases a with
  | pl x => rw [h.1]; rfl
  | tup xs => obtain ⟨r, rfl, _⟩ := h; rfl
  | lst xs => obtain ⟨r, rfl, _⟩ := h; rfl
def intA : Ar → Int
  | .pl (.int i) => i
  | _ => 0
def lenA : Ar → Nat
  | .tup xs => xs.length
  | .lst xs => xs.length
  | _ => 0
theorem frA_int {K : PySem.W.Frag} {H : Hp} {a : Ar} {v : V} {lo hi : Int} (h : ArOk K H a v) (f : frA a lo hi = true) : v = .int (intA a) ∧ lo ≤ intA a ∧ intA a ≤ hi := by
  cases a with
  | pl x =>
    obtain ⟨rfl, _⟩ := h
    cases v with
    | int i =>
      have := of_decide_eq_true f
      exact ⟨rfl, this⟩
    | _ => cases f
  | _ => cases f
def fitsA (hands : Int) (xs : List V) : Bool := decide (1 ≤ xs.length ∧ xs.length ≤ 64) && xs.all fun x => whB x 0 (hands - 1)
def rowA (m : Int) : Ar → Bool
  | .tup xs => fitsA m xs
  | _ => false
def noIf (b : Bool) (r : Rf) : Option Rf := if b = true then none else some r
def cHands (a : Ar) : Option Rf := noIf (frA a 2 4) .hands
def cRow (h r : Ar) : Option Rf := Rf.or (cHands h) (noIf (rowA (intA h) r) .row)
def cTwoH (m : Int) (x y : Ar) : Option Rf := noIf (frA x 0 (m - 1) && (frA y 0 (m - 1) && !decide (intA x = intA y))) .hand
def cTwo (h r x y : Ar) : Option Rf := Rf.or (cRow h r) (cTwoH (intA h) x y)
def worA : Ar → Bool
  | .tup xs => !xs.isEmpty && xs.all isI
  | _ => false
def cWorths (a : Ar) : Option Rf := noIf (worA a) .worths
def cWorthsOf (r a : Ar) : Option Rf := Rf.or (cWorths a) (noIf (decide (lenA a = lenA r)) .worths)
def cFrom (a : Ar) (lo hi : Int) (r : Rf) : Option Rf := noIf (frA a lo hi) r
def cLen (n : Int) (most : Int) : Option Rf := noIf (decide (n ≤ most)) .long
def cTwoP (n : Nat) (x y : Ar) : Option Rf := noIf (frA x 0 ((n : Int) - 1) && (frA y 0 ((n : Int) - 1) && !decide (intA x = intA y))) .places
def intsOf (xs : List V) : List Int := xs.map fun x => match x with
  | .int i => i
  | _ => 0
def nameA (m : Nat) (a : Ar) : Bool := match a with
  | .tup xs => decide (xs.length = m) && (xs.all (fun x => whB x 0 ((m : Int) - 1)) && decide ((intsOf xs).Perm (nums m)))
  | _ => false
theorem ints_of {lo hi : Int} : ∀ {xs : List V}, (xs.all fun x => whB x lo hi) = true → xs = (intsOf xs).map V.int ∧ ∀ z ∈ intsOf xs, lo ≤ z ∧ z ≤ hi
  | [], _ => ⟨rfl, fun _ h => nomatch h⟩
  | x :: r, h => by
    rw [List.all_cons, Bool.and_eq_true] at h
    obtain ⟨e, f⟩ := ints_of h.2
    cases x with
    | int i =>
      refine ⟨by show _ = V.int i :: (intsOf r).map V.int; rw [← e], fun z hz => ?_⟩
      rcases List.mem_cons.mp hz with g | g
      · rw [g]
        exact of_decide_eq_true h.1
      · exact f z g
    | _ => cases h.1
theorem ints_isI : ∀ {xs : List V}, xs.all isI = true → xs = (intsOf xs).map V.int
  | [], _ => rfl
  | x :: r, h => by
    rw [List.all_cons, Bool.and_eq_true] at h
    have e := ints_isI h.2
    cases x with
    | int i => show _ = V.int i :: (intsOf r).map V.int; rw [← e]
    | _ => cases h.1
theorem rowA_tup {K : PySem.W.Frag} {H : Hp} {m : Int} {a : Ar} {v : V} (h : ArOk K H a v) (e : rowA m a = true) : ∃ xs r, a = .tup xs ∧ v = .ref r ∧ SqT K H r xs := by
  rcases h.tuple with ⟨xs, r, h1, h2, h3, _⟩ | ⟨hn, _⟩
  · exact ⟨xs, r, h1, h2, h3⟩
  · cases a with
    | tup xs => exact absurd rfl (hn xs)
    | _ => cases e
def cOrderOf (aw ao : Ar) : Option Rf := Rf.or (cFrom ao 1 4 .order) (noIf (decide (intA ao ≤ (lenA aw : Int))) .order)
def cGoing (aw ap ao : Ar) : Option Rf := Rf.or (cWorths aw) (Rf.or (cFrom ap (lenA aw) 64 .places) (cOrderOf aw ao))
def cFore (ar aw ao ab : Ar) : Option Rf := Rf.or (cWorths aw) (Rf.or (noIf (decide (lenA aw ≤ lenA ar)) .worths) (Rf.or (cOrderOf aw ao) (cFrom ab 0 99 .bound)))
def cLeadR (ah ar a1 a2 ao ab : Ar) : Option Rf := Rf.or (cTwo ah ar a1 a2) (Rf.or (cFrom ao 1 4 .order) (cFrom ab 0 99 .bound))
def cMend (h r o : Ar) : Option Rf := Rf.or (cRow h r) (Rf.or (cFrom o 1 4 .order) (cLen (lenA r) 16))
theorem worA_tup {K : PySem.W.Frag} {H : Hp} {a : Ar} {v : V} (h : ArOk K H a v) (e : worA a = true) : ∃ xs r, a = .tup xs ∧ v = .ref r ∧ SqT K H r xs ∧ xs = (intsOf xs).map V.int ∧ xs ≠ [] := by
  rcases h.tuple with ⟨xs, r, h1, h2, h3, _⟩ | ⟨hn, _⟩
  · subst h1
    have e2 : (!xs.isEmpty && xs.all isI) = true := e
    rw [Bool.and_eq_true] at e2
    refine ⟨xs, r, rfl, h2, h3, ints_isI e2.2, fun z => ?_⟩
    rw [z] at e2
    exact absurd e2.1 (by decide)
  · cases a with
    | tup xs => exact absurd rfl (hn xs)
    | _ => cases e
/-- how a check ends -/
def Fin1 (K : PySem.W.Frag) (c : Option Rf) (Q : VK) (E : XK) (H : Hp) : Prop := match c with
  | none => Q .non H
  | some r => E (.ref (He.ga K r.name)) none H
theorem Fin1.no {K : PySem.W.Frag} {b : Bool} {r : Rf} {Q : VK} {E : XK} {H : Hp} (h : Fin1 K (noIf b r) Q E H) : (b = true → Q .non H) ∧ (b = false → E (.ref (He.ga K r.name)) none H) :=
  ⟨fun e => by rw [e] at h; exact h, fun e => by rw [e] at h; exact h⟩
theorem Fin1.seq {K : PySem.W.Frag} {c d : Option Rf} {Q Q1 : VK} {E : XK} {H H1 : Hp} (q : ∀ H', Same H H' → Fin1 K (Rf.or c d) Q E H') (s : Same H H1) (k : c = none → (∀ H', Same H1 H' → Fin1 K d Q E H') → Q1 .non H1) : Fin1 K c Q1 E H1 := by
  cases c with
  | none => exact k rfl fun H' s' => q H' (s.trans s')
  | some r => exact q H1 s
theorem Fin1.fin {K : PySem.W.Frag} {c : Option Rf} {Q Q1 : VK} {E : XK} {H : Hp} (q : Fin1 K c Q E H) (k : c = none → Q .non H → Q1 .non H) : Fin1 K c Q1 E H := by
  cases c with
  | none => exact k rfl q
  | some r => exact q
theorem Fin1.mk {K : PySem.W.Frag} {Q : VK} {E : XK} {H : Hp} (q : Q .non H) : Fin1 K none Q E H := q
theorem Fin1.err {K : PySem.W.Frag} {c : Option Rf} {r : Rf} {Q : VK} {E : XK} {H : Hp} (e : c = some r) (q : E (.ref (He.ga K r.name)) none H) : Fin1 K c Q E H := by
  rw [e]
  exact q
theorem Fin1.ok {K : PySem.W.Frag} {c : Option Rf} {Q : VK} {E : XK} {H : Hp} (e : c = none) (q : Q .non H) : Fin1 K c Q E H := by
  rw [e]
  exact q
theorem int_short : ∀ n : Nat, n ≤ 100 → (Str.ofString (toString (n : Int))).length ≤ 10 ∧ (n : Int).natAbs.log2 < 1920 := by decide +kernel
theorem int_shortZ {m : Int} (h0 : 0 ≤ m) (h : m ≤ 100) : (Str.ofString (toString m)).length ≤ 10 ∧ m.natAbs.log2 < 1920 := by
  have e : m = ((m.toNat : Nat) : Int) := (Int.toNat_of_nonneg h0).symm
  rw [e]
  exact int_short _ (by omega)
theorem noIf_none {b : Bool} {r : Rf} (h : noIf b r = none) : b = true := by
  cases b with
  | true => rfl
  | false => cases h
theorem or_none {a b : Option Rf} (h : Rf.or a b = none) : a = none ∧ b = none := by
  cases a with
  | none => exact ⟨rfl, h⟩
  | some r => cases h
def rowOf : Ar → List Int
  | .tup xs => intsOf xs
  | _ => []
theorem row_facts {K : PySem.W.Frag} {H : Hp} {a b : Ar} {x y : V} (h0 : ArOk K H a x) (h1 : ArOk K H b y) (e : cRow a b = none) : ∃ r, x = .int (intA a) ∧ y = .ref r ∧ RowOk (intA a) (rowOf b) ∧ SqT K H r ((rowOf b).map V.int) ∧ lenA b = (rowOf b).length := by
  obtain ⟨e1, e2⟩ := or_none e
  obtain ⟨ex, m2, m4⟩ := frA_int h0 (noIf_none e1)
  have f := noIf_none e2
  obtain ⟨xs, r, rfl, rfl, hS⟩ := rowA_tup h1 f
  have f2 : (decide (1 ≤ xs.length ∧ xs.length ≤ 64) && xs.all fun x => whB x 0 (intA a - 1)) = true := f
  rw [Bool.and_eq_true] at f2
  have l := of_decide_eq_true f2.1
  obtain ⟨g, gz⟩ := ints_of f2.2
  have ln : (intsOf xs).length = xs.length := List.length_map _
  refine ⟨r, ex, rfl, ⟨m2, m4, fun z => ?_, ?_, fun z hz => ?_⟩, ?_, ln.symm⟩
  · have z' : intsOf xs = [] := z
    rw [z'] at ln
    have := ln.symm
    simp only [List.length_nil] at this
    omega
  · show (intsOf xs).length ≤ 64
    omega
  · have := gz z hz
    omega
  · show SqT K H r ((intsOf xs).map V.int)
    rw [← g]
    exact hS
end Ly
/-! rules: a raise with any text, a raising def with a keyword, a def that stands in a list, a raising class -/
namespace Ly
open PySem PySem.Spec PyProof.Rows L2
/-- f stands for a def that keeps sp, its last arguments filled up by dvs -/
structure FnV (P : Program) (w : World) (K : PySem.W.Frag) (mg : Str → Option Value) (base : Heap) (k : Nat) (f : Addr) (dvs : List V) (sp : Sp) : Prop where
  ex : ∃ fd ps ds, FnOk P w K mg base (L2N.CX P w) k f fd ps sp ∧ PySem.W.keepIn K (.ref f) = true ∧ Binds K fd ps ds ∧ Vals dvs ds
/-- with a keyword behind n arguments -/
structure FnVK (P : Program) (w : World) (K : PySem.W.Frag) (mg : Str → Option Value) (base : Heap) (k : Nat) (f : Addr) (n : Nat) (kw : Str) (sp : Sp) : Prop where
  ex : ∃ fd ps, FnOk P w K mg base (L2N.CX P w) k f fd ps sp ∧ PySem.W.keepIn K (.ref f) = true ∧ KBn K fd ps n [kw] (fun us ws => us ++ ws) (fun vs zs => vs ++ zs)
/-- a raising def with its keyword-only name written -/
structure CalKX (P : Program) (w : World) (K : PySem.W.Frag) (mg : Str → Option Value) (base : Heap) (k : Nat) (x : Str) (ps : List Str) (sp : Sp) (n : Nat) (kw : Str) : Prop where
  ex : ∃ f fd, FnOk P w K mg base (L2N.CX P w) k f fd ps sp ∧ mg x = some (.ref f) ∧ PySem.W.keepIn K (.ref f) = true ∧ KBn K fd ps n [kw] (fun us ws => us ++ ws) (fun vs zs => vs ++ zs)
structure CalIX (P : Program) (w : World) (K : PySem.W.Frag) (mg : Str → Option Value) (base : Heap) (k : Nat) (C : Addr) (ps : List Str) (sp : Sp) : Prop where
  ex : ∃ f fd, FnOk P w K mg base (L2N.CX P w) k f fd ps sp ∧ Mk K C f ∧ Binds K fd ps []
section
variable {P : Program} {w : World} {K : PySem.W.Frag} {mg : Str → Option Value} {base : Heap} {j k n : Nat} {x kw : Str} {ps : List Str} {sp : Sp} {dv : V}
theorem CalX.v (C : CalX P w K mg base j x ps sp) (h : j ≤ k) : ∃ f, mg x = some (.ref f) ∧ FnV P w K mg base k f [] sp := by
  obtain ⟨f, fd, F, m, kp, b⟩ := C.ex
  exact ⟨f, m, fd, ps, [], F.mono h, kp, b, .nil⟩
theorem CalDX.v (C : CalDX P w K mg base j x ps sp dv) (h : j ≤ k) : ∃ f, mg x = some (.ref f) ∧ FnV P w K mg base k f [dv] sp := by
  obtain ⟨f, fd, ds, F, m, kp, b, r⟩ := C.ex
  exact ⟨f, m, fd, ps, ds, F.mono h, kp, b, r⟩
theorem CalKX.v (C : CalKX P w K mg base j x ps sp n kw) (h : j ≤ k) : ∃ f, mg x = some (.ref f) ∧ FnVK P w K mg base k f n kw sp := by
  obtain ⟨f, fd, F, m, kp, b⟩ := C.ex
  exact ⟨f, m, fd, ps, F.mono h, kp, b⟩
end
def tCallV (P : Program) (w : World) (K : PySem.W.Frag) (mg : Str → Option Value) (base : Heap) (k : Nat) (E : L2.St → XK) (tf : TE) (t : TA) : TE := fun σ H Q => tf σ H fun v H1 => ∃ f dvs sp, v = .ref f ∧ FnV P w K mg base k f dvs sp ∧
  t σ H1 fun vs H2 => sp (vs ++ dvs) H2 Q (E σ)
def tCallVK (P : Program) (w : World) (K : PySem.W.Frag) (mg : Str → Option Value) (base : Heap) (k : Nat) (kw : Str) (E : L2.St → XK) (tf : TE) (t tk : TA) : TE := fun σ H Q => tf σ H fun v H1 => ∃ f n sp, v = .ref f ∧ FnVK P w K mg base k f n kw sp ∧
  t σ H1 fun vs H2 => tk σ H2 fun zs H3 => vs.length = n ∧ zs.length = 1 ∧ sp (vs ++ zs) H3 Q (E σ)
def tCallNS (n : Nat) (sp : Sp) (E : L2.St → XK) (t tk : TA) : TE := fun σ H Q => t σ H fun vs H2 => tk σ H2 fun zs H3 => vs.length = n ∧ zs.length = 1 ∧ sp (vs ++ zs) H3 Q (E σ)
section
variable {X : Cx} {CX : CXT} {j k n : Nat} {f C : Addr} {fd : FuncData} {x kw : Str} {ps : List Str} {sp : Sp} {p pos : Pos} {e fe : Expr} {es : List Expr} {kws : List Keyword} {t tk : TA} {tf te : TE} {W : WX} {E : L2.St → XK} {ds : List Value} {dvs : List V} {dv : V}
theorem run_fnSD {pins : List (Addr × Obj)} {σ : L2.St} {H : Hp} {s : Shared} {Q : VK} {us : List Value} {vs : List V} (F : FnOk X.prog X.w X.K X.mg X.base CX k f fd ps sp) (hr : Room k X.A) (hb : Binds X.K fd ps ds) (rd : Vals dvs ds) (hx : PassesAt CX X σ (E σ))
    (I : Inv X pins σ H s) (r : Vals vs us) (h : sp (vs ++ dvs) H Q (E σ)) : wpAny (model X.prog X.w) X.A (call (.ref f) us) (EP X pins σ Q) X.xe s := by
  have r2 : Vals (vs ++ dvs) (us ++ ds) := r.append rd
  have hl : (us ++ ds).length = ps.length := r2.length.symm.trans (F.len _ _ _ _ h)
  refine wpAny_call (codeAny_mono (F.run X.A X.stack s H ⟨us, []⟩ (us ++ ds) (vs ++ dvs) Q (E σ) hr I.env0 (hb s us I.kIn hl) r2 h) fun r s' g => ?_)
  match r, g with
  | .error z, g => exact hx pins H s z s' I g
  | .ok (.ret u), g => exact I.after g
theorem run_fnNSV {ks : List Str} {g : List Value → List Value → List Value} {gV : List V → List V → List V} {pins : List (Addr × Obj)} {σ : L2.St} {H : Hp} {s : Shared} {Q : VK} {us ws : List Value} {vs zs : List V} (F : FnOk X.prog X.w X.K X.mg X.base CX k f fd ps sp) (hr : Room k X.A) (hb : KBn X.K fd ps n ks g gV) (hx : PassesAt CX X σ (E σ))
    (I : Inv X pins σ H s) (r : Vals vs us) (rz : Vals zs ws) (l1 : vs.length = n) (l2 : zs.length = ks.length) (h : sp (gV vs zs) H Q (E σ)) : wpAny (model X.prog X.w) X.A (call (.ref f) us (ks.zip ws)) (EP X pins σ Q) X.xe s := by
  have r2 := hb.rel r rz
  refine wpAny_call (codeAny_mono (F.run X.A X.stack s H ⟨us, ks.zip ws⟩ (g us ws) (gV vs zs) Q (E σ) hr I.env0 (hb.to s us ws I.kIn (r.length.symm.trans l1) (rz.length.symm.trans l2)) r2 h) fun r s' hq => ?_)
  match r, hq with
  | .error x, g => exact hx pins H s x s' I g
  | .ok (.ret u), g => exact I.after g
/-- At.calX, the code object known -/
theorem At.calXT {P : Program} {w : World} {K : PySem.W.Frag} {mg : Str → Option Value} {base : Heap} {st : Stmt} {N : List Str} {c : Addr} (F : At K mg x st []) (C : CodeIs K mg x c) (S : FnScope N ps (defScope st))
    (hb : ∀ (kV doc pm : Value) (an : Option Addr) (cdv ct : Value) (us : List Value), us.length = ps.length → bindArgs (PySem.W.fnOf x x (defArgs st) (defBody st) (defScope st) .none kV doc pm an cdv ct) ⟨us, []⟩ = pure (ps.zip us))
    (len : ∀ vs H Q E, sp vs H Q E → vs.length = ps.length)
    (hbody : ∀ (A : Around) (outer : List Env) (s : Shared) (H : Hp) (vs : List V) (Q : VK) (E : XK) (f : Addr), Room k (A.deeper (envOfC x (defScope st) s.heap.objs.size f (.ref c))) → sp vs H Q E →
      ∃ t, PSs (cxOf (L2N.CX P w) P w K mg base N x (defScope st) f (.ref c) A outer s H E) (defBody st) t ∧ t { nx := fun _ H' => Q .non H', rt := Q } (L2.start N vs) H) : CalX P w K mg base (k + 1) x ps sp := by
  obtain ⟨f, fd, G, m⟩ := F.ex
  have B := G.bindsN hb
  have kp := G.kp
  obtain ⟨oc, od, dV, kV, doc, pm, an, cdv, ct, osl, rfl, lk, hcd, _, _⟩ := G.ex
  have e : cdv = .ref c := C f _ _ m lk rfl
  subst e
  exact ⟨f, _, fn_of lk hcd S len fun A outer s H vs Q E hr h => hbody A outer s H vs Q E f hr h, m, kp, B⟩
theorem AtI.calX {P : Program} {w : World} {K : PySem.W.Frag} {mg : Str → Option Value} {base : Heap} {q : Str} {st : Stmt} {N : List Str} (F : AtI K C q st) (S : FnScope N ps (defScope st))
    (hb : ∀ (kV doc pm : Value) (an : Option Addr) (cdv ct : Value) (us : List Value), us.length = ps.length → bindArgs (PySem.W.fnOf "__init__" q (defArgs st) (defBody st) (defScope st) .none kV doc pm an cdv ct) ⟨us, []⟩ = pure (ps.zip us))
    (len : ∀ vs H Q E, sp vs H Q E → vs.length = ps.length)
    (hbody : ∀ (cdv : Value) (A : Around) (outer : List Env) (s : Shared) (H : Hp) (vs : List V) (Q : VK) (E : XK) (f : Addr), Room k (A.deeper (envOfC q (defScope st) s.heap.objs.size f cdv)) → sp vs H Q E →
      ∃ t, PSs (cxOf (L2N.CX P w) P w K mg base N q (defScope st) f cdv A outer s H E) (defBody st) t ∧ t { nx := fun _ H' => Q .non H', rt := Q } (L2.start N vs) H) : CalIX P w K mg base (k + 1) C ps sp := by
  obtain ⟨f, fd, F, m⟩ := F.ex
  exact ⟨f, fd, F.ok (CX := L2N.CX P w) S len fun cdv A outer s H vs Q E hr h => hbody cdv A outer s H vs Q E f hr h, m, F.bindsN hb⟩
/-- fe(e, ..), fe any expression that gives a def -/
theorem pe_calV {P : Program} {w : World} {K : PySem.W.Frag} {mg : Str → Option Value} {base : Heap} (hf : PE X fe tf) (hr : Room k X.A) (tkk : L2N.Takes X W) (ha : PA X (e :: es) t)
    (ht : eval (.Call fe (e :: es) [] pos) X.env = (do callWith pos (← eval fe X.env) [] (backTo pos (starEach (e :: es) X.env)) (backToKw pos (keywordEach [] X.env))) := by rfl)
    (he : starEach (e :: es) X.env = (false, eval e X.env) :: starEach es X.env := by rfl) (hpl : (backTo pos (starEach es X.env)).any (·.1) = false := by rfl)
    (e1 : X.prog = P := by rfl) (e2 : X.w = w := by rfl) (e3 : X.K = K := by rfl) (e4 : X.mg = mg := by rfl) (e5 : X.base = base := by rfl) :
    PE X (.Call fe (e :: es) [] pos) (tCallV P w K mg base k (WE W) tf t) := by
  subst e1 e2 e3 e4 e5
  refine ⟨fun pins s σ H Q I h => ?_⟩
  rw [ht]
  refine wpAny_bind (thn (hf.run pins s σ H _ I h) fun u s1 g => ?_)
  obtain ⟨v, H1, I1, rv, f, dvs, sp, rfl, F, q⟩ := g
  cases rv
  obtain ⟨fd, ps, ds, F, kp, b, r⟩ := F.ex
  refine PySem.W.callWith_K (h₀ := X.base) I1.ok.mod.kin kp (thn (ha.run pos pins s1 σ H1 _ I1 q) fun us s2 g => ?_) he hpl
  obtain ⟨vs, H2, I2, r2, q2⟩ := g
  exact ⟨I2.kIn, run_fnSD F hr b r (L2N.passAt tkk σ) I2 r2 q2⟩
theorem pe_calVK {P : Program} {w : World} {K : PySem.W.Frag} {mg : Str → Option Value} {base : Heap} (hf : PE X fe tf) (hr : Room k X.A) (tkk : L2N.Takes X W) (ha : PA X (e :: es) t) (hkw : PK X kws tk)
    (hall : (backToKw pos (keywordEach kws X.env)).all (·.1.isSome) = true := by rfl) (hks : (backToKw pos (keywordEach kws X.env)).filterMap (·.1) = [kw] := by rfl)
    (ht : eval (.Call fe (e :: es) kws pos) X.env = (do callWith pos (← eval fe X.env) [] (backTo pos (starEach (e :: es) X.env)) (backToKw pos (keywordEach kws X.env))) := by rfl)
    (he : starEach (e :: es) X.env = (false, eval e X.env) :: starEach es X.env := by rfl)
    (hpl : ((backTo pos (starEach (e :: es) X.env)).any (·.1) || (backToKw pos (keywordEach kws X.env)).any (·.1.isNone)) = false := by rfl)
    (e1 : X.prog = P := by rfl) (e2 : X.w = w := by rfl) (e3 : X.K = K := by rfl) (e4 : X.mg = mg := by rfl) (e5 : X.base = base := by rfl) :
    PE X (.Call fe (e :: es) kws pos) (tCallVK P w K mg base k kw (WE W) tf t tk) := by
  subst e1 e2 e3 e4 e5
  refine ⟨fun pins s σ H Q I h => ?_⟩
  rw [ht]
  refine wpAny_bind (thn (hf.run pins s σ H _ I h) fun u s1 g => ?_)
  obtain ⟨v, H1, I1, rv, f, n, sp, rfl, F, q⟩ := g
  cases rv
  obtain ⟨fd, ps, F, kp, b⟩ := F.ex
  refine PySem.W.callWith_KW (h₀ := X.base) I1.ok.mod.kin kp hall (thn (ha.run pos pins s1 σ H1 _ I1 q) fun us s2 g => ?_) hpl he
  obtain ⟨vs, H2, I2, r2, q2⟩ := g
  refine thn (hkw.run pos pins s2 σ H2 _ I2 q2) fun ws s3 g => ?_
  obtain ⟨zs, H3, I3, rz, l1, l2, q3⟩ := g
  refine ⟨I3.kIn, ?_⟩
  rw [hks]
  exact run_fnNSV F hr b (L2N.passAt tkk σ) I3 r2 rz l1 l2 q3
theorem pe_calKX (G : CalKX X.prog X.w X.K X.mg X.base j x ps sp n kw) (hr : Room k X.A) (hj : j ≤ k) (tkk : L2N.Takes X W) (ha : PA X (e :: es) t) (hkw : PK X kws tk) (hg : Gl X x := by rfl)
    (hall : (backToKw pos (keywordEach kws X.env)).all (·.1.isSome) = true := by rfl) (hks : (backToKw pos (keywordEach kws X.env)).filterMap (·.1) = [kw] := by rfl) (hdb : (x == ("__debug__" : Str)) = false := by decide)
    (he : starEach (e :: es) X.env = (false, eval e X.env) :: starEach es X.env := by rfl)
    (hpl : ((backTo pos (starEach (e :: es) X.env)).any (·.1) || (backToKw pos (keywordEach kws X.env)).any (·.1.isNone)) = false := by rfl) :
    PE X (.Call (.Name x p) (e :: es) kws pos) (tCallNS n sp (WE W) t tk) := by
  obtain ⟨f, fd, F, m, kp, b⟩ := G.ex
  refine ⟨fun pins s σ H Q I h => wpAny_Call_Name_kw (ld_glob I hg m ?_ hdb)⟩
  refine PySem.W.callWith_KW (h₀ := X.base) I.ok.mod.kin kp hall (thn (ha.run pos pins s σ H _ I h) fun us s2 g => ?_) hpl he
  obtain ⟨vs, H2, I2, r2, q2⟩ := g
  refine thn (hkw.run pos pins s2 σ H2 _ I2 q2) fun ws s3 g => ?_
  obtain ⟨zs, H3, I3, rz, l1, l2, q3⟩ := g
  refine ⟨I3.kIn, ?_⟩
  rw [hks]
  exact run_fnNSV F (hr.mono hj) b (L2N.passAt tkk σ) I3 r2 rz l1 l2 q3
/-- a class whose __init__ may raise -/
theorem pe_mkeX (F : CalIX X.prog X.w X.K X.mg X.base j C ps sp) (hr : Room k X.A) (hj : j + 1 ≤ k) (hm : X.mg x = some (.ref C)) (tkk : L2N.Takes X W) (ha : PA X (e :: es) t) (hg : Gl X x := by rfl) (hdb : (x == ("__debug__" : Str)) = false := by decide)
    (he : starEach (e :: es) X.env = (false, eval e X.env) :: starEach es X.env := by rfl) (hpl : (backTo pos (starEach es X.env)).any (·.1) = false := by rfl) :
    PE X (.Call (.Name x p) (e :: es) [] pos) (fun σ H Q => tMake C sp [] (WE W σ) t σ H Q) := by
  obtain ⟨f, fd, F, M, b⟩ := F.ex
  refine ⟨fun pins s σ H Q I h => wpAny_Call_Name_kw (ld_glob I hg hm ?_ hdb)⟩
  refine PySem.W.callWith_K (h₀ := X.base) I.ok.mod.kin M.kp (thn (ha.run pos pins s σ H _ I h) fun us s1 g => ?_) he hpl
  obtain ⟨vs, H1, I1, r, q⟩ := g
  refine ⟨I1.kIn, ?_⟩
  have hq := q (s1.heap.objs.size + 1) s1.heap.objs.size (I1.hok.fresh (Nat.le_succ _)) (I1.hok.fresh (Nat.le_refl _)) (Nat.ne_of_lt (Nat.lt_succ_self _))
  rw [List.append_nil] at hq
  have I2 := Inv.made (C := C) I1
  have r2 : Vals (V.ref (s1.heap.objs.size + 1) :: vs) (Value.ref (s1.heap.objs.size + 1) :: us) := .cons rfl r
  have hl : (Value.ref (s1.heap.objs.size + 1) :: us).length = ps.length := r2.length.symm.trans (F.len _ _ _ _ hq)
  have bb := b
  refine wpAny_call (make_map (f := f) I1.kIn M.makes M.init (beq_iff_eq.mp M.fn) (codeAny_mono (F.run _ X.stack _ _ ⟨Value.ref (s1.heap.objs.size + 1) :: us, []⟩ (Value.ref (s1.heap.objs.size + 1) :: us) _ _ (WE W σ) ((hr.mono hj).make C us [])
    (I2.env0.make C us []) (by have z := b _ (Value.ref (s1.heap.objs.size + 1) :: us) I2.kIn (by rw [List.append_nil]; exact hl); rw [List.append_nil] at z; exact z) r2 hq) fun r s' g => ?_))
  match r, g with
  | .error z, g => exact L2N.passAt tkk σ pins _ _ z s' I2 g
  | .ok (.ret u), g =>
    obtain ⟨v, H', I3, rv, ev, q3⟩ := I2.after g
    subst ev
    exact ⟨rv, V.ref (s1.heap.objs.size + 1), H', I3, rfl, q3⟩
/-- raise X(e) -/
theorem pmk_te (T : ExcAt X.K X.mg x C) (he : PE X e te) (hg : Gl X x := by rfl) (hdb : (x == ("__debug__" : Str)) = false := by decide) (hs : starEach [e] X.env = (false, eval e X.env) :: starEach [] X.env := by rfl) :
    L2N.PMk X (.Call (.Name x p) [e] [] pos) (fun σ H Q => te σ H fun _ H1 => Q (.ref C) none H1) := by
  intro pins s σ H Q I h
  refine wpAny_Call_Name_kw (ld_glob I hg T.gC ?_ hdb)
  refine PySem.W.callWith_K (h₀ := X.base) I.ok.mod.kin T.kC ?_ hs rfl
  rw [hs]
  refine Calls.spliced_cons (thn (he.run pins s σ H _ I h) fun u s1 g => ?_)
  obtain ⟨v, H1, I1, r1, q⟩ := g
  refine Calls.spliced_nil ⟨I1.kIn, ?_⟩
  obtain ⟨bm, N, nm, qn, bs, hdct, sn, sub, ab, col, dd, k0, k1, k2, k3, k5, mN, hC, hN, hni, TT⟩ := exc_obj I1.kIn T.ex
  refine wpAny_call_exc_subT PySem.F.excBase_ValueError TT hC hN hni (fun h' a hm => L2N.mk_of I1 hm (raises_own T.bP T.tP) q (I1.hok.gone hm.new)) (sz (n := 1) (by decide))
end
end Ly
/-! lists of refusals -/
namespace Ly
open PySem PySem.Spec PyProof.Rows L2 RZ
theorem dpAll_repR {K : PySem.W.Frag} {H : Hp} {d : PyData} : ∀ {k : Nat} {xs : List V}, xs.length = k → (∀ x ∈ xs, Dp K H x d) → DpAll K H xs (List.replicate k d)
  | 0, [], _, _ => .nil
  | k + 1, x :: r, l, h => .cons (h x List.mem_cons_self) (dpAll_repR (by simpa using l) fun y hy => h y (List.mem_cons_of_mem _ hy))
section
variable {K : PySem.W.Frag} {H : Hp} {a b : Addr} {xs ys : List V}
theorem rfds_neR {n : Int} {k : Nat} {Q : VK} (ha : SqL K H a xs) (hb : SqL K H b ys) (lx : xs.length = k) (ly : ys.length = k) (hk : k ≤ 30) (hx : ∀ j, j < k → ∃ u, xs[j]? = some (.ref u) ∧ H u = some (.tup [.str "refused", .int n]))
    (hy : ∀ j, j < k → ∃ u, ys[j]? = some (.ref u) ∧ H u = some (.tup [.str "refused", .int n])) (q : Q (.bl false) H) : rNeD K (.ref a) (.ref b) H Q := by
  have dp : ∀ {xs : List V}, xs.length = k → (∀ j, j < k → ∃ u, xs[j]? = some (.ref u) ∧ H u = some (.tup [.str "refused", .int n])) → DpAll K H xs (List.replicate k (PyData.tuple [.str "refused", .int n])) := fun {xs} l h => by
    refine dpAll_repR l fun x hx => ?_
    obtain ⟨j, hj, e⟩ := List.getElem_of_mem hx
    obtain ⟨u, e1, e2⟩ := h j (by omega)
    rw [List.getElem?_eq_getElem hj, e] at e1
    cases e1
    exact .tup (.inl (.inl e2)) (.cons (.str _) (.cons (.int _) .nil))
  have sh : SeqAt.shaped (.list (List.replicate k (PyData.tuple [.str "refused", .int n]))) = true := by
    have h : PyData.strOk "refused" = true := by decide +kernel
    have lay : ∀ j : Nat, PyData.canLayAll0 (List.replicate j (PyData.tuple [.str "refused", .int n])) = true ∧ PyData.depthAll (List.replicate j (PyData.tuple [.str "refused", .int n])) ≤ 1 := fun j => by
      induction j with
      | zero => simp [PyData.canLayAll0, PyData.depthAll]
      | succ j ih =>
        rw [List.replicate_succ]
        simp [PyData.canLayAll0, PyData.depthAll, PyData.canLay0, PyData.depth, h, ih.1]
        have := ih.2
        omega
    obtain ⟨h1, h2⟩ := lay k
    simp [SeqAt.shaped, PyData.canLay0, PyData.depth, h1]
    omega
  refine ⟨_, _, .lst ha (dp lx hx), .lst hb (dp ly hy), sh, sh, ?_⟩
  rw [SeqAt.eqv_refl _ (SeqAt.canLay_of_shaped sh)]
  exact q
end
abbrev rfO (n : Int) : HO := .tup [.str "refused", .int n]
theorem shaped_rfdR (n : Int) : SeqAt.shaped (.tuple [.str "refused", .int n]) = true := by
  have h : PyData.strOk "refused" = true := by decide +kernel
  simp [SeqAt.shaped, PyData.canLay0, PyData.depth, PyData.canLayAll0, PyData.depthAll, h]
theorem rfd_neR {K : PySem.W.Frag} {H : Hp} {p q : Addr} {n : Int} {Q : VK} (hp : H p = some (rfO n)) (hq : H q = some (rfO n)) (k : Q (.bl false) H) : rNeD K (.ref p) (.ref q) H Q := by
  refine ⟨_, _, .tup (.inl (.inl hp)) (.cons (.str _) (.cons (.int _) .nil)), .tup (.inl (.inl hq)) (.cons (.str _) (.cons (.int _) .nil)), shaped_rfdR n, shaped_rfdR n, ?_⟩
  rw [SeqAt.eqv_refl _ (SeqAt.canLay_of_shaped (shaped_rfdR n))]
  exact k
theorem newR {H : Hp} {p : Addr} (o : HO) (n : H p = none) : ∃ H', upd H p o = H' ∧ Same H H' ∧ H' p = some o := ⟨_, rfl, same_new n, upd_same⟩
/-- .. != ('refused', n) -/
theorem rhs1 {K : PySem.W.Frag} {H : Hp} {p : Addr} {n : Int} {σ : L2.St} {Q : VK} (hp : H p = some (rfO n)) (q : ∀ H', Same H H' → Q (.bl false) H') : tTup (tCons (tC (.str "refused")) (tCons (tC (.int n)) tNil)) σ H fun y H2 => rNeD K (.ref p) y H2 Q :=
  ⟨by show 2 ≤ sizeLine; decide, fun u nu => rfd_neR (same_new nu _ _ hp) upd_same (q _ (same_new nu))⟩
/-- .. != [('refused', n)] * k -/
theorem rhsN {K : PySem.W.Frag} {H : Hp} {D : Addr} {xs : List V} {n : Int} {k : Nat} {σ : L2.St} {Q : VK} (hD : H D = some (.lst xs)) (lx : xs.length = k) (hk : k ≤ 30) (hx : ∀ j, j < k → ∃ u, xs[j]? = some (.ref u) ∧ H u = some (rfO n)) (q : ∀ H', Same H H' → Q (.bl false) H') :
    tOp rRep (tLst (tCons (tTup (tCons (tC (.str "refused")) (tCons (tC (.int n)) tNil))) tNil)) (tC (.int (k : Int))) σ H fun y H2 => rNeD K (.ref D) y H2 Q := by
  refine ⟨by show 2 ≤ sizeLine; decide, fun u nu => ⟨by show 1 ≤ sizeLine; decide, fun l nl => ?_⟩⟩
  have s1 := same_new (o := rfO n) nu
  have s2 := same_new (o := .lst [.ref u]) nl
  refine ⟨l, (k : Int), [.ref u], rfl, rfl, upd_same, by omega, by omega, by rw [Int.toNat_natCast, List.length_singleton]; exact sz (by omega), fun m nm => ?_⟩
  have s3 := same_new (o := .lst (List.replicate (k : Int).toNat [V.ref u]).flatten) nm
  have s := s1.trans (s2.trans s3)
  refine rfds_neR (k := k) (n := n) (.inl (.inl (s _ _ hD))) (.inl (.inl upd_same)) lx ?_ hk (fun j hj => ?_) (fun j hj => ⟨u, ?_, s3 _ _ (s2 _ _ upd_same)⟩) (q _ s)
  · rw [Int.toNat_natCast, flat_rep, List.length_replicate]
  · obtain ⟨v, e1, e2⟩ := hx j hj
    exact ⟨v, e1, s _ _ e2⟩
  · rw [Int.toNat_natCast, flat_rep, List.getElem?_replicate, if_pos hj]
/-- a comprehension with a test, whose elements are new things, alike -/
theorem lcrF {J : It} {n : Nat} {G : Hp → Prop} {Y : Nat → Hp → V → Hp → Prop} {g : TG} {tt : TT} {te : TE} {vs : List Nat} {σ : L2.St} {H1 : Hp} {D : Addr} {Qd : Hp → Prop} (w : Walk J n G Y) (nD : H1 D = none) (hn : n < 1000) (o : HO) (keep : Nat → Bool) (hG : ∀ H, Same H1 H → G H)
    (hs : ∀ i x H H' (R : VK) (N : Hp → Prop), i < n → Same H1 H → Y i H x H' → (keep i = true → ∀ u H4, H u = none → Same H H4 → H4 u = some o → R (.ref u) H4) → (keep i = false → ∀ H3, Same H H3 → N H3) →
      g x (wipe σ vs) H' fun σ2 H2 => wipe σ2 vs = wipe σ vs ∧ tt σ2 H2 fun b H3 => if b = true then te σ2 H3 R else N H3)
    (hd : ∀ (xs : List V) (H : Hp), xs.length = ((List.range n).filter keep).length → Same H1 H → (∀ j, j < xs.length → ∃ u, xs[j]? = some (.ref u) ∧ H u = some o) → H D = some (.lst xs) → Qd H) :
    ∃ W : Nat → Nat → Hp → Prop, (∃ m, W 0 m (upd H1 D (.lst []))) ∧ ∀ i m H, W i m H →
      (J.stop i H ∧ Qd H) ∨ (J.go i H ∧ ∃ Nx : Hp → Prop, (∀ H', Nx H' → ∃ m', m' < m ∧ W (i + 1) m' H') ∧ ∀ x H', J.yld i H x H' → g x (wipe σ vs) H' fun σ2 H2 => wipe σ2 vs = wipe σ vs ∧ tt σ2 H2 fun b H3 =>
        if b = true then te σ2 H3 fun y H4 => ∃ acc, H4 D = some (.lst acc) ∧ acc.length < sizeLine ∧ Nx (upd H4 D (.lst (acc ++ [y]))) else Nx H3) := by
  refine lc_it w (fun i H => Same H1 H ∧ ∃ xs : List V, xs.length = ((List.range i).filter keep).length ∧ (∀ j, j < xs.length → ∃ u, u ≠ D ∧ xs[j]? = some (.ref u) ∧ H u = some o) ∧ H D = some (.lst xs)) ⟨same_new nD, [], rfl, fun _ h => absurd h (Nat.not_lt_zero _), upd_same⟩ (fun _ H _ h => hG H h.1) ?_ ?_
  · rintro i x H H' hi ⟨sm, xs, lx, hx, hD⟩ hy
    have lxi : xs.length ≤ i := by
      rw [lx]
      exact Nat.le_trans (List.length_filter_le _ _) (Nat.le_of_eq List.length_range)
    refine hs i x H H' _ _ hi sm hy (fun kp u H4 nu s4 hu => ?_) (fun kp H3 s3 => ?_)
    · have uD : u ≠ D := fun e => by
        rw [e, hD] at nu
        cases nu
      refine ⟨xs, s4 _ _ hD, Nat.lt_of_lt_of_le (show xs.length < 1000 by omega) (by decide), ?_, xs ++ [.ref u], ?_, fun j hj => ?_, upd_same⟩
      · intro c z hc
        rw [upd_ne (ne_of_none hc nD)]
        exact s4 _ _ (sm _ _ hc)
      · rw [List.length_append, List.range_succ, List.filter_append, List.length_append, lx, List.filter_cons_of_pos kp]
        rfl
      · by_cases c : j < xs.length
        · obtain ⟨v, vD, e1, e2⟩ := hx j c
          exact ⟨v, vD, by rw [List.getElem?_append_left c]; exact e1, by rw [upd_ne vD]; exact s4 _ _ e2⟩
        · rw [List.length_append, List.length_singleton] at hj
          have e : j = xs.length := by omega
          rw [e]
          exact ⟨u, uD, by rw [List.getElem?_append_right (Nat.le_refl _), Nat.sub_self]; rfl, by rw [upd_ne uD]; exact hu⟩
    · refine ⟨sm.trans s3, xs, ?_, fun j hj => ?_, s3 _ _ hD⟩
      · rw [List.range_succ, List.filter_append, List.length_append, ← lx, List.filter_cons_of_neg (by rw [kp]; exact Bool.false_ne_true)]
        rfl
      · obtain ⟨v, vD, e1, e2⟩ := hx j hj
        exact ⟨v, vD, e1, s3 _ _ e2⟩
  · rintro H ⟨sm, xs, lx, hx, hD⟩
    exact hd xs H lx sm (fun j hj => by
      obtain ⟨u, _, r⟩ := hx j hj
      exact ⟨u, r⟩) hD
end Ly
/-! ### three facts of single rows -/
namespace Ly
open PySem PySem.Spec PyProof.Rows L2 RZ
theorem no_evens46 : evens 4 6 0 = [] := by
  unfold evens
  rw [show bal 4 6 = [] from rfl]
  rfl
theorem no_evens38 : evens 3 8 2 = [] := by
  unfold evens
  rw [show bal 3 8 = [] from rfl]
  rfl
theorem not_even10 : ¬ REv 2 [0, 1, 1, 0] 10 := fun h => absurd (h 0 1 (by decide) (by decide) 2 (by decide)) (by decide +kernel)
def alt8 : List Int := [0, 1, 0, 1, 0, 1, 0, 1, 0, 1, 0, 1, 0, 1, 0, 1]
theorem alt8_amt : ∀ i : Fin 16, ∀ j : Fin 16, 8 ≤ Amt 16 1 (sg (swp alt8 i j) 0 1) ∨ alt8.getD i 0 = alt8.getD j 0 ∨ j ≤ i := by decide +kernel
theorem alt8_even : REv 2 alt8 1 := fun a b h1 h2 => by
  have ea : a = 0 := by omega
  have eb : b = 1 := by omega
  subst ea eb
  intro k hk
  have : k = 0 := by omega
  subst this
  decide +kernel
theorem alt8_grt : GrtIs 2 alt8 1 8 := by
  refine ⟨fun a b h1 h2 => ?_, 0, 1, by decide, by decide, by decide +kernel⟩
  have ea : a = 0 := by omega
  have eb : b = 1 := by omega
  subst ea eb
  decide +kernel
theorem alt8_low (t : Int × Nat × Nat) : ¬ Low 2 alt8 1 t := by
  obtain ⟨v, i, j⟩ := t
  rintro ⟨⟨hij, hj, hu, _, _, a, b, h1, h2, e⟩, h⟩
  have lt := h 8 alt8_even alt8_grt
  have ea : a = 0 := by omega
  have eb : b = 1 := by omega
  subst ea eb
  have hj16 : j < 16 := hj
  have hij' : i < j := hij
  rcases alt8_amt ⟨i, by omega⟩ ⟨j, hj16⟩ with g | g | g
  · have e' : Amt 16 1 (sg (swp alt8 i j) 0 1) = v := by
      rw [swp_len] at e
      exact e
    have g' : 8 ≤ Amt 16 1 (sg (swp alt8 i j) 0 1) := g
    have lt' : v < 8 := lt
    omega
  · exact hu g
  · have : j ≤ i := g
    omega
end Ly
namespace Ly
open PySem PySem.Spec PyProof.Rows L2 RZ
/-- two lists of two tuples of whole numbers, alike -/
theorem two_ne {K : PySem.W.Frag} {H : Hp} {D E p q r s : Addr} {ns ms : List Int} {Q : VK} (hD : H D = some (.lst [.ref p, .ref q])) (hE : H E = some (.lst [.ref r, .ref s])) (h1 : SqT K H p (ns.map V.int)) (h2 : SqT K H q (ms.map V.int)) (h3 : SqT K H r (ns.map V.int)) (h4 : SqT K H s (ms.map V.int)) (k : Q (.bl false) H) : rNeD K (.ref D) (.ref E) H Q := by
  have sh : SeqAt.shaped (.list [.tuple (ns.map PyData.int), .tuple (ms.map PyData.int)]) = true := shaped_flat fun d hd => by
    rcases List.mem_cons.mp hd with e | hd
    · exact ⟨ns, .inr e⟩
    · exact ⟨ms, .inr (List.mem_singleton.mp hd)⟩
  refine ⟨_, _, .lst (.inl (.inl hD)) (.cons (.tup h1 (dp_ints ns)) (.cons (.tup h2 (dp_ints ms)) .nil)), .lst (.inl (.inl hE)) (.cons (.tup h3 (dp_ints ns)) (.cons (.tup h4 (dp_ints ms)) .nil)), sh, sh, ?_⟩
  rw [SeqAt.eqv_refl _ (SeqAt.canLay_of_shaped sh)]
  exact k
/-- a truth value and a refusal, twice alike -/
theorem mix_ne {K : PySem.W.Frag} {H : Hp} {D E p q : Addr} {b : Bool} {n : Int} {Q : VK} (hD : H D = some (.lst [.bl b, .ref p])) (hE : H E = some (.lst [.bl b, .ref q])) (h1 : H p = some (rfO n)) (h2 : H q = some (rfO n)) (k : Q (.bl false) H) : rNeD K (.ref D) (.ref E) H Q := by
  have h : PyData.strOk "refused" = true := by decide +kernel
  have sh : SeqAt.shaped (.list [.bool b, .tuple [.str "refused", .int n]]) = true := by simp [SeqAt.shaped, PyData.canLay0, PyData.depth, PyData.canLayAll0, PyData.depthAll, h]
  refine ⟨_, _, .lst (.inl (.inl hD)) (.cons (.bl b) (.cons (.tup (.inl (.inl h1)) (.cons (.str _) (.cons (.int _) .nil))) .nil)), .lst (.inl (.inl hE)) (.cons (.bl b) (.cons (.tup (.inl (.inl h2)) (.cons (.str _) (.cons (.int _) .nil))) .nil)), sh, sh, ?_⟩
  rw [SeqAt.eqv_refl _ (SeqAt.canLay_of_shaped sh)]
  exact k
end Ly
namespace Ly
open PySem PySem.Spec PyProof.Rows L2 RZ
theorem pe_cal0 {X : Cx} {j k : Nat} {x : Str} {ps : List Str} {sp : Sp} {p pos : Pos} (C : Cal X.prog X.w X.K X.mg X.base j x ps sp) (hr : Room k X.A) (hj : j ≤ k) (hg : Gl X x := by rfl) (hdb : (x == ("__debug__" : Str)) = false := by decide) : PE X (.Call (.Name x p) [] [] pos) (tCall sp [] E0 tNil) := by
  obtain ⟨f, fd, F, m, kp, b⟩ := C.ex
  exact pe_call0 F (hr.mono hj) hg m kp b .nil pass0 hdb
end Ly

/-! ### a head's hook over a written list of places, its known part a written list -/
namespace Ly
open PySem PySem.Spec PyProof.Rows L2
def hookMV (as : List Addr) (fa : List He.Fa) (fn : List He.DefD) (vl : List He.FnW) (hv : vl = fn.map He.DefD.val) (ex : PySem.W.Frag → Bool) : PySem.W.Hook where
  α := AlM
  obs := fun s => (He.obsD fa fn (He.frG s.heap.get? as), ex (He.frG s.heap.get? as))
  val := fun _ => ((true, vl), true)
  says := fun _ h => ∃ K : PySem.W.Frag, K.In h ∧ He.SaysD fa fn K ∧ ex K = true
  of := fun _ _ e => ⟨_, He.frG_in, by subst hv; exact congrArg (fun z : AlM => z.1) e, congrArg (fun z : AlM => z.2) e⟩
  keeps := fun _ _ _ ⟨K, hK, c⟩ k => ⟨K, PySem.W.Frag.In.keeps hK k, c⟩
def noTabB (K : PySem.W.Frag) : Bool := K.all fun p => !isTab p.2
theorem noTabB_ok {K : PySem.W.Frag} (h : noTabB K = true) : NoTab K := fun a o e => by
  have := List.all_eq_true.mp h _ (fr_mem K e)
  simpa using this
def hookTV (as : List Addr) (fa : List He.Fa) (fn : List He.DefD) (vl : List He.FnW) (hv : vl = fn.map He.DefD.val) (ex : PySem.W.Frag → Bool) : PySem.W.Hook where
  α := AlM
  obs := fun s => (He.obsD fa fn (He.frG s.heap.get? as), ex (He.frG s.heap.get? as) && noTabB (He.frG s.heap.get? as))
  val := fun _ => ((true, vl), true)
  says := fun _ h => ∃ K : PySem.W.Frag, K.In h ∧ He.SaysD fa fn K ∧ ex K = true ∧ NoTab K
  of := fun _ _ e => by
    subst hv
    have e2 := congrArg (fun z : AlM => z.2) e
    have e3 := Bool.and_eq_true_iff.mp e2
    exact ⟨_, He.frG_in, congrArg (fun z : AlM => z.1) e, e3.1, noTabB_ok e3.2⟩
  keeps := fun _ _ _ ⟨K, hK, c⟩ k => ⟨K, PySem.W.Frag.In.keeps hK k, c⟩
end Ly

/-! one answer of a reading; all that answer themselves -/
local macro_rules | `(tactic| walk_at "ar") => `(tactic| first | decide | omega | (simp only [List.length_map, List.length_append, List.length_cons, List.length_nil] <;> omega))
local macro_rules | `(tactic| walk_at "rd1") => `(tactic| first
  | (refine ⟨_, rfl, ?_⟩)
  | (refine ⟨_, _, rfl, rfl, ?_⟩)
  | (refine ⟨_, _, rfl, .inl (by assumption), ?_⟩)
  | (refine ⟨_, _, rfl, .inr (by assumption), ?_⟩)
  | (refine ⟨_, _, _, _, rfl, rfl, (by assumption), Ly.at_intI (by walk_at "ar") (by walk_at "ar"), ?_⟩)
  | (refine ⟨_, _, (rfl : [L2.V.int _, L2.V.int _] = [L2.V.int _, L2.V.int _]), ?_⟩)
  | (refine And.intro rfl ?_)
  | (refine And.intro (by walk_at "ar") ?_)
  | (refine And.intro (And.intro (by walk_at "ar") (by walk_at "ar")) ?_)
  | (refine And.intro (Or.inr (And.intro (by decide) (by decide))) ?_)
  | (refine And.intro (Or.inl (And.intro (by decide) (by decide))) ?_))
local macro_rules | `(tactic| walk_at "rd") => `(tactic| repeat (walk_at "rd1"))

namespace Ev
open PySem PySem.Spec PyProof.Rows L2 RZ Ly
def topS (i : Nat) : Stmt := PySem.Challenge.pw_evenrows_k21_orders_refused.main.body.getD i (.Pass ⟨0, 0, 0, 0⟩)
abbrev S__law_which : Stmt := topS 93
theorem sc__law_which : FnScope ["_law_e", "_law_own"] ["_law_e"] (defScope S__law_which) := ⟨rfl, rfl, rfl, by decide +kernel, rfl, by decide +kernel, by decide +kernel⟩
abbrev S_is_whole : Stmt := topS 24
theorem sc_is_whole : FnScope ["thing"] ["thing"] (defScope S_is_whole) := ⟨rfl, rfl, rfl, by decide +kernel, rfl, by decide +kernel, by decide +kernel⟩
abbrev S_is_from_to : Stmt := topS 25
theorem sc_is_from_to : FnScope ["thing", "least", "most"] ["thing", "least", "most"] (defScope S_is_from_to) := ⟨rfl, rfl, rfl, by decide +kernel, rfl, by decide +kernel, by decide +kernel⟩
abbrev S_check_hands : Stmt := topS 28
theorem sc_check_hands : FnScope ["hands"] ["hands"] (defScope S_check_hands) := ⟨rfl, rfl, rfl, by decide +kernel, rfl, by decide +kernel, by decide +kernel⟩
abbrev S_check_lead_order : Stmt := topS 34
theorem sc_check_lead_order : FnScope ["order"] ["order"] (defScope S_check_lead_order) := ⟨rfl, rfl, rfl, by decide +kernel, rfl, by decide +kernel, by decide +kernel⟩
abbrev S_check_places : Stmt := topS 38
theorem sc_check_places : FnScope ["places", "most", "least"] ["places", "most", "least"] (defScope S_check_places) := ⟨rfl, rfl, rfl, by decide +kernel, rfl, by decide +kernel, by decide +kernel⟩
abbrev S_calmest : Stmt := topS 63
theorem sc_calmest : FnScope ["hands", "places", "order", "found"] ["hands", "places", "order"] (defScope S_calmest) := ⟨rfl, rfl, rfl, by decide +kernel, rfl, by decide +kernel, by decide +kernel⟩
abbrev S_check_bound : Stmt := topS 36
theorem sc_check_bound : FnScope ["bound"] ["bound"] (defScope S_check_bound) := ⟨rfl, rfl, rfl, by decide +kernel, rfl, by decide +kernel, by decide +kernel⟩
abbrev S_check_order_of : Stmt := topS 35
theorem sc_check_order_of : FnScope ["told", "order"] ["told", "order"] (defScope S_check_order_of) := ⟨rfl, rfl, rfl, by decide +kernel, rfl, by decide +kernel, by decide +kernel⟩
abbrev S_check_worths : Stmt := topS 32
theorem sc_check_worths : FnScope ["worths", "worth"] ["worths"] (defScope S_check_worths) := ⟨rfl, rfl, rfl, by decide +kernel, rfl, by decide +kernel, by decide +kernel⟩
abbrev S_check_foreseeing : Stmt := topS 42
theorem sc_check_foreseeing : FnScope ["row", "told", "order", "bound"] ["row", "told", "order", "bound"] (defScope S_check_foreseeing) := ⟨rfl, rfl, rfl, by decide +kernel, rfl, by decide +kernel, by decide +kernel⟩
abbrev S_check_length : Stmt := topS 40
theorem sc_check_length : FnScope ["places", "most"] ["places", "most"] (defScope S_check_length) := ⟨rfl, rfl, rfl, by decide +kernel, rfl, by decide +kernel, by decide +kernel⟩
abbrev S_is_hand : Stmt := topS 26
theorem sc_is_hand : FnScope ["hands", "thing"] ["hands", "thing"] (defScope S_is_hand) := ⟨rfl, rfl, rfl, by decide +kernel, rfl, by decide +kernel, by decide +kernel⟩
abbrev S_fits_row : Stmt := topS 27
theorem sc_fits_row : FnScope ["hands", "thing", "turn"] ["hands", "thing"] (defScope S_fits_row) := ⟨rfl, rfl, rfl, by decide +kernel, rfl, by decide +kernel, by decide +kernel⟩
abbrev S_check_row : Stmt := topS 29
theorem sc_check_row : FnScope ["hands", "row"] ["hands", "row"] (defScope S_check_row) := ⟨rfl, rfl, rfl, by decide +kernel, rfl, by decide +kernel, by decide +kernel⟩
abbrev S_calming : Stmt := topS 87
theorem sc_calming : FnScope ["hands", "row", "told", "order", "bound", "found", "one", "other", "behind", "least"] ["hands", "row", "told", "order", "bound"] (defScope S_calming) := ⟨rfl, rfl, rfl, by decide +kernel, rfl, by decide +kernel, by decide +kernel⟩
abbrev S_check_degree : Stmt := topS 37
theorem sc_check_degree : FnScope ["degree", "most"] ["degree", "most"] (defScope S_check_degree) := ⟨rfl, rfl, rfl, by decide +kernel, rfl, by decide +kernel, by decide +kernel⟩
abbrev S_counted : Stmt := topS 69
theorem sc_counted : FnScope ["hands", "places", "degree"] ["hands", "places", "degree"] (defScope S_counted) := ⟨rfl, rfl, rfl, by decide +kernel, rfl, by decide +kernel, by decide +kernel⟩
abbrev S_check_two_places : Stmt := topS 39
theorem sc_check_two_places : FnScope ["row", "one", "other", "last"] ["row", "one", "other"] (defScope S_check_two_places) := ⟨rfl, rfl, rfl, by decide +kernel, rfl, by decide +kernel, by decide +kernel⟩
abbrev S_exchange_of : Stmt := topS 77
theorem sc_exchange_of : FnScope ["row", "one", "other", "line"] ["row", "one", "other"] (defScope S_exchange_of) := ⟨rfl, rfl, rfl, by decide +kernel, rfl, by decide +kernel, by decide +kernel⟩
abbrev S_exchanged : Stmt := topS 73
theorem sc_exchanged : FnScope ["hands", "row", "one", "other"] ["hands", "row", "one", "other"] (defScope S_exchanged) := ⟨rfl, rfl, rfl, by decide +kernel, rfl, by decide +kernel, by decide +kernel⟩
abbrev S_check_two_hands : Stmt := topS 31
theorem sc_check_two_hands : FnScope ["hands", "one", "other"] ["hands", "one", "other"] (defScope S_check_two_hands) := ⟨rfl, rfl, rfl, by decide +kernel, rfl, by decide +kernel, by decide +kernel⟩
abbrev S_check_two : Stmt := topS 30
theorem sc_check_two : FnScope ["hands", "row", "one", "other"] ["hands", "row", "one", "other"] (defScope S_check_two) := ⟨rfl, rfl, rfl, by decide +kernel, rfl, by decide +kernel, by decide +kernel⟩
abbrev S_foreseen : Stmt := topS 86
theorem sc_foreseen : FnScope ["hands", "row", "told", "one", "other", "order", "bound"] ["hands", "row", "told", "one", "other", "order", "bound"] (defScope S_foreseen) := ⟨rfl, rfl, rfl, by decide +kernel, rfl, by decide +kernel, by decide +kernel⟩
abbrev S_greatest : Stmt := topS 53
theorem sc_greatest : FnScope ["hands", "row", "order", "bound"] ["hands", "row", "order", "bound"] (defScope S_greatest) := ⟨rfl, rfl, rfl, by decide +kernel, rfl, by decide +kernel, by decide +kernel⟩
abbrev S_check_mending : Stmt := topS 76
theorem sc_check_mending : FnScope ["hands", "row", "order"] ["hands", "row", "order"] (defScope S_check_mending) := ⟨rfl, rfl, rfl, by decide +kernel, rfl, by decide +kernel, by decide +kernel⟩
abbrev S_mended : Stmt := topS 74
theorem sc_mended : FnScope ["hands", "row", "order"] ["hands", "row", "order"] (defScope S_mended) := ⟨rfl, rfl, rfl, by decide +kernel, rfl, by decide +kernel, by decide +kernel⟩
abbrev S_mended_on : Stmt := topS 75
theorem sc_mended_on : FnScope ["hands", "row", "order", "found", "line", "mend", "one", "other", "_"] ["hands", "row", "order"] (defScope S_mended_on) := ⟨rfl, rfl, rfl, by decide +kernel, rfl, by decide +kernel, by decide +kernel⟩
abbrev S_check_lead : Stmt := topS 56
theorem sc_check_lead : FnScope ["hands", "row", "one", "other", "order", "bound"] ["hands", "row", "one", "other", "order", "bound"] (defScope S_check_lead) := ⟨rfl, rfl, rfl, by decide +kernel, rfl, by decide +kernel, by decide +kernel⟩
abbrev S_of_two : Stmt := topS 54
theorem sc_of_two : FnScope ["hands", "row", "one", "other", "order", "bound"] ["hands", "row", "one", "other", "order", "bound"] (defScope S_of_two) := ⟨rfl, rfl, rfl, by decide +kernel, rfl, by decide +kernel, by decide +kernel⟩
abbrev S_spread : Stmt := topS 70
theorem sc_spread : FnScope ["hands", "places", "order", "found", "row", "lead"] ["hands", "places", "order"] (defScope S_spread) := ⟨rfl, rfl, rfl, by decide +kernel, rfl, by decide +kernel, by decide +kernel⟩
abbrev S_check_going_on : Stmt := topS 41
theorem sc_check_going_on : FnScope ["worths", "places", "order"] ["worths", "places", "order"] (defScope S_check_going_on) := ⟨rfl, rfl, rfl, by decide +kernel, rfl, by decide +kernel, by decide +kernel⟩
abbrev S_differences_of : Stmt := topS 82
theorem sc_differences_of : FnScope ["worths", "order", "line", "_", "before", "after"] ["worths", "order"] (defScope S_differences_of) := ⟨rfl, rfl, rfl, by decide +kernel, rfl, by decide +kernel, by decide +kernel⟩
abbrev S_gone_on : Stmt := topS 88
theorem sc_gone_on : FnScope ["worths", "places", "order", "line", "step", "ends"] ["worths", "places", "order"] (defScope S_gone_on) := ⟨rfl, rfl, rfl, by decide +kernel, rfl, by decide +kernel, by decide +kernel⟩
abbrev S_straight_on : Stmt := topS 85
theorem sc_straight_on : FnScope ["worths", "places", "order"] ["worths", "places", "order"] (defScope S_straight_on) := ⟨rfl, rfl, rfl, by decide +kernel, rfl, by decide +kernel, by decide +kernel⟩
abbrev S_check_order : Stmt := topS 33
theorem sc_check_order : FnScope ["order"] ["order"] (defScope S_check_order) := ⟨rfl, rfl, rfl, by decide +kernel, rfl, by decide +kernel, by decide +kernel⟩
abbrev S_sums : Stmt := topS 47
theorem sc_sums : FnScope ["hands", "row", "one", "other", "order"] ["hands", "row", "one", "other", "order"] (defScope S_sums) := ⟨rfl, rfl, rfl, by decide +kernel, rfl, by decide +kernel, by decide +kernel⟩
abbrev S_running_sums : Stmt := topS 49
theorem sc_running_sums : FnScope ["line", "total", "found", "number"] ["line"] (defScope S_running_sums) := ⟨rfl, rfl, rfl, by decide +kernel, rfl, by decide +kernel, by decide +kernel⟩
abbrev S_are_signs_even : Stmt := topS 51
theorem sc_are_signs_even : FnScope ["line", "degree", "found", "_"] ["line", "degree"] (defScope S_are_signs_even) := ⟨rfl, rfl, rfl, by decide +kernel, rfl, by decide +kernel, by decide +kernel⟩
abbrev S_sign_of : Stmt := topS 45
theorem sc_sign_of : FnScope ["turn", "one", "other"] ["turn", "one", "other"] (defScope S_sign_of) := ⟨rfl, rfl, rfl, by decide +kernel, rfl, by decide +kernel, by decide +kernel⟩
abbrev S_signs_of : Stmt := topS 44
theorem sc_signs_of : FnScope ["row", "one", "other", "turn"] ["row", "one", "other"] (defScope S_signs_of) := ⟨rfl, rfl, rfl, by decide +kernel, rfl, by decide +kernel, by decide +kernel⟩
abbrev S_worst : Stmt := topS 55
theorem sc_worst : FnScope ["hands", "row", "one", "other", "order", "bound", "line", "gaps"] ["hands", "row", "one", "other", "order", "bound"] (defScope S_worst) := ⟨rfl, rfl, rfl, by decide +kernel, rfl, by decide +kernel, by decide +kernel⟩
abbrev S__law_ask : Stmt := topS 94
theorem sc__law_ask : FnScope ["_law_what", "_law_one", "_law_two", "_law_three", "_law_four", "_law_e"] ["_law_what", "_law_one", "_law_two", "_law_three", "_law_four"] (defScope S__law_ask) := ⟨rfl, rfl, rfl, by decide +kernel, rfl, by decide +kernel, by decide +kernel⟩
abbrev S__law_counts_refused : Stmt := topS 96
theorem sc__law_counts_refused : FnScope ["_law_hands", "_law_many", "_law_more", "_law_off", "_law_what"] [] (defScope S__law_counts_refused) := ⟨rfl, rfl, rfl, by decide +kernel, rfl, by decide +kernel, by decide +kernel⟩
abbrev S__law_told_refused : Stmt := topS 95
theorem sc__law_told_refused : FnScope ["_law_row", "_law_off", "_law_what"] ["_law_row"] (defScope S__law_told_refused) := ⟨rfl, rfl, rfl, by decide +kernel, rfl, by decide +kernel, by decide +kernel⟩
abbrev S_law : Stmt := topS 97
theorem sc_law : FnScope ["_law_script", "_law_town", "_law_row", "_law_off", "_law_one", "_law_other", "_law_what"] ["_law_script"] (defScope S_law) := ⟨rfl, rfl, rfl, by decide +kernel, rfl, by decide +kernel, by decide +kernel⟩
/-- what the top has left, by names -/
structure Txt (K : PySem.W.Frag) (mg : Str → Option Value) : Prop where
  f__law_which : At K mg "_law_which" S__law_which []
  f_is_whole : At K mg "is_whole" S_is_whole []
  f_is_from_to : At K mg "is_from_to" S_is_from_to []
  f_check_hands : At K mg "check_hands" S_check_hands []
  f_check_lead_order : At K mg "check_lead_order" S_check_lead_order []
  f_check_places : At K mg "check_places" S_check_places [("least", .int 1)]
  f_calmest : At K mg "calmest" S_calmest []
  f_check_bound : At K mg "check_bound" S_check_bound []
  f_check_order_of : At K mg "check_order_of" S_check_order_of []
  f_check_worths : At K mg "check_worths" S_check_worths []
  f_check_foreseeing : At K mg "check_foreseeing" S_check_foreseeing []
  f_check_length : At K mg "check_length" S_check_length []
  f_is_hand : At K mg "is_hand" S_is_hand []
  f_fits_row : At K mg "fits_row" S_fits_row []
  f_check_row : At K mg "check_row" S_check_row []
  f_calming : At K mg "calming" S_calming [("bound", .int 1)]
  f_check_degree : At K mg "check_degree" S_check_degree [("most", .int 9)]
  f_counted : At K mg "counted" S_counted []
  f_check_two_places : At K mg "check_two_places" S_check_two_places []
  f_exchange_of : At K mg "exchange_of" S_exchange_of []
  f_exchanged : At K mg "exchanged" S_exchanged []
  f_check_two_hands : At K mg "check_two_hands" S_check_two_hands []
  f_check_two : At K mg "check_two" S_check_two []
  f_foreseen : At K mg "foreseen" S_foreseen [("bound", .int 1)]
  f_greatest : At K mg "greatest" S_greatest [("bound", .int 1)]
  f_check_mending : At K mg "check_mending" S_check_mending []
  f_mended : At K mg "mended" S_mended []
  f_mended_on : At K mg "mended_on" S_mended_on []
  f_check_lead : At K mg "check_lead" S_check_lead []
  f_of_two : At K mg "of_two" S_of_two [("bound", .int 1)]
  f_spread : At K mg "spread" S_spread []
  f_check_going_on : At K mg "check_going_on" S_check_going_on []
  f_differences_of : At K mg "differences_of" S_differences_of []
  f_gone_on : At K mg "gone_on" S_gone_on []
  f_straight_on : At K mg "straight_on" S_straight_on []
  f_check_order : At K mg "check_order" S_check_order []
  f_sums : At K mg "sums" S_sums [("order", .int 1)]
  f_running_sums : At K mg "running_sums" S_running_sums []
  f_are_signs_even : At K mg "are_signs_even" S_are_signs_even []
  f_sign_of : At K mg "sign_of" S_sign_of []
  f_signs_of : At K mg "signs_of" S_signs_of []
  f_worst : At K mg "worst" S_worst [("bound", .int 1)]
  f__law_ask : At K mg "_law_ask" S__law_ask []
  f__law_counts_refused : At K mg "_law_counts_refused" S__law_counts_refused []
  f__law_told_refused : At K mg "_law_told_refused" S__law_told_refused []
  b_ValueError : mg "ValueError" = none
  b_all : mg "all" = none
  b_bool : mg "bool" = none
  b_int : mg "int" = none
  b_isinstance : mg "isinstance" = none
  b_len : mg "len" = none
  b_list : mg "list" = none
  b_range : mg "range" = none
  b_tuple : mg "tuple" = none
  b_zip : mg "zip" = none
  k_FEWEST_HANDS : ∃ t, mg "FEWEST_HANDS" = some (.int (2) t)
  k_MOST_BOUND : ∃ t, mg "MOST_BOUND" = some (.int (99) t)
  k_MOST_CALMED : ∃ t, mg "MOST_CALMED" = some (.int (24) t)
  k_MOST_COUNTED_DEGREE : ∃ t, mg "MOST_COUNTED_DEGREE" = some (.int (3) t)
  k_MOST_HANDS : ∃ t, mg "MOST_HANDS" = some (.int (4) t)
  k_MOST_LEAD_ORDER : ∃ t, mg "MOST_LEAD_ORDER" = some (.int (4) t)
  k_MOST_MENDED : ∃ t, mg "MOST_MENDED" = some (.int (16) t)
  k_MOST_ORDER : ∃ t, mg "MOST_ORDER" = some (.int (9) t)
  k_MOST_PLACES : ∃ t, mg "MOST_PLACES" = some (.int (64) t)
  excs : Excs K mg
  d_MOST_COUNTED_OF : mg "MOST_COUNTED_OF" = some (.ref (He.ga K "MOST_COUNTED_OF")) ∧ DicAt K (He.ga K "MOST_COUNTED_OF") [((2 : Int), (12 : Int)), ((3 : Int), (8 : Int)), ((4 : Int), (6 : Int))]
  d_MOST_PLACES_OF : mg "MOST_PLACES_OF" = some (.ref (He.ga K "MOST_PLACES_OF")) ∧ DicAt K (He.ga K "MOST_PLACES_OF") [((2 : Int), (10 : Int)), ((3 : Int), (6 : Int)), ((4 : Int), (5 : Int))]
section
variable {P : Program} {w : World} {K : PySem.W.Frag} {mg : Str → Option Value} {base : Heap}

/-! _law_which -/
/-- what isinstance tells of one of the refusals, class by class -/
def asked (x : Str) : List V := errs.map fun y => .bl (decide (x = y))
theorem asked_facts : ∀ i : Nat, i < 13 → ((asked (errs.getD i "")).countP (fun z => eqV z (.bl true)) = 1 ∧ (asked (errs.getD i ""))[i]? = some (.bl true) ∧ ((asked (errs.getD i "")).take i).all (fun z => !eqV z (.bl true)) = true) := by decide +kernel
theorem asked_flat (x : Str) : (asked x).all flatV = true := by
  unfold asked
  rw [List.all_map, List.all_eq_true]
  exact fun _ _ => rfl
def sp__law_which (K : PySem.W.Frag) : Addr → Value → Option Addr → Sp := fun a c d vs H Q _ => ∃ (x : Str) (i : Nat), vs = [.ref a] ∧ errs[i]? = some x ∧ c = .ref (He.ga K x) ∧ d = none ∧
  ∀ q H', H q = none → Same H H' → H' q = some (.tup [.str "refused", .int (i : Int)]) → Q (.ref q) H'
theorem c__law_which (T : Txt K mg) : ∃ f fd, FnE P w K mg base 1 f fd ["_law_e"] (sp__law_which K) ∧ mg "_law_which" = some (.ref f) ∧ PySem.W.keepIn K (.ref f) = true ∧ Binds K fd ["_law_e"] [] := by
  refine T.f__law_which.calE sc__law_which (fun _ _ _ _ _ _ us hl => match us, hl with | [_], _ => rfl) (fun a c d vs H Q E h => by obtain ⟨_, _, rfl, _⟩ := h; rfl) (fun cdv A outer s H vs Q E f p c d hot hz hr h => ?_)
  obtain ⟨x, i, rfl, hx0, rfl, rfl, q⟩ := h
  have hx : x ∈ errs := List.mem_of_getElem? hx0
  obtain ⟨_, vs0, hf0, _⟩ := hot
  have hf : ∃ vs, p.2.data = .fields vs := ⟨vs0, hf0⟩
  refine ⟨_, (pss_cons (ps_set (i := 1) sc__law_which.nd rfl (.inl rfl) (pe_lst (pa_cons (pe_callB (call_isP (List.mem_singleton.mpr rfl) (T.excs.cls x hx).ec hz.zc hf) (by rfl) T.b_isinstance bt_isinstance (pa_cons (pv 0) (pa_cons (pe_glob (v := .ref (He.ga K "NoHands")) (by rfl) (T.excs.cls "NoHands" (by decide)).gC rfl) pa_nil))) (pa_cons (pe_callB (call_isP (List.mem_singleton.mpr rfl) (T.excs.cls x hx).ec hz.zc hf) (by rfl) T.b_isinstance bt_isinstance (pa_cons (pv 0) (pa_cons (pe_glob (v := .ref (He.ga K "NoRow")) (by rfl) (T.excs.cls "NoRow" (by decide)).gC rfl) pa_nil))) (pa_cons (pe_callB (call_isP (List.mem_singleton.mpr rfl) (T.excs.cls x hx).ec hz.zc hf) (by rfl) T.b_isinstance bt_isinstance (pa_cons (pv 0) (pa_cons (pe_glob (v := .ref (He.ga K "NoHand")) (by rfl) (T.excs.cls "NoHand" (by decide)).gC rfl) pa_nil))) (pa_cons (pe_callB (call_isP (List.mem_singleton.mpr rfl) (T.excs.cls x hx).ec hz.zc hf) (by rfl) T.b_isinstance bt_isinstance (pa_cons (pv 0) (pa_cons (pe_glob (v := .ref (He.ga K "NoWorths")) (by rfl) (T.excs.cls "NoWorths" (by decide)).gC rfl) pa_nil))) pa_nil))))))
    (pss_cons (ps_expr (pe_bm PySem.F.plainAttrs_list PySem.F.slot_list_extend PySem.F.type_list_extend mt_extend (pv 1) (pa_cons (pe_lst (pa_cons (pe_callB (call_isP (List.mem_singleton.mpr rfl) (T.excs.cls x hx).ec hz.zc hf) (by rfl) T.b_isinstance bt_isinstance (pa_cons (pv 0) (pa_cons (pe_glob (v := .ref (He.ga K "NoOrder")) (by rfl) (T.excs.cls "NoOrder" (by decide)).gC rfl) pa_nil))) (pa_cons (pe_callB (call_isP (List.mem_singleton.mpr rfl) (T.excs.cls x hx).ec hz.zc hf) (by rfl) T.b_isinstance bt_isinstance (pa_cons (pv 0) (pa_cons (pe_glob (v := .ref (He.ga K "NoBound")) (by rfl) (T.excs.cls "NoBound" (by decide)).gC rfl) pa_nil))) (pa_cons (pe_callB (call_isP (List.mem_singleton.mpr rfl) (T.excs.cls x hx).ec hz.zc hf) (by rfl) T.b_isinstance bt_isinstance (pa_cons (pv 0) (pa_cons (pe_glob (v := .ref (He.ga K "NotEven")) (by rfl) (T.excs.cls "NotEven" (by decide)).gC rfl) pa_nil))) (pa_cons (pe_callB (call_isP (List.mem_singleton.mpr rfl) (T.excs.cls x hx).ec hz.zc hf) (by rfl) T.b_isinstance bt_isinstance (pa_cons (pv 0) (pa_cons (pe_glob (v := .ref (He.ga K "TooLong")) (by rfl) (T.excs.cls "TooLong" (by decide)).gC rfl) pa_nil))) pa_nil))))) pa_nil)))
    (pss_cons (ps_expr (pe_bm PySem.F.plainAttrs_list PySem.F.slot_list_extend PySem.F.type_list_extend mt_extend (pv 1) (pa_cons (pe_lst (pa_cons (pe_callB (call_isP (List.mem_singleton.mpr rfl) (T.excs.cls x hx).ec hz.zc hf) (by rfl) T.b_isinstance bt_isinstance (pa_cons (pv 0) (pa_cons (pe_glob (v := .ref (He.ga K "NoDegree")) (by rfl) (T.excs.cls "NoDegree" (by decide)).gC rfl) pa_nil))) (pa_cons (pe_callB (call_isP (List.mem_singleton.mpr rfl) (T.excs.cls x hx).ec hz.zc hf) (by rfl) T.b_isinstance bt_isinstance (pa_cons (pv 0) (pa_cons (pe_glob (v := .ref (He.ga K "NoPlaces")) (by rfl) (T.excs.cls "NoPlaces" (by decide)).gC rfl) pa_nil))) (pa_cons (pe_callB (call_isP (List.mem_singleton.mpr rfl) (T.excs.cls x hx).ec hz.zc hf) (by rfl) T.b_isinstance bt_isinstance (pa_cons (pv 0) (pa_cons (pe_glob (v := .ref (He.ga K "NoText")) (by rfl) (T.excs.cls "NoText" (by decide)).gC rfl) pa_nil))) (pa_cons (pe_callB (call_isP (List.mem_singleton.mpr rfl) (T.excs.cls x hx).ec hz.zc hf) (by rfl) T.b_isinstance bt_isinstance (pa_cons (pv 0) (pa_cons (pe_glob (v := .ref (He.ga K "Done")) (by rfl) (T.excs.cls "Done" (by decide)).gC rfl) pa_nil))) pa_nil))))) pa_nil)))
    (pss_cons (ps_expr (pe_bm PySem.F.plainAttrs_list PySem.F.slot_list_append PySem.F.type_list_append mt_append (pv 1) (pa_cons (pe_callB (call_isP (List.mem_singleton.mpr rfl) (T.excs.cls x hx).ec hz.zc hf) (by rfl) T.b_isinstance bt_isinstance (pa_cons (pv 0) (pa_cons (pe_glob (v := .ref (He.ga K "Nothing")) (by rfl) (T.excs.cls "Nothing" (by decide)).gC rfl) pa_nil))) pa_nil)))
    (pss_cons (ps_if (PW.pt (pw_or (pt_cmpR op_ne (pe_bmK (K := K) PySem.F.plainAttrs_list PySem.F.slot_list_count PySem.F.type_list_count (kz_countF (K := K)) (pv 1) (pa_cons pe_bl pa_nil)) pe_int (nomark _)) (pw_or1 (pt_not (pt_val (pe_callB (call_isP (List.mem_singleton.mpr rfl) (T.excs.cls x hx).ec hz.zc hf) (by rfl) T.b_isinstance bt_isinstance (pa_cons (pv 0) (pa_cons (pe_ty (by rfl) T.b_ValueError bt_ValueError) pa_nil)))))))) (pss_one (ps_ret (pe_tup (pa_cons pe_str (pa_cons (pe_un un_neg pe_int) pa_nil))))) pss_nil)
    (pss_one (ps_ret (pe_tup (pa_cons pe_str (pa_cons (pe_bm PySem.F.plainAttrs_list PySem.F.slot_list_index PySem.F.type_list_index mt_index (pv 1) (pa_cons pe_bl pa_nil)) pa_nil)))))))))), ?_⟩
  have is : ∀ (y : Str), y ∈ errs → ∀ (H1 : Hp) (Z : VK), Z (.bl (decide (x = y))) H1 → rIsE K (He.ga K x) p.1 [.ref p.1, .ref (He.ga K y)] H1 Z := fun y hy H1 Z k => ⟨_, .ref (He.ga K y), _, rfl, fun u r => r, T.excs.two x hx y hy, k⟩
  walk_at "rd"
  dsimp only [tC, tCons, tNil]
  refine is "NoHands" (by decide) _ _ ?_
  walk_at "rd"
  dsimp only [tC, tCons, tNil]
  refine is "NoRow" (by decide) _ _ ?_
  walk_at "rd"
  dsimp only [tC, tCons, tNil]
  refine is "NoHand" (by decide) _ _ ?_
  walk_at "rd"
  dsimp only [tC, tCons, tNil]
  refine is "NoWorths" (by decide) _ _ ?_
  walk_at "rd"
  refine ⟨by show 4 ≤ sizeLine; decide, fun O nO => ?_⟩
  have s1 := same_new (o := .lst ((asked x).take 4)) nO
  have h1 : (upd H O (.lst ((asked x).take 4))) O = some (.lst ((asked x).take 4)) := upd_same
  change tSeq _ _ _ [some (.ref p.1), some (.ref O)] (upd H O (.lst ((asked x).take 4)))
  generalize upd H O (.lst ((asked x).take 4)) = H1 at s1 h1 ⊢
  refine ⟨_, rfl, .inl ⟨rfl, _, .inl (.inl h1)⟩, ?_⟩
  walk_at "rd"
  dsimp only [tC, tCons, tNil]
  refine is "NoOrder" (by decide) _ _ ?_
  walk_at "rd"
  dsimp only [tC, tCons, tNil]
  refine is "NoBound" (by decide) _ _ ?_
  walk_at "rd"
  dsimp only [tC, tCons, tNil]
  refine is "NotEven" (by decide) _ _ ?_
  walk_at "rd"
  dsimp only [tC, tCons, tNil]
  refine is "TooLong" (by decide) _ _ ?_
  walk_at "rd"
  refine ⟨by show 4 ≤ sizeLine; decide, fun E1 nE1 => ?_⟩
  have s2 := s1.trans (same_new (o := .lst (((asked x).drop 4).take 4)) nE1)
  have h2 := same_new (o := .lst (((asked x).drop 4).take 4)) nE1 _ _ h1
  have hE1 : (upd H1 E1 (.lst (((asked x).drop 4).take 4))) E1 = some (.lst (((asked x).drop 4).take 4)) := upd_same
  refine ⟨O, E1, _, _, rfl, rfl, h2, hE1, by show 8 ≤ sizeLine; decide, ?_⟩
  have s3 : Same H (upd (upd H1 E1 (.lst (((asked x).drop 4).take 4))) O (.lst ((asked x).take 8))) := fun c o hc => by
    rw [upd_ne (ne_of_none hc nO)]
    exact s2 _ _ hc
  have h3 : (upd (upd H1 E1 (.lst (((asked x).drop 4).take 4))) O (.lst ((asked x).take 8))) O = some (.lst ((asked x).take 8)) := upd_same
  change tSeq _ _ _ [some (.ref p.1), some (.ref O)] (upd (upd H1 E1 (.lst (((asked x).drop 4).take 4))) O (.lst ((asked x).take 8)))
  generalize upd (upd H1 E1 (.lst (((asked x).drop 4).take 4))) O (.lst ((asked x).take 8)) = H3 at s3 h3 ⊢
  refine ⟨_, rfl, .inl ⟨rfl, _, .inl (.inl h3)⟩, ?_⟩
  walk_at "rd"
  dsimp only [tC, tCons, tNil]
  refine is "NoDegree" (by decide) _ _ ?_
  walk_at "rd"
  dsimp only [tC, tCons, tNil]
  refine is "NoPlaces" (by decide) _ _ ?_
  walk_at "rd"
  dsimp only [tC, tCons, tNil]
  refine is "NoText" (by decide) _ _ ?_
  walk_at "rd"
  dsimp only [tC, tCons, tNil]
  refine is "Done" (by decide) _ _ ?_
  walk_at "rd"
  refine ⟨by show 4 ≤ sizeLine; decide, fun E4 nE4 => ?_⟩
  have s4 := s3.trans (same_new (o := .lst (((asked x).drop 8).take 4)) nE4)
  have h4 := same_new (o := .lst (((asked x).drop 8).take 4)) nE4 _ _ h3
  have hE4 : (upd H3 E4 (.lst (((asked x).drop 8).take 4))) E4 = some (.lst (((asked x).drop 8).take 4)) := upd_same
  refine ⟨O, E4, _, _, rfl, rfl, h4, hE4, by show 12 ≤ sizeLine; decide, ?_⟩
  have s5 : Same H (upd (upd H3 E4 (.lst (((asked x).drop 8).take 4))) O (.lst ((asked x).take 12))) := fun c o hc => by
    rw [upd_ne (ne_of_none hc nO)]
    exact s4 _ _ hc
  have h5 : (upd (upd H3 E4 (.lst (((asked x).drop 8).take 4))) O (.lst ((asked x).take 12))) O = some (.lst ((asked x).take 12)) := upd_same
  change tSeq _ _ _ [some (.ref p.1), some (.ref O)] (upd (upd H3 E4 (.lst (((asked x).drop 8).take 4))) O (.lst ((asked x).take 12)))
  generalize upd (upd H3 E4 (.lst (((asked x).drop 8).take 4))) O (.lst ((asked x).take 12)) = H5 at s5 h5 ⊢
  refine ⟨_, rfl, .inl ⟨rfl, _, .inl (.inl h5)⟩, ?_⟩
  walk_at "rd"
  dsimp only [tC, tCons, tNil]
  refine is "Nothing" (by decide) _ _ ?_
  walk_at "rd"
  refine ⟨O, _, _, rfl, rfl, h5, by show 12 < sizeLine; decide, ?_⟩
  have s6 : Same H (upd H5 O (.lst (asked x))) := fun c o hc => by
    rw [upd_ne (ne_of_none hc nO)]
    exact s5 _ _ hc
  have h6 : (upd H5 O (.lst (asked x))) O = some (.lst (asked x)) := upd_same
  change tSeq _ _ _ [some (.ref p.1), some (.ref O)] (upd H5 O (.lst (asked x)))
  generalize upd H5 O (.lst (asked x)) = H6 at s6 h6 ⊢
  have i13 : i < 13 := by
    have := (List.getElem?_eq_some_iff.mp hx0).1
    exact this
  obtain ⟨k1, k2, k3⟩ := asked_facts i i13
  have ex : errs.getD i "" = x := by rw [List.getD_eq_getElem?_getD, hx0]; rfl
  rw [ex] at k1 k2 k3
  walk_at "rd"
  refine ⟨.inl ⟨rfl, _, .inl (.inl h6)⟩, ?_⟩
  walk_at "rd"
  refine ⟨O, asked x, .bl true, rfl, rfl, .inl (.inl h6), rfl, asked_flat x, ?_⟩
  rw [k1]
  walk_at "rd"
  dsimp only [tC, tCons, tNil]
  refine ⟨.ty "ValueError", .type "ValueError", true, rfl, fun u r => r, T.excs.val x hx, ?_⟩
  walk_at "rd"
  refine ⟨.inl ⟨rfl, _, .inl (.inl h6)⟩, ?_⟩
  walk_at "rd"
  refine ⟨O, asked x, .bl true, i, .bl true, rfl, rfl, .inl (.inl h6), rfl, asked_flat x, k2, rfl, fun m z' hm hz' => ?_, ?_⟩
  · have := List.all_eq_true.mp k3 z' (by
      rw [List.mem_iff_getElem?]
      exact ⟨m, by rw [List.getElem?_take_of_lt hm]; exact hz'⟩)
    simpa using this
  walk_at "rd"
  refine ⟨by show 2 ≤ sizeLine; decide, fun R nR => ?_⟩
  exact q R _ (none_back s6 nR) (same_then s6 nR) upd_same

/-! is_whole -/
def sp_is_whole (K : PySem.W.Frag) : Sp := fun vs H Q _ => ∃ (v : V) (b : Bool), vs = [v] ∧ Wh K H v b ∧ Q (.bl b) H
theorem c_is_whole (T : Txt K mg) : Cal P w K mg base 1 "is_whole" ["thing"] (sp_is_whole K) := by
  refine T.f_is_whole.cal sc_is_whole (fun _ _ _ _ _ _ us hl => match us, hl with | [_], _ => rfl) (fun vs H Q E h => by first | (obtain ⟨_, rfl, _⟩ := h; rfl) | (obtain ⟨_, _, rfl, _⟩ := h; rfl) | (obtain ⟨_, _, _, rfl, _⟩ := h; rfl) | (obtain ⟨_, _, _, _, rfl, _⟩ := h; rfl) | (obtain ⟨_, _, _, _, _, rfl, _⟩ := h; rfl) | (obtain ⟨_, _, _, _, _, _, rfl, _⟩ := h; rfl) | (obtain ⟨_, _, _, _, _, _, _, rfl, _⟩ := h; rfl) | (obtain ⟨_, _, _, _, _, _, _, _, rfl, _⟩ := h; rfl) | (obtain ⟨_, _, _, _, _, _, _, _, _, rfl, _⟩ := h; rfl) | (obtain ⟨_, _, _, _, _, _, _, _, _, _, rfl, _⟩ := h; rfl) | (obtain ⟨_, _, _, _, _, _, _, _, _, _, _, rfl, _⟩ := h; rfl) | (obtain ⟨_, _, _, _, _, _, _, _, _, _, _, _, rfl, _⟩ := h; rfl) | (obtain ⟨_, _, _, _, _, _, _, _, _, _, _, _, _, rfl, _⟩ := h; rfl)) (fun cdv A outer s H vs Q E f hr h => ?_)
  obtain ⟨v, b, rfl, hw, q⟩ := h
  refine ⟨_, (pss_one (ps_ret (pe_and (pe_callB (kz_isi (K := K)) (by rfl) T.b_isinstance bt_isinstance (pa_cons (pv 0) (pa_cons (pe_ty (by rfl) T.b_int bt_int) pa_nil))) (pe_one (pe_not (pe_callB (kz_isi (K := K)) (by rfl) T.b_isinstance bt_isinstance (pa_cons (pv 0) (pa_cons (pe_ty (by rfl) T.b_bool bt_bool) pa_nil)))))))), ?_⟩
  walk_at "rd"
  cases hw with
  | int i =>
    refine ⟨_, _, _, _, _, rfl, .ty _, .base (.int i), kit_ty kit_int_int, _, rfl, iteT ?_⟩
    walk_at "rd"
    exact ⟨_, _, _, _, _, rfl, .ty _, .base (.int i), kit_ty kit_int_bool, _, rfl, q⟩
  | bl b =>
    refine ⟨_, _, _, _, _, rfl, .ty _, .base (.bl b), kit_ty kit_bool_int, _, rfl, iteT ?_⟩
    walk_at "rd"
    exact ⟨_, _, _, _, _, rfl, .ty _, .base (.bl b), kit_ty kit_bool_bool, _, rfl, q⟩
  | no h k nb => exact ⟨_, _, _, _, _, rfl, .ty _, h, kit_ty k, _, rfl, iteF q⟩

/-! is_from_to -/
def sp_is_from_to (K : PySem.W.Frag) : Sp := fun vs H Q _ => ∃ (v : V) (lo hi : Int) (b : Bool), vs = [v, .int lo, .int hi] ∧ Wh K H v b ∧ Q (.bl (whB v lo hi)) H
theorem c_is_from_to (T : Txt K mg) : Cal P w K mg base 2 "is_from_to" ["thing", "least", "most"] (sp_is_from_to K) := by
  refine T.f_is_from_to.cal sc_is_from_to (fun _ _ _ _ _ _ us hl => match us, hl with | [_, _, _], _ => rfl) (fun vs H Q E h => by first | (obtain ⟨_, rfl, _⟩ := h; rfl) | (obtain ⟨_, _, rfl, _⟩ := h; rfl) | (obtain ⟨_, _, _, rfl, _⟩ := h; rfl) | (obtain ⟨_, _, _, _, rfl, _⟩ := h; rfl) | (obtain ⟨_, _, _, _, _, rfl, _⟩ := h; rfl) | (obtain ⟨_, _, _, _, _, _, rfl, _⟩ := h; rfl) | (obtain ⟨_, _, _, _, _, _, _, rfl, _⟩ := h; rfl) | (obtain ⟨_, _, _, _, _, _, _, _, rfl, _⟩ := h; rfl) | (obtain ⟨_, _, _, _, _, _, _, _, _, rfl, _⟩ := h; rfl) | (obtain ⟨_, _, _, _, _, _, _, _, _, _, rfl, _⟩ := h; rfl) | (obtain ⟨_, _, _, _, _, _, _, _, _, _, _, rfl, _⟩ := h; rfl) | (obtain ⟨_, _, _, _, _, _, _, _, _, _, _, _, rfl, _⟩ := h; rfl) | (obtain ⟨_, _, _, _, _, _, _, _, _, _, _, _, _, rfl, _⟩ := h; rfl)) (fun cdv A outer s H vs Q E f hr h => ?_)
  obtain ⟨v, lo, hi, b, rfl, hw, q⟩ := h
  refine ⟨_, (pss_one (ps_ret (pe_and (pe_cal (c_is_whole T) hr (by decide) (pa_cons (pv 0) pa_nil)) (pe_one (pe_chain op_le op_le (pv 1) (pv 0) (pv 2)))))), ?_⟩
  walk_at "rd"
  refine ⟨v, b, rfl, hw, _, rfl, ?_⟩
  rcases hw.cases_ with ⟨i, rfl, rfl⟩ | ⟨hv, rfl⟩
  · refine iteT ?_
    walk_at "rd"
    have e : whB (.int i) lo hi = (decide (lo ≤ i) && decide (i ≤ hi)) := Bool.decide_and ..
    rw [e] at q
    by_cases c : lo ≤ i
    · rw [decide_eq_true c] at q ⊢
      refine iteT ?_
      walk_at "rd"
      exact q
    · rw [decide_eq_false c] at q ⊢
      exact iteF q
  · rw [whB_no hv] at q
    exact iteF q

/-! check_hands -/
/-- hands, or NoHands raised -/
def sp_check_hands (K : PySem.W.Frag) : Sp := fun vs H Q E => ∃ (x : V) (a : Ar), vs = [x] ∧ ArOk K H a x ∧ Fin1 K (cHands a) Q E H
theorem c_check_hands (T : Txt K mg) : CalX P w K mg base 3 "check_hands" ["hands"] (sp_check_hands K) := by
  refine T.f_check_hands.calX sc_check_hands (fun _ _ _ _ _ _ us hl => match us, hl with | [_], _ => rfl) (fun vs H Q E h => by first | (obtain ⟨_, rfl, _⟩ := h; rfl) | (obtain ⟨_, _, rfl, _⟩ := h; rfl) | (obtain ⟨_, _, _, rfl, _⟩ := h; rfl) | (obtain ⟨_, _, _, _, rfl, _⟩ := h; rfl) | (obtain ⟨_, _, _, _, _, rfl, _⟩ := h; rfl) | (obtain ⟨_, _, _, _, _, _, rfl, _⟩ := h; rfl) | (obtain ⟨_, _, _, _, _, _, _, rfl, _⟩ := h; rfl) | (obtain ⟨_, _, _, _, _, _, _, _, rfl, _⟩ := h; rfl) | (obtain ⟨_, _, _, _, _, _, _, _, _, rfl, _⟩ := h; rfl) | (obtain ⟨_, _, _, _, _, _, _, _, _, _, rfl, _⟩ := h; rfl) | (obtain ⟨_, _, _, _, _, _, _, _, _, _, _, rfl, _⟩ := h; rfl) | (obtain ⟨_, _, _, _, _, _, _, _, _, _, _, _, rfl, _⟩ := h; rfl) | (obtain ⟨_, _, _, _, _, _, _, _, _, _, _, _, _, rfl, _⟩ := h; rfl)) (fun cdv A outer s H vs Q E f hr h => ?_)
  obtain ⟨x, a, rfl, h0, q⟩ := h
  refine ⟨_, (pss_one (ps_if (PT.nox (pt_not (pt_val (pe_cal (c_is_from_to T) hr (by decide) (pa_cons (pv 0) (pa_cons (pe_kon T.k_FEWEST_HANDS) (pa_cons (pe_kon T.k_MOST_HANDS) pa_nil))))))) (pss_one (L2N.ps_raise rfl (L2N.takes_of rfl rfl rfl rfl) (pmk_at (T.excs.cls "NoHands" (by decide))))) pss_nil)), ?_⟩
  obtain ⟨b, hw⟩ := h0.wh
  walk_at "rd"
  refine ⟨x, 2, 4, b, rfl, hw, _, rfl, ?_⟩
  rw [h0.fr]
  cases e : frA a 2 4 with
  | true => exact iteF (q.no.1 e)
  | false => exact iteT (q.no.2 e)

/-! check_lead_order -/
/-- what the check takes, or NoOrder raised -/
def sp_check_lead_order (K : PySem.W.Frag) : Sp := fun vs H Q E => ∃ (x : V) (a : Ar), vs = [x] ∧ ArOk K H a x ∧ Fin1 K (cFrom a 1 4 .order) Q E H
theorem c_check_lead_order (T : Txt K mg) : CalX P w K mg base 3 "check_lead_order" ["order"] (sp_check_lead_order K) := by
  refine T.f_check_lead_order.calX sc_check_lead_order (fun _ _ _ _ _ _ us hl => match us, hl with | [_], _ => rfl) (fun vs H Q E h => by first | (obtain ⟨_, rfl, _⟩ := h; rfl) | (obtain ⟨_, _, rfl, _⟩ := h; rfl) | (obtain ⟨_, _, _, rfl, _⟩ := h; rfl) | (obtain ⟨_, _, _, _, rfl, _⟩ := h; rfl) | (obtain ⟨_, _, _, _, _, rfl, _⟩ := h; rfl) | (obtain ⟨_, _, _, _, _, _, rfl, _⟩ := h; rfl) | (obtain ⟨_, _, _, _, _, _, _, rfl, _⟩ := h; rfl) | (obtain ⟨_, _, _, _, _, _, _, _, rfl, _⟩ := h; rfl) | (obtain ⟨_, _, _, _, _, _, _, _, _, rfl, _⟩ := h; rfl) | (obtain ⟨_, _, _, _, _, _, _, _, _, _, rfl, _⟩ := h; rfl) | (obtain ⟨_, _, _, _, _, _, _, _, _, _, _, rfl, _⟩ := h; rfl) | (obtain ⟨_, _, _, _, _, _, _, _, _, _, _, _, rfl, _⟩ := h; rfl) | (obtain ⟨_, _, _, _, _, _, _, _, _, _, _, _, _, rfl, _⟩ := h; rfl)) (fun cdv A outer s H vs Q E f hr h => ?_)
  obtain ⟨x, a, rfl, h0, q⟩ := h
  refine ⟨_, (pss_one (ps_if (PT.nox (pt_not (pt_val (pe_cal (c_is_from_to T) hr (by decide) (pa_cons (pv 0) (pa_cons pe_int (pa_cons (pe_kon T.k_MOST_LEAD_ORDER) pa_nil))))))) (pss_one (L2N.ps_raise rfl (L2N.takes_of rfl rfl rfl rfl) (pmk_at (T.excs.cls "NoOrder" (by decide))))) pss_nil)), ?_⟩
  obtain ⟨b, hw⟩ := h0.wh
  walk_at "rd"
  refine ⟨x, 1, 4, b, rfl, hw, _, rfl, ?_⟩
  rw [h0.fr]
  cases e : frA a 1 4 with
  | true => exact iteF (q.no.1 e)
  | false => exact iteT (q.no.2 e)

/-! check_places -/
/-- places, or NoPlaces raised -/
def sp_check_places (K : PySem.W.Frag) : Sp := fun vs H Q E => ∃ (x : V) (a : Ar) (m l : Int), vs = [x, .int m, .int l] ∧ ArOk K H a x ∧ (0 ≤ m ∧ m ≤ 100) ∧ (0 ≤ l ∧ l ≤ 100) ∧ Fin1 K (cFrom a l m .places) Q E H
theorem fk_check_places (T : Txt K mg) : ∃ f fd, FunD K "check_places" "check_places" (defArgs S_check_places) (defBody S_check_places) (defScope S_check_places) [] [("least", .int 1)] f fd ∧ mg "check_places" = some (.ref f) ∧ FnOk P w K mg base (L2N.CX P w) 3 f fd ["places", "most", "least"] (sp_check_places K) := by
  refine T.f_check_places.fnX sc_check_places (fun vs H Q E h => by first | (obtain ⟨_, rfl, _⟩ := h; rfl) | (obtain ⟨_, _, rfl, _⟩ := h; rfl) | (obtain ⟨_, _, _, rfl, _⟩ := h; rfl) | (obtain ⟨_, _, _, _, rfl, _⟩ := h; rfl) | (obtain ⟨_, _, _, _, _, rfl, _⟩ := h; rfl) | (obtain ⟨_, _, _, _, _, _, rfl, _⟩ := h; rfl) | (obtain ⟨_, _, _, _, _, _, _, rfl, _⟩ := h; rfl) | (obtain ⟨_, _, _, _, _, _, _, _, rfl, _⟩ := h; rfl) | (obtain ⟨_, _, _, _, _, _, _, _, _, rfl, _⟩ := h; rfl) | (obtain ⟨_, _, _, _, _, _, _, _, _, _, rfl, _⟩ := h; rfl) | (obtain ⟨_, _, _, _, _, _, _, _, _, _, _, rfl, _⟩ := h; rfl) | (obtain ⟨_, _, _, _, _, _, _, _, _, _, _, _, rfl, _⟩ := h; rfl) | (obtain ⟨_, _, _, _, _, _, _, _, _, _, _, _, _, rfl, _⟩ := h; rfl)) (fun cdv A outer s H vs Q E f hr h => ?_)
  obtain ⟨x, a, m, l, rfl, h0, hm, hl, q⟩ := h
  refine ⟨_, (pss_one (ps_if (PT.nox (pt_not (pt_val (pe_cal (c_is_from_to T) hr (by decide) (pa_cons (pv 0) (pa_cons (pv 2) (pa_cons (pv 1) pa_nil))))))) (pss_one (L2N.ps_raise rfl (L2N.takes_of rfl rfl rfl rfl) (pmk_te (T.excs.cls "NoPlaces" (by decide)) (pe_joined (.cons pe_str (.cons (pe_fmt (pv 2)) (.cons pe_str (.cons (pe_fmt (pv 1)) .nil)))))))) pss_nil)), ?_⟩
  obtain ⟨b, hw⟩ := h0.wh
  walk_at "rd"
  refine ⟨x, l, m, b, rfl, hw, _, rfl, ?_⟩
  rw [h0.fr]
  cases e : frA a l m with
  | true => exact iteF (q.no.1 e)
  | false =>
    refine iteT ?_
    have qe := q.no.2 e
    walk_at "rd"
    obtain ⟨z1, z2⟩ := int_shortZ hm.1 hm.2
    obtain ⟨y1, y2⟩ := int_shortZ hl.1 hl.2
    have hs := sizeLine_eq
    refine .inr ⟨l, rfl, y2, _, rfl, ?_, _, rfl, ?_, ?_⟩
    · rw [Str.length_append, Str.length_append, show (Str.empty).length = 0 from rfl, show (Str.ofString "places are a whole number from ").length = 31 from by decide +kernel]
      omega
    · rw [Str.length_append, Str.length_append, Str.length_append, show (Str.empty).length = 0 from rfl, show (Str.ofString "places are a whole number from ").length = 31 from by decide +kernel, show (Str.ofString " to ").length = 4 from by decide +kernel]
      omega
    walk_at "rd"
    refine .inr ⟨m, rfl, z2, _, rfl, ?_, qe⟩
    rw [Str.length_append, Str.length_append, Str.length_append, Str.length_append, show (Str.empty).length = 0 from rfl, show (Str.ofString "places are a whole number from ").length = 31 from by decide +kernel, show (Str.ofString " to ").length = 4 from by decide +kernel]
    omega
theorem cd_check_places (T : Txt K mg) : CalDX P w K mg base 3 "check_places" ["places", "most", "least"] (sp_check_places K) (.int 1) := by
  obtain ⟨f, fd, F, m, G⟩ := fk_check_places (P := P) (w := w) (base := base) T
  obtain ⟨ds, r, b⟩ := F.binds0 (ps := ["places", "most", "least"]) 2 (by simp) rfl (fun D doc pm an cdv ct us ks hl hk => match us, ks, hl, hk with | [_, _], [_], _, _ => ⟨_, _, _, _, _, _, rfl, rfl, rfl⟩)
  exact ⟨f, fd, ds, G, m, F.kp, b, r⟩
theorem ck_check_places (T : Txt K mg) : CalKX P w K mg base 3 "check_places" ["places", "most", "least"] (sp_check_places K) 2 "least" := by
  obtain ⟨f, fd, F, m, G⟩ := fk_check_places (P := P) (w := w) (base := base) T
  refine ⟨f, fd, G, m, F.kp, ⟨fun s us ws _ hl hw => ?_, fun r1 r2 => r1.append r2⟩⟩
  obtain ⟨oc, od, dV, kV, doc, pm, an, cdv, ct, osl, rfl, lk, hcd, hD, hK⟩ := F.ex
  rcases hD with ⟨_, rfl⟩ | ⟨e, _⟩
  · exact match us, ws, hl, hw with | [_, _], [_], _, _ => .of_eq rfl
  · exact absurd rfl e

/-! calmest -/
def mostCalmest (m : Int) : Int := if m = 2 then 10 else if m = 3 then 6 else 5
def cCalmest (a b c : Ar) : Option Rf := Rf.or (cHands a) (Rf.or (cFrom b 1 (mostCalmest (intA a)) .places) (cFrom c 1 4 .order))
def sp_calmest (K : PySem.W.Frag) : Sp := fun vs H Q E => ∃ (x y z : V) (a b c : Ar), vs = [x, y, z] ∧ ArOk K H a x ∧ ArOk K H b y ∧ ArOk K H c z ∧ ∀ H', Same H H' → Fin1 K (cCalmest a b c) (fun _ _ => False) E H'
theorem c_calmest (T : Txt K mg) : CalX P w K mg base 4 "calmest" ["hands", "places", "order"] (sp_calmest K) := by
  refine T.f_calmest.calX sc_calmest (fun _ _ _ _ _ _ us hl => match us, hl with | [_, _, _], _ => rfl) (fun vs H Q E h => by first | (obtain ⟨_, rfl, _⟩ := h; rfl) | (obtain ⟨_, _, rfl, _⟩ := h; rfl) | (obtain ⟨_, _, _, rfl, _⟩ := h; rfl) | (obtain ⟨_, _, _, _, rfl, _⟩ := h; rfl) | (obtain ⟨_, _, _, _, _, rfl, _⟩ := h; rfl) | (obtain ⟨_, _, _, _, _, _, rfl, _⟩ := h; rfl) | (obtain ⟨_, _, _, _, _, _, _, rfl, _⟩ := h; rfl) | (obtain ⟨_, _, _, _, _, _, _, _, rfl, _⟩ := h; rfl) | (obtain ⟨_, _, _, _, _, _, _, _, _, rfl, _⟩ := h; rfl) | (obtain ⟨_, _, _, _, _, _, _, _, _, _, rfl, _⟩ := h; rfl) | (obtain ⟨_, _, _, _, _, _, _, _, _, _, _, rfl, _⟩ := h; rfl) | (obtain ⟨_, _, _, _, _, _, _, _, _, _, _, _, rfl, _⟩ := h; rfl) | (obtain ⟨_, _, _, _, _, _, _, _, _, _, _, _, _, rfl, _⟩ := h; rfl)) (fun cdv A outer s H vs Q E f hr h => ?_)
  obtain ⟨x, y, z, a, b, c, rfl, h0, h1, h2, q⟩ := h
  refine ⟨_, (pss_cons (ps_expr (pe_calX (c_check_hands T) hr (by decide) (L2N.takes_of rfl rfl rfl rfl) (pa_cons (pv 0) pa_nil)))
    (pss_cons (ps_expr (pe_calDX (cd_check_places T) hr (by decide) (L2N.takes_of rfl rfl rfl rfl) (pa_cons (pv 1) (pa_cons (pe_ix (kz_ixI (K := K)) (pe_glob (v := .ref (He.ga K "MOST_PLACES_OF")) (by rfl) T.d_MOST_PLACES_OF.1 rfl) (pv 0) (fun _ _ => rfl)) pa_nil))))
    (pss_cons (ps_expr (pe_calX (c_check_lead_order T) hr (by decide) (L2N.takes_of rfl rfl rfl rfl) (pa_cons (pv 2) pa_nil)))
    pss_never))), ?_⟩
  walk_at "rd"
  refine ⟨x, a, rfl, h0, Fin1.seq q (L2.Same.refl _) fun e0 q1 => ?_⟩
  obtain ⟨ex, m2, m4⟩ := frA_int h0 (noIf_none e0)
  subst ex
  generalize intA a = m at q1 m2 m4 ⊢
  have nm : (m, mostCalmest m) ∈ [((2 : Int), (10 : Int)), ((3 : Int), (6 : Int)), ((4 : Int), (5 : Int))] := by
    rcases (show m = 2 ∨ m = 3 ∨ m = 4 by omega) with z | z | z <;> subst z <;> decide
  have b100 : 0 ≤ mostCalmest m ∧ mostCalmest m ≤ 100 := by
    rcases (show m = 2 ∨ m = 3 ∨ m = 4 by omega) with z | z | z <;> subst z <;> decide
  have dic := (T.d_MOST_PLACES_OF).2 _ nm
  walk_at "rd"
  refine ⟨_, m, .int (mostCalmest m), rfl, rfl, dic, ?_⟩
  walk_at "rd"
  dsimp only [tNil]
  refine ⟨y, b, mostCalmest m, 1, rfl, h1, b100, by decide, Fin1.seq q1 (L2.Same.refl _) fun e1 q2 => ?_⟩
  walk_at "rd"
  exact ⟨z, c, rfl, h2, q2 H (L2.Same.refl _)⟩

/-! check_bound -/
/-- what the check takes, or NoBound raised -/
def sp_check_bound (K : PySem.W.Frag) : Sp := fun vs H Q E => ∃ (x : V) (a : Ar), vs = [x] ∧ ArOk K H a x ∧ Fin1 K (cFrom a 0 99 .bound) Q E H
theorem c_check_bound (T : Txt K mg) : CalX P w K mg base 3 "check_bound" ["bound"] (sp_check_bound K) := by
  refine T.f_check_bound.calX sc_check_bound (fun _ _ _ _ _ _ us hl => match us, hl with | [_], _ => rfl) (fun vs H Q E h => by first | (obtain ⟨_, rfl, _⟩ := h; rfl) | (obtain ⟨_, _, rfl, _⟩ := h; rfl) | (obtain ⟨_, _, _, rfl, _⟩ := h; rfl) | (obtain ⟨_, _, _, _, rfl, _⟩ := h; rfl) | (obtain ⟨_, _, _, _, _, rfl, _⟩ := h; rfl) | (obtain ⟨_, _, _, _, _, _, rfl, _⟩ := h; rfl) | (obtain ⟨_, _, _, _, _, _, _, rfl, _⟩ := h; rfl) | (obtain ⟨_, _, _, _, _, _, _, _, rfl, _⟩ := h; rfl) | (obtain ⟨_, _, _, _, _, _, _, _, _, rfl, _⟩ := h; rfl) | (obtain ⟨_, _, _, _, _, _, _, _, _, _, rfl, _⟩ := h; rfl) | (obtain ⟨_, _, _, _, _, _, _, _, _, _, _, rfl, _⟩ := h; rfl) | (obtain ⟨_, _, _, _, _, _, _, _, _, _, _, _, rfl, _⟩ := h; rfl) | (obtain ⟨_, _, _, _, _, _, _, _, _, _, _, _, _, rfl, _⟩ := h; rfl)) (fun cdv A outer s H vs Q E f hr h => ?_)
  obtain ⟨x, a, rfl, h0, q⟩ := h
  refine ⟨_, (pss_one (ps_if (PT.nox (pt_not (pt_val (pe_cal (c_is_from_to T) hr (by decide) (pa_cons (pv 0) (pa_cons pe_int (pa_cons (pe_kon T.k_MOST_BOUND) pa_nil))))))) (pss_one (L2N.ps_raise rfl (L2N.takes_of rfl rfl rfl rfl) (pmk_at (T.excs.cls "NoBound" (by decide))))) pss_nil)), ?_⟩
  obtain ⟨b, hw⟩ := h0.wh
  walk_at "rd"
  refine ⟨x, 0, 99, b, rfl, hw, _, rfl, ?_⟩
  rw [h0.fr]
  cases e : frA a 0 99 with
  | true => exact iteF (q.no.1 e)
  | false => exact iteT (q.no.2 e)

/-! check_order_of -/
/-- an order not above how many worths are told, or NoOrder raised -/
def sp_check_order_of (K : PySem.W.Frag) : Sp := fun vs H Q E => ∃ (r : Addr) (xs : List V) (y : V) (b : Ar), vs = [.ref r, y] ∧ SqT K H r xs ∧ ArOk K H b y ∧ Fin1 K (cOrderOf (.tup xs) b) Q E H
theorem c_check_order_of (T : Txt K mg) : CalX P w K mg base 4 "check_order_of" ["told", "order"] (sp_check_order_of K) := by
  refine T.f_check_order_of.calX sc_check_order_of (fun _ _ _ _ _ _ us hl => match us, hl with | [_, _], _ => rfl) (fun vs H Q E h => by first | (obtain ⟨_, rfl, _⟩ := h; rfl) | (obtain ⟨_, _, rfl, _⟩ := h; rfl) | (obtain ⟨_, _, _, rfl, _⟩ := h; rfl) | (obtain ⟨_, _, _, _, rfl, _⟩ := h; rfl) | (obtain ⟨_, _, _, _, _, rfl, _⟩ := h; rfl) | (obtain ⟨_, _, _, _, _, _, rfl, _⟩ := h; rfl) | (obtain ⟨_, _, _, _, _, _, _, rfl, _⟩ := h; rfl) | (obtain ⟨_, _, _, _, _, _, _, _, rfl, _⟩ := h; rfl) | (obtain ⟨_, _, _, _, _, _, _, _, _, rfl, _⟩ := h; rfl) | (obtain ⟨_, _, _, _, _, _, _, _, _, _, rfl, _⟩ := h; rfl) | (obtain ⟨_, _, _, _, _, _, _, _, _, _, _, rfl, _⟩ := h; rfl) | (obtain ⟨_, _, _, _, _, _, _, _, _, _, _, _, rfl, _⟩ := h; rfl) | (obtain ⟨_, _, _, _, _, _, _, _, _, _, _, _, _, rfl, _⟩ := h; rfl)) (fun cdv A outer s H vs Q E f hr h => ?_)
  obtain ⟨r, xs, y, b, rfl, hS, h1, q⟩ := h
  refine ⟨_, (pss_cons (ps_expr (pe_calX (c_check_lead_order T) hr (by decide) (L2N.takes_of rfl rfl rfl rfl) (pa_cons (pv 1) pa_nil)))
    (pss_one (ps_if (PT.nox (pt_cmpR op_gt (pv 1) (pe_callB (kz_len (K := K)) (by rfl) T.b_len bt_len (pa_cons (pv 0) pa_nil)) (nomark _))) (pss_one (L2N.ps_raise rfl (L2N.takes_of rfl rfl rfl rfl) (pmk_at (T.excs.cls "NoOrder" (by decide))))) pss_nil))), ?_⟩
  walk_at "rd"
  refine ⟨y, b, rfl, h1, ?_⟩
  cases e0 : cFrom b 1 4 .order with
  | some r =>
    unfold cOrderOf at q
    rw [e0] at q
    exact q
  | none =>
    unfold cOrderOf at q
    rw [e0] at q
    have q2 : Fin1 K (noIf (decide (intA b ≤ ((xs.length : Nat) : Int))) .order) Q E H := q
    obtain ⟨ey, o1, o4⟩ := frA_int h1 (noIf_none e0)
    subst ey
    refine Fin1.mk ?_
    walk_at "rd"
    by_cases lt : intA b ≤ (xs.length : Int)
    · rw [decide_eq_false (show ¬ intA b > (xs.length : Int) by omega)]
      exact iteF (q2.no.1 (decide_eq_true lt))
    · rw [decide_eq_true (show intA b > (xs.length : Int) by omega)]
      exact iteT (q2.no.2 (decide_eq_false lt))

/-! check_worths -/
/-- worths, or NoWorths raised -/
def sp_check_worths (K : PySem.W.Frag) : Sp := fun vs H Q E => ∃ (x : V) (a : Ar), vs = [x] ∧ ArOk K H a x ∧ ∀ H', Same H H' → Fin1 K (cWorths a) Q E H'
theorem c_check_worths (T : Txt K mg) : CalX P w K mg base 2 "check_worths" ["worths"] (sp_check_worths K) := by
  refine T.f_check_worths.calX sc_check_worths (fun _ _ _ _ _ _ us hl => match us, hl with | [_], _ => rfl) (fun vs H Q E h => by first | (obtain ⟨_, rfl, _⟩ := h; rfl) | (obtain ⟨_, _, rfl, _⟩ := h; rfl) | (obtain ⟨_, _, _, rfl, _⟩ := h; rfl) | (obtain ⟨_, _, _, _, rfl, _⟩ := h; rfl) | (obtain ⟨_, _, _, _, _, rfl, _⟩ := h; rfl) | (obtain ⟨_, _, _, _, _, _, rfl, _⟩ := h; rfl) | (obtain ⟨_, _, _, _, _, _, _, rfl, _⟩ := h; rfl) | (obtain ⟨_, _, _, _, _, _, _, _, rfl, _⟩ := h; rfl) | (obtain ⟨_, _, _, _, _, _, _, _, _, rfl, _⟩ := h; rfl) | (obtain ⟨_, _, _, _, _, _, _, _, _, _, rfl, _⟩ := h; rfl) | (obtain ⟨_, _, _, _, _, _, _, _, _, _, _, rfl, _⟩ := h; rfl) | (obtain ⟨_, _, _, _, _, _, _, _, _, _, _, _, rfl, _⟩ := h; rfl) | (obtain ⟨_, _, _, _, _, _, _, _, _, _, _, _, _, rfl, _⟩ := h; rfl)) (fun cdv A outer s H vs Q E f hr h => ?_)
  obtain ⟨x, a, rfl, h0, q⟩ := h
  refine ⟨_, (pss_cons (ps_if (PT.nox (PW.pt (pw_or (pt_not (pt_val (pe_callB (kz_isi (K := K)) (by rfl) T.b_isinstance bt_isinstance (pa_cons (pv 0) (pa_cons (pe_ty (by rfl) T.b_tuple bt_tuple) pa_nil))))) (pw_or1 (pt_cmpR op_eq (pe_callB (kz_len (K := K)) (by rfl) T.b_len bt_len (pa_cons (pv 0) pa_nil)) pe_int (nomark _)))))) (pss_one (L2N.ps_raise rfl (L2N.takes_of rfl rfl rfl rfl) (pmk_at (T.excs.cls "NoWorths" (by decide))))) pss_nil)
    (pss_one (ps_if (PT.nox (pt_not (pt_val (pe_callB (kz_all (K := K) rfl) (by rfl) T.b_all bt_all (pa_cons (pe_lc (own := [("worth", 1)]) (g := (gName 1)) (tt := tYes) rfl sc_check_worths.nd (kz_piT (K := K) (pv 0)) (blkOk_by (own := [("worth", 1)]) (N := ["worths", "worth"]) (sc := defScope S_check_worths) (by decide +kernel)) (fun _ _ _ _ _ => (pg_name (i := 1) sc_check_worths.nd rfl (.inl rfl))) (fun _ _ _ _ _ => pts_nil) (fun _ _ _ _ _ => (pe_cal (c_is_whole T) hr (by decide) (pa_cons (pv 1) pa_nil)))) pa_nil))))) (pss_one (L2N.ps_raise rfl (L2N.takes_of rfl rfl rfl rfl) (pmk_at (T.excs.cls "NoWorths" (by decide))))) pss_nil))), ?_⟩
  walk_at "rd"
  rcases h0.tuple with ⟨xs, r, rfl, rfl, hS, hp, hl⟩ | ⟨hn, n, tn, kn⟩
  · refine ⟨_, _, _, _, _, rfl, .ty _, ty_tup hS, kit_ty kit_tup_tup, _, rfl, iteF ?_⟩
    walk_at "rd"
    refine ite2 (fun c => ?_) (fun c => ?_)
    · have l0 : xs.length = 0 := by have := V.int.inj (of_decide_eq_true c); omega
      rw [List.length_eq_zero_iff.mp l0] at q
      exact (q H (L2.Same.refl _)).no.2 rfl
    · have ne : xs.isEmpty = false := by
        cases xs with
        | nil => exact absurd rfl c
        | cons => rfl
      refine ⟨_, rfl, _, rfl, ⟨_, hS⟩, fun D nD => ?_⟩
      refine lcp walk_tup nD (fun i => (xs.map fun x => V.bl (isI x)).take i) rfl (fun i _ => ?_) (fun H2 s2 => seqT s2 hS) ?_ ?_
      · rw [List.length_take, List.length_map]
        omega
      · rintro i x H2 H' R N hi s2 ⟨rfl, hx⟩ k _
        refine ⟨rfl, ?_⟩
        walk_at "rd"
        refine ⟨x, isI x, rfl, pln_whI (List.all_eq_true.mp hp x (List.mem_of_getElem? hx)) _, k _ _ (L2.Same.refl _) ?_⟩
        rw [List.take_add_one, List.getElem?_map, hx]
        rfl
      · intro H2 s2 hD
        rw [List.take_of_length_le (by rw [List.length_map]; exact Nat.le_refl _)] at hD
        refine ⟨D, xs.map isI, rfl, ?_, _, rfl, ?_⟩
        · rw [List.map_map]
          exact .inl (.inl hD)
        · have q2 := (q H2 s2).no
          have e : worA (.tup xs) = (xs.map isI).all id := by
            show (!xs.isEmpty && xs.all isI) = _
            rw [ne, List.all_map]
            rfl
          rw [e] at q2
          cases ee : (xs.map isI).all id with
          | true => exact iteF (q2.1 ee)
          | false => exact iteT (q2.2 ee)
  · refine ⟨_, _, _, _, _, rfl, .ty _, tn, kit_ty kn, _, rfl, iteT ?_⟩
    refine (q H (L2.Same.refl _)).no.2 ?_
    cases a with
    | tup xs => exact absurd rfl (hn xs)
    | _ => rfl

/-! check_foreseeing -/
def sp_check_foreseeing (K : PySem.W.Frag) : Sp := fun vs H Q E => ∃ (r : Addr) (xs : List V) (y z u : V) (b c d : Ar), vs = [.ref r, y, z, u] ∧ SqT K H r xs ∧ ArOk K H b y ∧ (cWorths b = none → ArOk K H c z ∧ ArOk K H d u) ∧ ∀ H', Same H H' → Fin1 K (cFore (.tup xs) b c d) Q E H'
theorem c_check_foreseeing (T : Txt K mg) : CalX P w K mg base 5 "check_foreseeing" ["row", "told", "order", "bound"] (sp_check_foreseeing K) := by
  refine T.f_check_foreseeing.calX sc_check_foreseeing (fun _ _ _ _ _ _ us hl => match us, hl with | [_, _, _, _], _ => rfl) (fun vs H Q E h => by first | (obtain ⟨_, rfl, _⟩ := h; rfl) | (obtain ⟨_, _, rfl, _⟩ := h; rfl) | (obtain ⟨_, _, _, rfl, _⟩ := h; rfl) | (obtain ⟨_, _, _, _, rfl, _⟩ := h; rfl) | (obtain ⟨_, _, _, _, _, rfl, _⟩ := h; rfl) | (obtain ⟨_, _, _, _, _, _, rfl, _⟩ := h; rfl) | (obtain ⟨_, _, _, _, _, _, _, rfl, _⟩ := h; rfl) | (obtain ⟨_, _, _, _, _, _, _, _, rfl, _⟩ := h; rfl) | (obtain ⟨_, _, _, _, _, _, _, _, _, rfl, _⟩ := h; rfl) | (obtain ⟨_, _, _, _, _, _, _, _, _, _, rfl, _⟩ := h; rfl) | (obtain ⟨_, _, _, _, _, _, _, _, _, _, _, rfl, _⟩ := h; rfl) | (obtain ⟨_, _, _, _, _, _, _, _, _, _, _, _, rfl, _⟩ := h; rfl) | (obtain ⟨_, _, _, _, _, _, _, _, _, _, _, _, _, rfl, _⟩ := h; rfl)) (fun cdv A outer s H vs Q E f hr h => ?_)
  obtain ⟨r, xs, y, z, u, b, c, d, rfl, hR, h1, hh, q⟩ := h
  refine ⟨_, (pss_cons (ps_expr (pe_calX (c_check_worths T) hr (by decide) (L2N.takes_of rfl rfl rfl rfl) (pa_cons (pv 1) pa_nil)))
    (pss_cons (ps_if (PT.nox (pt_cmpR op_gt (pe_callB (kz_len (K := K)) (by rfl) T.b_len bt_len (pa_cons (pv 1) pa_nil)) (pe_callB (kz_len (K := K)) (by rfl) T.b_len bt_len (pa_cons (pv 0) pa_nil)) (nomark _))) (pss_one (L2N.ps_raise rfl (L2N.takes_of rfl rfl rfl rfl) (pmk_at (T.excs.cls "NoWorths" (by decide))))) pss_nil)
    (pss_cons (ps_expr (pe_calX (c_check_order_of T) hr (by decide) (L2N.takes_of rfl rfl rfl rfl) (pa_cons (pv 1) (pa_cons (pv 2) pa_nil))))
    (pss_one (ps_expr (pe_calX (c_check_bound T) hr (by decide) (L2N.takes_of rfl rfl rfl rfl) (pa_cons (pv 3) pa_nil))))))), ?_⟩
  walk_at "rd"
  refine ⟨y, b, rfl, h1, fun H1 s1 => Fin1.seq q s1 fun e0 q1 => ?_⟩
  obtain ⟨h2, h3⟩ := hh e0
  obtain ⟨ws, t, rfl, rfl, hS, ex, ne⟩ := worA_tup h1 (noIf_none e0)
  have hR1 := seqT s1 hR
  have hS1 := seqT s1 hS
  walk_at "rd"
  by_cases lt : ws.length ≤ xs.length
  · rw [decide_eq_false (show ¬ (ws.length : Int) > (xs.length : Int) by omega)]
    refine iteF ?_
    have q2 : ∀ H', Same H1 H' → Fin1 K (Rf.or (cOrderOf (.tup ws) c) (cFrom d 0 99 .bound)) Q E H' := fun H' s' => by
      have := q1 H' s'
      rw [show noIf (decide (lenA (.tup ws) ≤ lenA (.tup xs))) Rf.worths = none from by rw [decide_eq_true (show lenA (.tup ws) ≤ lenA (.tup xs) from lt)]; rfl] at this
      exact this
    walk_at "rd"
    refine ⟨t, ws, z, c, rfl, hS1, h2.same s1, Fin1.seq q2 (L2.Same.refl _) fun e1 q3 => ?_⟩
    walk_at "rd"
    exact ⟨u, d, rfl, h3.same s1, q3 H1 (L2.Same.refl _)⟩
  · rw [decide_eq_true (show (ws.length : Int) > (xs.length : Int) by omega)]
    refine iteT ?_
    have := q1 H1 (L2.Same.refl _)
    rw [show noIf (decide (lenA (.tup ws) ≤ lenA (.tup xs))) Rf.worths = some .worths from by rw [decide_eq_false (show ¬ lenA (.tup ws) ≤ lenA (.tup xs) from lt)]; rfl] at this
    exact this

/-! check_length -/
/-- not too many places, or TooLong raised -/
def sp_check_length (K : PySem.W.Frag) : Sp := fun vs H Q E => ∃ p m : Int, vs = [.int p, .int m] ∧ (0 ≤ m ∧ m ≤ 100) ∧ Fin1 K (cLen p m) Q E H
theorem c_check_length (T : Txt K mg) : CalX P w K mg base 1 "check_length" ["places", "most"] (sp_check_length K) := by
  refine T.f_check_length.calX sc_check_length (fun _ _ _ _ _ _ us hl => match us, hl with | [_, _], _ => rfl) (fun vs H Q E h => by first | (obtain ⟨_, rfl, _⟩ := h; rfl) | (obtain ⟨_, _, rfl, _⟩ := h; rfl) | (obtain ⟨_, _, _, rfl, _⟩ := h; rfl) | (obtain ⟨_, _, _, _, rfl, _⟩ := h; rfl) | (obtain ⟨_, _, _, _, _, rfl, _⟩ := h; rfl) | (obtain ⟨_, _, _, _, _, _, rfl, _⟩ := h; rfl) | (obtain ⟨_, _, _, _, _, _, _, rfl, _⟩ := h; rfl) | (obtain ⟨_, _, _, _, _, _, _, _, rfl, _⟩ := h; rfl) | (obtain ⟨_, _, _, _, _, _, _, _, _, rfl, _⟩ := h; rfl) | (obtain ⟨_, _, _, _, _, _, _, _, _, _, rfl, _⟩ := h; rfl) | (obtain ⟨_, _, _, _, _, _, _, _, _, _, _, rfl, _⟩ := h; rfl) | (obtain ⟨_, _, _, _, _, _, _, _, _, _, _, _, rfl, _⟩ := h; rfl) | (obtain ⟨_, _, _, _, _, _, _, _, _, _, _, _, _, rfl, _⟩ := h; rfl)) (fun cdv A outer s H vs Q E f hr h => ?_)
  obtain ⟨p, m, rfl, hm, q⟩ := h
  refine ⟨_, (pss_one (ps_if (PT.nox (pt_cmpR op_gt (pv 0) (pv 1) (nomark _))) (pss_one (L2N.ps_raise rfl (L2N.takes_of rfl rfl rfl rfl) (pmk_te (T.excs.cls "TooLong" (by decide)) (pe_joined (.cons pe_str (.cons (pe_fmt (pv 1)) (.cons pe_str .nil))))))) pss_nil)), ?_⟩
  walk_at "rd"
  by_cases c : p ≤ m
  · rw [decide_eq_false (show ¬ p > m by omega)]
    exact iteF (q.no.1 (decide_eq_true c))
  · rw [decide_eq_true (show p > m by omega)]
    refine iteT ?_
    have qe := q.no.2 (decide_eq_false c)
    walk_at "rd"
    obtain ⟨z1, z2⟩ := int_shortZ hm.1 hm.2
    have hs := sizeLine_eq
    refine .inr ⟨m, rfl, z2, _, rfl, ?_, _, rfl, ?_, qe⟩
    · rw [Str.length_append, Str.length_append, show (Str.empty).length = 0 from rfl, show (Str.ofString "there are at most ").length = 18 from by decide +kernel]
      omega
    · rw [Str.length_append, Str.length_append, Str.length_append, show (Str.empty).length = 0 from rfl, show (Str.ofString "there are at most ").length = 18 from by decide +kernel, show (Str.ofString " places").length = 7 from by decide +kernel]
      omega

/-! is_hand -/
def sp_is_hand (K : PySem.W.Frag) : Sp := fun vs H Q _ => ∃ (v : V) (hands : Int) (b : Bool), vs = [.int hands, v] ∧ Wh K H v b ∧ Q (.bl (whB v 0 (hands - 1))) H
theorem c_is_hand (T : Txt K mg) : Cal P w K mg base 3 "is_hand" ["hands", "thing"] (sp_is_hand K) := by
  refine T.f_is_hand.cal sc_is_hand (fun _ _ _ _ _ _ us hl => match us, hl with | [_, _], _ => rfl) (fun vs H Q E h => by first | (obtain ⟨_, rfl, _⟩ := h; rfl) | (obtain ⟨_, _, rfl, _⟩ := h; rfl) | (obtain ⟨_, _, _, rfl, _⟩ := h; rfl) | (obtain ⟨_, _, _, _, rfl, _⟩ := h; rfl) | (obtain ⟨_, _, _, _, _, rfl, _⟩ := h; rfl) | (obtain ⟨_, _, _, _, _, _, rfl, _⟩ := h; rfl) | (obtain ⟨_, _, _, _, _, _, _, rfl, _⟩ := h; rfl) | (obtain ⟨_, _, _, _, _, _, _, _, rfl, _⟩ := h; rfl) | (obtain ⟨_, _, _, _, _, _, _, _, _, rfl, _⟩ := h; rfl) | (obtain ⟨_, _, _, _, _, _, _, _, _, _, rfl, _⟩ := h; rfl) | (obtain ⟨_, _, _, _, _, _, _, _, _, _, _, rfl, _⟩ := h; rfl) | (obtain ⟨_, _, _, _, _, _, _, _, _, _, _, _, rfl, _⟩ := h; rfl) | (obtain ⟨_, _, _, _, _, _, _, _, _, _, _, _, _, rfl, _⟩ := h; rfl)) (fun cdv A outer s H vs Q E f hr h => ?_)
  obtain ⟨v, hands, b, rfl, hw, q⟩ := h
  refine ⟨_, (pss_one (ps_ret (pe_cal (c_is_from_to T) hr (by decide) (pa_cons (pv 1) (pa_cons pe_int (pa_cons (pe_op op_sub (pv 0) pe_int) pa_nil)))))), ?_⟩
  walk_at "rd"
  exact ⟨v, 0, hands - 1, b, rfl, hw, q⟩

/-! fits_row -/
def fitsB (hands : Int) (xs : List V) : Bool := decide (1 ≤ xs.length ∧ xs.length ≤ 64) && xs.all fun x => whB x 0 (hands - 1)
theorem fitsB_row {hands : Int} {row : List Int} (h1 : row ≠ []) (h2 : row.length ≤ 64) (h3 : ∀ z ∈ row, 0 ≤ z ∧ z < hands) : fitsB hands (row.map V.int) = true := by
  have h1' : 0 < row.length := List.length_pos_iff.mpr h1
  unfold fitsB
  rw [Bool.and_eq_true]
  refine ⟨decide_eq_true (by rw [List.length_map]; omega), List.all_eq_true.mpr fun x hx => ?_⟩
  obtain ⟨z, hz, rfl⟩ := List.mem_map.mp hx
  have := h3 z hz
  exact decide_eq_true (by omega)
def sp_fits_row (K : PySem.W.Frag) : Sp := fun vs H Q _ => ∃ (hands : Int) (v : V), vs = [.int hands, v] ∧
  ((∃ n : String, TyX K H v (.type n) ∧ kitB n "tuple" = some false ∧ Q (.bl false) H) ∨
   ∃ (r : Addr) (xs : List V), v = .ref r ∧ SqT K H r xs ∧ xs.length ≤ 100000 ∧ (∀ x ∈ xs, ∃ b, ∀ H', Same H H' → Wh K H' x b) ∧ ∀ H', Same H H' → Q (.bl (fitsB hands xs)) H')
theorem c_fits_row (T : Txt K mg) : Cal P w K mg base 4 "fits_row" ["hands", "thing"] (sp_fits_row K) := by
  refine T.f_fits_row.cal sc_fits_row (fun _ _ _ _ _ _ us hl => match us, hl with | [_, _], _ => rfl) (fun vs H Q E h => by first | (obtain ⟨_, rfl, _⟩ := h; rfl) | (obtain ⟨_, _, rfl, _⟩ := h; rfl) | (obtain ⟨_, _, _, rfl, _⟩ := h; rfl) | (obtain ⟨_, _, _, _, rfl, _⟩ := h; rfl) | (obtain ⟨_, _, _, _, _, rfl, _⟩ := h; rfl) | (obtain ⟨_, _, _, _, _, _, rfl, _⟩ := h; rfl) | (obtain ⟨_, _, _, _, _, _, _, rfl, _⟩ := h; rfl) | (obtain ⟨_, _, _, _, _, _, _, _, rfl, _⟩ := h; rfl) | (obtain ⟨_, _, _, _, _, _, _, _, _, rfl, _⟩ := h; rfl) | (obtain ⟨_, _, _, _, _, _, _, _, _, _, rfl, _⟩ := h; rfl) | (obtain ⟨_, _, _, _, _, _, _, _, _, _, _, rfl, _⟩ := h; rfl) | (obtain ⟨_, _, _, _, _, _, _, _, _, _, _, _, rfl, _⟩ := h; rfl) | (obtain ⟨_, _, _, _, _, _, _, _, _, _, _, _, _, rfl, _⟩ := h; rfl)) (fun cdv A outer s H vs Q E f hr h => ?_)
  obtain ⟨hands, v, rfl, ⟨n, ht, hk, q⟩ | ⟨r, xs, rfl, hS, hl, hw, q⟩⟩ := h
  · refine ⟨_, (pss_cons (ps_if (pt_not (pt_val (pe_callB (kz_isi (K := K)) (by rfl) T.b_isinstance bt_isinstance (pa_cons (pv 1) (pa_cons (pe_ty (by rfl) T.b_tuple bt_tuple) pa_nil))))) (pss_one (ps_ret pe_bl)) pss_nil)
    (pss_cons (ps_if (pt_not (pt_chain op_le op_le pe_int (pe_callB (kz_len (K := K)) (by rfl) T.b_len bt_len (pa_cons (pv 1) pa_nil)) (pe_kon T.k_MOST_PLACES))) (pss_one (ps_ret pe_bl)) pss_nil)
    (pss_one (ps_ret (pe_callB (kz_all (K := K) rfl) (by rfl) T.b_all bt_all (pa_cons (pe_lc (own := [("turn", 2)]) (g := (gName 2)) (tt := tYes) rfl sc_fits_row.nd (kz_piT (K := K) (pv 1)) (blkOk_by (own := [("turn", 2)]) (N := ["hands", "thing", "turn"]) (sc := defScope S_fits_row) (by decide +kernel)) (fun _ _ _ _ _ => (pg_name (i := 2) sc_fits_row.nd rfl (.inl rfl))) (fun _ _ _ _ _ => pts_nil) (fun _ _ _ _ _ => (pe_cal (c_is_hand T) hr (by decide) (pa_cons (pv 0) (pa_cons (pv 2) pa_nil))))) pa_nil)))))), ?_⟩
    walk_at "rd"
    exact ⟨_, _, _, _, _, rfl, .ty _, ht, kit_ty hk, _, rfl, iteT q⟩
  · refine ⟨_, (pss_cons (ps_if (pt_not (pt_val (pe_callB (kz_isi (K := K)) (by rfl) T.b_isinstance bt_isinstance (pa_cons (pv 1) (pa_cons (pe_ty (by rfl) T.b_tuple bt_tuple) pa_nil))))) (pss_one (ps_ret pe_bl)) pss_nil)
    (pss_cons (ps_if (pt_not (pt_chain op_le op_le pe_int (pe_callB (kz_len (K := K)) (by rfl) T.b_len bt_len (pa_cons (pv 1) pa_nil)) (pe_kon T.k_MOST_PLACES))) (pss_one (ps_ret pe_bl)) pss_nil)
    (pss_one (ps_ret (pe_callB (kz_all (K := K) rfl) (by rfl) T.b_all bt_all (pa_cons (pe_lc (own := [("turn", 2)]) (g := (gName 2)) (tt := tYes) rfl sc_fits_row.nd (kz_piT (K := K) (pv 1)) (blkOk_by (own := [("turn", 2)]) (N := ["hands", "thing", "turn"]) (sc := defScope S_fits_row) (by decide +kernel)) (fun _ _ _ _ _ => (pg_name (i := 2) sc_fits_row.nd rfl (.inl rfl))) (fun _ _ _ _ _ => pts_nil) (fun _ _ _ _ _ => (pe_cal (c_is_hand T) hr (by decide) (pa_cons (pv 0) (pa_cons (pv 2) pa_nil))))) pa_nil)))))), ?_⟩
    walk_at "rd"
    refine ⟨_, _, _, _, _, rfl, .ty _, ty_tup hS, kit_ty kit_tup_tup, _, rfl, iteF ?_⟩
    have out : ∀ i, ((xs.map fun x => V.bl (whB x 0 (hands - 1))).take i).length ≤ xs.length := fun i => by
      rw [List.length_take, List.length_map]
      exact Nat.min_le_right _ _
    walk_at "rd"
    have fin : 1 ≤ xs.length ∧ xs.length ≤ 64 → tRet (tCB (rAll K) (tCons (tLc (iTup K (tVar 1)) (gName 2) tYes (tCall (sp_is_hand K) [] E0 (tCons (tVar 0) (tCons (tVar 2) tNil))) [2]) tNil)) { nx := fun _ H' => Q .non H', rt := Q } [some (.int hands), some (.ref r), none] H := fun c => by
      refine ⟨_, rfl, _, rfl, ⟨_, hS⟩, fun D nD => ?_⟩
      refine lcp walk_tup nD (fun i => (xs.map fun x => V.bl (whB x 0 (hands - 1))).take i) rfl (fun i _ => Nat.lt_of_le_of_lt (out i) (by omega)) (fun H2 s2 => seqT s2 hS) ?_ ?_
      · rintro i x H2 H' R N hi s2 ⟨rfl, hx⟩ k _
        refine ⟨rfl, ?_⟩
        walk_at "rd"
        obtain ⟨b, hb⟩ := hw x (List.mem_of_getElem? hx)
        refine ⟨x, hands, b, rfl, hb _ s2, k _ _ (L2.Same.refl _) ?_⟩
        rw [List.take_add_one, List.getElem?_map, hx]
        rfl
      · intro H2 s2 hD
        rw [List.take_of_length_le (by rw [List.length_map]; exact Nat.le_refl _)] at hD
        refine ⟨D, xs.map fun x => whB x 0 (hands - 1), rfl, ?_, ?_⟩
        · rw [List.map_map]
          exact .inl (.inl hD)
        · have e : fitsB hands xs = (xs.map fun x => whB x 0 (hands - 1)).all id := by
            unfold fitsB
            rw [decide_eq_true c, Bool.true_and, List.all_map]
            rfl
          rw [← e]
          exact q _ s2
    by_cases c1 : (1 : Int) ≤ (xs.length : Int)
    · rw [decide_eq_true c1]
      refine iteT ?_
      walk_at "rd"
      by_cases c2 : (xs.length : Int) ≤ 64
      · rw [decide_eq_true c2]
        exact iteF (fin ⟨by omega, by omega⟩)
      · rw [decide_eq_false c2]
        refine iteT ?_
        have e : fitsB hands xs = false := by
          unfold fitsB
          rw [decide_eq_false (by omega), Bool.false_and]
        rw [e] at q
        exact q _ (L2.Same.refl _)
    · rw [decide_eq_false c1]
      refine iteF ?_
      walk_at "rd"
      refine iteT ?_
      have e : fitsB hands xs = false := by
        unfold fitsB
        rw [decide_eq_false (by omega), Bool.false_and]
      rw [e] at q
      exact q _ (L2.Same.refl _)

/-! check_row -/
/-- a row of hands, or NoHands, NoRow raised -/
def sp_check_row (K : PySem.W.Frag) : Sp := fun vs H Q E => ∃ (x y : V) (a b : Ar), vs = [x, y] ∧ ArOk K H a x ∧ ArOk K H b y ∧ ∀ H', Same H H' → Fin1 K (cRow a b) Q E H'
theorem c_check_row (T : Txt K mg) : CalX P w K mg base 5 "check_row" ["hands", "row"] (sp_check_row K) := by
  refine T.f_check_row.calX sc_check_row (fun _ _ _ _ _ _ us hl => match us, hl with | [_, _], _ => rfl) (fun vs H Q E h => by first | (obtain ⟨_, rfl, _⟩ := h; rfl) | (obtain ⟨_, _, rfl, _⟩ := h; rfl) | (obtain ⟨_, _, _, rfl, _⟩ := h; rfl) | (obtain ⟨_, _, _, _, rfl, _⟩ := h; rfl) | (obtain ⟨_, _, _, _, _, rfl, _⟩ := h; rfl) | (obtain ⟨_, _, _, _, _, _, rfl, _⟩ := h; rfl) | (obtain ⟨_, _, _, _, _, _, _, rfl, _⟩ := h; rfl) | (obtain ⟨_, _, _, _, _, _, _, _, rfl, _⟩ := h; rfl) | (obtain ⟨_, _, _, _, _, _, _, _, _, rfl, _⟩ := h; rfl) | (obtain ⟨_, _, _, _, _, _, _, _, _, _, rfl, _⟩ := h; rfl) | (obtain ⟨_, _, _, _, _, _, _, _, _, _, _, rfl, _⟩ := h; rfl) | (obtain ⟨_, _, _, _, _, _, _, _, _, _, _, _, rfl, _⟩ := h; rfl) | (obtain ⟨_, _, _, _, _, _, _, _, _, _, _, _, _, rfl, _⟩ := h; rfl)) (fun cdv A outer s H vs Q E f hr h => ?_)
  obtain ⟨x, y, a, b, rfl, h0, h1, q⟩ := h
  refine ⟨_, (pss_cons (ps_expr (pe_calX (c_check_hands T) hr (by decide) (L2N.takes_of rfl rfl rfl rfl) (pa_cons (pv 0) pa_nil)))
    (pss_one (ps_if (PT.nox (pt_not (pt_val (pe_cal (c_fits_row T) hr (by decide) (pa_cons (pv 0) (pa_cons (pv 1) pa_nil)))))) (pss_one (L2N.ps_raise rfl (L2N.takes_of rfl rfl rfl rfl) (pmk_at (T.excs.cls "NoRow" (by decide))))) pss_nil))), ?_⟩
  walk_at "rd"
  refine ⟨x, a, rfl, h0, Fin1.seq q (L2.Same.refl _) fun e0 q => ?_⟩
  obtain ⟨ex, _, _⟩ := frA_int h0 (noIf_none e0)
  subst ex
  walk_at "rd"
  refine ⟨intA a, y, rfl, ?_⟩
  rcases h1.tuple with ⟨xs, r, rfl, rfl, hS, hp, hl⟩ | ⟨hn, n, tn, kn⟩
  · refine .inr ⟨r, xs, rfl, hS, hl, fun z hz => ?_, fun H' s => ⟨_, rfl, ?_⟩⟩
    · obtain ⟨b, hb⟩ := pln_wh (K := K) (List.all_eq_true.mp hp z hz)
      exact ⟨b, fun H' _ => hb H'⟩
    · have q2 := (q H' s).no
      cases e : fitsB (intA a) xs with
      | true => exact iteF (q2.1 e)
      | false => exact iteT (q2.2 e)
  · refine .inl ⟨n, tn, kn, ⟨_, rfl, iteT ?_⟩⟩
    refine (q H (L2.Same.refl _)).no.2 ?_
    cases b with
    | tup xs => exact absurd rfl (hn xs)
    | _ => rfl

/-! calming -/
def cCalm (a b f e g : Ar) : Option Rf := Rf.or (cRow a b) (Rf.or (cFore b f e g) (cLen (lenA b) 24))
def sp_calming (K : PySem.W.Frag) : Sp := fun vs H Q E => ∃ (x y t v m : V) (a b f e g : Ar), vs = [x, y, t, v, m] ∧ ArOk K H a x ∧ ArOk K H b y ∧ ArOk K H f t ∧ ArOk K H e v ∧ ArOk K H g m ∧ ∀ H', Same H H' → Fin1 K (cCalm a b f e g) (fun _ _ => False) E H'
theorem fk_calming (T : Txt K mg) : ∃ f fd, FunD K "calming" "calming" (defArgs S_calming) (defBody S_calming) (defScope S_calming) [] [("bound", .int 1)] f fd ∧ mg "calming" = some (.ref f) ∧ FnOk P w K mg base (L2N.CX P w) 6 f fd ["hands", "row", "told", "order", "bound"] (sp_calming K) := by
  refine T.f_calming.fnX sc_calming (fun vs H Q E h => by first | (obtain ⟨_, rfl, _⟩ := h; rfl) | (obtain ⟨_, _, rfl, _⟩ := h; rfl) | (obtain ⟨_, _, _, rfl, _⟩ := h; rfl) | (obtain ⟨_, _, _, _, rfl, _⟩ := h; rfl) | (obtain ⟨_, _, _, _, _, rfl, _⟩ := h; rfl) | (obtain ⟨_, _, _, _, _, _, rfl, _⟩ := h; rfl) | (obtain ⟨_, _, _, _, _, _, _, rfl, _⟩ := h; rfl) | (obtain ⟨_, _, _, _, _, _, _, _, rfl, _⟩ := h; rfl) | (obtain ⟨_, _, _, _, _, _, _, _, _, rfl, _⟩ := h; rfl) | (obtain ⟨_, _, _, _, _, _, _, _, _, _, rfl, _⟩ := h; rfl) | (obtain ⟨_, _, _, _, _, _, _, _, _, _, _, rfl, _⟩ := h; rfl) | (obtain ⟨_, _, _, _, _, _, _, _, _, _, _, _, rfl, _⟩ := h; rfl) | (obtain ⟨_, _, _, _, _, _, _, _, _, _, _, _, _, rfl, _⟩ := h; rfl)) (fun cdv A outer s H vs Q E f hr h => ?_)
  obtain ⟨x, y, t, v, m, a, b, f, e, g, rfl, h0, h1, hf, h4, h5, q⟩ := h
  refine ⟨_, (pss_cons (ps_expr (pe_calX (c_check_row T) hr (by decide) (L2N.takes_of rfl rfl rfl rfl) (pa_cons (pv 0) (pa_cons (pv 1) pa_nil))))
    (pss_cons (ps_expr (pe_calX (c_check_foreseeing T) hr (by decide) (L2N.takes_of rfl rfl rfl rfl) (pa_cons (pv 1) (pa_cons (pv 2) (pa_cons (pv 3) (pa_cons (pv 4) pa_nil))))))
    (pss_cons (ps_expr (pe_calX (c_check_length T) hr (by decide) (L2N.takes_of rfl rfl rfl rfl) (pa_cons (pe_callB (kz_len (K := K)) (by rfl) T.b_len bt_len (pa_cons (pv 1) pa_nil)) (pa_cons (pe_kon T.k_MOST_CALMED) pa_nil))))
    pss_never))), ?_⟩
  walk_at "rd"
  refine ⟨x, y, a, b, rfl, h0, h1, fun H1 s1 => Fin1.seq q s1 fun e0 q1 => ?_⟩
  obtain ⟨xs, r, rfl, rfl, hS⟩ := rowA_tup h1 (noIf_none (or_none e0).2)
  walk_at "rd"
  refine ⟨r, xs, t, v, m, f, e, g, rfl, seqT s1 hS, hf.same s1, fun _ => ⟨h4.same s1, h5.same s1⟩, fun H2 s2 => Fin1.seq q1 s2 fun e1 q2 => ?_⟩
  walk_at "rd"
  refine ⟨r, _, rfl, .inr (seqT (s1.trans s2) hS), ?_⟩
  walk_at "rd"
  exact q2 H2 (L2.Same.refl _)
theorem cd_calming (T : Txt K mg) : CalDX P w K mg base 6 "calming" ["hands", "row", "told", "order", "bound"] (sp_calming K) (.int 1) := by
  obtain ⟨f, fd, F, m, G⟩ := fk_calming (P := P) (w := w) (base := base) T
  obtain ⟨ds, r, b⟩ := F.binds0 (ps := ["hands", "row", "told", "order", "bound"]) 4 (by simp) rfl (fun D doc pm an cdv ct us ks hl hk => match us, ks, hl, hk with | [_, _, _, _], [_], _, _ => ⟨_, _, _, _, _, _, rfl, rfl, rfl⟩)
  exact ⟨f, fd, ds, G, m, F.kp, b, r⟩
theorem ck_calming (T : Txt K mg) : CalKX P w K mg base 6 "calming" ["hands", "row", "told", "order", "bound"] (sp_calming K) 4 "bound" := by
  obtain ⟨f, fd, F, m, G⟩ := fk_calming (P := P) (w := w) (base := base) T
  refine ⟨f, fd, G, m, F.kp, ⟨fun s us ws _ hl hw => ?_, fun r1 r2 => r1.append r2⟩⟩
  obtain ⟨oc, od, dV, kV, doc, pm, an, cdv, ct, osl, rfl, lk, hcd, hD, hK⟩ := F.ex
  rcases hD with ⟨_, rfl⟩ | ⟨e, _⟩
  · exact match us, ws, hl, hw with | [_, _, _, _], [_], _, _ => .of_eq rfl
  · exact absurd rfl e

/-! check_degree -/
/-- a degree, or NoDegree raised -/
def sp_check_degree (K : PySem.W.Frag) : Sp := fun vs H Q E => ∃ (x : V) (a : Ar) (m : Int), vs = [x, .int m] ∧ ArOk K H a x ∧ (0 ≤ m ∧ m ≤ 100) ∧ Fin1 K (cFrom a 0 m .degree) Q E H
theorem fk_check_degree (T : Txt K mg) : ∃ f fd, FunD K "check_degree" "check_degree" (defArgs S_check_degree) (defBody S_check_degree) (defScope S_check_degree) [] [("most", .int 9)] f fd ∧ mg "check_degree" = some (.ref f) ∧ FnOk P w K mg base (L2N.CX P w) 3 f fd ["degree", "most"] (sp_check_degree K) := by
  refine T.f_check_degree.fnX sc_check_degree (fun vs H Q E h => by first | (obtain ⟨_, rfl, _⟩ := h; rfl) | (obtain ⟨_, _, rfl, _⟩ := h; rfl) | (obtain ⟨_, _, _, rfl, _⟩ := h; rfl) | (obtain ⟨_, _, _, _, rfl, _⟩ := h; rfl) | (obtain ⟨_, _, _, _, _, rfl, _⟩ := h; rfl) | (obtain ⟨_, _, _, _, _, _, rfl, _⟩ := h; rfl) | (obtain ⟨_, _, _, _, _, _, _, rfl, _⟩ := h; rfl) | (obtain ⟨_, _, _, _, _, _, _, _, rfl, _⟩ := h; rfl) | (obtain ⟨_, _, _, _, _, _, _, _, _, rfl, _⟩ := h; rfl) | (obtain ⟨_, _, _, _, _, _, _, _, _, _, rfl, _⟩ := h; rfl) | (obtain ⟨_, _, _, _, _, _, _, _, _, _, _, rfl, _⟩ := h; rfl) | (obtain ⟨_, _, _, _, _, _, _, _, _, _, _, _, rfl, _⟩ := h; rfl) | (obtain ⟨_, _, _, _, _, _, _, _, _, _, _, _, _, rfl, _⟩ := h; rfl)) (fun cdv A outer s H vs Q E f hr h => ?_)
  obtain ⟨x, a, m, rfl, h0, hm, q⟩ := h
  refine ⟨_, (pss_one (ps_if (PT.nox (pt_not (pt_val (pe_cal (c_is_from_to T) hr (by decide) (pa_cons (pv 0) (pa_cons pe_int (pa_cons (pv 1) pa_nil))))))) (pss_one (L2N.ps_raise rfl (L2N.takes_of rfl rfl rfl rfl) (pmk_te (T.excs.cls "NoDegree" (by decide)) (pe_joined (.cons pe_str (.cons (pe_fmt (pv 1)) .nil)))))) pss_nil)), ?_⟩
  obtain ⟨b, hw⟩ := h0.wh
  walk_at "rd"
  refine ⟨x, 0, m, b, rfl, hw, _, rfl, ?_⟩
  rw [h0.fr]
  cases e : frA a 0 m with
  | true => exact iteF (q.no.1 e)
  | false =>
    refine iteT ?_
    have qe := q.no.2 e
    walk_at "rd"
    obtain ⟨z1, z2⟩ := int_shortZ hm.1 hm.2
    have hs := sizeLine_eq
    refine .inr ⟨m, rfl, z2, _, rfl, ?_, qe⟩
    rw [Str.length_append, Str.length_append, show (Str.empty).length = 0 from rfl, show (Str.ofString "a degree is a whole number from 0 to ").length = 37 from by decide +kernel]
    omega
theorem cd_check_degree (T : Txt K mg) : CalDX P w K mg base 3 "check_degree" ["degree", "most"] (sp_check_degree K) (.int 9) := by
  obtain ⟨f, fd, F, m, G⟩ := fk_check_degree (P := P) (w := w) (base := base) T
  obtain ⟨ds, r, b⟩ := F.binds0 (ps := ["degree", "most"]) 1 (by simp) rfl (fun D doc pm an cdv ct us ks hl hk => match us, ks, hl, hk with | [_], [_], _, _ => ⟨_, _, _, _, _, _, rfl, rfl, rfl⟩)
  exact ⟨f, fd, ds, G, m, F.kp, b, r⟩
theorem ck_check_degree (T : Txt K mg) : CalKX P w K mg base 3 "check_degree" ["degree", "most"] (sp_check_degree K) 1 "most" := by
  obtain ⟨f, fd, F, m, G⟩ := fk_check_degree (P := P) (w := w) (base := base) T
  refine ⟨f, fd, G, m, F.kp, ⟨fun s us ws _ hl hw => ?_, fun r1 r2 => r1.append r2⟩⟩
  obtain ⟨oc, od, dV, kV, doc, pm, an, cdv, ct, osl, rfl, lk, hcd, hD, hK⟩ := F.ex
  rcases hD with ⟨_, rfl⟩ | ⟨e, _⟩
  · exact match us, ws, hl, hw with | [_], [_], _, _ => .of_eq rfl
  · exact absurd rfl e

/-! counted -/
def mostCounted (m : Int) : Int := if m = 2 then 12 else if m = 3 then 8 else 6
def cCounted (a b c : Ar) : Option Rf := Rf.or (cHands a) (Rf.or (cFrom b 1 (mostCounted (intA a)) .places) (cFrom c 0 3 .degree))
def sp_counted (K : PySem.W.Frag) : Sp := fun vs H Q E => ∃ (x y z : V) (a b c : Ar), vs = [x, y, z] ∧ ArOk K H a x ∧ ArOk K H b y ∧ ArOk K H c z ∧ ∀ H', Same H H' → Fin1 K (cCounted a b c) (fun _ _ => False) E H'
theorem c_counted (T : Txt K mg) : CalX P w K mg base 4 "counted" ["hands", "places", "degree"] (sp_counted K) := by
  refine T.f_counted.calX sc_counted (fun _ _ _ _ _ _ us hl => match us, hl with | [_, _, _], _ => rfl) (fun vs H Q E h => by first | (obtain ⟨_, rfl, _⟩ := h; rfl) | (obtain ⟨_, _, rfl, _⟩ := h; rfl) | (obtain ⟨_, _, _, rfl, _⟩ := h; rfl) | (obtain ⟨_, _, _, _, rfl, _⟩ := h; rfl) | (obtain ⟨_, _, _, _, _, rfl, _⟩ := h; rfl) | (obtain ⟨_, _, _, _, _, _, rfl, _⟩ := h; rfl) | (obtain ⟨_, _, _, _, _, _, _, rfl, _⟩ := h; rfl) | (obtain ⟨_, _, _, _, _, _, _, _, rfl, _⟩ := h; rfl) | (obtain ⟨_, _, _, _, _, _, _, _, _, rfl, _⟩ := h; rfl) | (obtain ⟨_, _, _, _, _, _, _, _, _, _, rfl, _⟩ := h; rfl) | (obtain ⟨_, _, _, _, _, _, _, _, _, _, _, rfl, _⟩ := h; rfl) | (obtain ⟨_, _, _, _, _, _, _, _, _, _, _, _, rfl, _⟩ := h; rfl) | (obtain ⟨_, _, _, _, _, _, _, _, _, _, _, _, _, rfl, _⟩ := h; rfl)) (fun cdv A outer s H vs Q E f hr h => ?_)
  obtain ⟨x, y, z, a, b, c, rfl, h0, h1, h2, q⟩ := h
  refine ⟨_, (pss_cons (ps_expr (pe_calX (c_check_hands T) hr (by decide) (L2N.takes_of rfl rfl rfl rfl) (pa_cons (pv 0) pa_nil)))
    (pss_cons (ps_expr (pe_calDX (cd_check_places T) hr (by decide) (L2N.takes_of rfl rfl rfl rfl) (pa_cons (pv 1) (pa_cons (pe_ix (kz_ixI (K := K)) (pe_glob (v := .ref (He.ga K "MOST_COUNTED_OF")) (by rfl) T.d_MOST_COUNTED_OF.1 rfl) (pv 0) (fun _ _ => rfl)) pa_nil))))
    (pss_cons (ps_expr (pe_calKX (ck_check_degree T) hr (by decide) (L2N.takes_of rfl rfl rfl rfl) (pa_cons (pv 2) pa_nil) (pk_cons (pe_kon T.k_MOST_COUNTED_DEGREE) pk_nil)))
    pss_never))), ?_⟩
  walk_at "rd"
  refine ⟨x, a, rfl, h0, Fin1.seq q (L2.Same.refl _) fun e0 q1 => ?_⟩
  obtain ⟨ex, m2, m4⟩ := frA_int h0 (noIf_none e0)
  subst ex
  generalize intA a = m at q1 m2 m4 ⊢
  have nm : (m, mostCounted m) ∈ [((2 : Int), (12 : Int)), ((3 : Int), (8 : Int)), ((4 : Int), (6 : Int))] := by
    rcases (show m = 2 ∨ m = 3 ∨ m = 4 by omega) with z | z | z <;> subst z <;> decide
  have b100 : 0 ≤ mostCounted m ∧ mostCounted m ≤ 100 := by
    rcases (show m = 2 ∨ m = 3 ∨ m = 4 by omega) with z | z | z <;> subst z <;> decide
  have dic := (T.d_MOST_COUNTED_OF).2 _ nm
  walk_at "rd"
  refine ⟨_, m, .int (mostCounted m), rfl, rfl, dic, ?_⟩
  walk_at "rd"
  dsimp only [tNil]
  refine ⟨y, b, mostCounted m, 1, rfl, h1, b100, by decide, Fin1.seq q1 (L2.Same.refl _) fun e1 q2 => ?_⟩
  walk_at "rd"
  exact ⟨z, c, 3, rfl, h2, by decide, q2 H (L2.Same.refl _)⟩

/-! check_two_places -/
/-- two places of a row, or NoPlaces raised -/
def sp_check_two_places (K : PySem.W.Frag) : Sp := fun vs H Q E => ∃ (r : Addr) (xs : List V) (x y : V) (a b : Ar), vs = [.ref r, x, y] ∧ SqT K H r xs ∧ ArOk K H a x ∧ ArOk K H b y ∧ Fin1 K (cTwoP xs.length a b) Q E H
theorem c_check_two_places (T : Txt K mg) : CalX P w K mg base 3 "check_two_places" ["row", "one", "other"] (sp_check_two_places K) := by
  refine T.f_check_two_places.calX sc_check_two_places (fun _ _ _ _ _ _ us hl => match us, hl with | [_, _, _], _ => rfl) (fun vs H Q E h => by first | (obtain ⟨_, rfl, _⟩ := h; rfl) | (obtain ⟨_, _, rfl, _⟩ := h; rfl) | (obtain ⟨_, _, _, rfl, _⟩ := h; rfl) | (obtain ⟨_, _, _, _, rfl, _⟩ := h; rfl) | (obtain ⟨_, _, _, _, _, rfl, _⟩ := h; rfl) | (obtain ⟨_, _, _, _, _, _, rfl, _⟩ := h; rfl) | (obtain ⟨_, _, _, _, _, _, _, rfl, _⟩ := h; rfl) | (obtain ⟨_, _, _, _, _, _, _, _, rfl, _⟩ := h; rfl) | (obtain ⟨_, _, _, _, _, _, _, _, _, rfl, _⟩ := h; rfl) | (obtain ⟨_, _, _, _, _, _, _, _, _, _, rfl, _⟩ := h; rfl) | (obtain ⟨_, _, _, _, _, _, _, _, _, _, _, rfl, _⟩ := h; rfl) | (obtain ⟨_, _, _, _, _, _, _, _, _, _, _, _, rfl, _⟩ := h; rfl) | (obtain ⟨_, _, _, _, _, _, _, _, _, _, _, _, _, rfl, _⟩ := h; rfl)) (fun cdv A outer s H vs Q E f hr h => ?_)
  obtain ⟨r, xs, x, y, a, b, rfl, hS, h0, h1, q⟩ := h
  refine ⟨_, (pss_cons (ps_nox (ps_set (i := 3) sc_check_two_places.nd rfl (.inl rfl) (pe_op op_sub (pe_callB (kz_len (K := K)) (by rfl) T.b_len bt_len (pa_cons (pv 0) pa_nil)) pe_int)))
    (pss_cons (ps_if (PT.nox (PW.pt (pw_or (pt_not (pt_val (pe_cal (c_is_from_to T) hr (by decide) (pa_cons (pv 1) (pa_cons pe_int (pa_cons (pv 3) pa_nil)))))) (pw_or1 (pt_not (pt_val (pe_cal (c_is_from_to T) hr (by decide) (pa_cons (pv 2) (pa_cons pe_int (pa_cons (pv 3) pa_nil)))))))))) (pss_one (L2N.ps_raise rfl (L2N.takes_of rfl rfl rfl rfl) (pmk_at (T.excs.cls "NoPlaces" (by decide))))) pss_nil)
    (pss_one (ps_if (PT.nox (pt_cmpR op_eq (pv 1) (pv 2) (nomark _))) (pss_one (L2N.ps_raise rfl (L2N.takes_of rfl rfl rfl rfl) (pmk_at (T.excs.cls "NoPlaces" (by decide))))) pss_nil)))), ?_⟩
  obtain ⟨b0, w0⟩ := h0.wh
  obtain ⟨b1, w1⟩ := h1.wh
  have q2 := q.no
  walk_at "rd"
  refine ⟨x, 0, _, b0, rfl, w0, _, rfl, ?_⟩
  rw [h0.fr]
  cases e0 : frA a 0 ((xs.length : Int) - 1) with
  | false => exact iteT (q2.2 (by rw [e0]; rfl))
  | true =>
    refine iteF ?_
    walk_at "rd"
    refine ⟨y, 0, _, b1, rfl, w1, _, rfl, ?_⟩
    rw [h1.fr]
    cases e1 : frA b 0 ((xs.length : Int) - 1) with
    | false => exact iteT (q2.2 (by rw [e0, e1]; rfl))
    | true =>
      refine iteF ?_
      obtain ⟨ex, _, _⟩ := frA_int h0 e0
      obtain ⟨ey, _, _⟩ := frA_int h1 e1
      subst ex ey
      rw [e0, e1, Bool.true_and, Bool.true_and] at q2
      walk_at "rd"
      refine ite2 (fun c => q2.2 (by rw [decide_eq_true (V.int.inj (of_decide_eq_true c))]; rfl)) (fun c => q2.1 (by rw [decide_eq_false (fun z => c (by rw [z]; exact decide_eq_true rfl))]; rfl))

/-! exchange_of -/
def sp_exchange_of (K : PySem.W.Frag) : Sp := fun vs H Q _ => ∃ (r : Addr) (row : List Int) (i j : Nat), vs = [.ref r, .int (i : Int), .int (j : Int)] ∧ (SqL K H r (row.map V.int) ∨ SqT K H r (row.map V.int)) ∧ i < row.length ∧ j < row.length ∧
  ∀ (p : Addr) (H' : Hp), H p = none → Same H H' → H' p = some (.tup ((swp row i j).map V.int)) → Q (.ref p) H'
theorem c_exchange_of (T : Txt K mg) : Cal P w K mg base 1 "exchange_of" ["row", "one", "other"] (sp_exchange_of K) := by
  refine T.f_exchange_of.cal sc_exchange_of (fun _ _ _ _ _ _ us hl => match us, hl with | [_, _, _], _ => rfl) (fun vs H Q E h => by first | (obtain ⟨_, rfl, _⟩ := h; rfl) | (obtain ⟨_, _, rfl, _⟩ := h; rfl) | (obtain ⟨_, _, _, rfl, _⟩ := h; rfl) | (obtain ⟨_, _, _, _, rfl, _⟩ := h; rfl) | (obtain ⟨_, _, _, _, _, rfl, _⟩ := h; rfl) | (obtain ⟨_, _, _, _, _, _, rfl, _⟩ := h; rfl) | (obtain ⟨_, _, _, _, _, _, _, rfl, _⟩ := h; rfl) | (obtain ⟨_, _, _, _, _, _, _, _, rfl, _⟩ := h; rfl) | (obtain ⟨_, _, _, _, _, _, _, _, _, rfl, _⟩ := h; rfl) | (obtain ⟨_, _, _, _, _, _, _, _, _, _, rfl, _⟩ := h; rfl) | (obtain ⟨_, _, _, _, _, _, _, _, _, _, _, rfl, _⟩ := h; rfl) | (obtain ⟨_, _, _, _, _, _, _, _, _, _, _, _, rfl, _⟩ := h; rfl) | (obtain ⟨_, _, _, _, _, _, _, _, _, _, _, _, _, rfl, _⟩ := h; rfl)) (fun cdv A outer s H vs Q E f hr h => ?_)
  obtain ⟨r, row, i, j, rfl, hS, hi, hj, q⟩ := h
  refine ⟨_, (pss_cons (ps_set (i := 3) sc_exchange_of.nd rfl (.inl rfl) (pe_callTy (kz_list (K := K)) (by rfl) T.b_list bt_list (pa_cons (pv 0) pa_nil)))
    (pss_cons (ps_asg (pe_tup (pa_cons (pe_ix (kz_ixL (K := K)) (pv 3) (pv 2) (fun _ _ => rfl)) (pa_cons (pe_ix (kz_ixL (K := K)) (pv 3) (pv 1) (fun _ _ => rfl)) pa_nil))) (kz_gtup (K := K) 2 rfl (pgs_cons (pg_sub (pv 3) (pv 1) set_list) (pgs_cons (pg_sub (pv 3) (pv 2) set_list) pgs_nil))))
    (pss_one (ps_ret (pe_callTy (kz_tuple (K := K)) (by rfl) T.b_tuple bt_tuple (pa_cons (pv 3) pa_nil)))))), ?_⟩
  walk_at "rd"
  refine ⟨r, _, rfl, hS, fun l nl => ?_⟩
  have sl := same_new (o := .lst (row.map V.int)) nl
  have hl0 : (upd H l (.lst (row.map V.int))) l = some (.lst (row.map V.int)) := upd_same
  generalize upd H l (.lst (row.map V.int)) = H1 at sl hl0 ⊢
  change tSeq _ _ _ [some (.ref r), some (.int (i : Int)), some (.int (j : Int)), some (.ref l)] H1
  have hl' : SqL K H1 l (row.map V.int) := .inl (.inl hl0)
  have li : (i : Int) < row.length := by omega
  have lj : (j : Int) < row.length := by omega
  have ixm : ∀ (ro : List Int) (k : Nat), k < ro.length → ixN (ro.map V.int).length (k : Int) = some k := fun ro k h1 => by
    unfold ixN
    rw [if_pos (by omega), if_pos (by rw [List.length_map]; omega)]
    rfl
  refine ⟨_, rfl, _, rfl, _, _, _, _, rfl, rfl, hl', at_intI (by omega) lj, ?_⟩
  refine ⟨_, rfl, _, rfl, _, _, _, _, rfl, rfl, hl', at_intI (by omega) li, ?_⟩
  refine ⟨by show 2 ≤ sizeLine; decide, fun u nu => ?_⟩
  rw [Int.toNat_natCast, Int.toNat_natCast]
  have su := same_new (o := .tup [.int (row.getD j 0), .int (row.getD i 0)]) nu
  refine ⟨u, _, rfl, .inl (.inl upd_same), rfl, ?_⟩
  have hl6 := su _ _ hl0
  have s6 := sl.trans su
  generalize upd H1 u (.tup [.int (row.getD j 0), .int (row.getD i 0)]) = H6 at su hl6 s6 ⊢
  refine ⟨_, _, rfl, _, rfl, _, rfl, l, _, (i : Int), i, rfl, rfl, hl6, ixm row i hi, ?_⟩
  rw [← List.map_set]
  refine ⟨_, _, rfl, _, rfl, _, rfl, l, _, (j : Int), j, rfl, rfl, upd_same, ixm _ j (by rw [List.length_set]; exact hj), ?_⟩
  rw [← List.map_set]
  walk_at "rd"
  refine ⟨l, _, rfl, .inl ⟨.inl (.inl upd_same), fun p np => ?_⟩⟩
  have sm : Same H (upd (upd H6 l (.lst ((row.set i (row.getD j 0)).map V.int))) l (.lst (((row.set i (row.getD j 0)).set j (row.getD i 0)).map V.int))) := fun c o hc => by
    have ncl : c ≠ l := fun e => by rw [e, nl] at hc; cases hc
    rw [upd_ne ncl, upd_ne ncl]
    exact s6 _ _ hc
  exact q p _ (none_back sm np) (same_then sm np) upd_same

/-! exchanged -/
def cExch (a b c d : Ar) : Option Rf := Rf.or (cRow a b) (cTwoP (lenA b) c d)
def sp_exchanged (K : PySem.W.Frag) : Sp := fun vs H Q E => ∃ (x y z u : V) (a b c d : Ar), vs = [x, y, z, u] ∧ ArOk K H a x ∧ ArOk K H b y ∧ ArOk K H c z ∧ ArOk K H d u ∧ ∀ H', Same H H' → Fin1 K (cExch a b c d) (fun _ H1 => ∀ (p : Addr) (H' : Hp), Same H1 H' → H' p = some (.tup ((swp (rowOf b) (intA c).toNat (intA d).toNat).map V.int)) → Q (.ref p) H') E H'
theorem c_exchanged (T : Txt K mg) : CalX P w K mg base 6 "exchanged" ["hands", "row", "one", "other"] (sp_exchanged K) := by
  refine T.f_exchanged.calX sc_exchanged (fun _ _ _ _ _ _ us hl => match us, hl with | [_, _, _, _], _ => rfl) (fun vs H Q E h => by first | (obtain ⟨_, rfl, _⟩ := h; rfl) | (obtain ⟨_, _, rfl, _⟩ := h; rfl) | (obtain ⟨_, _, _, rfl, _⟩ := h; rfl) | (obtain ⟨_, _, _, _, rfl, _⟩ := h; rfl) | (obtain ⟨_, _, _, _, _, rfl, _⟩ := h; rfl) | (obtain ⟨_, _, _, _, _, _, rfl, _⟩ := h; rfl) | (obtain ⟨_, _, _, _, _, _, _, rfl, _⟩ := h; rfl) | (obtain ⟨_, _, _, _, _, _, _, _, rfl, _⟩ := h; rfl) | (obtain ⟨_, _, _, _, _, _, _, _, _, rfl, _⟩ := h; rfl) | (obtain ⟨_, _, _, _, _, _, _, _, _, _, rfl, _⟩ := h; rfl) | (obtain ⟨_, _, _, _, _, _, _, _, _, _, _, rfl, _⟩ := h; rfl) | (obtain ⟨_, _, _, _, _, _, _, _, _, _, _, _, rfl, _⟩ := h; rfl) | (obtain ⟨_, _, _, _, _, _, _, _, _, _, _, _, _, rfl, _⟩ := h; rfl)) (fun cdv A outer s H vs Q E f hr h => ?_)
  obtain ⟨x, y, z, u, a, b, c, d, rfl, h0, h1, h2, h3, q⟩ := h
  refine ⟨_, (pss_cons (ps_expr (pe_calX (c_check_row T) hr (by decide) (L2N.takes_of rfl rfl rfl rfl) (pa_cons (pv 0) (pa_cons (pv 1) pa_nil))))
    (pss_cons (ps_expr (pe_calX (c_check_two_places T) hr (by decide) (L2N.takes_of rfl rfl rfl rfl) (pa_cons (pv 1) (pa_cons (pv 2) (pa_cons (pv 3) pa_nil)))))
    (pss_one (ps_nox (ps_ret (pe_cal (c_exchange_of T) hr (by decide) (pa_cons (pv 1) (pa_cons (pv 2) (pa_cons (pv 3) pa_nil))))))))), ?_⟩
  walk_at "rd"
  refine ⟨x, y, a, b, rfl, h0, h1, fun H1 s1 => Fin1.seq q s1 fun e0 q1 => ?_⟩
  obtain ⟨r, rfl, rfl, ok, hS, lr0⟩ := row_facts h0 h1 e0
  have hS1 := seqT s1 hS
  rw [lr0] at q1
  have q2 := q1 H1 (L2.Same.refl _)
  walk_at "rd"
  refine ⟨r, _, z, u, c, d, rfl, hS1, h2.same s1, h3.same s1, ?_⟩
  rw [List.length_map]
  refine Fin1.fin q2 fun e1 q3 => ?_
  have g := noIf_none e1
  rw [Bool.and_eq_true, Bool.and_eq_true] at g
  obtain ⟨ez, z0, z1⟩ := frA_int h2 g.1
  obtain ⟨eu, u0, u1⟩ := frA_int h3 g.2.1
  subst ez eu
  walk_at "rd"
  exact ⟨r, rowOf b, (intA c).toNat, (intA d).toNat, by rw [Int.toNat_of_nonneg z0, Int.toNat_of_nonneg u0]; rfl, .inr hS1, by omega, by omega, fun p H2 np s2 hp => q3 p H2 s2 hp⟩

/-! check_two_hands -/
/-- two hands, or NoHand raised -/
def sp_check_two_hands (K : PySem.W.Frag) : Sp := fun vs H Q E => ∃ (m : Int) (x y : V) (a b : Ar), vs = [.int m, x, y] ∧ ArOk K H a x ∧ ArOk K H b y ∧ Fin1 K (cTwoH m a b) Q E H
theorem c_check_two_hands (T : Txt K mg) : CalX P w K mg base 4 "check_two_hands" ["hands", "one", "other"] (sp_check_two_hands K) := by
  refine T.f_check_two_hands.calX sc_check_two_hands (fun _ _ _ _ _ _ us hl => match us, hl with | [_, _, _], _ => rfl) (fun vs H Q E h => by first | (obtain ⟨_, rfl, _⟩ := h; rfl) | (obtain ⟨_, _, rfl, _⟩ := h; rfl) | (obtain ⟨_, _, _, rfl, _⟩ := h; rfl) | (obtain ⟨_, _, _, _, rfl, _⟩ := h; rfl) | (obtain ⟨_, _, _, _, _, rfl, _⟩ := h; rfl) | (obtain ⟨_, _, _, _, _, _, rfl, _⟩ := h; rfl) | (obtain ⟨_, _, _, _, _, _, _, rfl, _⟩ := h; rfl) | (obtain ⟨_, _, _, _, _, _, _, _, rfl, _⟩ := h; rfl) | (obtain ⟨_, _, _, _, _, _, _, _, _, rfl, _⟩ := h; rfl) | (obtain ⟨_, _, _, _, _, _, _, _, _, _, rfl, _⟩ := h; rfl) | (obtain ⟨_, _, _, _, _, _, _, _, _, _, _, rfl, _⟩ := h; rfl) | (obtain ⟨_, _, _, _, _, _, _, _, _, _, _, _, rfl, _⟩ := h; rfl) | (obtain ⟨_, _, _, _, _, _, _, _, _, _, _, _, _, rfl, _⟩ := h; rfl)) (fun cdv A outer s H vs Q E f hr h => ?_)
  obtain ⟨m, x, y, a, b, rfl, h0, h1, q⟩ := h
  refine ⟨_, (pss_cons (ps_if (PT.nox (PW.pt (pw_or (pt_not (pt_val (pe_cal (c_is_hand T) hr (by decide) (pa_cons (pv 0) (pa_cons (pv 1) pa_nil))))) (pw_or1 (pt_not (pt_val (pe_cal (c_is_hand T) hr (by decide) (pa_cons (pv 0) (pa_cons (pv 2) pa_nil))))))))) (pss_one (L2N.ps_raise rfl (L2N.takes_of rfl rfl rfl rfl) (pmk_at (T.excs.cls "NoHand" (by decide))))) pss_nil)
    (pss_one (ps_if (PT.nox (pt_cmpR op_eq (pv 1) (pv 2) (nomark _))) (pss_one (L2N.ps_raise rfl (L2N.takes_of rfl rfl rfl rfl) (pmk_at (T.excs.cls "NoHand" (by decide))))) pss_nil))), ?_⟩
  obtain ⟨b0, w0⟩ := h0.wh
  obtain ⟨b1, w1⟩ := h1.wh
  have q2 := q.no
  walk_at "rd"
  refine ⟨x, m, b0, rfl, w0, _, rfl, ?_⟩
  rw [h0.fr]
  cases e0 : frA a 0 (m - 1) with
  | false => exact iteT (q2.2 (by rw [e0]; rfl))
  | true =>
    refine iteF ?_
    walk_at "rd"
    refine ⟨y, m, b1, rfl, w1, _, rfl, ?_⟩
    rw [h1.fr]
    cases e1 : frA b 0 (m - 1) with
    | false => exact iteT (q2.2 (by rw [e0, e1]; rfl))
    | true =>
      refine iteF ?_
      obtain ⟨ex, _, _⟩ := frA_int h0 e0
      obtain ⟨ey, _, _⟩ := frA_int h1 e1
      subst ex ey
      rw [e0, e1, Bool.true_and, Bool.true_and] at q2
      walk_at "rd"
      refine ite2 (fun c => q2.2 (by rw [decide_eq_true (V.int.inj (of_decide_eq_true c))]; rfl)) (fun c => q2.1 (by rw [decide_eq_false (fun z => c (by rw [z]; exact decide_eq_true rfl))]; rfl))

/-! check_two -/
/-- a row and two hands of it, or a refusal -/
def sp_check_two (K : PySem.W.Frag) : Sp := fun vs H Q E => ∃ (x y z u : V) (a b c d : Ar), vs = [x, y, z, u] ∧ ArOk K H a x ∧ ArOk K H b y ∧ ArOk K H c z ∧ ArOk K H d u ∧ ∀ H', Same H H' → Fin1 K (cTwo a b c d) Q E H'
theorem c_check_two (T : Txt K mg) : CalX P w K mg base 6 "check_two" ["hands", "row", "one", "other"] (sp_check_two K) := by
  refine T.f_check_two.calX sc_check_two (fun _ _ _ _ _ _ us hl => match us, hl with | [_, _, _, _], _ => rfl) (fun vs H Q E h => by first | (obtain ⟨_, rfl, _⟩ := h; rfl) | (obtain ⟨_, _, rfl, _⟩ := h; rfl) | (obtain ⟨_, _, _, rfl, _⟩ := h; rfl) | (obtain ⟨_, _, _, _, rfl, _⟩ := h; rfl) | (obtain ⟨_, _, _, _, _, rfl, _⟩ := h; rfl) | (obtain ⟨_, _, _, _, _, _, rfl, _⟩ := h; rfl) | (obtain ⟨_, _, _, _, _, _, _, rfl, _⟩ := h; rfl) | (obtain ⟨_, _, _, _, _, _, _, _, rfl, _⟩ := h; rfl) | (obtain ⟨_, _, _, _, _, _, _, _, _, rfl, _⟩ := h; rfl) | (obtain ⟨_, _, _, _, _, _, _, _, _, _, rfl, _⟩ := h; rfl) | (obtain ⟨_, _, _, _, _, _, _, _, _, _, _, rfl, _⟩ := h; rfl) | (obtain ⟨_, _, _, _, _, _, _, _, _, _, _, _, rfl, _⟩ := h; rfl) | (obtain ⟨_, _, _, _, _, _, _, _, _, _, _, _, _, rfl, _⟩ := h; rfl)) (fun cdv A outer s H vs Q E f hr h => ?_)
  obtain ⟨x, y, z, u, a, b, c, d, rfl, h0, h1, h2, h3, q⟩ := h
  refine ⟨_, (pss_cons (ps_expr (pe_calX (c_check_row T) hr (by decide) (L2N.takes_of rfl rfl rfl rfl) (pa_cons (pv 0) (pa_cons (pv 1) pa_nil))))
    (pss_one (ps_expr (pe_calX (c_check_two_hands T) hr (by decide) (L2N.takes_of rfl rfl rfl rfl) (pa_cons (pv 0) (pa_cons (pv 2) (pa_cons (pv 3) pa_nil))))))), ?_⟩
  walk_at "rd"
  refine ⟨x, y, a, b, rfl, h0, h1, fun H1 s1 => Fin1.seq q s1 fun e0 q => ?_⟩
  obtain ⟨ex, _, _⟩ := frA_int h0 (noIf_none (or_none e0).1)
  subst ex
  walk_at "rd"
  exact ⟨intA a, z, u, c, d, rfl, h2.same s1, h3.same s1, q H1 (L2.Same.refl _)⟩

/-! foreseen -/
def sp_foreseen (K : PySem.W.Frag) : Sp := fun vs H Q E => ∃ (x y t z u v m : V) (a b f c d e g : Ar), vs = [x, y, t, z, u, v, m] ∧ ArOk K H a x ∧ ArOk K H b y ∧ ArOk K H f t ∧ ArOk K H c z ∧ ArOk K H d u ∧ ArOk K H e v ∧ ArOk K H g m ∧ ∀ H', Same H H' → Fin1 K (Rf.or (cTwo a b c d) (cFore b f e g)) (fun _ _ => False) E H'
theorem fk_foreseen (T : Txt K mg) : ∃ f fd, FunD K "foreseen" "foreseen" (defArgs S_foreseen) (defBody S_foreseen) (defScope S_foreseen) [] [("bound", .int 1)] f fd ∧ mg "foreseen" = some (.ref f) ∧ FnOk P w K mg base (L2N.CX P w) 7 f fd ["hands", "row", "told", "one", "other", "order", "bound"] (sp_foreseen K) := by
  refine T.f_foreseen.fnX sc_foreseen (fun vs H Q E h => by first | (obtain ⟨_, _, _, _, _, _, _, _, _, _, _, _, _, _, rfl, _⟩ := h; rfl) | (obtain ⟨_, _, _, _, _, _, _, _, _, _, _, _, _, _, _, rfl, _⟩ := h; rfl) | (obtain ⟨_, _, _, _, _, _, _, _, _, _, _, _, _, _, _, _, rfl, _⟩ := h; rfl) | (obtain ⟨_, _, _, _, _, _, _, _, _, _, _, _, _, _, _, _, _, rfl, _⟩ := h; rfl) | (obtain ⟨_, _, _, _, _, _, _, _, _, _, _, _, _, _, _, _, _, _, rfl, _⟩ := h; rfl) | (obtain ⟨_, _, _, _, _, _, _, _, _, _, _, _, _, _, _, _, _, _, _, rfl, _⟩ := h; rfl) | (obtain ⟨_, _, _, _, _, _, _, _, _, _, _, _, _, _, _, _, _, _, _, _, rfl, _⟩ := h; rfl) | (obtain ⟨_, _, _, _, _, _, _, _, _, _, _, _, _, _, _, _, _, _, _, _, _, rfl, _⟩ := h; rfl) | (obtain ⟨_, _, _, _, _, _, _, _, _, _, _, _, _, _, _, _, _, _, _, _, _, _, rfl, _⟩ := h; rfl) | (obtain ⟨_, _, _, _, _, _, _, _, _, _, _, _, _, _, _, _, _, _, _, _, _, _, _, rfl, _⟩ := h; rfl)) (fun cdv A outer s H vs Q E f hr h => ?_)
  obtain ⟨x, y, t, z, u, v, m, a, b, f, c, d, e, g, rfl, h0, h1, hf, h2, h3, h4, h5, q⟩ := h
  refine ⟨_, (pss_cons (ps_expr (pe_calX (c_check_two T) hr (by decide) (L2N.takes_of rfl rfl rfl rfl) (pa_cons (pv 0) (pa_cons (pv 1) (pa_cons (pv 3) (pa_cons (pv 4) pa_nil))))))
    (pss_cons (ps_expr (pe_calX (c_check_foreseeing T) hr (by decide) (L2N.takes_of rfl rfl rfl rfl) (pa_cons (pv 1) (pa_cons (pv 2) (pa_cons (pv 5) (pa_cons (pv 6) pa_nil))))))
    pss_never)), ?_⟩
  walk_at "rd"
  refine ⟨x, y, z, u, a, b, c, d, rfl, h0, h1, h2, h3, fun H1 s1 => Fin1.seq q s1 fun e0 q1 => ?_⟩
  obtain ⟨xs, r, rfl, rfl, hS⟩ := rowA_tup h1 (noIf_none (or_none (or_none e0).1).2)
  walk_at "rd"
  exact ⟨r, xs, t, v, m, f, e, g, rfl, seqT s1 hS, hf.same s1, fun _ => ⟨h4.same s1, h5.same s1⟩, fun H2 s2 => q1 H2 s2⟩
theorem cd_foreseen (T : Txt K mg) : CalDX P w K mg base 7 "foreseen" ["hands", "row", "told", "one", "other", "order", "bound"] (sp_foreseen K) (.int 1) := by
  obtain ⟨f, fd, F, m, G⟩ := fk_foreseen (P := P) (w := w) (base := base) T
  obtain ⟨ds, r, b⟩ := F.binds0 (ps := ["hands", "row", "told", "one", "other", "order", "bound"]) 6 (by simp) rfl (fun D doc pm an cdv ct us ks hl hk => match us, ks, hl, hk with | [_, _, _, _, _, _], [_], _, _ => ⟨_, _, _, _, _, _, rfl, rfl, rfl⟩)
  exact ⟨f, fd, ds, G, m, F.kp, b, r⟩
theorem ck_foreseen (T : Txt K mg) : CalKX P w K mg base 7 "foreseen" ["hands", "row", "told", "one", "other", "order", "bound"] (sp_foreseen K) 6 "bound" := by
  obtain ⟨f, fd, F, m, G⟩ := fk_foreseen (P := P) (w := w) (base := base) T
  refine ⟨f, fd, G, m, F.kp, ⟨fun s us ws _ hl hw => ?_, fun r1 r2 => r1.append r2⟩⟩
  obtain ⟨oc, od, dV, kV, doc, pm, an, cdv, ct, osl, rfl, lk, hcd, hD, hK⟩ := F.ex
  rcases hD with ⟨_, rfl⟩ | ⟨e, _⟩
  · exact match us, ws, hl, hw with | [_, _, _, _, _, _], [_], _, _ => .of_eq rfl
  · exact absurd rfl e

/-! greatest -/
def cGrt (a b c d : Ar) : Option Rf := Rf.or (cRow a b) (Rf.or (cFrom c 1 4 .order) (cFrom d 0 99 .bound))
def sp_greatest (K : PySem.W.Frag) : Sp := fun vs H Q E => ∃ (x y z u : V) (a b c d : Ar), vs = [x, y, z, u] ∧ ArOk K H a x ∧ ArOk K H b y ∧ ArOk K H c z ∧ ArOk K H d u ∧ ∀ H', Same H H' → Fin1 K (cGrt a b c d) (fun _ _ => False) E H'
theorem fk_greatest (T : Txt K mg) : ∃ f fd, FunD K "greatest" "greatest" (defArgs S_greatest) (defBody S_greatest) (defScope S_greatest) [] [("bound", .int 1)] f fd ∧ mg "greatest" = some (.ref f) ∧ FnOk P w K mg base (L2N.CX P w) 6 f fd ["hands", "row", "order", "bound"] (sp_greatest K) := by
  refine T.f_greatest.fnX sc_greatest (fun vs H Q E h => by first | (obtain ⟨_, rfl, _⟩ := h; rfl) | (obtain ⟨_, _, rfl, _⟩ := h; rfl) | (obtain ⟨_, _, _, rfl, _⟩ := h; rfl) | (obtain ⟨_, _, _, _, rfl, _⟩ := h; rfl) | (obtain ⟨_, _, _, _, _, rfl, _⟩ := h; rfl) | (obtain ⟨_, _, _, _, _, _, rfl, _⟩ := h; rfl) | (obtain ⟨_, _, _, _, _, _, _, rfl, _⟩ := h; rfl) | (obtain ⟨_, _, _, _, _, _, _, _, rfl, _⟩ := h; rfl) | (obtain ⟨_, _, _, _, _, _, _, _, _, rfl, _⟩ := h; rfl) | (obtain ⟨_, _, _, _, _, _, _, _, _, _, rfl, _⟩ := h; rfl) | (obtain ⟨_, _, _, _, _, _, _, _, _, _, _, rfl, _⟩ := h; rfl) | (obtain ⟨_, _, _, _, _, _, _, _, _, _, _, _, rfl, _⟩ := h; rfl) | (obtain ⟨_, _, _, _, _, _, _, _, _, _, _, _, _, rfl, _⟩ := h; rfl)) (fun cdv A outer s H vs Q E f hr h => ?_)
  obtain ⟨x, y, z, u, a, b, c, d, rfl, h0, h1, h2, h3, q⟩ := h
  refine ⟨_, (pss_cons (ps_expr (pe_calX (c_check_row T) hr (by decide) (L2N.takes_of rfl rfl rfl rfl) (pa_cons (pv 0) (pa_cons (pv 1) pa_nil))))
    (pss_cons (ps_expr (pe_calX (c_check_lead_order T) hr (by decide) (L2N.takes_of rfl rfl rfl rfl) (pa_cons (pv 2) pa_nil)))
    (pss_cons (ps_expr (pe_calX (c_check_bound T) hr (by decide) (L2N.takes_of rfl rfl rfl rfl) (pa_cons (pv 3) pa_nil)))
    pss_never))), ?_⟩
  walk_at "rd"
  refine ⟨x, y, a, b, rfl, h0, h1, fun H1 s1 => Fin1.seq q s1 fun e0 q1 => ?_⟩
  walk_at "rd"
  refine ⟨z, c, rfl, h2.same s1, Fin1.seq q1 (L2.Same.refl _) fun e1 q2 => ?_⟩
  walk_at "rd"
  exact ⟨u, d, rfl, h3.same s1, q2 H1 (L2.Same.refl _)⟩
theorem cd_greatest (T : Txt K mg) : CalDX P w K mg base 6 "greatest" ["hands", "row", "order", "bound"] (sp_greatest K) (.int 1) := by
  obtain ⟨f, fd, F, m, G⟩ := fk_greatest (P := P) (w := w) (base := base) T
  obtain ⟨ds, r, b⟩ := F.binds0 (ps := ["hands", "row", "order", "bound"]) 3 (by simp) rfl (fun D doc pm an cdv ct us ks hl hk => match us, ks, hl, hk with | [_, _, _], [_], _, _ => ⟨_, _, _, _, _, _, rfl, rfl, rfl⟩)
  exact ⟨f, fd, ds, G, m, F.kp, b, r⟩
theorem ck_greatest (T : Txt K mg) : CalKX P w K mg base 6 "greatest" ["hands", "row", "order", "bound"] (sp_greatest K) 3 "bound" := by
  obtain ⟨f, fd, F, m, G⟩ := fk_greatest (P := P) (w := w) (base := base) T
  refine ⟨f, fd, G, m, F.kp, ⟨fun s us ws _ hl hw => ?_, fun r1 r2 => r1.append r2⟩⟩
  obtain ⟨oc, od, dV, kV, doc, pm, an, cdv, ct, osl, rfl, lk, hcd, hD, hK⟩ := F.ex
  rcases hD with ⟨_, rfl⟩ | ⟨e, _⟩
  · exact match us, ws, hl, hw with | [_, _, _], [_], _, _ => .of_eq rfl
  · exact absurd rfl e

/-! check_mending -/
/-- a row and an order to be mended by, or a refusal -/
def sp_check_mending (K : PySem.W.Frag) : Sp := fun vs H Q E => ∃ (x y z : V) (a b c : Ar), vs = [x, y, z] ∧ ArOk K H a x ∧ ArOk K H b y ∧ ArOk K H c z ∧ ∀ H', Same H H' → Fin1 K (cMend a b c) Q E H'
theorem c_check_mending (T : Txt K mg) : CalX P w K mg base 6 "check_mending" ["hands", "row", "order"] (sp_check_mending K) := by
  refine T.f_check_mending.calX sc_check_mending (fun _ _ _ _ _ _ us hl => match us, hl with | [_, _, _], _ => rfl) (fun vs H Q E h => by first | (obtain ⟨_, rfl, _⟩ := h; rfl) | (obtain ⟨_, _, rfl, _⟩ := h; rfl) | (obtain ⟨_, _, _, rfl, _⟩ := h; rfl) | (obtain ⟨_, _, _, _, rfl, _⟩ := h; rfl) | (obtain ⟨_, _, _, _, _, rfl, _⟩ := h; rfl) | (obtain ⟨_, _, _, _, _, _, rfl, _⟩ := h; rfl) | (obtain ⟨_, _, _, _, _, _, _, rfl, _⟩ := h; rfl) | (obtain ⟨_, _, _, _, _, _, _, _, rfl, _⟩ := h; rfl) | (obtain ⟨_, _, _, _, _, _, _, _, _, rfl, _⟩ := h; rfl) | (obtain ⟨_, _, _, _, _, _, _, _, _, _, rfl, _⟩ := h; rfl) | (obtain ⟨_, _, _, _, _, _, _, _, _, _, _, rfl, _⟩ := h; rfl) | (obtain ⟨_, _, _, _, _, _, _, _, _, _, _, _, rfl, _⟩ := h; rfl) | (obtain ⟨_, _, _, _, _, _, _, _, _, _, _, _, _, rfl, _⟩ := h; rfl)) (fun cdv A outer s H vs Q E f hr h => ?_)
  obtain ⟨x, y, z, a, b, c, rfl, h0, h1, h2, q⟩ := h
  refine ⟨_, (pss_cons (ps_expr (pe_calX (c_check_row T) hr (by decide) (L2N.takes_of rfl rfl rfl rfl) (pa_cons (pv 0) (pa_cons (pv 1) pa_nil))))
    (pss_cons (ps_expr (pe_calX (c_check_lead_order T) hr (by decide) (L2N.takes_of rfl rfl rfl rfl) (pa_cons (pv 2) pa_nil)))
    (pss_one (ps_expr (pe_calX (c_check_length T) hr (by decide) (L2N.takes_of rfl rfl rfl rfl) (pa_cons (pe_callB (kz_len (K := K)) (by rfl) T.b_len bt_len (pa_cons (pv 1) pa_nil)) (pa_cons (pe_kon T.k_MOST_MENDED) pa_nil))))))), ?_⟩
  walk_at "rd"
  refine ⟨x, y, a, b, rfl, h0, h1, fun H1 s1 => Fin1.seq q s1 fun e0 q => ?_⟩
  obtain ⟨xs, r, rfl, rfl, hS⟩ := rowA_tup h1 (noIf_none (or_none e0).2)
  walk_at "rd"
  refine ⟨z, c, rfl, h2.same s1, Fin1.seq q (L2.Same.refl _) fun e1 q => ?_⟩
  walk_at "rd"
  refine ⟨r, _, rfl, .inr (seqT s1 hS), ?_⟩
  walk_at "rd"
  exact q H1 (L2.Same.refl _)

/-! mended -/
def sp_mended (K : PySem.W.Frag) : Sp := fun vs H Q E => ∃ (x y z : V) (a b c : Ar), vs = [x, y, z] ∧ ArOk K H a x ∧ ArOk K H b y ∧ ArOk K H c z ∧ ∀ H', Same H H' → Fin1 K (cMend a b c) (fun _ _ => False) E H'
theorem c_mended (T : Txt K mg) : CalX P w K mg base 7 "mended" ["hands", "row", "order"] (sp_mended K) := by
  refine T.f_mended.calX sc_mended (fun _ _ _ _ _ _ us hl => match us, hl with | [_, _, _], _ => rfl) (fun vs H Q E h => by first | (obtain ⟨_, rfl, _⟩ := h; rfl) | (obtain ⟨_, _, rfl, _⟩ := h; rfl) | (obtain ⟨_, _, _, rfl, _⟩ := h; rfl) | (obtain ⟨_, _, _, _, rfl, _⟩ := h; rfl) | (obtain ⟨_, _, _, _, _, rfl, _⟩ := h; rfl) | (obtain ⟨_, _, _, _, _, _, rfl, _⟩ := h; rfl) | (obtain ⟨_, _, _, _, _, _, _, rfl, _⟩ := h; rfl) | (obtain ⟨_, _, _, _, _, _, _, _, rfl, _⟩ := h; rfl) | (obtain ⟨_, _, _, _, _, _, _, _, _, rfl, _⟩ := h; rfl) | (obtain ⟨_, _, _, _, _, _, _, _, _, _, rfl, _⟩ := h; rfl) | (obtain ⟨_, _, _, _, _, _, _, _, _, _, _, rfl, _⟩ := h; rfl) | (obtain ⟨_, _, _, _, _, _, _, _, _, _, _, _, rfl, _⟩ := h; rfl) | (obtain ⟨_, _, _, _, _, _, _, _, _, _, _, _, _, rfl, _⟩ := h; rfl)) (fun cdv A outer s H vs Q E f hr h => ?_)
  obtain ⟨x, y, z, a, b, c, rfl, h0, h1, h2, q⟩ := h
  refine ⟨_, (pss_cons (ps_expr (pe_calX (c_check_mending T) hr (by decide) (L2N.takes_of rfl rfl rfl rfl) (pa_cons (pv 0) (pa_cons (pv 1) (pa_cons (pv 2) pa_nil)))))
    pss_never), ?_⟩
  walk_at "rd"
  exact ⟨x, y, z, a, b, c, rfl, h0, h1, h2, fun H1 s1 => q H1 s1⟩

/-! mended_on -/
def sp_mended_on (K : PySem.W.Frag) : Sp := fun vs H Q E => ∃ (x y z : V) (a b c : Ar), vs = [x, y, z] ∧ ArOk K H a x ∧ ArOk K H b y ∧ ArOk K H c z ∧ ∀ H', Same H H' → Fin1 K (cMend a b c) (fun _ _ => False) E H'
theorem c_mended_on (T : Txt K mg) : CalX P w K mg base 7 "mended_on" ["hands", "row", "order"] (sp_mended_on K) := by
  refine T.f_mended_on.calX sc_mended_on (fun _ _ _ _ _ _ us hl => match us, hl with | [_, _, _], _ => rfl) (fun vs H Q E h => by first | (obtain ⟨_, rfl, _⟩ := h; rfl) | (obtain ⟨_, _, rfl, _⟩ := h; rfl) | (obtain ⟨_, _, _, rfl, _⟩ := h; rfl) | (obtain ⟨_, _, _, _, rfl, _⟩ := h; rfl) | (obtain ⟨_, _, _, _, _, rfl, _⟩ := h; rfl) | (obtain ⟨_, _, _, _, _, _, rfl, _⟩ := h; rfl) | (obtain ⟨_, _, _, _, _, _, _, rfl, _⟩ := h; rfl) | (obtain ⟨_, _, _, _, _, _, _, _, rfl, _⟩ := h; rfl) | (obtain ⟨_, _, _, _, _, _, _, _, _, rfl, _⟩ := h; rfl) | (obtain ⟨_, _, _, _, _, _, _, _, _, _, rfl, _⟩ := h; rfl) | (obtain ⟨_, _, _, _, _, _, _, _, _, _, _, rfl, _⟩ := h; rfl) | (obtain ⟨_, _, _, _, _, _, _, _, _, _, _, _, rfl, _⟩ := h; rfl) | (obtain ⟨_, _, _, _, _, _, _, _, _, _, _, _, _, rfl, _⟩ := h; rfl)) (fun cdv A outer s H vs Q E f hr h => ?_)
  obtain ⟨x, y, z, a, b, c, rfl, h0, h1, h2, q⟩ := h
  refine ⟨_, (pss_cons (ps_expr (pe_calX (c_check_mending T) hr (by decide) (L2N.takes_of rfl rfl rfl rfl) (pa_cons (pv 0) (pa_cons (pv 1) (pa_cons (pv 2) pa_nil)))))
    pss_never), ?_⟩
  walk_at "rd"
  exact ⟨x, y, z, a, b, c, rfl, h0, h1, h2, fun H1 s1 => q H1 s1⟩

/-! check_lead -/
def sp_check_lead (K : PySem.W.Frag) : Sp := fun vs H Q E => ∃ (x y z u v t : V) (a b c d e f : Ar), vs = [x, y, z, u, v, t] ∧ ArOk K H a x ∧ ArOk K H b y ∧ ArOk K H c z ∧ ArOk K H d u ∧ ArOk K H e v ∧ ArOk K H f t ∧ ∀ H', Same H H' → Fin1 K (cLeadR a b c d e f) Q E H'
theorem c_check_lead (T : Txt K mg) : CalX P w K mg base 7 "check_lead" ["hands", "row", "one", "other", "order", "bound"] (sp_check_lead K) := by
  refine T.f_check_lead.calX sc_check_lead (fun _ _ _ _ _ _ us hl => match us, hl with | [_, _, _, _, _, _], _ => rfl) (fun vs H Q E h => by first | (obtain ⟨_, rfl, _⟩ := h; rfl) | (obtain ⟨_, _, rfl, _⟩ := h; rfl) | (obtain ⟨_, _, _, rfl, _⟩ := h; rfl) | (obtain ⟨_, _, _, _, rfl, _⟩ := h; rfl) | (obtain ⟨_, _, _, _, _, rfl, _⟩ := h; rfl) | (obtain ⟨_, _, _, _, _, _, rfl, _⟩ := h; rfl) | (obtain ⟨_, _, _, _, _, _, _, rfl, _⟩ := h; rfl) | (obtain ⟨_, _, _, _, _, _, _, _, rfl, _⟩ := h; rfl) | (obtain ⟨_, _, _, _, _, _, _, _, _, rfl, _⟩ := h; rfl) | (obtain ⟨_, _, _, _, _, _, _, _, _, _, rfl, _⟩ := h; rfl) | (obtain ⟨_, _, _, _, _, _, _, _, _, _, _, rfl, _⟩ := h; rfl) | (obtain ⟨_, _, _, _, _, _, _, _, _, _, _, _, rfl, _⟩ := h; rfl) | (obtain ⟨_, _, _, _, _, _, _, _, _, _, _, _, _, rfl, _⟩ := h; rfl)) (fun cdv A outer s H vs Q E f hr h => ?_)
  obtain ⟨x, y, z, u, v, t, a, b, c, d, e, f, rfl, h0, h1, h2, h3, h4, h5, q⟩ := h
  refine ⟨_, (pss_cons (ps_expr (pe_calX (c_check_two T) hr (by decide) (L2N.takes_of rfl rfl rfl rfl) (pa_cons (pv 0) (pa_cons (pv 1) (pa_cons (pv 2) (pa_cons (pv 3) pa_nil))))))
    (pss_cons (ps_expr (pe_calX (c_check_lead_order T) hr (by decide) (L2N.takes_of rfl rfl rfl rfl) (pa_cons (pv 4) pa_nil)))
    (pss_one (ps_expr (pe_calX (c_check_bound T) hr (by decide) (L2N.takes_of rfl rfl rfl rfl) (pa_cons (pv 5) pa_nil)))))), ?_⟩
  walk_at "rd"
  refine ⟨x, y, z, u, a, b, c, d, rfl, h0, h1, h2, h3, fun H1 s1 => Fin1.seq q s1 fun e0 q1 => ?_⟩
  walk_at "rd"
  refine ⟨v, e, rfl, h4.same s1, Fin1.seq q1 (L2.Same.refl _) fun e1 q2 => ?_⟩
  walk_at "rd"
  exact ⟨t, f, rfl, h5.same s1, q2 H1 (L2.Same.refl _)⟩

/-! of_two -/
def sp_of_two (K : PySem.W.Frag) : Sp := fun vs H Q E => ∃ (x y z u v t : V) (a b c d e f : Ar), vs = [x, y, z, u, v, t] ∧ ArOk K H a x ∧ ArOk K H b y ∧ ArOk K H c z ∧ ArOk K H d u ∧ ArOk K H e v ∧ ArOk K H f t ∧ ∀ H', Same H H' → Fin1 K (cLeadR a b c d e f) (fun _ _ => False) E H'
theorem fk_of_two (T : Txt K mg) : ∃ f fd, FunD K "of_two" "of_two" (defArgs S_of_two) (defBody S_of_two) (defScope S_of_two) [] [("bound", .int 1)] f fd ∧ mg "of_two" = some (.ref f) ∧ FnOk P w K mg base (L2N.CX P w) 8 f fd ["hands", "row", "one", "other", "order", "bound"] (sp_of_two K) := by
  refine T.f_of_two.fnX sc_of_two (fun vs H Q E h => by first | (obtain ⟨_, rfl, _⟩ := h; rfl) | (obtain ⟨_, _, rfl, _⟩ := h; rfl) | (obtain ⟨_, _, _, rfl, _⟩ := h; rfl) | (obtain ⟨_, _, _, _, rfl, _⟩ := h; rfl) | (obtain ⟨_, _, _, _, _, rfl, _⟩ := h; rfl) | (obtain ⟨_, _, _, _, _, _, rfl, _⟩ := h; rfl) | (obtain ⟨_, _, _, _, _, _, _, rfl, _⟩ := h; rfl) | (obtain ⟨_, _, _, _, _, _, _, _, rfl, _⟩ := h; rfl) | (obtain ⟨_, _, _, _, _, _, _, _, _, rfl, _⟩ := h; rfl) | (obtain ⟨_, _, _, _, _, _, _, _, _, _, rfl, _⟩ := h; rfl) | (obtain ⟨_, _, _, _, _, _, _, _, _, _, _, rfl, _⟩ := h; rfl) | (obtain ⟨_, _, _, _, _, _, _, _, _, _, _, _, rfl, _⟩ := h; rfl) | (obtain ⟨_, _, _, _, _, _, _, _, _, _, _, _, _, rfl, _⟩ := h; rfl)) (fun cdv A outer s H vs Q E f hr h => ?_)
  obtain ⟨x, y, z, u, v, t, a, b, c, d, e, f, rfl, h0, h1, h2, h3, h4, h5, q⟩ := h
  refine ⟨_, (pss_cons (ps_expr (pe_calX (c_check_lead T) hr (by decide) (L2N.takes_of rfl rfl rfl rfl) (pa_cons (pv 0) (pa_cons (pv 1) (pa_cons (pv 2) (pa_cons (pv 3) (pa_cons (pv 4) (pa_cons (pv 5) pa_nil))))))))
    pss_never), ?_⟩
  walk_at "rd"
  exact ⟨x, y, z, u, v, t, a, b, c, d, e, f, rfl, h0, h1, h2, h3, h4, h5, fun H1 s1 => q H1 s1⟩
theorem cd_of_two (T : Txt K mg) : CalDX P w K mg base 8 "of_two" ["hands", "row", "one", "other", "order", "bound"] (sp_of_two K) (.int 1) := by
  obtain ⟨f, fd, F, m, G⟩ := fk_of_two (P := P) (w := w) (base := base) T
  obtain ⟨ds, r, b⟩ := F.binds0 (ps := ["hands", "row", "one", "other", "order", "bound"]) 5 (by simp) rfl (fun D doc pm an cdv ct us ks hl hk => match us, ks, hl, hk with | [_, _, _, _, _], [_], _, _ => ⟨_, _, _, _, _, _, rfl, rfl, rfl⟩)
  exact ⟨f, fd, ds, G, m, F.kp, b, r⟩
theorem ck_of_two (T : Txt K mg) : CalKX P w K mg base 8 "of_two" ["hands", "row", "one", "other", "order", "bound"] (sp_of_two K) 5 "bound" := by
  obtain ⟨f, fd, F, m, G⟩ := fk_of_two (P := P) (w := w) (base := base) T
  refine ⟨f, fd, G, m, F.kp, ⟨fun s us ws _ hl hw => ?_, fun r1 r2 => r1.append r2⟩⟩
  obtain ⟨oc, od, dV, kV, doc, pm, an, cdv, ct, osl, rfl, lk, hcd, hD, hK⟩ := F.ex
  rcases hD with ⟨_, rfl⟩ | ⟨e, _⟩
  · exact match us, ws, hl, hw with | [_, _, _, _, _], [_], _, _ => .of_eq rfl
  · exact absurd rfl e

/-! spread -/
def mostSpread (m : Int) : Int := if m = 2 then 10 else if m = 3 then 6 else 5
def cSpread (a b c : Ar) : Option Rf := Rf.or (cHands a) (Rf.or (cFrom b 1 (mostSpread (intA a)) .places) (cFrom c 1 4 .order))
def sp_spread (K : PySem.W.Frag) : Sp := fun vs H Q E => ∃ (x y z : V) (a b c : Ar), vs = [x, y, z] ∧ ArOk K H a x ∧ ArOk K H b y ∧ ArOk K H c z ∧ ∀ H', Same H H' → Fin1 K (cSpread a b c) (fun _ _ => False) E H'
theorem c_spread (T : Txt K mg) : CalX P w K mg base 4 "spread" ["hands", "places", "order"] (sp_spread K) := by
  refine T.f_spread.calX sc_spread (fun _ _ _ _ _ _ us hl => match us, hl with | [_, _, _], _ => rfl) (fun vs H Q E h => by first | (obtain ⟨_, rfl, _⟩ := h; rfl) | (obtain ⟨_, _, rfl, _⟩ := h; rfl) | (obtain ⟨_, _, _, rfl, _⟩ := h; rfl) | (obtain ⟨_, _, _, _, rfl, _⟩ := h; rfl) | (obtain ⟨_, _, _, _, _, rfl, _⟩ := h; rfl) | (obtain ⟨_, _, _, _, _, _, rfl, _⟩ := h; rfl) | (obtain ⟨_, _, _, _, _, _, _, rfl, _⟩ := h; rfl) | (obtain ⟨_, _, _, _, _, _, _, _, rfl, _⟩ := h; rfl) | (obtain ⟨_, _, _, _, _, _, _, _, _, rfl, _⟩ := h; rfl) | (obtain ⟨_, _, _, _, _, _, _, _, _, _, rfl, _⟩ := h; rfl) | (obtain ⟨_, _, _, _, _, _, _, _, _, _, _, rfl, _⟩ := h; rfl) | (obtain ⟨_, _, _, _, _, _, _, _, _, _, _, _, rfl, _⟩ := h; rfl) | (obtain ⟨_, _, _, _, _, _, _, _, _, _, _, _, _, rfl, _⟩ := h; rfl)) (fun cdv A outer s H vs Q E f hr h => ?_)
  obtain ⟨x, y, z, a, b, c, rfl, h0, h1, h2, q⟩ := h
  refine ⟨_, (pss_cons (ps_expr (pe_calX (c_check_hands T) hr (by decide) (L2N.takes_of rfl rfl rfl rfl) (pa_cons (pv 0) pa_nil)))
    (pss_cons (ps_expr (pe_calDX (cd_check_places T) hr (by decide) (L2N.takes_of rfl rfl rfl rfl) (pa_cons (pv 1) (pa_cons (pe_ix (kz_ixI (K := K)) (pe_glob (v := .ref (He.ga K "MOST_PLACES_OF")) (by rfl) T.d_MOST_PLACES_OF.1 rfl) (pv 0) (fun _ _ => rfl)) pa_nil))))
    (pss_cons (ps_expr (pe_calX (c_check_lead_order T) hr (by decide) (L2N.takes_of rfl rfl rfl rfl) (pa_cons (pv 2) pa_nil)))
    pss_never))), ?_⟩
  walk_at "rd"
  refine ⟨x, a, rfl, h0, Fin1.seq q (L2.Same.refl _) fun e0 q1 => ?_⟩
  obtain ⟨ex, m2, m4⟩ := frA_int h0 (noIf_none e0)
  subst ex
  generalize intA a = m at q1 m2 m4 ⊢
  have nm : (m, mostSpread m) ∈ [((2 : Int), (10 : Int)), ((3 : Int), (6 : Int)), ((4 : Int), (5 : Int))] := by
    rcases (show m = 2 ∨ m = 3 ∨ m = 4 by omega) with z | z | z <;> subst z <;> decide
  have b100 : 0 ≤ mostSpread m ∧ mostSpread m ≤ 100 := by
    rcases (show m = 2 ∨ m = 3 ∨ m = 4 by omega) with z | z | z <;> subst z <;> decide
  have dic := (T.d_MOST_PLACES_OF).2 _ nm
  walk_at "rd"
  refine ⟨_, m, .int (mostSpread m), rfl, rfl, dic, ?_⟩
  walk_at "rd"
  dsimp only [tNil]
  refine ⟨y, b, mostSpread m, 1, rfl, h1, b100, by decide, Fin1.seq q1 (L2.Same.refl _) fun e1 q2 => ?_⟩
  walk_at "rd"
  exact ⟨z, c, rfl, h2, q2 H (L2.Same.refl _)⟩

/-! check_going_on -/
def sp_check_going_on (K : PySem.W.Frag) : Sp := fun vs H Q E => ∃ (x y z : V) (a b c : Ar), vs = [x, y, z] ∧ ArOk K H a x ∧ (cWorths a = none → ArOk K H b y ∧ ArOk K H c z ∧ lenA a ≤ 64) ∧ ∀ H', Same H H' → Fin1 K (cGoing a b c) Q E H'
theorem c_check_going_on (T : Txt K mg) : CalX P w K mg base 5 "check_going_on" ["worths", "places", "order"] (sp_check_going_on K) := by
  refine T.f_check_going_on.calX sc_check_going_on (fun _ _ _ _ _ _ us hl => match us, hl with | [_, _, _], _ => rfl) (fun vs H Q E h => by first | (obtain ⟨_, rfl, _⟩ := h; rfl) | (obtain ⟨_, _, rfl, _⟩ := h; rfl) | (obtain ⟨_, _, _, rfl, _⟩ := h; rfl) | (obtain ⟨_, _, _, _, rfl, _⟩ := h; rfl) | (obtain ⟨_, _, _, _, _, rfl, _⟩ := h; rfl) | (obtain ⟨_, _, _, _, _, _, rfl, _⟩ := h; rfl) | (obtain ⟨_, _, _, _, _, _, _, rfl, _⟩ := h; rfl) | (obtain ⟨_, _, _, _, _, _, _, _, rfl, _⟩ := h; rfl) | (obtain ⟨_, _, _, _, _, _, _, _, _, rfl, _⟩ := h; rfl) | (obtain ⟨_, _, _, _, _, _, _, _, _, _, rfl, _⟩ := h; rfl) | (obtain ⟨_, _, _, _, _, _, _, _, _, _, _, rfl, _⟩ := h; rfl) | (obtain ⟨_, _, _, _, _, _, _, _, _, _, _, _, rfl, _⟩ := h; rfl) | (obtain ⟨_, _, _, _, _, _, _, _, _, _, _, _, _, rfl, _⟩ := h; rfl)) (fun cdv A outer s H vs Q E f hr h => ?_)
  obtain ⟨x, y, z, a, b, c, rfl, h0, hh, q⟩ := h
  refine ⟨_, (pss_cons (ps_expr (pe_calX (c_check_worths T) hr (by decide) (L2N.takes_of rfl rfl rfl rfl) (pa_cons (pv 0) pa_nil)))
    (pss_cons (ps_expr (pe_calKX (ck_check_places T) hr (by decide) (L2N.takes_of rfl rfl rfl rfl) (pa_cons (pv 1) (pa_cons (pe_kon T.k_MOST_PLACES) pa_nil)) (pk_cons (pe_callB (kz_len (K := K)) (by rfl) T.b_len bt_len (pa_cons (pv 0) pa_nil)) pk_nil)))
    (pss_one (ps_expr (pe_calX (c_check_order_of T) hr (by decide) (L2N.takes_of rfl rfl rfl rfl) (pa_cons (pv 0) (pa_cons (pv 2) pa_nil))))))), ?_⟩
  walk_at "rd"
  refine ⟨x, a, rfl, h0, fun H1 s1 => Fin1.seq q s1 fun e0 q1 => ?_⟩
  obtain ⟨h1, h2, l64⟩ := hh e0
  obtain ⟨xs, r, rfl, rfl, hS, ex, ne⟩ := worA_tup h0 (noIf_none e0)
  have l64' : xs.length ≤ 64 := l64
  walk_at "rd"
  refine ⟨r, _, rfl, .inr (seqT s1 hS), ?_⟩
  dsimp only [tNil]
  refine ⟨rfl, rfl, y, b, 64, (xs.length : Int), rfl, h1.same s1, by decide, by omega, Fin1.seq q1 (L2.Same.refl _) fun e1 q2 => ?_⟩
  walk_at "rd"
  exact ⟨r, xs, z, c, rfl, seqT s1 hS, h2.same s1, q2 H1 (L2.Same.refl _)⟩

/-! differences_of -/
def sp_differences_of (K : PySem.W.Frag) : Sp := fun vs H Q _ => ∃ (r : Addr) (ws : List Int) (k : Nat), vs = [.ref r, .int (k : Int)] ∧ (SqL K H r (ws.map V.int) ∨ SqT K H r (ws.map V.int)) ∧ ws.length ≤ 100000 ∧ k ≤ 1000 ∧
  ∀ (p : Addr) (H' : Hp), H p = none → Same H H' → H' p = some (.lst ((diffsN k ws).map V.int)) → Q (.ref p) H'
theorem c_differences_of (T : Txt K mg) : Cal P w K mg base 1 "differences_of" ["worths", "order"] (sp_differences_of K) := by
  refine T.f_differences_of.cal sc_differences_of (fun _ _ _ _ _ _ us hl => match us, hl with | [_, _], _ => rfl) (fun vs H Q E h => by first | (obtain ⟨_, rfl, _⟩ := h; rfl) | (obtain ⟨_, _, rfl, _⟩ := h; rfl) | (obtain ⟨_, _, _, rfl, _⟩ := h; rfl) | (obtain ⟨_, _, _, _, rfl, _⟩ := h; rfl) | (obtain ⟨_, _, _, _, _, rfl, _⟩ := h; rfl) | (obtain ⟨_, _, _, _, _, _, rfl, _⟩ := h; rfl) | (obtain ⟨_, _, _, _, _, _, _, rfl, _⟩ := h; rfl) | (obtain ⟨_, _, _, _, _, _, _, _, rfl, _⟩ := h; rfl) | (obtain ⟨_, _, _, _, _, _, _, _, _, rfl, _⟩ := h; rfl) | (obtain ⟨_, _, _, _, _, _, _, _, _, _, rfl, _⟩ := h; rfl) | (obtain ⟨_, _, _, _, _, _, _, _, _, _, _, rfl, _⟩ := h; rfl) | (obtain ⟨_, _, _, _, _, _, _, _, _, _, _, _, rfl, _⟩ := h; rfl) | (obtain ⟨_, _, _, _, _, _, _, _, _, _, _, _, _, rfl, _⟩ := h; rfl)) (fun cdv A outer s H vs Q E f hr h => ?_)
  obtain ⟨r, ws, k, rfl, hS, hl, hk, q⟩ := h
  refine ⟨_, (pss_cons (ps_set (i := 2) sc_differences_of.nd rfl (.inl rfl) (pe_callTy (kz_list (K := K)) (by rfl) T.b_list bt_list (pa_cons (pv 0) pa_nil)))
    (pss_cons (ps_for PassesOwn.never rfl (pi_range1 (by rfl) T.b_range (pa_cons (pv 1) pa_nil)) (pg_name (i := 3) sc_differences_of.nd rfl (.inl rfl)) (pss_one (ps_setLc (i := 2) (own := [("before", 4), ("after", 5)]) (g := (gTup K 2 (gCons (gName 4) (gCons (gName 5) gNil)))) (tt := tYes) rfl sc_differences_of.nd rfl rfl (sw_true rfl rfl rfl (by decide +kernel)) (kz_zip (K := K) (by rfl) T.b_zip (pa_cons (pv 2) (pa_cons (pe_slice (kz_slL (K := K)) (pv 2) (po_some pe_int) po_none) pa_nil))) (blkOk_by (own := [("before", 4), ("after", 5)]) (N := ["worths", "order", "line", "_", "before", "after"]) (sc := defScope S_differences_of) (by decide +kernel)) (fun _ _ _ _ _ => (kz_gtup (K := K) 2 rfl (pgs_cons (pg_name (i := 4) sc_differences_of.nd rfl (.inl rfl)) (pgs_cons (pg_name (i := 5) sc_differences_of.nd rfl (.inl rfl)) pgs_nil)))) (fun _ _ _ _ _ => pts_nil) (fun _ _ _ _ _ => (pe_op op_sub (pv 5) (pv 4))))))
    (pss_one (ps_ret (pv 2))))), ?_⟩
  rcases hS with hS | hS
  all_goals
    walk_at "rd"
    intro p0 n0
    walk_at "rd"
    refine for_range (fun i σ H2 => ∃ (y3 : Option V) (p : Addr), σ = [some (.ref r), some (.int (k : Int)), some (.ref p), y3, none, none] ∧ H p = none ∧ Same H H2 ∧ H2 p = some (.lst ((diffsN i ws).map V.int))) ⟨none, p0, rfl, n0, same_new n0, upd_same⟩ ?_ ?_
    · rintro i σ H2 hi ⟨y3, p, rfl, np, s2, hp⟩
      refine ⟨_, rfl, _, rfl, 1, rfl, p, _, rfl, .inl (.inl hp), fun c nc => ?_⟩
      have s3 := same_new (o := .lst (cutV ((diffsN i ws).map V.int) (some 1) none)) nc
      have ncp : c ≠ p := fun e => by
        rw [e, hp] at nc
        cases nc
      have hc : SqL K (upd H2 c (.lst (cutV ((diffsN i ws).map V.int) (some 1) none))) c (((diffsN i ws).drop 1).map V.int) := by
        rw [cut1, ← List.map_drop]
        exact .inl (.inl upd_same)
      have hp3 : SqL K (upd H2 c (.lst (cutV ((diffsN i ws).map V.int) (some 1) none))) p ((diffsN i ws).map V.int) := .inl (.inl (s3 _ _ hp))
      generalize upd H2 c (.lst (cutV ((diffsN i ws).map V.int) (some 1) none)) = H3 at s3 hc hp3 ⊢
      refine ⟨p, c, _, _, rfl, .inl ⟨hp3, hc, fun D nD => ?_⟩⟩
      have dl := diffsN_len i ws
      refine lcp (walk_zip (n := (diffsN i ws).length - 1) (xs := (diffsN i ws).map V.int) (ys := ((diffsN i ws).drop 1).map V.int) (by rw [List.length_map, List.length_map, List.length_drop]; omega)) nD (fun j => ((diffs (diffsN i ws)).map V.int).take j) rfl (fun j _ => ?_)
        (fun H4 s4 => ⟨seqL s4 hp3, seqL s4 hc⟩) ?_ ?_
      · rw [List.length_take, List.length_map, diffs_len]
        omega
      · rintro j x H4 H5 R N hj s4 ⟨T1, v1, v2, rfl, nT, rfl, h1, h2⟩ k1 _
        obtain ⟨z1, e1, rfl⟩ := map_at h1
        obtain ⟨z2, e2, rfl⟩ := map_at h2
        rw [List.getElem?_drop, Nat.add_comm] at e2
        refine ⟨T1, _, rfl, .inl (.inl upd_same), rfl, _, _, rfl, _, _, rfl, rfl, rfl, ?_⟩
        refine ⟨_, rfl, _, rfl, _, _, rfl, rfl, k1 _ _ (same_new nT) ?_⟩
        rw [List.take_add_one, List.getElem?_map, diffs_at _ j _ _ e1 e2]
        rfl
      · intro H4 s4 hD
        have s24 := (s2.trans s3).trans s4
        refine ⟨some (.int (0 + (i : Int))), D, rfl, none_back (s2.trans s3) nD, s24, ?_⟩
        rw [hD, List.take_of_length_le]
        · rfl
        · rw [List.length_map, diffs_len]
          exact Nat.le_refl _
    · rintro σ H2 ⟨y3, p, rfl, np, s2, hp⟩
      walk_at "rd"
      refine q p H2 np s2 ?_
      rw [hp]
      rfl

/-! gone_on -/
def sp_gone_on (K : PySem.W.Frag) : Sp := fun vs H Q _ => ∃ (r : Addr) (ws : List Int) (pl k : Nat), vs = [.ref r, .int (pl : Int), .int (k : Int)] ∧ (SqL K H r (ws.map V.int) ∨ SqT K H r (ws.map V.int)) ∧ 1 ≤ k ∧ k ≤ 4 ∧ k ≤ ws.length ∧ ws.length ≤ pl ∧ pl ≤ 64 ∧
  ∀ (p : Addr) (st : Nat → Int) (H' : Hp), H p = none → Same H H' → H' p = some (.lst ((line st pl).map V.int)) → Gone pl k ws st → Q (.ref p) H'
theorem c_gone_on (T : Txt K mg) : Cal P w K mg base 2 "gone_on" ["worths", "places", "order"] (sp_gone_on K) := by
  refine T.f_gone_on.cal sc_gone_on (fun _ _ _ _ _ _ us hl => match us, hl with | [_, _, _], _ => rfl) (fun vs H Q E h => by first | (obtain ⟨_, rfl, _⟩ := h; rfl) | (obtain ⟨_, _, rfl, _⟩ := h; rfl) | (obtain ⟨_, _, _, rfl, _⟩ := h; rfl) | (obtain ⟨_, _, _, _, rfl, _⟩ := h; rfl) | (obtain ⟨_, _, _, _, _, rfl, _⟩ := h; rfl) | (obtain ⟨_, _, _, _, _, _, rfl, _⟩ := h; rfl) | (obtain ⟨_, _, _, _, _, _, _, rfl, _⟩ := h; rfl) | (obtain ⟨_, _, _, _, _, _, _, _, rfl, _⟩ := h; rfl) | (obtain ⟨_, _, _, _, _, _, _, _, _, rfl, _⟩ := h; rfl) | (obtain ⟨_, _, _, _, _, _, _, _, _, _, rfl, _⟩ := h; rfl) | (obtain ⟨_, _, _, _, _, _, _, _, _, _, _, rfl, _⟩ := h; rfl) | (obtain ⟨_, _, _, _, _, _, _, _, _, _, _, _, rfl, _⟩ := h; rfl) | (obtain ⟨_, _, _, _, _, _, _, _, _, _, _, _, _, rfl, _⟩ := h; rfl)) (fun cdv A outer s H vs Q E f hr h => ?_)
  obtain ⟨r, ws, pl, k, rfl, hS, hk1, hk4, hkw, hwp, hp, q⟩ := h
  refine ⟨_, (pss_cons (ps_set (i := 3) sc_gone_on.nd rfl (.inr rfl) (pe_callTy (kz_list (K := K)) (by rfl) T.b_list bt_list (pa_cons (pv 0) pa_nil)))
    (pss_cons (ps_setLc (i := 5) (own := [("step", 4)]) (g := (gName 4)) (tt := tYes) rfl sc_gone_on.nd rfl rfl (sw_true rfl rfl rfl (by decide +kernel)) (pi_range1 (by rfl) T.b_range (pa_cons (pv 2) pa_nil)) (blkOk_by (own := [("step", 4)]) (N := ["worths", "places", "order", "line", "step", "ends"]) (sc := defScope S_gone_on) (by decide +kernel)) (fun _ _ _ _ _ => (pg_name (i := 4) sc_gone_on.nd rfl (.inl rfl))) (fun _ _ _ _ _ => pts_nil) (fun _ _ _ _ _ => (pe_ix (kz_ixL (K := K)) (pe_cal (c_differences_of T) hr (by decide) (pa_cons (pv 3) (pa_cons (pv 4) pa_nil))) (pe_un un_neg pe_int) (fun _ _ => rfl))))
    (pss_cons (ps_while PassesOwn.never (pt_cmpR op_lt (pe_callB (kz_len (K := K)) (by rfl) T.b_len bt_len (pa_cons (pv 3) pa_nil)) (pv 1) (nomark _)) (pss_cons (ps_for PassesOwn.never rfl (pi_range3 (by rfl) T.b_range (pa_cons (pe_op op_sub (pv 2) pe_int) (pa_cons pe_int (pa_cons (pe_un un_neg pe_int) pa_nil)))) (pg_name (i := 4) sc_gone_on.nd rfl (.inl rfl)) (pss_one (ps_augS (pv 5) (pe_op op_sub (pv 4) pe_int) (kz_getL (K := K)) (pe_ix (kz_ixL (K := K)) (pv 5) (pv 4) (fun _ _ => rfl)) ip_add set_list)))
    (pss_one (ps_expr (pe_bm PySem.F.plainAttrs_list PySem.F.slot_list_append PySem.F.type_list_append mt_append (pv 3) (pa_cons (pe_ix (kz_ixL (K := K)) (pv 5) pe_int (fun _ _ => rfl)) pa_nil))))))
    (pss_one (ps_ret (pv 3)))))), ?_⟩
  rcases hS with hS | hS
  all_goals
    walk_at "rd"
    intro F nF
    have s1 := same_new (o := .lst (ws.map V.int)) nF
    have hF : (upd H F (.lst (ws.map V.int))) F = some (.lst (ws.map V.int)) := upd_same
    generalize upd H F (.lst (ws.map V.int)) = H1 at s1 hF ⊢
    obtain ⟨f0, hf0⟩ : ∃ f0 : Nat → Int, ws = line f0 ws.length := ⟨_, line_of ws⟩
    have hF1 : SqL K H1 F (ws.map V.int) := .inl (.inl hF)
    change tSeq _ _ _ [some (.ref r), some (.int (pl : Int)), some (.int (k : Int)), some (.ref F), none, none] H1
    walk_at "rd"
    intro E nE
    refine lcp walk_range nE (fun j => ((line (fun s => DN s f0 (ws.length - 1 - s)) k).map V.int).take j) rfl (fun j hj => ?_) (fun _ _ => trivial) ?_ ?_
    · rw [List.length_take, List.length_map, line_len]
      omega
    · rintro j x H2 H3 R N hj s2 ⟨rfl, rfl⟩ k1 _
      have hF2 := seqL s2 hF1
      refine ⟨rfl, ?_⟩
      walk_at "rd"
      refine ⟨F, ws, j, congrArg (fun z : Int => [V.ref F, V.int z]) (by omega), .inl hF2, by omega, by omega, fun p4 H4 n4 s4 h4 => ?_⟩
      have eD : diffsN j ws = line (DN j f0) (ws.length - j) := by
        have := diffsN_line j f0 ws.length
        rw [← hf0] at this
        exact this
      rw [eD] at h4
      walk_at "rd"
      refine ⟨p4, _, -1, _, rfl, rfl, .inl (.inl h4), at_end (n := ws.length - 1 - j) (by rw [line_len]; omega) (line_at (by omega)), ?_⟩
      refine k1 _ _ s4 ?_
      rw [List.take_add_one, List.getElem?_map, line_at (by omega)]
      rfl
    intro H2 s2 hE
    rw [List.take_of_length_le (by rw [List.length_map, line_len]; omega)] at hE
    have agr : ∀ i, i < ws.length → ws[i]? = some (f0 i) := fun i hi => by
      have := line_at (f := f0) hi
      rw [← hf0] at this
      exact this
    have nF0 := nF
    have nE0 : H E = none := none_back s1 nE
    have FE : E ≠ F := fun z => by
      rw [z, hF] at nE
      cases nE
    have s12 := s1.trans s2
    have hF2 := s2 _ _ hF
    rw [show ws.map V.int = (line f0 ws.length).map V.int by rw [← hf0]] at hF2
    clear hF1 hF s1 s2 nE
    change tSeq _ _ _ [some (.ref r), some (.int (pl : Int)), some (.int (k : Int)), some (.ref F), none, some (.ref E)] H2
    refine ⟨fun c σ H' => ∃ (n : Nat) (f : Nat → Int) (y4 : Option V), σ = [some (.ref r), some (.int (pl : Int)), some (.int (k : Int)), some (.ref F), y4, some (.ref E)] ∧ c = pl - n ∧ ws.length ≤ n ∧ n ≤ pl ∧ Same H H' ∧ H' F = some (.lst ((line f n).map V.int)) ∧ H' E = some (.lst ((line (fun s => DN s f (n - 1 - s)) k).map V.int)) ∧
        (∀ i, i < ws.length → ws[i]? = some (f i)) ∧ ∀ i, ws.length ≤ i + k → i + k < n → DN k f i = 0,
      ⟨_, ws.length, f0, none, rfl, rfl, Nat.le_refl _, hwp, s12, hF2, hE, agr, fun i a b => by omega⟩, ?_⟩
    rintro c σ H3 ⟨n, f, y4, rfl, rfl, n1, n2, s3, hF3, hE3, ag, dz⟩
    have hF3' : SqL K H3 F ((line f n).map V.int) := .inl (.inl hF3)
    walk_at "rd"
    rw [List.length_map, line_len]
    by_cases c1 : (n : Int) < (pl : Int)
    · rw [decide_eq_true c1]
      refine iteT ?_
      obtain ⟨v, hv⟩ : ∃ v : Int, v = sumTo k fun u => DN u f (n - 1 - u) := ⟨_, rfl⟩
      obtain ⟨g, hg⟩ : ∃ g : Nat → Int, g = fun i => if i < n then f i else v := ⟨_, rfl⟩
      refine ⟨fun σ' H' => ∃ y4, σ' = [some (.ref r), some (.int (pl : Int)), some (.int (k : Int)), some (.ref F), y4, some (.ref E)] ∧ Same H H' ∧ H' F = some (.lst ((line g (n + 1)).map V.int)) ∧ H' E = some (.lst ((line (fun s => DN s g (n - s)) k).map V.int)), ?_, ?_⟩
      · rintro σ' H' ⟨y4, rfl, s4, hF4, hE4⟩
        refine ⟨pl - (n + 1), by omega, n + 1, g, y4, rfl, rfl, by omega, by omega, s4, hF4, ?_, fun i hi => by
          rw [ag i hi, hg]
          show _ = some (if i < n then f i else v)
          rw [if_pos (by omega)], fun i a b => ?_⟩
        · rw [hE4]
          refine congrArg (fun l : List Int => some (HO.lst (l.map V.int))) ?_
          exact line_ext (line_len _ _) fun i hi => by rw [line_at hi, show n + 1 - 1 - i = n - i by omega]
        · by_cases c2 : i + k < n
          · rw [hg, dn_agree k i (f := fun i => if i < n then f i else v) (g := f) fun j hj => if_pos (by omega)]
            exact dz i a c2
          · rw [hg, show i = n - k by omega]
            exact gone_more (by omega) (by rw [hv, Int.add_zero])
      · walk_at "rd"
        obtain ⟨e, he⟩ : ∃ e : Nat → Int, e = fun u => DN u f (n - 1 - u) := ⟨_, rfl⟩
        rw [← he] at hE3 hv
        refine ⟨(k : Int) - 1, 0, -1, ((k : Int) - 1 - 0).toNat, rfl, RgC.neg (by omega) (by omega) (by omega) (by omega), ?_⟩
        refine for_rangeC (fun t σ H' => ∃ y4, σ = [some (.ref r), some (.int (pl : Int)), some (.int (k : Int)), some (.ref F), y4, some (.ref E)] ∧ Same H H' ∧ H' F = some (.lst ((line f n).map V.int)) ∧ H' E = some (.lst ((line (fun s => if k - 1 - t ≤ s then Tl k e s else e s) k).map V.int)))
          ⟨_, rfl, s3, hF3, ?_⟩ ?_ ?_
        · rw [hE3]
          refine congrArg (fun l : List Int => some (HO.lst (l.map V.int))) ?_
          refine line_ext (line_len _ _) fun i hi => ?_
          rw [line_at hi]
          refine congrArg some ?_
          by_cases c2 : k - 1 - 0 ≤ i
          · rw [if_pos c2, show i = k - 1 by omega]
            show _ = sumTo k e - sumTo (k - 1) e
            obtain ⟨k', rfl⟩ : ∃ k', k = k' + 1 := ⟨k - 1, by omega⟩
            show _ = sumTo k' e + e k' - sumTo (k' + 1 - 1) e
            rw [show k' + 1 - 1 = k' by omega]
            omega
          · rw [if_neg c2]
        · rintro t σ H4 ht ⟨y4, rfl, s4, hF4, hE4⟩
          have t1 : t + 1 < k := by omega
          have gE : (line (fun s => if k - 1 - t ≤ s then Tl k e s else e s) k)[k - 1 - t]? = some (Tl k e (k - 1 - t)) := by
            rw [line_at (by omega), if_pos (Nat.le_refl _)]
          have gE2 : (line (fun s => if k - 1 - t ≤ s then Tl k e s else e s) k)[k - 2 - t]? = some (e (k - 2 - t)) := by
            rw [line_at (by omega), if_neg (by omega)]
          have hE4' : SqL K H4 E ((line (fun s => if k - 1 - t ≤ s then Tl k e s else e s) k).map V.int) := .inl (.inl hE4)
          walk_at "rd"
          refine ⟨E, _, k - 2 - t, _, rfl, congrArg V.int (by omega), hE4', by rw [List.getElem?_map, gE2]; rfl, ?_⟩
          refine ⟨_, rfl, _, rfl, E, _, (k : Int) - 1 + (t : Int) * -1, _, rfl, rfl, hE4', at_intE (by omega) gE, ?_⟩
          refine ⟨_, _, rfl, rfl, E, _, (k : Int) - 1 + (t : Int) * -1 - 1, k - 2 - t, rfl, rfl, hE4, ?_, ?_⟩
          · unfold ixN
            rw [if_pos (by omega), if_pos (by rw [List.length_map, line_len]; omega)]
            exact congrArg some (by omega)
          · refine ⟨_, rfl, fun c o hc => ?_, by rw [upd_ne (Ne.symm FE)]; exact hF4, ?_⟩
            · rw [upd_ne (ne_of_none hc nE0)]
              exact s4 _ _ hc
            · rw [upd_same]
              refine congrArg (fun l => some (HO.lst l)) ?_
              refine List.ext_getElem? fun i => ?_
              rw [List.getElem?_set, List.length_map, line_len]
              by_cases c2 : i < k
              · rw [List.getElem?_map, List.getElem?_map, line_at c2, line_at c2]
                by_cases c3 : k - 2 - t = i
                · rw [if_pos c3, if_pos (by omega)]
                  show some (V.int _) = some (V.int (if k - 1 - (t + 1) ≤ i then Tl k e i else e i))
                  rw [if_pos (by omega), ← c3]
                  refine congrArg (fun z => some (V.int z)) ?_
                  show e (k - 2 - t) + (sumTo k e - sumTo (k - 1 - t) e) = sumTo k e - sumTo (k - 2 - t) e
                  rw [show k - 1 - t = k - 2 - t + 1 by omega]
                  show _ + (_ - (sumTo (k - 2 - t) e + e (k - 2 - t))) = _
                  omega
                · rw [if_neg c3]
                  show some (V.int (if k - 1 - t ≤ i then Tl k e i else e i)) = some (V.int (if k - 1 - (t + 1) ≤ i then Tl k e i else e i))
                  by_cases c4 : k - 1 - t ≤ i
                  · rw [if_pos c4, if_pos (by omega)]
                  · rw [if_neg c4, if_neg (by omega)]
              · rw [if_neg (by omega), List.getElem?_eq_none (by rw [List.length_map, line_len]; omega), List.getElem?_eq_none (by rw [List.length_map, line_len]; omega)]
        · rintro σ H4 ⟨y4, rfl, s4, hF4, hE4⟩
          have eT : line (fun s => if k - 1 - ((k : Int) - 1 - 0).toNat ≤ s then Tl k e s else e s) k = line (Tl k e) k := line_ext (line_len _ _) fun i hi => by rw [line_at hi, if_pos (by omega)]
          rw [eT] at hE4
          have gE : (line (Tl k e) k)[0]? = some v := by
            rw [line_at (by omega), hv]
            exact congrArg some (Int.sub_zero _)
          have hE4' : SqL K H4 E ((line (Tl k e) k).map V.int) := .inl (.inl hE4)
          refine ⟨_, rfl, .inl ⟨rfl, _, .inl (.inl hF4)⟩, ?_⟩
          refine ⟨_, rfl, E, _, 0, _, rfl, rfl, hE4', (at_int (j := 0) gE : atI _ ((0 : Nat) : Int) = _), F, _, _, rfl, rfl, hF4, szl (by rw [List.length_map, line_len]; omega), ?_⟩
          refine ⟨_, rfl, fun c o hc => ?_, ?_, ?_⟩
          · rw [upd_ne (ne_of_none hc nF0)]
            exact s4 _ _ hc
          · rw [upd_same]
            refine congrArg (fun l => some (HO.lst l)) ?_
            show _ ++ [V.int v] = _
            rw [line, line, List.range_succ, List.map_append, List.map_append]
            congr 1
            · refine congrArg (List.map V.int) (List.map_congr_left fun i hi => ?_)
              rw [hg]
              exact (if_pos (List.mem_range.mp hi)).symm
            · show _ = [V.int (g n)]
              rw [hg]
              exact congrArg (fun z => [V.int z]) (if_neg (Nat.lt_irrefl n)).symm
          · rw [upd_ne FE, hE4]
            refine congrArg (fun l : List Int => some (HO.lst (l.map V.int))) ?_
            refine line_ext (line_len _ _) fun i hi => ?_
            rw [line_at hi, hg, ← ends_more (k := k) (show k ≤ n by omega) (by rw [hv, he]) i (by omega), he]
    · rw [decide_eq_false c1]
      refine iteF ?_
      refine ⟨_, rfl, ?_⟩
      rw [show n = pl by omega] at hF3
      exact q F f H3 nF0 s3 hF3 ⟨ag, fun i a b => dz i a (by omega)⟩

/-! straight_on -/
def sp_straight_on (K : PySem.W.Frag) : Sp := fun vs H Q E => ∃ (x y z : V) (a b c : Ar), vs = [x, y, z] ∧ ArOk K H a x ∧ (cWorths a = none → ArOk K H b y ∧ ArOk K H c z ∧ lenA a ≤ 64) ∧ ∀ H', Same H H' → Fin1 K (cGoing a b c) (fun _ H1 => ∀ (p : Addr) (st : Nat → Int) (H' : Hp), Same H1 H' → H' p = some (.tup ((line st (intA b).toNat).map V.int)) → Gone (intA b).toNat (intA c).toNat (rowOf a) st → Q (.ref p) H') E H'
theorem c_straight_on (T : Txt K mg) : CalX P w K mg base 6 "straight_on" ["worths", "places", "order"] (sp_straight_on K) := by
  refine T.f_straight_on.calX sc_straight_on (fun _ _ _ _ _ _ us hl => match us, hl with | [_, _, _], _ => rfl) (fun vs H Q E h => by first | (obtain ⟨_, rfl, _⟩ := h; rfl) | (obtain ⟨_, _, rfl, _⟩ := h; rfl) | (obtain ⟨_, _, _, rfl, _⟩ := h; rfl) | (obtain ⟨_, _, _, _, rfl, _⟩ := h; rfl) | (obtain ⟨_, _, _, _, _, rfl, _⟩ := h; rfl) | (obtain ⟨_, _, _, _, _, _, rfl, _⟩ := h; rfl) | (obtain ⟨_, _, _, _, _, _, _, rfl, _⟩ := h; rfl) | (obtain ⟨_, _, _, _, _, _, _, _, rfl, _⟩ := h; rfl) | (obtain ⟨_, _, _, _, _, _, _, _, _, rfl, _⟩ := h; rfl) | (obtain ⟨_, _, _, _, _, _, _, _, _, _, rfl, _⟩ := h; rfl) | (obtain ⟨_, _, _, _, _, _, _, _, _, _, _, rfl, _⟩ := h; rfl) | (obtain ⟨_, _, _, _, _, _, _, _, _, _, _, _, rfl, _⟩ := h; rfl) | (obtain ⟨_, _, _, _, _, _, _, _, _, _, _, _, _, rfl, _⟩ := h; rfl)) (fun cdv A outer s H vs Q E f hr h => ?_)
  obtain ⟨x, y, z, a, b, c, rfl, h0, hh, q⟩ := h
  refine ⟨_, (pss_cons (ps_expr (pe_calX (c_check_going_on T) hr (by decide) (L2N.takes_of rfl rfl rfl rfl) (pa_cons (pv 0) (pa_cons (pv 1) (pa_cons (pv 2) pa_nil)))))
    (pss_one (ps_nox (ps_ret (pe_callTy (kz_tuple (K := K)) (by rfl) T.b_tuple bt_tuple (pa_cons (pe_cal (c_gone_on T) hr (by decide) (pa_cons (pv 0) (pa_cons (pv 1) (pa_cons (pv 2) pa_nil)))) pa_nil)))))), ?_⟩
  walk_at "rd"
  refine ⟨x, y, z, a, b, c, rfl, h0, hh, fun H1 s1 => Fin1.fin (q H1 s1) fun e0 q1 => ?_⟩
  obtain ⟨e1, e2⟩ := or_none e0
  obtain ⟨e3, e4⟩ := or_none e2
  obtain ⟨e5, e6⟩ := or_none e4
  obtain ⟨h1, h2, l64⟩ := hh e1
  obtain ⟨xs, r, rfl, rfl, hS, ex, ne⟩ := worA_tup h0 (noIf_none e1)
  obtain ⟨ey, y0, y1⟩ := frA_int h1 (noIf_none e3)
  obtain ⟨ez, z0, z1⟩ := frA_int h2 (noIf_none e5)
  subst ey ez
  have lk := of_decide_eq_true (noIf_none e6)
  have lk' : intA c ≤ (xs.length : Int) := lk
  have y0' : (xs.length : Int) ≤ intA b := y0
  have ln : (intsOf xs).length = xs.length := List.length_map _
  have hS1 := seqT s1 hS
  rw [ex] at hS1
  have l1 : 0 < xs.length := List.length_pos_iff.mpr ne
  walk_at "rd"
  refine ⟨r, intsOf xs, (intA b).toNat, (intA c).toNat, by rw [Int.toNat_of_nonneg (show 0 ≤ intA b by omega), Int.toNat_of_nonneg (show 0 ≤ intA c by omega)]; rfl, .inr hS1, by omega, by omega, by omega, by omega, by omega, fun p st H2 np s2 hp gn => ?_⟩
  refine ⟨p, _, rfl, .inl ⟨.inl (.inl hp), fun u nu => ?_⟩⟩
  exact q1 u st _ (s2.trans (same_new nu)) upd_same gn

/-! check_order -/
/-- what the check takes, or NoOrder raised -/
def sp_check_order (K : PySem.W.Frag) : Sp := fun vs H Q E => ∃ (x : V) (a : Ar), vs = [x] ∧ ArOk K H a x ∧ Fin1 K (cFrom a 0 9 .order) Q E H
theorem c_check_order (T : Txt K mg) : CalX P w K mg base 3 "check_order" ["order"] (sp_check_order K) := by
  refine T.f_check_order.calX sc_check_order (fun _ _ _ _ _ _ us hl => match us, hl with | [_], _ => rfl) (fun vs H Q E h => by first | (obtain ⟨_, rfl, _⟩ := h; rfl) | (obtain ⟨_, _, rfl, _⟩ := h; rfl) | (obtain ⟨_, _, _, rfl, _⟩ := h; rfl) | (obtain ⟨_, _, _, _, rfl, _⟩ := h; rfl) | (obtain ⟨_, _, _, _, _, rfl, _⟩ := h; rfl) | (obtain ⟨_, _, _, _, _, _, rfl, _⟩ := h; rfl) | (obtain ⟨_, _, _, _, _, _, _, rfl, _⟩ := h; rfl) | (obtain ⟨_, _, _, _, _, _, _, _, rfl, _⟩ := h; rfl) | (obtain ⟨_, _, _, _, _, _, _, _, _, rfl, _⟩ := h; rfl) | (obtain ⟨_, _, _, _, _, _, _, _, _, _, rfl, _⟩ := h; rfl) | (obtain ⟨_, _, _, _, _, _, _, _, _, _, _, rfl, _⟩ := h; rfl) | (obtain ⟨_, _, _, _, _, _, _, _, _, _, _, _, rfl, _⟩ := h; rfl) | (obtain ⟨_, _, _, _, _, _, _, _, _, _, _, _, _, rfl, _⟩ := h; rfl)) (fun cdv A outer s H vs Q E f hr h => ?_)
  obtain ⟨x, a, rfl, h0, q⟩ := h
  refine ⟨_, (pss_one (ps_if (PT.nox (pt_not (pt_val (pe_cal (c_is_from_to T) hr (by decide) (pa_cons (pv 0) (pa_cons pe_int (pa_cons (pe_kon T.k_MOST_ORDER) pa_nil))))))) (pss_one (L2N.ps_raise rfl (L2N.takes_of rfl rfl rfl rfl) (pmk_at (T.excs.cls "NoOrder" (by decide))))) pss_nil)), ?_⟩
  obtain ⟨b, hw⟩ := h0.wh
  walk_at "rd"
  refine ⟨x, 0, 9, b, rfl, hw, _, rfl, ?_⟩
  rw [h0.fr]
  cases e : frA a 0 9 with
  | true => exact iteF (q.no.1 e)
  | false => exact iteT (q.no.2 e)

/-! sums -/
def sp_sums (K : PySem.W.Frag) : Sp := fun vs H Q E => ∃ (x y z u v : V) (a b c d e : Ar), vs = [x, y, z, u, v] ∧ ArOk K H a x ∧ ArOk K H b y ∧ ArOk K H c z ∧ ArOk K H d u ∧ ArOk K H e v ∧ ∀ H', Same H H' → Fin1 K (Rf.or (cTwo a b c d) (cFrom e 0 9 .order)) (fun _ _ => False) E H'
theorem fk_sums (T : Txt K mg) : ∃ f fd, FunD K "sums" "sums" (defArgs S_sums) (defBody S_sums) (defScope S_sums) [] [("order", .int 1)] f fd ∧ mg "sums" = some (.ref f) ∧ FnOk P w K mg base (L2N.CX P w) 7 f fd ["hands", "row", "one", "other", "order"] (sp_sums K) := by
  refine T.f_sums.fnX sc_sums (fun vs H Q E h => by first | (obtain ⟨_, rfl, _⟩ := h; rfl) | (obtain ⟨_, _, rfl, _⟩ := h; rfl) | (obtain ⟨_, _, _, rfl, _⟩ := h; rfl) | (obtain ⟨_, _, _, _, rfl, _⟩ := h; rfl) | (obtain ⟨_, _, _, _, _, rfl, _⟩ := h; rfl) | (obtain ⟨_, _, _, _, _, _, rfl, _⟩ := h; rfl) | (obtain ⟨_, _, _, _, _, _, _, rfl, _⟩ := h; rfl) | (obtain ⟨_, _, _, _, _, _, _, _, rfl, _⟩ := h; rfl) | (obtain ⟨_, _, _, _, _, _, _, _, _, rfl, _⟩ := h; rfl) | (obtain ⟨_, _, _, _, _, _, _, _, _, _, rfl, _⟩ := h; rfl) | (obtain ⟨_, _, _, _, _, _, _, _, _, _, _, rfl, _⟩ := h; rfl) | (obtain ⟨_, _, _, _, _, _, _, _, _, _, _, _, rfl, _⟩ := h; rfl) | (obtain ⟨_, _, _, _, _, _, _, _, _, _, _, _, _, rfl, _⟩ := h; rfl)) (fun cdv A outer s H vs Q E f hr h => ?_)
  obtain ⟨x, y, z, u, v, a, b, c, d, e, rfl, h0, h1, h2, h3, h4, q⟩ := h
  refine ⟨_, (pss_cons (ps_expr (pe_calX (c_check_two T) hr (by decide) (L2N.takes_of rfl rfl rfl rfl) (pa_cons (pv 0) (pa_cons (pv 1) (pa_cons (pv 2) (pa_cons (pv 3) pa_nil))))))
    (pss_cons (ps_expr (pe_calX (c_check_order T) hr (by decide) (L2N.takes_of rfl rfl rfl rfl) (pa_cons (pv 4) pa_nil)))
    pss_never)), ?_⟩
  walk_at "rd"
  refine ⟨x, y, z, u, a, b, c, d, rfl, h0, h1, h2, h3, fun H1 s1 => Fin1.seq q s1 fun e0 q1 => ?_⟩
  walk_at "rd"
  exact ⟨v, e, rfl, h4.same s1, q1 H1 (L2.Same.refl _)⟩
theorem cd_sums (T : Txt K mg) : CalDX P w K mg base 7 "sums" ["hands", "row", "one", "other", "order"] (sp_sums K) (.int 1) := by
  obtain ⟨f, fd, F, m, G⟩ := fk_sums (P := P) (w := w) (base := base) T
  obtain ⟨ds, r, b⟩ := F.binds0 (ps := ["hands", "row", "one", "other", "order"]) 4 (by simp) rfl (fun D doc pm an cdv ct us ks hl hk => match us, ks, hl, hk with | [_, _, _, _], [_], _, _ => ⟨_, _, _, _, _, _, rfl, rfl, rfl⟩)
  exact ⟨f, fd, ds, G, m, F.kp, b, r⟩
theorem ck_sums (T : Txt K mg) : CalKX P w K mg base 7 "sums" ["hands", "row", "one", "other", "order"] (sp_sums K) 4 "order" := by
  obtain ⟨f, fd, F, m, G⟩ := fk_sums (P := P) (w := w) (base := base) T
  refine ⟨f, fd, G, m, F.kp, ⟨fun s us ws _ hl hw => ?_, fun r1 r2 => r1.append r2⟩⟩
  obtain ⟨oc, od, dV, kV, doc, pm, an, cdv, ct, osl, rfl, lk, hcd, hD, hK⟩ := F.ex
  rcases hD with ⟨_, rfl⟩ | ⟨e, _⟩
  · exact match us, ws, hl, hw with | [_, _, _, _], [_], _, _ => .of_eq rfl
  · exact absurd rfl e

/-! running_sums -/
def sp_running_sums (K : PySem.W.Frag) : Sp := fun vs H Q _ => ∃ (r : Addr) (l : List Int), vs = [.ref r] ∧ SqL K H r (l.map V.int) ∧ l.length ≤ 100000 ∧
  ∀ (p : Addr) (H' : Hp), H p = none → Same H H' → H' p = some (.lst ((psums l).map V.int)) → Q (.ref p) H'
theorem c_running_sums (T : Txt K mg) : Cal P w K mg base 1 "running_sums" ["line"] (sp_running_sums K) := by
  refine T.f_running_sums.cal sc_running_sums (fun _ _ _ _ _ _ us hl => match us, hl with | [_], _ => rfl) (fun vs H Q E h => by first | (obtain ⟨_, rfl, _⟩ := h; rfl) | (obtain ⟨_, _, rfl, _⟩ := h; rfl) | (obtain ⟨_, _, _, rfl, _⟩ := h; rfl) | (obtain ⟨_, _, _, _, rfl, _⟩ := h; rfl) | (obtain ⟨_, _, _, _, _, rfl, _⟩ := h; rfl) | (obtain ⟨_, _, _, _, _, _, rfl, _⟩ := h; rfl) | (obtain ⟨_, _, _, _, _, _, _, rfl, _⟩ := h; rfl) | (obtain ⟨_, _, _, _, _, _, _, _, rfl, _⟩ := h; rfl) | (obtain ⟨_, _, _, _, _, _, _, _, _, rfl, _⟩ := h; rfl) | (obtain ⟨_, _, _, _, _, _, _, _, _, _, rfl, _⟩ := h; rfl) | (obtain ⟨_, _, _, _, _, _, _, _, _, _, _, rfl, _⟩ := h; rfl) | (obtain ⟨_, _, _, _, _, _, _, _, _, _, _, _, rfl, _⟩ := h; rfl) | (obtain ⟨_, _, _, _, _, _, _, _, _, _, _, _, _, rfl, _⟩ := h; rfl)) (fun cdv A outer s H vs Q E f hr h => ?_)
  obtain ⟨r, l, rfl, hS, hl, q⟩ := h
  refine ⟨_, (pss_cons (ps_set (i := 1) sc_running_sums.nd rfl (.inl rfl) pe_int)
    (pss_cons (ps_set (i := 2) sc_running_sums.nd rfl (.inl rfl) (pe_lst pa_nil))
    (pss_cons (ps_for PassesOwn.never rfl (kz_piL (K := K) (pv 0)) (pg_name (i := 3) sc_running_sums.nd rfl (.inl rfl)) (pss_cons (ps_aug (i := 1) sc_running_sums.nd rfl (.inl rfl) (pv 3) ip_add)
    (pss_one (ps_expr (pe_bm PySem.F.plainAttrs_list PySem.F.slot_list_append PySem.F.type_list_append mt_append (pv 2) (pa_cons (pv 1) pa_nil))))))
    (pss_one (ps_ret (pv 2)))))), ?_⟩
  walk_at "rd"
  intro p np
  have sp := same_new (o := .lst []) np
  walk_at "rd"
  refine ⟨⟨_, seqL sp hS⟩, ?_⟩
  refine for_list (xs := l.map V.int) (fun i σ H2 => ∃ y3, σ = [some (.ref r), some (.int (l.take i).sum), some (.ref p), y3] ∧ Same H H2 ∧ H2 p = some (.lst (((psums l).take i).map V.int)))
    ⟨none, rfl, sp, upd_same⟩ (fun i σ H2 _ h => by obtain ⟨_, _, s, _⟩ := h; exact seqL s hS) ?_ ?_
  · rintro i x σ H2 hx ⟨y3, rfl, s2, hp⟩
    obtain ⟨z, hz, rfl⟩ := map_at hx
    have hi := (List.getElem?_eq_some_iff.mp hz).1
    refine ⟨_, rfl, _, rfl, _, _, rfl, rfl, ?_⟩
    refine ⟨_, rfl, .inl ⟨rfl, _, .inl (.inl hp)⟩, _, rfl, p, _, _, rfl, rfl, hp, szl ?_, ?_⟩
    · rw [List.length_map, List.length_take]
      omega
    · refine ⟨some (.int z), ?_, fun c o hc => ?_, ?_⟩
      · rw [sum_take hz]
        rfl
      · rw [upd_ne (fun e => by rw [e, np] at hc; cases hc)]
        exact s2 _ _ hc
      · have e : (psums l)[i]? = some ((l.take i).sum + z) := by
          rw [psums, List.getElem?_map, List.getElem?_range hi]
          show some ((l.take (i + 1)).sum) = _
          rw [sum_take hz]
        rw [upd_same, List.take_add_one, e, List.map_append]
        rfl
  · rintro σ H2 ⟨y3, rfl, s2, hp⟩
    refine ⟨_, rfl, q p H2 np s2 ?_⟩
    rw [hp, List.take_of_length_le]
    rw [psums_len, List.length_map]
    exact Nat.le_refl _

/-! are_signs_even -/
def sp_are_signs_even (K : PySem.W.Frag) : Sp := fun vs H Q _ => ∃ (r : Addr) (s : Nat → Int) (n d : Nat), vs = [.ref r, .int (d : Int)] ∧ SqL K H r ((line s (n + 1)).map V.int) ∧ n ≤ 10000 ∧ d ≤ 1000 ∧
  ∀ (b : Bool) (H' : Hp), Same H H' → (b = true ↔ Lz (n + 1) s (d + 1)) → Q (.bl b) H'
theorem c_are_signs_even (T : Txt K mg) : Cal P w K mg base 2 "are_signs_even" ["line", "degree"] (sp_are_signs_even K) := by
  refine T.f_are_signs_even.cal sc_are_signs_even (fun _ _ _ _ _ _ us hl => match us, hl with | [_, _], _ => rfl) (fun vs H Q E h => by first | (obtain ⟨_, rfl, _⟩ := h; rfl) | (obtain ⟨_, _, rfl, _⟩ := h; rfl) | (obtain ⟨_, _, _, rfl, _⟩ := h; rfl) | (obtain ⟨_, _, _, _, rfl, _⟩ := h; rfl) | (obtain ⟨_, _, _, _, _, rfl, _⟩ := h; rfl) | (obtain ⟨_, _, _, _, _, _, rfl, _⟩ := h; rfl) | (obtain ⟨_, _, _, _, _, _, _, rfl, _⟩ := h; rfl) | (obtain ⟨_, _, _, _, _, _, _, _, rfl, _⟩ := h; rfl) | (obtain ⟨_, _, _, _, _, _, _, _, _, rfl, _⟩ := h; rfl) | (obtain ⟨_, _, _, _, _, _, _, _, _, _, rfl, _⟩ := h; rfl) | (obtain ⟨_, _, _, _, _, _, _, _, _, _, _, rfl, _⟩ := h; rfl) | (obtain ⟨_, _, _, _, _, _, _, _, _, _, _, _, rfl, _⟩ := h; rfl) | (obtain ⟨_, _, _, _, _, _, _, _, _, _, _, _, _, rfl, _⟩ := h; rfl)) (fun cdv A outer s H vs Q E f hr h => ?_)
  obtain ⟨r, s, n, d, rfl, hS, hn, hd, q⟩ := h
  refine ⟨_, (pss_cons (ps_set (i := 2) sc_are_signs_even.nd rfl (.inl rfl) (pv 0))
    (pss_cons (ps_for PassesOwn.never rfl (pi_range1 (by rfl) T.b_range (pa_cons (pe_op op_add (pv 1) pe_int) pa_nil)) (pg_name (i := 3) sc_are_signs_even.nd rfl (.inl rfl)) (pss_cons (ps_set (i := 2) sc_are_signs_even.nd rfl (.inl rfl) (pe_cal (c_running_sums T) hr (by decide) (pa_cons (pv 2) pa_nil)))
    (pss_one (ps_if (pt_cmpR op_ne (pe_ix (kz_ixL (K := K)) (pv 2) (pe_un un_neg pe_int) (fun _ _ => rfl)) pe_int (nomark _)) (pss_one (ps_ret pe_bl)) pss_nil))))
    (pss_one (ps_ret pe_bl)))), ?_⟩
  walk_at "rd"
  refine for_range (fun i σ H2 => ∃ (y3 : Option V) (p : Addr), σ = [some (.ref r), some (.int (d : Int)), some (.ref p), y3] ∧ Same H H2 ∧ SqL K H2 p ((line (SN i s) (n + 1)).map V.int) ∧ Lz (n + 1) s i) ⟨none, r, rfl, L2.Same.refl _, hS, fun k hk => absurd hk (Nat.not_lt_zero k)⟩ ?_ ?_
  · rintro i σ H2 hi ⟨y3, p, rfl, s2, hp, hz⟩
    walk_at "rd"
    refine ⟨p, _, rfl, hp, by rw [line_len]; omega, fun p3 H3 np3 s3 hp3 => ?_⟩
    rw [psums_line] at hp3
    have hp3' : SqL K H3 p3 ((line (SN (i + 1) s) (n + 1)).map V.int) := .inl (.inl hp3)
    have el : atI ((line (SN (i + 1) s) (n + 1)).map V.int) (-1) = some (.int (sumTo (n + 1) (SN i s))) := at_end (line_len _ _) (line_at (by omega))
    walk_at "rd"
    refine ⟨_, _, _, _, rfl, rfl, hp3', el, rfl, ?_⟩
    walk_at "rd"
    refine ite2 (fun c => ?_) (fun c => ?_)
    · refine q false _ (s2.trans s3) ⟨fun z => Bool.noConfusion z, fun z => ?_⟩
      rw [z i (by omega), decide_eq_true rfl] at c
      cases c
    · have c2 : sumTo (n + 1) (SN i s) = 0 := by
        refine Decidable.byContradiction fun z => c ?_
        rw [decide_eq_false (fun e => z (V.int.inj e))]
        rfl
      refine ⟨_, p3, rfl, s2.trans s3, hp3', fun k hk => ?_⟩
      by_cases e : k = i
      · rw [e]
        exact c2
      · exact hz k (by omega)
  · rintro σ H2 ⟨y3, p, rfl, s2, hp, hz⟩
    refine q true _ s2 ⟨fun _ => ?_, fun _ => rfl⟩
    rw [show ((d : Int) + 1).toNat = d + 1 by omega] at hz
    exact hz

/-! sign_of -/
def sp_sign_of (K : PySem.W.Frag) : Sp := fun vs H Q _ => ∃ (t a b : Int), vs = [.int t, .int a, .int b] ∧ Q (.int (signOf t a b)) H
theorem c_sign_of (T : Txt K mg) : Cal P w K mg base 1 "sign_of" ["turn", "one", "other"] (sp_sign_of K) := by
  refine T.f_sign_of.cal sc_sign_of (fun _ _ _ _ _ _ us hl => match us, hl with | [_, _, _], _ => rfl) (fun vs H Q E h => by first | (obtain ⟨_, rfl, _⟩ := h; rfl) | (obtain ⟨_, _, rfl, _⟩ := h; rfl) | (obtain ⟨_, _, _, rfl, _⟩ := h; rfl) | (obtain ⟨_, _, _, _, rfl, _⟩ := h; rfl) | (obtain ⟨_, _, _, _, _, rfl, _⟩ := h; rfl) | (obtain ⟨_, _, _, _, _, _, rfl, _⟩ := h; rfl) | (obtain ⟨_, _, _, _, _, _, _, rfl, _⟩ := h; rfl) | (obtain ⟨_, _, _, _, _, _, _, _, rfl, _⟩ := h; rfl) | (obtain ⟨_, _, _, _, _, _, _, _, _, rfl, _⟩ := h; rfl) | (obtain ⟨_, _, _, _, _, _, _, _, _, _, rfl, _⟩ := h; rfl) | (obtain ⟨_, _, _, _, _, _, _, _, _, _, _, rfl, _⟩ := h; rfl) | (obtain ⟨_, _, _, _, _, _, _, _, _, _, _, _, rfl, _⟩ := h; rfl) | (obtain ⟨_, _, _, _, _, _, _, _, _, _, _, _, _, rfl, _⟩ := h; rfl)) (fun cdv A outer s H vs Q E f hr h => ?_)
  obtain ⟨t, a, b, rfl, q⟩ := h
  refine ⟨_, (pss_cons (ps_if (pt_cmpR op_eq (pv 0) (pv 1) (nomark _)) (pss_one (ps_ret pe_int)) pss_nil)
    (pss_cons (ps_if (pt_cmpR op_eq (pv 0) (pv 2) (nomark _)) (pss_one (ps_ret (pe_un un_neg pe_int))) pss_nil)
    (pss_one (ps_ret pe_int)))), ?_⟩
  unfold signOf at q
  walk_at "rd"
  refine ite2 (fun c => ?_) (fun c => ?_)
  · rw [if_pos (show t = a from V.int.inj (of_decide_eq_true c))] at q
    exact q
  · rw [if_neg (show ¬ t = a from fun z => c (decide_eq_true (congrArg V.int z)))] at q
    walk_at "rd"
    refine ite2 (fun c => ?_) (fun c => ?_)
    · rw [if_pos (show t = b from V.int.inj (of_decide_eq_true c))] at q
      walk_at "rd"
      exact q
    · rw [if_neg (show ¬ t = b from fun z => c (decide_eq_true (congrArg V.int z)))] at q
      exact q

/-! signs_of -/
/-- a list or a tuple -/
inductive SqB (K : PySem.W.Frag) (H : Hp) (r : Addr) (xs : List V) : Prop
  | t : SqT K H r xs → SqB K H r xs
  | l : SqL K H r xs → SqB K H r xs
theorem SqB.or {K : PySem.W.Frag} {H : Hp} {r : Addr} {xs : List V} : SqB K H r xs → SqL K H r xs ∨ SqT K H r xs
  | .t h => .inr h
  | .l h => .inl h
theorem SqB.same {K : PySem.W.Frag} {H H' : Hp} {r : Addr} {xs : List V} (s : Same H H') : SqB K H r xs → SqB K H' r xs
  | .t h => .t (seqT s h)
  | .l h => .l (seqL s h)
/-- for over a list or a tuple -/
def iSeqB (K : PySem.W.Frag) (tl : TE) : TI := fun σ H R => tl σ H fun x H1 => ∃ a, x = .ref a ∧ ((∃ xs, SqT K H1 a xs) ∧ R (Itt K a) H1 ∨ (∃ xs, SqL K H1 a xs) ∧ R (Itl K a) H1)
theorem pi_seqB {X : Cx} {tg l : Expr} {tl : TE} (hl : PE X l tl) : PI X tg l (iSeqB X.K tl) := ⟨fun pins s σ H R I h => thn (hl.run pins s σ H _ I h) fun v s1 w => by
  obtain ⟨x, H1, I1, r1, a, rfl, q1⟩ := w
  cases r1
  have fp : ∀ c ∈ [s1.heap.objs.size], FpOk X pins H1 c := fun c hc => by
    rw [List.mem_singleton.mp hc]
    exact I1.fpOk (Nat.le_refl _) (I1.hok.fresh (Nat.le_refl _))
  rcases q1 with ⟨⟨xs, hq⟩, q⟩ | ⟨⟨xs, hq⟩, q⟩
  · obtain ⟨its, rv, pt, hz⟩ := I1.tuple hq
    exact wpAny_pyIter_tuple (show s1.heap.IsTuple a its.toArray from pt) ⟨_, [s1.heap.objs.size], _, _, H1, rfl, I1.kept (t' := s1.toks) fun b o e => Heap.get?_push_of_some _ e, turn_tuple a _, ⟨_, Heap.get?_push_size _ rfl, rfl, rfl⟩, fp, q⟩
  · obtain ⟨its, rv, pt, hz⟩ := I1.list hq
    exact wpAny_pyIter_list pt.isList ⟨_, [s1.heap.objs.size], _, _, H1, rfl, I1.kept (t' := s1.toks) fun b o e => Heap.get?_push_of_some _ e, turn_list a _, ⟨_, Heap.get?_push_size _ rfl, rfl, rfl⟩, fp, q⟩⟩
theorem kz_piB {X : Cx} {K : PySem.W.Frag} {tg l : Expr} {tl : TE} (hl : PE X l tl) (hK : X.K = K := by rfl) : PI X tg l (iSeqB K tl) := hK ▸ pi_seqB hl
def sp_signs_of (K : PySem.W.Frag) : Sp := fun vs H Q _ => ∃ (r : Addr) (row : List Int) (a b : Int), vs = [.ref r, .int a, .int b] ∧ SqB K H r (row.map V.int) ∧ row.length ≤ 100000 ∧
  ∀ (p : Addr) (H' : Hp), H p = none → Same H H' → H' p = some (.lst ((signsOf row a b).map V.int)) → Q (.ref p) H'
theorem c_signs_of (T : Txt K mg) : Cal P w K mg base 2 "signs_of" ["row", "one", "other"] (sp_signs_of K) := by
  refine T.f_signs_of.cal sc_signs_of (fun _ _ _ _ _ _ us hl => match us, hl with | [_, _, _], _ => rfl) (fun vs H Q E h => by first | (obtain ⟨_, rfl, _⟩ := h; rfl) | (obtain ⟨_, _, rfl, _⟩ := h; rfl) | (obtain ⟨_, _, _, rfl, _⟩ := h; rfl) | (obtain ⟨_, _, _, _, rfl, _⟩ := h; rfl) | (obtain ⟨_, _, _, _, _, rfl, _⟩ := h; rfl) | (obtain ⟨_, _, _, _, _, _, rfl, _⟩ := h; rfl) | (obtain ⟨_, _, _, _, _, _, _, rfl, _⟩ := h; rfl) | (obtain ⟨_, _, _, _, _, _, _, _, rfl, _⟩ := h; rfl) | (obtain ⟨_, _, _, _, _, _, _, _, _, rfl, _⟩ := h; rfl) | (obtain ⟨_, _, _, _, _, _, _, _, _, _, rfl, _⟩ := h; rfl) | (obtain ⟨_, _, _, _, _, _, _, _, _, _, _, rfl, _⟩ := h; rfl) | (obtain ⟨_, _, _, _, _, _, _, _, _, _, _, _, rfl, _⟩ := h; rfl) | (obtain ⟨_, _, _, _, _, _, _, _, _, _, _, _, _, rfl, _⟩ := h; rfl)) (fun cdv A outer s H vs Q E f hr h => ?_)
  obtain ⟨r, row, a, b, rfl, hS, hl, q⟩ := h
  refine ⟨_, (pss_one (ps_ret (pe_lc (own := [("turn", 3)]) (g := (gName 3)) (tt := tYes) rfl sc_signs_of.nd (kz_piB (K := K) (pv 0)) (blkOk_by (own := [("turn", 3)]) (N := ["row", "one", "other", "turn"]) (sc := defScope S_signs_of) (by decide +kernel)) (fun _ _ _ _ _ => (pg_name (i := 3) sc_signs_of.nd rfl (.inl rfl))) (fun _ _ _ _ _ => pts_nil) (fun _ _ _ _ _ => (pe_cal (c_sign_of T) hr (by decide) (pa_cons (pv 3) (pa_cons (pv 1) (pa_cons (pv 2) pa_nil)))))))), ?_⟩
  have len : ∀ i, (((signsOf row a b).map V.int).take i).length ≤ row.length := fun i => by
    rw [List.length_take, List.length_map, signsOf, List.length_map]
    exact Nat.min_le_right _ _
  have fin : ∀ (D : Addr) (H2 : Hp), H D = none → Same H H2 → H2 D = some (.lst (((signsOf row a b).map V.int).take row.length)) → Q (.ref D) H2 := fun D H2 nD s2 hD => by
    refine q D H2 nD s2 ?_
    rw [hD, List.take_of_length_le]
    rw [List.length_map, signsOf, List.length_map]
    exact Nat.le_refl _
  have stp : ∀ (i : Nat) (z : Int), row[i]? = some z → ((signsOf row a b).map V.int).take (i + 1) = ((signsOf row a b).map V.int).take i ++ [V.int (signOf z a b)] := fun i z hz => by
    rw [List.take_add_one, List.getElem?_map, signsOf, List.getElem?_map, hz]
    rfl
  refine ⟨_, rfl, r, rfl, ?_⟩
  rcases hS with hS | hS
  · refine .inl ⟨⟨_, hS⟩, fun D nD => ?_⟩
    refine lcp walk_tup nD (fun i => ((signsOf row a b).map V.int).take i) rfl (fun i _ => Nat.lt_of_le_of_lt (len i) (by omega)) (fun H2 s2 => seqT s2 hS) ?_ ?_
    · rintro i x H2 H' R N hi s2 ⟨rfl, hx⟩ k _
      obtain ⟨z, hz, rfl⟩ := map_at hx
      refine ⟨rfl, ?_⟩
      walk_at "rd"
      exact ⟨z, a, b, rfl, k _ _ (L2.Same.refl _) (stp i z hz)⟩
    · intro H2 s2 hD
      rw [List.length_map] at hD
      exact fin D H2 nD s2 hD
  · refine .inr ⟨⟨_, hS⟩, fun D nD => ?_⟩
    refine lcp walk_list nD (fun i => ((signsOf row a b).map V.int).take i) rfl (fun i _ => Nat.lt_of_le_of_lt (len i) (by omega)) (fun H2 s2 => seqL s2 hS) ?_ ?_
    · rintro i x H2 H' R N hi s2 ⟨rfl, hx⟩ k _
      obtain ⟨z, hz, rfl⟩ := map_at hx
      refine ⟨rfl, ?_⟩
      walk_at "rd"
      exact ⟨z, a, b, rfl, k _ _ (L2.Same.refl _) (stp i z hz)⟩
    · intro H2 s2 hD
      rw [List.length_map] at hD
      exact fin D H2 nD s2 hD

/-! worst -/
def evA (row : List Int) (i j : Int) (k : Nat) : Bool := decide (∀ m, m < k → sumTo row.length (SN m (sg row i j)) = 0)
def cWorst (a b c d e f : Ar) : Option Rf := Rf.or (cLeadR a b c d e f) (noIf (evA (rowOf b) (intA c) (intA d) (intA e).toNat) .even)
def sp_worst (K : PySem.W.Frag) : Sp := fun vs H Q E => ∃ (x y z u v t : V) (a b c d e f : Ar), vs = [x, y, z, u, v, t] ∧ ArOk K H a x ∧ ArOk K H b y ∧ ArOk K H c z ∧ ArOk K H d u ∧ ArOk K H e v ∧ ArOk K H f t ∧ ∀ H', Same H H' → Fin1 K (cWorst a b c d e f) (fun _ _ => False) E H'
theorem fk_worst (T : Txt K mg) : ∃ f fd, FunD K "worst" "worst" (defArgs S_worst) (defBody S_worst) (defScope S_worst) [] [("bound", .int 1)] f fd ∧ mg "worst" = some (.ref f) ∧ FnOk P w K mg base (L2N.CX P w) 8 f fd ["hands", "row", "one", "other", "order", "bound"] (sp_worst K) := by
  refine T.f_worst.fnX sc_worst (fun vs H Q E h => by first | (obtain ⟨_, rfl, _⟩ := h; rfl) | (obtain ⟨_, _, rfl, _⟩ := h; rfl) | (obtain ⟨_, _, _, rfl, _⟩ := h; rfl) | (obtain ⟨_, _, _, _, rfl, _⟩ := h; rfl) | (obtain ⟨_, _, _, _, _, rfl, _⟩ := h; rfl) | (obtain ⟨_, _, _, _, _, _, rfl, _⟩ := h; rfl) | (obtain ⟨_, _, _, _, _, _, _, rfl, _⟩ := h; rfl) | (obtain ⟨_, _, _, _, _, _, _, _, rfl, _⟩ := h; rfl) | (obtain ⟨_, _, _, _, _, _, _, _, _, rfl, _⟩ := h; rfl) | (obtain ⟨_, _, _, _, _, _, _, _, _, _, rfl, _⟩ := h; rfl) | (obtain ⟨_, _, _, _, _, _, _, _, _, _, _, rfl, _⟩ := h; rfl) | (obtain ⟨_, _, _, _, _, _, _, _, _, _, _, _, rfl, _⟩ := h; rfl) | (obtain ⟨_, _, _, _, _, _, _, _, _, _, _, _, _, rfl, _⟩ := h; rfl)) (fun cdv A outer s H vs Q E f hr h => ?_)
  obtain ⟨x, y, z, u, v, t, a, b, c, d, e, f, rfl, h0, h1, h2, h3, h4, h5, q⟩ := h
  refine ⟨_, (pss_cons (ps_expr (pe_calX (c_check_lead T) hr (by decide) (L2N.takes_of rfl rfl rfl rfl) (pa_cons (pv 0) (pa_cons (pv 1) (pa_cons (pv 2) (pa_cons (pv 3) (pa_cons (pv 4) (pa_cons (pv 5) pa_nil))))))))
    (pss_cons (ps_nox (ps_set (i := 6) sc_worst.nd rfl (.inl rfl) (pe_cal (c_signs_of T) hr (by decide) (pa_cons (pv 1) (pa_cons (pv 2) (pa_cons (pv 3) pa_nil))))))
    (pss_cons (ps_if (PT.nox (pt_not (pt_val (pe_cal (c_are_signs_even T) hr (by decide) (pa_cons (pv 6) (pa_cons (pe_op op_sub (pv 4) pe_int) pa_nil)))))) (pss_one (L2N.ps_raise rfl (L2N.takes_of rfl rfl rfl rfl) (pmk_at (T.excs.cls "NotEven" (by decide))))) pss_nil)
    pss_never))), ?_⟩
  walk_at "rd"
  refine ⟨x, y, z, u, v, t, a, b, c, d, e, f, rfl, h0, h1, h2, h3, h4, h5, fun H1 s1 => Fin1.seq q s1 fun e0 q1 => ?_⟩
  obtain ⟨e1, e2⟩ := or_none e0
  obtain ⟨e3, e4⟩ := or_none e1
  obtain ⟨e5, _⟩ := or_none e2
  obtain ⟨r, rfl, rfl, ok, hS, lr0⟩ := row_facts h0 h1 e3
  have g := noIf_none e4
  rw [Bool.and_eq_true, Bool.and_eq_true] at g
  obtain ⟨ez, _, _⟩ := frA_int h2 g.1
  obtain ⟨eu, _, _⟩ := frA_int h3 g.2.1
  obtain ⟨ev, o1, o4⟩ := frA_int h4 (noIf_none e5)
  subst ez eu ev
  have ek : intA e = (((intA e).toNat : Nat) : Int) := by omega
  have hl : 1 ≤ (rowOf b).length := List.length_pos_iff.mpr ok.2.2.1
  have hl2 := ok.2.2.2.1
  obtain ⟨n, hn⟩ : ∃ n, (rowOf b).length = n + 1 := ⟨(rowOf b).length - 1, by omega⟩
  walk_at "rd"
  refine ⟨r, rowOf b, intA c, intA d, rfl, .t (seqT s1 hS), by omega, fun p H2 np s2 hp => ?_⟩
  rw [signsOf_line] at hp
  have hp2 : SqL K H2 p ((line (sg (rowOf b) (intA c) (intA d)) (rowOf b).length).map V.int) := .inl (.inl hp)
  walk_at "rd"
  refine ⟨p, sg (rowOf b) (intA c) (intA d), n, (intA e).toNat - 1, congrArg (fun z : Int => [V.ref p, V.int z]) (show intA e - 1 = (((intA e).toNat - 1 : Nat) : Int) by omega), by rw [← hn]; exact hp2, by omega, by omega, fun bb H3 s3 hbb => ?_⟩
  rw [← hn, show (intA e).toNat - 1 + 1 = (intA e).toNat by omega] at hbb
  have q2 := (q1 H3 (s2.trans s3)).no
  cases bb with
  | false =>
    walk_at "rd"
    exact q2.2 (decide_eq_false fun z => Bool.noConfusion (hbb.mpr z))
  | true => exact (q2.1 (decide_eq_true (hbb.mp rfl))).elim
theorem cd_worst (T : Txt K mg) : CalDX P w K mg base 8 "worst" ["hands", "row", "one", "other", "order", "bound"] (sp_worst K) (.int 1) := by
  obtain ⟨f, fd, F, m, G⟩ := fk_worst (P := P) (w := w) (base := base) T
  obtain ⟨ds, r, b⟩ := F.binds0 (ps := ["hands", "row", "one", "other", "order", "bound"]) 5 (by simp) rfl (fun D doc pm an cdv ct us ks hl hk => match us, ks, hl, hk with | [_, _, _, _, _], [_], _, _ => ⟨_, _, _, _, _, _, rfl, rfl, rfl⟩)
  exact ⟨f, fd, ds, G, m, F.kp, b, r⟩
theorem ck_worst (T : Txt K mg) : CalKX P w K mg base 8 "worst" ["hands", "row", "one", "other", "order", "bound"] (sp_worst K) 5 "bound" := by
  obtain ⟨f, fd, F, m, G⟩ := fk_worst (P := P) (w := w) (base := base) T
  refine ⟨f, fd, G, m, F.kp, ⟨fun s us ws _ hl hw => ?_, fun r1 r2 => r1.append r2⟩⟩
  obtain ⟨oc, od, dV, kV, doc, pm, an, cdv, ct, osl, rfl, lk, hcd, hD, hK⟩ := F.ex
  rcases hD with ⟨_, rfl⟩ | ⟨e, _⟩
  · exact match us, ws, hl, hw with | [_, _, _, _, _], [_], _, _ => .of_eq rfl
  · exact absurd rfl e

/-! _law_ask -/
/-- which refusal comes of an ask -/
def askO (what : Nat) (a1 a2 a3 a4 : Ar) : Option Rf := match what with
  | 0 => cGrt (.pl (.int 2)) a1 a2 a3
  | 1 => cMend (.pl (.int 2)) a1 a2
  | 2 => cMend (.pl (.int 2)) a1 a2
  | 3 => cLeadR (.pl (.int 2)) a1 (.pl (.int 0)) (.pl (.int 1)) a2 a3
  | 4 => cWorst (.pl (.int 2)) a1 (.pl (.int 0)) (.pl (.int 1)) a2 a3
  | 5 => Rf.or (cTwo (.pl (.int 2)) a1 (.pl (.int 0)) (.pl (.int 1))) (cFrom a2 0 9 .order)
  | 6 => cCalmest a1 a2 a3
  | 7 => cSpread a1 a2 a3
  | 8 => cCounted a1 a2 a3
  | 9 => cExch (.pl (.int 2)) a1 a2 a3
  | 10 => cGoing a1 a2 a3
  | 11 => Rf.or (cTwo (.pl (.int 2)) a1 (.pl (.int 0)) (.pl (.int 1))) (cFore a1 a2 a3 a4)
  | 12 => cCalm (.pl (.int 2)) a1 a2 a3 a4
  | _ => none
def sp__law_ask (K : PySem.W.Frag) : Sp := fun vs H Q _ => ∃ (what : Nat) (x y z u : V) (a1 a2 a3 a4 : Ar), vs = [.int (what : Int), x, y, z, u] ∧ ArOk K H a1 x ∧ ArOk K H a2 y ∧ ArOk K H a3 z ∧ ArOk K H a4 u ∧ (what = 10 → lenA a1 ≤ 64) ∧
  ((∃ rf : Rf, askO what a1 a2 a3 a4 = some rf ∧ ∀ (p : Addr) (H' : Hp), H p = none → Same H H' → H' p = some (.tup [.str "refused", .int (rf.code : Int)]) → Q (.ref p) H') ∨
   askO what a1 a2 a3 a4 = none ∧
   (what = 9 ∧ (∀ (p : Addr) (H' : Hp), Same H H' → H' p = some (.tup ((swp (rowOf a1) (intA a2).toNat (intA a3).toNat).map V.int)) → Q (.ref p) H') ∨
    what = 10 ∧ (∀ (p : Addr) (st : Nat → Int) (H' : Hp), Same H H' → H' p = some (.tup ((line st (intA a2).toNat).map V.int)) → Gone (intA a2).toNat (intA a3).toNat (rowOf a1) st → Q (.ref p) H')))
theorem c__law_ask (T : Txt K mg) : Cal P w K mg base 9 "_law_ask" ["_law_what", "_law_one", "_law_two", "_law_three", "_law_four"] (sp__law_ask K) := by
  refine T.f__law_ask.cal sc__law_ask (fun _ _ _ _ _ _ us hl => match us, hl with | [_, _, _, _, _], _ => rfl) (fun vs H Q E h => by first | (obtain ⟨_, rfl, _⟩ := h; rfl) | (obtain ⟨_, _, rfl, _⟩ := h; rfl) | (obtain ⟨_, _, _, rfl, _⟩ := h; rfl) | (obtain ⟨_, _, _, _, rfl, _⟩ := h; rfl) | (obtain ⟨_, _, _, _, _, rfl, _⟩ := h; rfl) | (obtain ⟨_, _, _, _, _, _, rfl, _⟩ := h; rfl) | (obtain ⟨_, _, _, _, _, _, _, rfl, _⟩ := h; rfl) | (obtain ⟨_, _, _, _, _, _, _, _, rfl, _⟩ := h; rfl) | (obtain ⟨_, _, _, _, _, _, _, _, _, rfl, _⟩ := h; rfl) | (obtain ⟨_, _, _, _, _, _, _, _, _, _, rfl, _⟩ := h; rfl) | (obtain ⟨_, _, _, _, _, _, _, _, _, _, _, rfl, _⟩ := h; rfl) | (obtain ⟨_, _, _, _, _, _, _, _, _, _, _, _, rfl, _⟩ := h; rfl) | (obtain ⟨_, _, _, _, _, _, _, _, _, _, _, _, _, rfl, _⟩ := h; rfl)) (fun cdv A outer s H vs Q E f hr h => ?_)
  obtain ⟨what, x, y, z, u, a1, a2, a3, a4, rfl, h1, h2, h3, h4, l64, hh⟩ := h
  obtain ⟨fW, fdW, FW, mW, kW, bW⟩ := c__law_which (P := P) (w := w) (base := base) T
  obtain ⟨fv_calmest, mv_calmest, V_calmest⟩ := (c_calmest (P := P) (w := w) (base := base) T).v (k := 8) (by decide)
  obtain ⟨fv_counted, mv_counted, V_counted⟩ := (c_counted (P := P) (w := w) (base := base) T).v (k := 8) (by decide)
  obtain ⟨fv_mended, mv_mended, V_mended⟩ := (c_mended (P := P) (w := w) (base := base) T).v (k := 8) (by decide)
  obtain ⟨fv_mended_on, mv_mended_on, V_mended_on⟩ := (c_mended_on (P := P) (w := w) (base := base) T).v (k := 8) (by decide)
  obtain ⟨fv_of_two, mv_of_two, V_of_two⟩ := (cd_of_two (P := P) (w := w) (base := base) T).v (k := 8) (by decide)
  obtain ⟨fv_spread, mv_spread, V_spread⟩ := (c_spread (P := P) (w := w) (base := base) T).v (k := 8) (by decide)
  obtain ⟨fv_worst, mv_worst, V_worst⟩ := (cd_worst (P := P) (w := w) (base := base) T).v (k := 8) (by decide)
  obtain ⟨fv_of_two, mv_of_two, V_of_two⟩ := (ck_of_two (P := P) (w := w) (base := base) T).v (k := 8) (by decide)
  obtain ⟨fv_worst, mv_worst, V_worst⟩ := (ck_worst (P := P) (w := w) (base := base) T).v (k := 8) (by decide)
  refine ⟨_, (pss_one (L2N.ps_try_as (i := 5) rfl rfl sc__law_ask.nd rfl rfl ⟨rfl, by decide, .inl T.excs.top.gC⟩ takesN0 (fun W pn xe tk po => (pss_cons (ps_if (pt_cmpR op_lt (pv 0) pe_int (nomark _)) (pss_one (ps_ret (pe_ifExp (pt_cmpR op_eq (pv 0) pe_int (nomark _)) (pe_calKX (ck_greatest T) hr (by decide) tk (pa_cons pe_int (pa_cons (pv 1) (pa_cons (pv 2) pa_nil))) (pk_cons (pv 3) pk_nil)) (pe_calV (P := P) (w := w) (K := K) (mg := mg) (base := base) (pe_ix (kz_ixL (K := K)) (pe_lst (pa_cons (pe_glob (v := .ref fv_mended) (by rfl) mv_mended rfl) (pa_cons (pe_glob (v := .ref fv_mended_on) (by rfl) mv_mended_on rfl) pa_nil))) (pe_op op_sub (pv 0) pe_int) (fun _ _ => rfl)) hr tk (pa_cons pe_int (pa_cons (pv 1) (pa_cons (pv 2) pa_nil))))))) pss_nil)
    (pss_cons (ps_if (pt_cmpR op_eq (pv 0) pe_int (nomark _)) (pss_one (ps_ret (pe_calKX (ck_sums T) hr (by decide) tk (pa_cons pe_int (pa_cons (pv 1) (pa_cons pe_int (pa_cons pe_int pa_nil)))) (pk_cons (pv 2) pk_nil)))) pss_nil)
    (pss_cons (ps_if (pt_cmpR op_lt (pv 0) pe_int (nomark _)) (pss_one (ps_ret (pe_calVK (P := P) (w := w) (K := K) (mg := mg) (base := base) (kw := "bound") (pe_ix (kz_ixL (K := K)) (pe_lst (pa_cons (pe_glob (v := .ref fv_of_two) (by rfl) mv_of_two rfl) (pa_cons (pe_glob (v := .ref fv_worst) (by rfl) mv_worst rfl) pa_nil))) (pe_op op_sub (pv 0) pe_int) (fun _ _ => rfl)) hr tk (pa_cons pe_int (pa_cons (pv 1) (pa_cons pe_int (pa_cons pe_int (pa_cons (pv 2) pa_nil))))) (pk_cons (pv 3) pk_nil)))) pss_nil)
    (pss_cons (ps_if (pt_cmpR op_lt (pv 0) pe_int (nomark _)) (pss_one (ps_ret (pe_calV (P := P) (w := w) (K := K) (mg := mg) (base := base) (pe_ix (kz_ixL (K := K)) (pe_lst (pa_cons (pe_glob (v := .ref fv_calmest) (by rfl) mv_calmest rfl) (pa_cons (pe_glob (v := .ref fv_spread) (by rfl) mv_spread rfl) (pa_cons (pe_glob (v := .ref fv_counted) (by rfl) mv_counted rfl) pa_nil)))) (pe_op op_sub (pv 0) pe_int) (fun _ _ => rfl)) hr tk (pa_cons (pv 1) (pa_cons (pv 2) (pa_cons (pv 3) pa_nil)))))) pss_nil)
    (pss_cons (ps_if (pt_cmpR op_lt (pv 0) pe_int (nomark _)) (pss_one (ps_ret (pe_ifExp (pt_cmpR op_eq (pv 0) pe_int (nomark _)) (pe_calX (c_exchanged T) hr (by decide) tk (pa_cons pe_int (pa_cons (pv 1) (pa_cons (pv 2) (pa_cons (pv 3) pa_nil))))) (pe_calX (c_straight_on T) hr (by decide) tk (pa_cons (pv 1) (pa_cons (pv 2) (pa_cons (pv 3) pa_nil))))))) pss_nil)
    (pss_one (ps_ret (pe_ifExp (pt_cmpR op_eq (pv 0) pe_int (nomark _)) (pe_calKX (ck_foreseen T) hr (by decide) tk (pa_cons pe_int (pa_cons (pv 1) (pa_cons (pv 2) (pa_cons pe_int (pa_cons pe_int (pa_cons (pv 3) pa_nil)))))) (pk_cons (pv 4) pk_nil)) (pe_calKX (ck_calming T) hr (by decide) tk (pa_cons pe_int (pa_cons (pv 1) (pa_cons (pv 2) (pa_cons (pv 3) pa_nil)))) (pk_cons (pv 4) pk_nil))))))))))) (fun a oe cls d pn hz hf => (pss_one (ps_ret (pe_callE FW (roomM hr (by decide)) (hot_suite hz hf) hz List.mem_cons_self (by rfl) mW kW bW (pa_cons (pv 5) pa_nil))))))), ?_⟩
  rcases hh with ⟨rf, e, qE⟩ | ⟨e, hh⟩
  · match what, e, l64 with
    | 0, e, l64 =>
      walk_at "rd"
      have s := L2.Same.refl H
      refine ⟨.int 2, x, y, z, (.pl (.int 2)), a1, a2, a3, rfl, ⟨rfl, rfl⟩, h1.same s, h2.same s, h3.same s, fun H1 s1 => Fin1.err e ?_⟩
      have sA := s.trans s1
      refine ⟨true, T.excs.tops rf.name rf.mem, fun _ x nx => ?_, fun z => Bool.noConfusion z⟩
      walk_at "rd"
      exact ⟨rf.name, rf.code, rfl, rf.at_, rfl, rfl, fun q2 H2 nq s2 hq => qE q2 H2 (none_back sA nq) (sA.trans s2) hq⟩
    | 1, e, l64 =>
      walk_at "rd"
      refine ⟨by show 2 ≤ sizeLine; decide, fun L nL => ?_⟩
      have s := same_new (o := .lst [.ref fv_mended, .ref fv_mended_on]) nL
      walk_at "rd"
      refine ⟨L, _, 0, _, rfl, rfl, .inl (.inl upd_same), rfl, ?_⟩
      refine ⟨fv_mended, [], _, rfl, V_mended, ?_⟩
      walk_at "rd"
      refine ⟨.int 2, x, y, (.pl (.int 2)), a1, a2, rfl, ⟨rfl, rfl⟩, h1.same s, h2.same s, fun H1 s1 => Fin1.err e ?_⟩
      have sA := s.trans s1
      refine ⟨true, T.excs.tops rf.name rf.mem, fun _ x nx => ?_, fun z => Bool.noConfusion z⟩
      walk_at "rd"
      exact ⟨rf.name, rf.code, rfl, rf.at_, rfl, rfl, fun q2 H2 nq s2 hq => qE q2 H2 (none_back sA nq) (sA.trans s2) hq⟩
    | 2, e, l64 =>
      walk_at "rd"
      refine ⟨by show 2 ≤ sizeLine; decide, fun L nL => ?_⟩
      have s := same_new (o := .lst [.ref fv_mended, .ref fv_mended_on]) nL
      walk_at "rd"
      refine ⟨L, _, 1, _, rfl, rfl, .inl (.inl upd_same), rfl, ?_⟩
      refine ⟨fv_mended_on, [], _, rfl, V_mended_on, ?_⟩
      walk_at "rd"
      refine ⟨.int 2, x, y, (.pl (.int 2)), a1, a2, rfl, ⟨rfl, rfl⟩, h1.same s, h2.same s, fun H1 s1 => Fin1.err e ?_⟩
      have sA := s.trans s1
      refine ⟨true, T.excs.tops rf.name rf.mem, fun _ x nx => ?_, fun z => Bool.noConfusion z⟩
      walk_at "rd"
      exact ⟨rf.name, rf.code, rfl, rf.at_, rfl, rfl, fun q2 H2 nq s2 hq => qE q2 H2 (none_back sA nq) (sA.trans s2) hq⟩
    | 3, e, l64 =>
      walk_at "rd"
      refine ⟨by show 2 ≤ sizeLine; decide, fun L nL => ?_⟩
      have s := same_new (o := .lst [.ref fv_of_two, .ref fv_worst]) nL
      walk_at "rd"
      refine ⟨L, _, 0, _, rfl, rfl, .inl (.inl upd_same), rfl, ?_⟩
      refine ⟨fv_of_two, 5, _, rfl, V_of_two, ?_⟩
      walk_at "rd"
      refine ⟨.int 2, x, .int 0, .int 1, y, z, (.pl (.int 2)), a1, (.pl (.int 0)), (.pl (.int 1)), a2, a3, rfl, ⟨rfl, rfl⟩, h1.same s, ⟨rfl, rfl⟩, ⟨rfl, rfl⟩, h2.same s, h3.same s, fun H1 s1 => Fin1.err e ?_⟩
      have sA := s.trans s1
      refine ⟨true, T.excs.tops rf.name rf.mem, fun _ x nx => ?_, fun z => Bool.noConfusion z⟩
      walk_at "rd"
      exact ⟨rf.name, rf.code, rfl, rf.at_, rfl, rfl, fun q2 H2 nq s2 hq => qE q2 H2 (none_back sA nq) (sA.trans s2) hq⟩
    | 4, e, l64 =>
      walk_at "rd"
      refine ⟨by show 2 ≤ sizeLine; decide, fun L nL => ?_⟩
      have s := same_new (o := .lst [.ref fv_of_two, .ref fv_worst]) nL
      walk_at "rd"
      refine ⟨L, _, 1, _, rfl, rfl, .inl (.inl upd_same), rfl, ?_⟩
      refine ⟨fv_worst, 5, _, rfl, V_worst, ?_⟩
      walk_at "rd"
      refine ⟨.int 2, x, .int 0, .int 1, y, z, (.pl (.int 2)), a1, (.pl (.int 0)), (.pl (.int 1)), a2, a3, rfl, ⟨rfl, rfl⟩, h1.same s, ⟨rfl, rfl⟩, ⟨rfl, rfl⟩, h2.same s, h3.same s, fun H1 s1 => Fin1.err e ?_⟩
      have sA := s.trans s1
      refine ⟨true, T.excs.tops rf.name rf.mem, fun _ x nx => ?_, fun z => Bool.noConfusion z⟩
      walk_at "rd"
      exact ⟨rf.name, rf.code, rfl, rf.at_, rfl, rfl, fun q2 H2 nq s2 hq => qE q2 H2 (none_back sA nq) (sA.trans s2) hq⟩
    | 5, e, l64 =>
      walk_at "rd"
      have s := L2.Same.refl H
      refine ⟨.int 2, x, .int 0, .int 1, y, (.pl (.int 2)), a1, (.pl (.int 0)), (.pl (.int 1)), a2, rfl, ⟨rfl, rfl⟩, h1.same s, ⟨rfl, rfl⟩, ⟨rfl, rfl⟩, h2.same s, fun H1 s1 => Fin1.err e ?_⟩
      have sA := s.trans s1
      refine ⟨true, T.excs.tops rf.name rf.mem, fun _ x nx => ?_, fun z => Bool.noConfusion z⟩
      walk_at "rd"
      exact ⟨rf.name, rf.code, rfl, rf.at_, rfl, rfl, fun q2 H2 nq s2 hq => qE q2 H2 (none_back sA nq) (sA.trans s2) hq⟩
    | 6, e, l64 =>
      walk_at "rd"
      refine ⟨by show 3 ≤ sizeLine; decide, fun L nL => ?_⟩
      have s := same_new (o := .lst [.ref fv_calmest, .ref fv_spread, .ref fv_counted]) nL
      walk_at "rd"
      refine ⟨L, _, 0, _, rfl, rfl, .inl (.inl upd_same), rfl, ?_⟩
      refine ⟨fv_calmest, [], _, rfl, V_calmest, ?_⟩
      walk_at "rd"
      refine ⟨x, y, z, a1, a2, a3, rfl, h1.same s, h2.same s, h3.same s, fun H1 s1 => Fin1.err e ?_⟩
      have sA := s.trans s1
      refine ⟨true, T.excs.tops rf.name rf.mem, fun _ x nx => ?_, fun z => Bool.noConfusion z⟩
      walk_at "rd"
      exact ⟨rf.name, rf.code, rfl, rf.at_, rfl, rfl, fun q2 H2 nq s2 hq => qE q2 H2 (none_back sA nq) (sA.trans s2) hq⟩
    | 7, e, l64 =>
      walk_at "rd"
      refine ⟨by show 3 ≤ sizeLine; decide, fun L nL => ?_⟩
      have s := same_new (o := .lst [.ref fv_calmest, .ref fv_spread, .ref fv_counted]) nL
      walk_at "rd"
      refine ⟨L, _, 1, _, rfl, rfl, .inl (.inl upd_same), rfl, ?_⟩
      refine ⟨fv_spread, [], _, rfl, V_spread, ?_⟩
      walk_at "rd"
      refine ⟨x, y, z, a1, a2, a3, rfl, h1.same s, h2.same s, h3.same s, fun H1 s1 => Fin1.err e ?_⟩
      have sA := s.trans s1
      refine ⟨true, T.excs.tops rf.name rf.mem, fun _ x nx => ?_, fun z => Bool.noConfusion z⟩
      walk_at "rd"
      exact ⟨rf.name, rf.code, rfl, rf.at_, rfl, rfl, fun q2 H2 nq s2 hq => qE q2 H2 (none_back sA nq) (sA.trans s2) hq⟩
    | 8, e, l64 =>
      walk_at "rd"
      refine ⟨by show 3 ≤ sizeLine; decide, fun L nL => ?_⟩
      have s := same_new (o := .lst [.ref fv_calmest, .ref fv_spread, .ref fv_counted]) nL
      walk_at "rd"
      refine ⟨L, _, 2, _, rfl, rfl, .inl (.inl upd_same), rfl, ?_⟩
      refine ⟨fv_counted, [], _, rfl, V_counted, ?_⟩
      walk_at "rd"
      refine ⟨x, y, z, a1, a2, a3, rfl, h1.same s, h2.same s, h3.same s, fun H1 s1 => Fin1.err e ?_⟩
      have sA := s.trans s1
      refine ⟨true, T.excs.tops rf.name rf.mem, fun _ x nx => ?_, fun z => Bool.noConfusion z⟩
      walk_at "rd"
      exact ⟨rf.name, rf.code, rfl, rf.at_, rfl, rfl, fun q2 H2 nq s2 hq => qE q2 H2 (none_back sA nq) (sA.trans s2) hq⟩
    | 9, e, l64 =>
      walk_at "rd"
      have s := L2.Same.refl H
      refine ⟨.int 2, x, y, z, (.pl (.int 2)), a1, a2, a3, rfl, ⟨rfl, rfl⟩, h1.same s, h2.same s, h3.same s, fun H1 s1 => Fin1.err e ?_⟩
      have sA := s.trans s1
      refine ⟨true, T.excs.tops rf.name rf.mem, fun _ x nx => ?_, fun z => Bool.noConfusion z⟩
      walk_at "rd"
      exact ⟨rf.name, rf.code, rfl, rf.at_, rfl, rfl, fun q2 H2 nq s2 hq => qE q2 H2 (none_back sA nq) (sA.trans s2) hq⟩
    | 10, e, l64 =>
      walk_at "rd"
      have s := L2.Same.refl H
      refine ⟨x, y, z, a1, a2, a3, rfl, h1.same s, fun _ => ⟨h2.same s, h3.same s, l64 rfl⟩, fun H1 s1 => Fin1.err e ?_⟩
      have sA := s.trans s1
      refine ⟨true, T.excs.tops rf.name rf.mem, fun _ x nx => ?_, fun z => Bool.noConfusion z⟩
      walk_at "rd"
      exact ⟨rf.name, rf.code, rfl, rf.at_, rfl, rfl, fun q2 H2 nq s2 hq => qE q2 H2 (none_back sA nq) (sA.trans s2) hq⟩
    | 11, e, l64 =>
      walk_at "rd"
      have s := L2.Same.refl H
      refine ⟨.int 2, x, y, .int 0, .int 1, z, u, (.pl (.int 2)), a1, a2, (.pl (.int 0)), (.pl (.int 1)), a3, a4, rfl, ⟨rfl, rfl⟩, h1.same s, h2.same s, ⟨rfl, rfl⟩, ⟨rfl, rfl⟩, h3.same s, h4.same s, fun H1 s1 => Fin1.err e ?_⟩
      have sA := s.trans s1
      refine ⟨true, T.excs.tops rf.name rf.mem, fun _ x nx => ?_, fun z => Bool.noConfusion z⟩
      walk_at "rd"
      exact ⟨rf.name, rf.code, rfl, rf.at_, rfl, rfl, fun q2 H2 nq s2 hq => qE q2 H2 (none_back sA nq) (sA.trans s2) hq⟩
    | 12, e, l64 =>
      walk_at "rd"
      have s := L2.Same.refl H
      refine ⟨.int 2, x, y, z, u, (.pl (.int 2)), a1, a2, a3, a4, rfl, ⟨rfl, rfl⟩, h1.same s, h2.same s, h3.same s, h4.same s, fun H1 s1 => Fin1.err e ?_⟩
      have sA := s.trans s1
      refine ⟨true, T.excs.tops rf.name rf.mem, fun _ x nx => ?_, fun z => Bool.noConfusion z⟩
      walk_at "rd"
      exact ⟨rf.name, rf.code, rfl, rf.at_, rfl, rfl, fun q2 H2 nq s2 hq => qE q2 H2 (none_back sA nq) (sA.trans s2) hq⟩
    | n + 13, e, _ => cases e
  · rcases hh with ⟨rfl, q⟩ | ⟨rfl, q⟩
    · walk_at "rd"
      have s := L2.Same.refl H
      refine ⟨.int 2, x, y, z, (.pl (.int 2)), a1, a2, a3, rfl, ⟨rfl, rfl⟩, h1.same s, h2.same s, h3.same s, fun H1 s1 => Fin1.ok e ?_⟩
      have sA := s.trans s1
      exact fun p H2 s2 hp => q p H2 (sA.trans s2) hp
    · walk_at "rd"
      have s := L2.Same.refl H
      refine ⟨x, y, z, a1, a2, a3, rfl, h1.same s, fun _ => ⟨h2.same s, h3.same s, l64 rfl⟩, fun H1 s1 => Fin1.ok e ?_⟩
      have sA := s.trans s1
      exact fun p st H2 s2 hp gn => q p st H2 (sA.trans s2) hp gn

/-! _law_counts_refused -/
def sp__law_counts_refused (K : PySem.W.Frag) : Sp := fun vs H Q _ => vs = [] ∧ ∀ H', Same H H' → Q (.bl true) H'
theorem c__law_counts_refused (T : Txt K mg) : Cal P w K mg base 10 "_law_counts_refused" [] (sp__law_counts_refused K) := by
  refine T.f__law_counts_refused.cal sc__law_counts_refused (fun _ _ _ _ _ _ us hl => match us, hl with | [], _ => rfl) (fun vs H Q E h => by obtain ⟨rfl, _⟩ := h; rfl) (fun cdv A outer s H vs Q E f hr h => ?_)
  obtain ⟨rfl, q⟩ := h
  refine ⟨_, (pss_cons (ps_for PassesOwn.never rfl (kz_piT (K := K) (pe_tup (pa_cons (pe_tup (pa_cons pe_int (pa_cons pe_int (pa_cons pe_int pa_nil)))) (pa_cons (pe_tup (pa_cons pe_int (pa_cons pe_int (pa_cons pe_int pa_nil)))) (pa_cons (pe_tup (pa_cons pe_int (pa_cons pe_int (pa_cons pe_int pa_nil)))) pa_nil))))) (kz_gtup (K := K) 3 rfl (pgs_cons (pg_name (i := 0) sc__law_counts_refused.nd rfl (.inr rfl)) (pgs_cons (pg_name (i := 1) sc__law_counts_refused.nd rfl (.inl rfl)) (pgs_cons (pg_name (i := 2) sc__law_counts_refused.nd rfl (.inl rfl)) pgs_nil)))) (pss_cons (ps_for PassesOwn.never rfl (kz_piL (K := K) (pe_lst (pa_cons pe_non (pa_cons pe_int (pa_cons (pe_op op_add (pv 1) pe_int) (pa_cons pe_str (pa_cons pe_bl pa_nil))))))) (pg_name (i := 3) sc__law_counts_refused.nd rfl (.inr rfl)) (pss_one (ps_if (pt_cmpR (kz_neD (K := K) hr.units) (pe_lc (own := [("_law_what", 4)]) (g := (gName 4)) (tt := tYes) rfl sc__law_counts_refused.nd (kz_piT (K := K) (pe_tup (pa_cons pe_int (pa_cons pe_int pa_nil)))) (blkOk_by (own := [("_law_what", 4)]) (N := ["_law_hands", "_law_many", "_law_more", "_law_off", "_law_what"]) (sc := defScope S__law_counts_refused) (by decide +kernel)) (fun _ _ _ _ _ => (pg_name (i := 4) sc__law_counts_refused.nd rfl (.inl rfl))) (fun _ _ _ _ _ => pts_nil) (fun _ _ _ _ _ => (pe_cal (c__law_ask T) hr (by decide) (pa_cons (pv 4) (pa_cons (pv 0) (pa_cons (pv 3) (pa_cons pe_non (pa_cons pe_non pa_nil)))))))) (pe_op op_rep (pe_lst (pa_cons (pe_tup (pa_cons pe_str (pa_cons pe_int pa_nil))) pa_nil)) pe_int) (nomark _)) (pss_one (ps_ret pe_bl)) pss_nil)))
    (pss_cons (ps_for PassesOwn.never rfl (kz_piL (K := K) (pe_lst (pa_cons pe_non (pa_cons pe_int (pa_cons (pe_op op_add (pv 2) pe_int) (pa_cons pe_str (pa_cons pe_bl pa_nil))))))) (pg_name (i := 3) sc__law_counts_refused.nd rfl (.inr rfl)) (pss_one (ps_if (pt_cmpR (kz_neD (K := K) hr.units) (pe_cal (c__law_ask T) hr (by decide) (pa_cons pe_int (pa_cons (pv 0) (pa_cons (pv 3) (pa_cons pe_non (pa_cons pe_non pa_nil)))))) (pe_tup (pa_cons pe_str (pa_cons pe_int pa_nil))) (nomark _)) (pss_one (ps_ret pe_bl)) pss_nil)))
    (pss_one (ps_for PassesOwn.never rfl (kz_piL (K := K) (pe_lst (pa_cons pe_non (pa_cons (pe_un un_neg pe_int) (pa_cons pe_int (pa_cons pe_str (pa_cons pe_bl pa_nil))))))) (pg_name (i := 3) sc__law_counts_refused.nd rfl (.inr rfl)) (pss_one (ps_if (pt_cmpR (kz_neD (K := K) hr.units) (pe_cal (c__law_ask T) hr (by decide) (pa_cons pe_int (pa_cons (pv 0) (pa_cons (pv 2) (pa_cons (pv 3) (pa_cons pe_non pa_nil)))))) (pe_tup (pa_cons pe_str (pa_cons pe_int pa_nil))) (nomark _)) (pss_one (ps_ret pe_bl)) pss_nil)))))))
    (pss_cons (ps_for PassesOwn.never rfl (kz_piL (K := K) (pe_lst (pa_cons pe_non (pa_cons pe_int (pa_cons pe_int (pa_cons pe_bl pa_nil)))))) (pg_name (i := 3) sc__law_counts_refused.nd rfl (.inr rfl)) (pss_one (ps_if (pt_cmpR (kz_neD (K := K) hr.units) (pe_lc (own := [("_law_what", 4)]) (g := (gName 4)) (tt := tYes) rfl sc__law_counts_refused.nd (kz_piT (K := K) (pe_tup (pa_cons pe_int (pa_cons pe_int (pa_cons pe_int pa_nil))))) (blkOk_by (own := [("_law_what", 4)]) (N := ["_law_hands", "_law_many", "_law_more", "_law_off", "_law_what"]) (sc := defScope S__law_counts_refused) (by decide +kernel)) (fun _ _ _ _ _ => (pg_name (i := 4) sc__law_counts_refused.nd rfl (.inl rfl))) (fun _ _ _ _ _ => pts_nil) (fun _ _ _ _ _ => (pe_cal (c__law_ask T) hr (by decide) (pa_cons (pv 4) (pa_cons (pv 3) (pa_cons pe_non (pa_cons pe_non (pa_cons pe_non pa_nil)))))))) (pe_op op_rep (pe_lst (pa_cons (pe_tup (pa_cons pe_str (pa_cons pe_int pa_nil))) pa_nil)) pe_int) (nomark _)) (pss_one (ps_ret pe_bl)) pss_nil)))
    (pss_one (ps_ret pe_bl)))), ?_⟩
  walk_at "rd"
  intro p1 n1
  obtain ⟨H1, e1, s1, k1⟩ := newR (.tup [.int 2, .int 10, .int 12]) n1
  rw [e1]
  clear e1 n1
  walk_at "rd"
  intro p2 n2
  obtain ⟨H2, e2, s2, k2⟩ := newR (.tup [.int 3, .int 6, .int 8]) n2
  rw [e2]
  clear e2 n2
  replace k1 := s2 _ _ k1
  walk_at "rd"
  intro p3 n3
  obtain ⟨H3, e3, s3, k3⟩ := newR (.tup [.int 4, .int 5, .int 6]) n3
  rw [e3]
  clear e3 n3
  replace k1 := s3 _ _ k1
  replace k2 := s3 _ _ k2
  walk_at "rd"
  refine ⟨by show 3 ≤ sizeLine; decide, ?_⟩
  intro p4 n4
  obtain ⟨H4, e4, s4, k4⟩ := newR (.tup [.ref p1, .ref p2, .ref p3]) n4
  rw [e4]
  clear e4 n4
  replace k1 := s4 _ _ k1
  replace k2 := s4 _ _ k2
  replace k3 := s4 _ _ k3
  refine ⟨p4, rfl, ⟨_, .inl (.inl k4)⟩, ?_⟩
  refine for_tup (xs := [.ref p1, .ref p2, .ref p3]) (fun _ σ H => ∃ y0 y1 y2 y3 y4, σ = [y0, y1, y2, y3, y4] ∧ Same H4 H) ⟨_, _, _, _, _, rfl, fun _ _ e => e⟩ (fun _ _ H _ h => by obtain ⟨_, _, _, _, _, _, s⟩ := h; exact .inl (.inl (s _ _ k4))) ?_ ?_
  · rintro i v σ H5 hv ⟨y0, y1, y2, y3, y4, rfl, s5⟩
    have hw : ∃ (p : Addr) (h m o : Int), v = .ref p ∧ H5 p = some (.tup [.int h, .int m, .int o]) ∧ (∀ v ∈ [V.non, V.int 0, V.int (m + 1), V.str "2", V.bl true], ∀ k : Nat, (k = 6 ∨ k = 7) → askO k (.pl (.int h)) (.pl v) (.pl .non) (.pl .non) = some .places) ∧ (∀ v ∈ [V.non, V.int 0, V.int (o + 1), V.str "2", V.bl true], askO 8 (.pl (.int h)) (.pl v) (.pl .non) (.pl .non) = some .places) ∧ (∀ v ∈ [V.non, V.int (-1), V.int 4, V.str "1", V.bl true], askO 8 (.pl (.int h)) (.pl (.int o)) (.pl v) (.pl .non) = some .degree) := by
      have hv := List.mem_of_getElem? hv
      simp only [List.mem_cons, List.not_mem_nil, or_false] at hv
      rcases hv with rfl | rfl | rfl
      · exact ⟨_, _, _, _, rfl, s5 _ _ k1, fun v hv k hk => by rcases hk with rfl | rfl <;> revert v <;> decide +kernel, by decide +kernel, by decide +kernel⟩
      · exact ⟨_, _, _, _, rfl, s5 _ _ k2, fun v hv k hk => by rcases hk with rfl | rfl <;> revert v <;> decide +kernel, by decide +kernel, by decide +kernel⟩
      · exact ⟨_, _, _, _, rfl, s5 _ _ k3, fun v hv k hk => by rcases hk with rfl | rfl <;> revert v <;> decide +kernel, by decide +kernel, by decide +kernel⟩
    obtain ⟨p, h, m, o, rfl, hp, f1, f2, f3⟩ := hw
    refine ⟨p, _, rfl, .inl (.inl hp), rfl, _, _, rfl, _, _, rfl, _, _, rfl, rfl, ?_⟩
    dsimp only [List.set]
    walk_at "rd"
    refine ⟨by show 5 ≤ sizeLine; decide, ?_⟩
    intro p10 n10
    obtain ⟨H10, e10, s10, k10⟩ := newR (.lst [V.non, V.int 0, V.int (m + 1), V.str "2", V.bl true]) n10
    rw [e10]
    clear e10 n10
    refine ⟨p10, rfl, ⟨_, .inl (.inl k10)⟩, ?_⟩
    refine for_list (xs := [V.non, V.int 0, V.int (m + 1), V.str "2", V.bl true]) (fun _ σ H => ∃ y3 y4, σ = [some (.int h), some (.int m), some (.int o), y3, y4] ∧ Same H10 H) ⟨_, _, rfl, fun _ _ e => e⟩ (fun _ _ H _ h => by obtain ⟨_, _, _, s⟩ := h; exact .inl (.inl (s _ _ k10))) ?_ ?_
    · rintro i v σ H11 hv ⟨y3, y4, rfl, s11⟩
      have hv := List.mem_of_getElem? hv
      have pv : pln v = true := by
        simp only [List.mem_cons, List.not_mem_nil, or_false] at hv
        rcases hv with rfl | rfl | rfl | rfl | rfl <;> rfl
      dsimp only [gName, List.set]
      walk_at "rd"
      intro p12 n12
      obtain ⟨H12, e12, s12, k12⟩ := newR (.tup [.int 6, .int 7]) n12
      rw [e12]
      clear e12 n12
      refine ⟨p12, rfl, ⟨_, .inl (.inl k12)⟩, fun D nD => ?_⟩
      refine lcr (walk_tup (xs := [.int 6, .int 7])) nD (by decide) (fun _ => rfO 9) (fun H s => .inl (.inl (s _ _ k12))) ?_ ?_
      · rintro i x H13 H14 R hi s13 ⟨rfl, hx⟩ kk
        obtain ⟨k, rfl, hk⟩ : ∃ k : Nat, x = .int (k : Int) ∧ (k = 6 ∨ k = 7) := by
          have hx := List.mem_of_getElem? hx
          simp only [List.mem_cons, List.not_mem_nil, or_false] at hx
          rcases hx with rfl | rfl
          · exact ⟨6, rfl, .inl rfl⟩
          · exact ⟨7, rfl, .inr rfl⟩
        refine ⟨rfl, ?_⟩
        walk_at "rd"
        exact ⟨k, _, _, _, _, .pl (.int h), .pl v, .pl (.non), .pl (.non), rfl, ⟨rfl, rfl⟩, ⟨rfl, pv⟩, ⟨rfl, rfl⟩, ⟨rfl, rfl⟩, fun z => absurd z (by omega), .inl ⟨.places, f1 v hv k hk, fun p H' np s hp => kk p H' np s hp⟩⟩
      · intro xs H13 lx s13 hx hD
        refine rhsN (n := 9) (k := 2) hD lx (by decide) hx fun H14 s14 => ⟨_, rfl, iteF ?_⟩
        exact ⟨_, _, rfl, s11.trans (s12.trans (s13.trans s14))⟩
    rintro σ H19 ⟨y3, y4, rfl, s19⟩
    walk_at "rd"
    refine ⟨by show 5 ≤ sizeLine; decide, ?_⟩
    intro p20 n20
    obtain ⟨H20, e20, s20, k20⟩ := newR (.lst [V.non, V.int 0, V.int (o + 1), V.str "2", V.bl true]) n20
    rw [e20]
    clear e20 n20
    refine ⟨p20, rfl, ⟨_, .inl (.inl k20)⟩, ?_⟩
    refine for_list (xs := [V.non, V.int 0, V.int (o + 1), V.str "2", V.bl true]) (fun _ σ H => ∃ y3 y4, σ = [some (.int h), some (.int m), some (.int o), y3, y4] ∧ Same H20 H) ⟨_, _, rfl, fun _ _ e => e⟩ (fun _ _ H _ h => by obtain ⟨_, _, _, s⟩ := h; exact .inl (.inl (s _ _ k20))) ?_ ?_
    · rintro i v σ H21 hv ⟨y3, y4, rfl, s21⟩
      have hv := List.mem_of_getElem? hv
      have pv : pln v = true := by
        simp only [List.mem_cons, List.not_mem_nil, or_false] at hv
        rcases hv with rfl | rfl | rfl | rfl | rfl <;> rfl
      dsimp only [gName, List.set]
      walk_at "rd"
      refine ⟨8, _, _, _, _, .pl (.int h), .pl v, .pl .non, .pl .non, rfl, ⟨rfl, rfl⟩, ⟨rfl, pv⟩, ⟨rfl, rfl⟩, ⟨rfl, rfl⟩, fun z => absurd z (by decide), .inl ⟨.places, f2 v hv, fun p22 H22 n22 s22 k22 => ?_⟩⟩
      refine rhs1 k22 fun H23 s23 => ⟨_, rfl, iteF ?_⟩
      exact ⟨_, _, rfl, s21.trans (s22.trans s23)⟩
    rintro σ H29 ⟨y3, y4, rfl, s29⟩
    walk_at "rd"
    intro p30 n30
    obtain ⟨H30, e30, s30, k30⟩ := newR (.lst [V.non, V.int (-1), V.int 4, V.str "1", V.bl true]) n30
    rw [e30]
    clear e30 n30
    refine ⟨p30, rfl, ⟨_, .inl (.inl k30)⟩, ?_⟩
    refine for_list (xs := [V.non, V.int (-1), V.int 4, V.str "1", V.bl true]) (fun _ σ H => ∃ y3 y4, σ = [some (.int h), some (.int m), some (.int o), y3, y4] ∧ Same H30 H) ⟨_, _, rfl, fun _ _ e => e⟩ (fun _ _ H _ h => by obtain ⟨_, _, _, s⟩ := h; exact .inl (.inl (s _ _ k30))) ?_ ?_
    · rintro i v σ H31 hv ⟨y3, y4, rfl, s31⟩
      have hv := List.mem_of_getElem? hv
      have pv : pln v = true := by
        simp only [List.mem_cons, List.not_mem_nil, or_false] at hv
        rcases hv with rfl | rfl | rfl | rfl | rfl <;> rfl
      dsimp only [gName, List.set]
      walk_at "rd"
      refine ⟨8, _, _, _, _, .pl (.int h), .pl (.int o), .pl v, .pl .non, rfl, ⟨rfl, rfl⟩, ⟨rfl, rfl⟩, ⟨rfl, pv⟩, ⟨rfl, rfl⟩, fun z => absurd z (by decide), .inl ⟨.degree, f3 v hv, fun p32 H32 n32 s32 k32 => ?_⟩⟩
      refine rhs1 k32 fun H33 s33 => ⟨_, rfl, iteF ?_⟩
      exact ⟨_, _, rfl, s31.trans (s32.trans s33)⟩
    rintro σ H39 ⟨y3, y4, rfl, s39⟩
    exact ⟨_, _, _, _, _, rfl, s5.trans (s10.trans (s19.trans (s20.trans (s29.trans (s30.trans s39)))))⟩
  rintro σ H40 ⟨y0, y1, y2, y3, y4, rfl, s40⟩
  have sA := s1.trans (s2.trans (s3.trans (s4.trans s40)))
  walk_at "rd"
  intro p41 n41
  obtain ⟨H41, e41, s41, k41⟩ := newR (.lst [.non, .int 1, .int 5, .bl true]) n41
  rw [e41]
  clear e41 n41
  refine ⟨p41, rfl, ⟨_, .inl (.inl k41)⟩, ?_⟩
  refine for_list (xs := [.non, .int 1, .int 5, .bl true]) (fun _ σ H => ∃ y0 y1 y2 y3 y4, σ = [y0, y1, y2, y3, y4] ∧ Same H41 H) ⟨_, _, _, _, _, rfl, fun _ _ e => e⟩ (fun _ _ H _ h => by obtain ⟨_, _, _, _, _, _, s⟩ := h; exact .inl (.inl (s _ _ k41))) ?_ ?_
  · rintro i v σ H42 hv ⟨y0, y1, y2, y3, y4, rfl, s42⟩
    have hv := List.mem_of_getElem? hv
    have hw : pln v = true ∧ ∀ k : Nat, (k = 6 ∨ k = 7 ∨ k = 8) → askO k (.pl v) (.pl .non) (.pl .non) (.pl .non) = some .hands := by
      simp only [List.mem_cons, List.not_mem_nil, or_false] at hv
      rcases hv with rfl | rfl | rfl | rfl <;> exact ⟨rfl, fun k hk => by rcases hk with rfl | rfl | rfl <;> decide +kernel⟩
    obtain ⟨pv, f1⟩ := hw
    dsimp only [gName, List.set]
    walk_at "rd"
    intro p43 n43
    obtain ⟨H43, e43, s43, k43⟩ := newR (.tup [.int 6, .int 7, .int 8]) n43
    rw [e43]
    clear e43 n43
    refine ⟨p43, rfl, ⟨_, .inl (.inl k43)⟩, fun D nD => ?_⟩
    refine lcr (walk_tup (xs := [.int 6, .int 7, .int 8])) nD (by decide) (fun _ => rfO 0) (fun H s => .inl (.inl (s _ _ k43))) ?_ ?_
    · rintro i x H44 H45 R hi s44 ⟨rfl, hx⟩ kk
      obtain ⟨k, rfl, hk⟩ : ∃ k : Nat, x = .int (k : Int) ∧ (k = 6 ∨ k = 7 ∨ k = 8) := by
        have hx := List.mem_of_getElem? hx
        simp only [List.mem_cons, List.not_mem_nil, or_false] at hx
        rcases hx with rfl | rfl | rfl
        · exact ⟨6, rfl, .inl rfl⟩
        · exact ⟨7, rfl, .inr (.inl rfl)⟩
        · exact ⟨8, rfl, .inr (.inr rfl)⟩
      refine ⟨rfl, ?_⟩
      walk_at "rd"
      exact ⟨k, _, _, _, _, .pl v, .pl (.non), .pl (.non), .pl (.non), rfl, ⟨rfl, pv⟩, ⟨rfl, rfl⟩, ⟨rfl, rfl⟩, ⟨rfl, rfl⟩, fun z => absurd z (by omega), .inl ⟨.hands, f1 k hk, fun p H' np s hp => kk p H' np s hp⟩⟩
    · intro xs H44 lx s44 hx hD
      refine rhsN (n := 0) (k := 3) hD lx (by decide) hx fun H45 s45 => ⟨_, rfl, iteF ?_⟩
      exact ⟨_, _, _, _, _, rfl, s42.trans (s43.trans (s44.trans s45))⟩
  rintro σ H49 ⟨y0, y1, y2, y3, y4, rfl, s49⟩
  walk_at "rd"
  exact q _ (sA.trans (s41.trans s49))

/-! _law_told_refused -/
def sp__law_told_refused (K : PySem.W.Frag) : Sp := fun vs H Q _ => ∃ r : Addr, vs = [.ref r] ∧ H r = some (.tup [.int 0, .int 1, .int 1, .int 0]) ∧ ∀ H', Same H H' → Q (.bl true) H'
theorem c__law_told_refused (T : Txt K mg) : Cal P w K mg base 10 "_law_told_refused" ["_law_row"] (sp__law_told_refused K) := by
  refine T.f__law_told_refused.cal sc__law_told_refused (fun _ _ _ _ _ _ us hl => match us, hl with | [_], _ => rfl) (fun vs H Q E h => by first | (obtain ⟨_, rfl, _⟩ := h; rfl) | (obtain ⟨_, _, rfl, _⟩ := h; rfl) | (obtain ⟨_, _, _, rfl, _⟩ := h; rfl) | (obtain ⟨_, _, _, _, rfl, _⟩ := h; rfl) | (obtain ⟨_, _, _, _, _, rfl, _⟩ := h; rfl) | (obtain ⟨_, _, _, _, _, _, rfl, _⟩ := h; rfl) | (obtain ⟨_, _, _, _, _, _, _, rfl, _⟩ := h; rfl) | (obtain ⟨_, _, _, _, _, _, _, _, rfl, _⟩ := h; rfl) | (obtain ⟨_, _, _, _, _, _, _, _, _, rfl, _⟩ := h; rfl) | (obtain ⟨_, _, _, _, _, _, _, _, _, _, rfl, _⟩ := h; rfl) | (obtain ⟨_, _, _, _, _, _, _, _, _, _, _, rfl, _⟩ := h; rfl) | (obtain ⟨_, _, _, _, _, _, _, _, _, _, _, _, rfl, _⟩ := h; rfl) | (obtain ⟨_, _, _, _, _, _, _, _, _, _, _, _, _, rfl, _⟩ := h; rfl)) (fun cdv A outer s H vs Q E f hr h => ?_)
  obtain ⟨r, rfl, hrow, q⟩ := h
  refine ⟨_, (pss_cons (ps_for PassesOwn.never rfl (kz_piL (K := K) (pe_lst (pa_cons pe_non (pa_cons (pe_lst (pa_cons pe_int pa_nil)) (pa_cons (pe_tup (pa_cons pe_int (pa_cons pe_non pa_nil))) (pa_cons (pe_tup (pa_cons pe_int (pa_cons pe_bl pa_nil))) (pa_cons (pe_op (kz_repT (K := K)) (pe_tup (pa_cons pe_int pa_nil)) pe_int) (pa_cons pe_str pa_nil)))))))) (pg_name (i := 1) sc__law_told_refused.nd rfl (.inr rfl)) (pss_one (ps_if (pt_cmpR (kz_neD (K := K) hr.units) (pe_lc (own := [("_law_what", 2)]) (g := (gName 2)) (tt := tYes) rfl sc__law_told_refused.nd (kz_piT (K := K) (pe_tup (pa_cons pe_int (pa_cons pe_int pa_nil)))) (blkOk_by (own := [("_law_what", 2)]) (N := ["_law_row", "_law_off", "_law_what"]) (sc := defScope S__law_told_refused) (by decide +kernel)) (fun _ _ _ _ _ => (pg_name (i := 2) sc__law_told_refused.nd rfl (.inl rfl))) (fun _ _ _ _ _ => pts_nil) (fun _ _ _ _ _ => (pe_cal (c__law_ask T) hr (by decide) (pa_cons (pv 2) (pa_cons (pv 0) (pa_cons (pv 1) (pa_cons pe_non (pa_cons pe_non pa_nil)))))))) (pe_op op_rep (pe_lst (pa_cons (pe_tup (pa_cons pe_str (pa_cons pe_int pa_nil))) pa_nil)) pe_int) (nomark _)) (pss_one (ps_ret pe_bl)) pss_nil)))
    (pss_cons (ps_for PassesOwn.never rfl (kz_piL (K := K) (pe_lst (pa_cons pe_non (pa_cons (pe_lst (pa_cons pe_int pa_nil)) (pa_cons (pe_tup (pa_cons pe_int (pa_cons pe_non pa_nil))) (pa_cons (pe_tup (pa_cons pe_bl pa_nil)) pa_nil)))))) (pg_name (i := 1) sc__law_told_refused.nd rfl (.inr rfl)) (pss_one (ps_if (pt_cmpR (kz_neD (K := K) hr.units) (pe_cal (c__law_ask T) hr (by decide) (pa_cons pe_int (pa_cons (pv 1) (pa_cons pe_non (pa_cons pe_non (pa_cons pe_non pa_nil)))))) (pe_tup (pa_cons pe_str (pa_cons pe_int pa_nil))) (nomark _)) (pss_one (ps_ret pe_bl)) pss_nil)))
    (pss_cons (ps_for PassesOwn.never rfl (kz_piL (K := K) (pe_lst (pa_cons pe_non (pa_cons pe_int (pa_cons pe_int (pa_cons pe_str (pa_cons pe_bl pa_nil))))))) (pg_name (i := 1) sc__law_told_refused.nd rfl (.inr rfl)) (pss_one (ps_if (pt_cmpR (kz_neD (K := K) hr.units) (pe_cal (c__law_ask T) hr (by decide) (pa_cons pe_int (pa_cons (pe_tup (pa_cons pe_int (pa_cons pe_int pa_nil))) (pa_cons (pv 1) (pa_cons pe_int (pa_cons pe_non pa_nil)))))) (pe_tup (pa_cons pe_str (pa_cons pe_int pa_nil))) (nomark _)) (pss_one (ps_ret pe_bl)) pss_nil)))
    (pss_cons (ps_if (pt_cmpR (kz_neD (K := K) hr.units) (pe_lc (own := [("_law_what", 2)]) (g := (gName 2)) (tt := tYes) rfl sc__law_told_refused.nd (kz_piT (K := K) (pe_tup (pa_cons pe_int (pa_cons pe_int pa_nil)))) (blkOk_by (own := [("_law_what", 2)]) (N := ["_law_row", "_law_off", "_law_what"]) (sc := defScope S__law_told_refused) (by decide +kernel)) (fun _ _ _ _ _ => (pg_name (i := 2) sc__law_told_refused.nd rfl (.inl rfl))) (fun _ _ _ _ _ => pts_nil) (fun _ _ _ _ _ => (pe_cal (c__law_ask T) hr (by decide) (pa_cons (pv 2) (pa_cons (pv 0) (pa_cons (pe_tup (pa_cons pe_int (pa_cons pe_int pa_nil))) (pa_cons pe_int (pa_cons pe_int pa_nil)))))))) (pe_op op_rep (pe_lst (pa_cons (pe_tup (pa_cons pe_str (pa_cons pe_int pa_nil))) pa_nil)) pe_int) (nomark _)) (pss_one (ps_ret pe_bl)) pss_nil)
    (pss_cons (ps_if (PW.pt (pw_or (pt_cmpR (kz_neD (K := K) hr.units) (pe_cal (c__law_ask T) hr (by decide) (pa_cons pe_int (pa_cons (pe_tup pa_nil) (pa_cons pe_int (pa_cons pe_int (pa_cons pe_non pa_nil)))))) (pe_tup (pa_cons pe_str (pa_cons pe_int pa_nil))) (nomark _)) (pw_or1 (pt_cmpR (kz_neD (K := K) hr.units) (pe_cal (c__law_ask T) hr (by decide) (pa_cons pe_int (pa_cons (pv 0) (pa_cons (pe_tup pa_nil) (pa_cons pe_int (pa_cons pe_int pa_nil)))))) (pe_tup (pa_cons pe_str (pa_cons pe_int pa_nil))) (nomark _))))) (pss_one (ps_ret pe_bl)) pss_nil)
    (pss_cons (ps_if (pt_cmpR (kz_neD (K := K) hr.units) (pe_cal (c__law_ask T) hr (by decide) (pa_cons pe_int (pa_cons (pe_op (kz_catT (K := K)) (pe_op (kz_repT (K := K)) (pe_tup (pa_cons pe_int (pa_cons pe_int pa_nil))) pe_int) (pe_tup (pa_cons pe_int pa_nil))) (pa_cons (pe_tup (pa_cons pe_int pa_nil)) (pa_cons pe_int (pa_cons pe_int pa_nil)))))) (pe_tup (pa_cons pe_str (pa_cons pe_int pa_nil))) (nomark _)) (pss_one (ps_ret pe_bl)) pss_nil)
    (pss_one (ps_ret (pe_cmpR (kz_eqD (K := K) hr.units) (pe_cal (c__law_ask T) hr (by decide) (pa_cons pe_int (pa_cons (pe_tup (pa_cons pe_int pa_nil)) (pa_cons pe_int (pa_cons pe_int (pa_cons pe_non pa_nil)))))) (pe_op (kz_repT (K := K)) (pe_tup (pa_cons pe_int pa_nil)) pe_int) (nomark _)))))))))), ?_⟩
  have sA := L2.Same.refl H
  walk_at "rd"
  intro p1 n1
  obtain ⟨H1, e1, s1, k1⟩ := newR (.lst [.int 1]) n1
  rw [e1]
  clear e1 n1
  replace hrow := s1 _ _ hrow
  walk_at "rd"
  intro p2 n2
  obtain ⟨H2, e2, s2, k2⟩ := newR (.tup [.int 1, .non]) n2
  rw [e2]
  clear e2 n2
  replace hrow := s2 _ _ hrow
  replace k1 := s2 _ _ k1
  walk_at "rd"
  intro p3 n3
  obtain ⟨H3, e3, s3, k3⟩ := newR (.tup [.int 1, .bl true]) n3
  rw [e3]
  clear e3 n3
  replace hrow := s3 _ _ hrow
  replace k1 := s3 _ _ k1
  replace k2 := s3 _ _ k2
  walk_at "rd"
  intro p4 n4
  obtain ⟨H4, e4, s4, k4⟩ := newR (.tup [.int 0]) n4
  rw [e4]
  clear e4 n4
  replace hrow := s4 _ _ hrow
  replace k1 := s4 _ _ k1
  replace k2 := s4 _ _ k2
  replace k3 := s4 _ _ k3
  refine ⟨p4, 5, _, rfl, rfl, .inl (.inl k4), fun z => absurd (congrArg List.length z) (by decide +kernel), by decide, by decide, by decide +kernel, fun z => absurd z (by decide), fun _ => ?_⟩
  intro p5 n5
  obtain ⟨H5, e5, s5, k5⟩ := newR (.tup (List.replicate (5 : Int).toNat [.int 0]).flatten) n5
  rw [e5]
  clear e5 n5
  replace hrow := s5 _ _ hrow
  replace k1 := s5 _ _ k1
  replace k2 := s5 _ _ k2
  replace k3 := s5 _ _ k3
  walk_at "rd"
  refine ⟨by show 6 ≤ sizeLine; decide, ?_⟩
  intro p6 n6
  obtain ⟨H6, e6, s6, k6⟩ := newR (.lst [.non, .ref p1, .ref p2, .ref p3, .ref p5, .str "12"]) n6
  rw [e6]
  clear e6 n6
  replace hrow := s6 _ _ hrow
  replace k1 := s6 _ _ k1
  replace k2 := s6 _ _ k2
  replace k3 := s6 _ _ k3
  replace k5 := s6 _ _ k5
  refine ⟨p6, rfl, ⟨_, .inl (.inl k6)⟩, ?_⟩
  refine for_list (xs := [.non, .ref p1, .ref p2, .ref p3, .ref p5, .str "12"]) (fun _ σ H => ∃ y1 y2, σ = [some (.ref r), y1, y2] ∧ Same H6 H) ⟨_, _, rfl, fun _ _ e => e⟩ (fun _ _ H _ h => by obtain ⟨_, _, _, s⟩ := h; exact .inl (.inl (s _ _ k6))) ?_ ?_
  · rintro i v σ H20 hv ⟨y1, y2, rfl, s20⟩
    have hw : ∃ a : Ar, (∀ H, Same H6 H → ArOk K H a v) ∧ ∀ k : Nat, (k = 11 ∨ k = 12) → askO k (.tup [.int 0, .int 1, .int 1, .int 0]) a (.pl .non) (.pl .non) = some .worths := by
      have hv := List.mem_of_getElem? hv
      simp only [List.mem_cons, List.not_mem_nil, or_false] at hv
      rcases hv with rfl | rfl | rfl | rfl | rfl | rfl
      · exact ⟨.pl (.non), fun _ _ => ⟨rfl, rfl⟩, by intro k hk; rcases hk with rfl | rfl <;> decide +kernel⟩
      · exact ⟨.lst [.int 1], fun _ s => ⟨_, rfl, .inl (.inl (s _ _ k1))⟩, by intro k hk; rcases hk with rfl | rfl <;> decide +kernel⟩
      · exact ⟨.tup [.int 1, .non], fun _ s => ⟨_, rfl, .inl (.inl (s _ _ k2)), by decide +kernel, by decide +kernel⟩, by intro k hk; rcases hk with rfl | rfl <;> decide +kernel⟩
      · exact ⟨.tup [.int 1, .bl true], fun _ s => ⟨_, rfl, .inl (.inl (s _ _ k3)), by decide +kernel, by decide +kernel⟩, by intro k hk; rcases hk with rfl | rfl <;> decide +kernel⟩
      · exact ⟨.tup (List.replicate (5 : Int).toNat [.int 0]).flatten, fun _ s => ⟨_, rfl, .inl (.inl (s _ _ k5)), by decide +kernel, by decide +kernel⟩, by intro k hk; rcases hk with rfl | rfl <;> decide +kernel⟩
      · exact ⟨.pl (.str "12"), fun _ _ => ⟨rfl, rfl⟩, by intro k hk; rcases hk with rfl | rfl <;> decide +kernel⟩
    obtain ⟨a, ha, fa⟩ := hw
    have hrow := s20 _ _ hrow
    dsimp only [gName, List.set]
    walk_at "rd"
    intro p21 n21
    obtain ⟨H21, e21, s21, k21⟩ := newR (.tup [.int 11, .int 12]) n21
    rw [e21]
    clear e21 n21
    replace hrow := s21 _ _ hrow
    refine ⟨p21, rfl, ⟨_, .inl (.inl k21)⟩, fun D nD => ?_⟩
    refine lcr (walk_tup (xs := [.int 11, .int 12])) nD (by decide) (fun _ => rfO 3) (fun H s => .inl (.inl (s _ _ k21))) ?_ ?_
    · rintro i x H22 H23 R hi s22 ⟨rfl, hx⟩ kk
      obtain ⟨k, rfl, hk⟩ : ∃ k : Nat, x = .int (k : Int) ∧ (k = 11 ∨ k = 12) := by
        have hx := List.mem_of_getElem? hx
        simp only [List.mem_cons, List.not_mem_nil, or_false] at hx
        rcases hx with rfl | rfl
        · exact ⟨11, rfl, .inl rfl⟩
        · exact ⟨12, rfl, .inr rfl⟩
      refine ⟨rfl, ?_⟩
      walk_at "rd"
      exact ⟨k, _, _, _, _, .tup [.int 0, .int 1, .int 1, .int 0], a, .pl (.non), .pl (.non), rfl, ⟨_, rfl, .inl (.inl (s22 _ _ hrow)), rfl, by decide⟩, ha _ (s20.trans (s21.trans s22)), ⟨rfl, rfl⟩, ⟨rfl, rfl⟩, fun z => absurd z (by omega), .inl ⟨.worths, fa k hk, fun p H' np s hp => kk p H' np s hp⟩⟩
    · intro xs H22 lx s22 hx hD
      refine rhsN (n := 3) (k := 2) hD lx (by decide) hx fun H23 s23 => ⟨_, rfl, iteF ?_⟩
      exact ⟨_, _, rfl, s20.trans (s21.trans (s22.trans s23))⟩
  rintro σ H29 ⟨y1, y2, rfl, s29⟩
  replace hrow := s29 _ _ hrow
  replace sA : Same H H29 := sA.trans (s1.trans (s2.trans (s3.trans (s4.trans (s5.trans (s6.trans s29))))))
  clear s29
  walk_at "rd"
  intro p30 n30
  obtain ⟨H30, e30, s30, k30⟩ := newR (.lst [.int 1]) n30
  rw [e30]
  clear e30 n30
  replace hrow := s30 _ _ hrow
  walk_at "rd"
  intro p31 n31
  obtain ⟨H31, e31, s31, k31⟩ := newR (.tup [.int 1, .non]) n31
  rw [e31]
  clear e31 n31
  replace hrow := s31 _ _ hrow
  replace k30 := s31 _ _ k30
  walk_at "rd"
  intro p32 n32
  obtain ⟨H32, e32, s32, k32⟩ := newR (.tup [.bl true]) n32
  rw [e32]
  clear e32 n32
  replace hrow := s32 _ _ hrow
  replace k30 := s32 _ _ k30
  replace k31 := s32 _ _ k31
  walk_at "rd"
  refine ⟨by show 4 ≤ sizeLine; decide, ?_⟩
  intro p33 n33
  obtain ⟨H33, e33, s33, k33⟩ := newR (.lst [.non, .ref p30, .ref p31, .ref p32]) n33
  rw [e33]
  clear e33 n33
  replace hrow := s33 _ _ hrow
  replace k30 := s33 _ _ k30
  replace k31 := s33 _ _ k31
  replace k32 := s33 _ _ k32
  refine ⟨p33, rfl, ⟨_, .inl (.inl k33)⟩, ?_⟩
  refine for_list (xs := [.non, .ref p30, .ref p31, .ref p32]) (fun _ σ H => ∃ y1 y2, σ = [some (.ref r), y1, y2] ∧ Same H33 H) ⟨_, _, rfl, fun _ _ e => e⟩ (fun _ _ H _ h => by obtain ⟨_, _, _, s⟩ := h; exact .inl (.inl (s _ _ k33))) ?_ ?_
  · rintro i v σ H40 hv ⟨y1, y2, rfl, s40⟩
    have hw : ∃ a : Ar, (∀ H, Same H33 H → ArOk K H a v) ∧ lenA a ≤ 64 ∧ askO 10 a (.pl .non) (.pl .non) (.pl .non) = some .worths := by
      have hv := List.mem_of_getElem? hv
      simp only [List.mem_cons, List.not_mem_nil, or_false] at hv
      rcases hv with rfl | rfl | rfl | rfl
      · exact ⟨.pl (.non), fun _ _ => ⟨rfl, rfl⟩, by decide +kernel, by decide +kernel⟩
      · exact ⟨.lst [.int 1], fun _ s => ⟨_, rfl, .inl (.inl (s _ _ k30))⟩, by decide +kernel, by decide +kernel⟩
      · exact ⟨.tup [.int 1, .non], fun _ s => ⟨_, rfl, .inl (.inl (s _ _ k31)), by decide +kernel, by decide +kernel⟩, by decide +kernel, by decide +kernel⟩
      · exact ⟨.tup [.bl true], fun _ s => ⟨_, rfl, .inl (.inl (s _ _ k32)), by decide +kernel, by decide +kernel⟩, by decide +kernel, by decide +kernel⟩
    obtain ⟨a, ha, l64, fa⟩ := hw
    dsimp only [gName, List.set]
    walk_at "rd"
    refine ⟨10, _, _, _, _, a, .pl .non, .pl .non, .pl .non, rfl, ha _ s40, ⟨rfl, rfl⟩, ⟨rfl, rfl⟩, ⟨rfl, rfl⟩, fun _ => l64, .inl ⟨.worths, fa, fun p41 H41 n41 s41 k41 => ?_⟩⟩
    refine rhs1 k41 fun H42 s42 => ⟨_, rfl, iteF ?_⟩
    exact ⟨_, _, rfl, s40.trans (s41.trans s42)⟩
  rintro σ H49 ⟨y1, y2, rfl, s49⟩
  replace hrow := s49 _ _ hrow
  replace sA : Same H H49 := sA.trans (s30.trans (s31.trans (s32.trans (s33.trans s49))))
  clear s49
  walk_at "rd"
  intro p50 n50
  obtain ⟨H50, e50, s50, k50⟩ := newR (.lst [.non, .int 1, .int 65, .str "3", .bl true]) n50
  rw [e50]
  clear e50 n50
  replace hrow := s50 _ _ hrow
  refine ⟨p50, rfl, ⟨_, .inl (.inl k50)⟩, ?_⟩
  refine for_list (xs := [.non, .int 1, .int 65, .str "3", .bl true]) (fun _ σ H => ∃ y1 y2, σ = [some (.ref r), y1, y2] ∧ Same H50 H) ⟨_, _, rfl, fun _ _ e => e⟩ (fun _ _ H _ h => by obtain ⟨_, _, _, s⟩ := h; exact .inl (.inl (s _ _ k50))) ?_ ?_
  · rintro i v σ H51 hv ⟨y1, y2, rfl, s51⟩
    have hw : ∃ a : Ar, (∀ H, Same H50 H → ArOk K H a v) ∧ askO 10 (.tup [.int 1, .int 2]) a (.pl (.int 1)) (.pl .non) = some .places := by
      have hv := List.mem_of_getElem? hv
      simp only [List.mem_cons, List.not_mem_nil, or_false] at hv
      rcases hv with rfl | rfl | rfl | rfl | rfl
      · exact ⟨.pl (.non), fun _ _ => ⟨rfl, rfl⟩, by decide +kernel⟩
      · exact ⟨.pl (.int 1), fun _ _ => ⟨rfl, rfl⟩, by decide +kernel⟩
      · exact ⟨.pl (.int 65), fun _ _ => ⟨rfl, rfl⟩, by decide +kernel⟩
      · exact ⟨.pl (.str "3"), fun _ _ => ⟨rfl, rfl⟩, by decide +kernel⟩
      · exact ⟨.pl (.bl true), fun _ _ => ⟨rfl, rfl⟩, by decide +kernel⟩
    obtain ⟨a, ha, fa⟩ := hw
    dsimp only [gName, List.set]
    walk_at "rd"
    intro p52 n52
    obtain ⟨H52, e52, s52, k52⟩ := newR (.tup [.int 1, .int 2]) n52
    rw [e52]
    clear e52 n52
    walk_at "rd"
    refine ⟨10, _, _, _, _, .tup [.int 1, .int 2], a, .pl (.int 1), .pl .non, rfl, ⟨_, rfl, .inl (.inl k52), by decide +kernel, by decide +kernel⟩, ha _ (s51.trans s52), ⟨rfl, rfl⟩, ⟨rfl, rfl⟩, fun _ => by decide +kernel, .inl ⟨.places, fa, fun p53 H53 n53 s53 k53 => ?_⟩⟩
    refine rhs1 k53 fun H54 s54 => ⟨_, rfl, iteF ?_⟩
    exact ⟨_, _, rfl, s51.trans (s52.trans (s53.trans s54))⟩
  rintro σ H59 ⟨y1, y2, rfl, s59⟩
  replace hrow := s59 _ _ hrow
  replace sA : Same H H59 := sA.trans (s50.trans s59)
  clear s59
  walk_at "rd"
  intro p60 n60
  obtain ⟨H60, e60, s60, k60⟩ := newR (.tup [.int 11, .int 12]) n60
  rw [e60]
  clear e60 n60
  replace hrow := s60 _ _ hrow
  refine ⟨p60, rfl, ⟨_, .inl (.inl k60)⟩, fun D nD => ?_⟩
  refine lc_it (walk_tup (xs := [.int 11, .int 12])) (fun i H => Same H60 H ∧ ∃ xs : List V, xs.length = i ∧ (∀ j, j < i → ∃ u, u ≠ D ∧ xs[j]? = some (.ref u) ∧ H u = some (rfO 4)) ∧ H D = some (.lst xs)) ⟨same_new nD, [], rfl, fun _ h => absurd h (Nat.not_lt_zero _), upd_same⟩ (fun _ H _ h => .inl (.inl (h.1 _ _ k60))) ?_ ?_
  · rintro i x H61 H62 hi ⟨s61, xs, lx, hx0, hD⟩ ⟨rfl, hx⟩
    have hi2 : i < 2 := hi
    obtain ⟨k, rfl, hk⟩ : ∃ k : Nat, x = .int (k : Int) ∧ (k = 11 ∨ k = 12) := by
      have hx := List.mem_of_getElem? hx
      simp only [List.mem_cons, List.not_mem_nil, or_false] at hx
      rcases hx with rfl | rfl
      · exact ⟨11, rfl, .inl rfl⟩
      · exact ⟨12, rfl, .inr rfl⟩
    refine ⟨rfl, ?_⟩
    walk_at "rd"
    intro p63 n63
    obtain ⟨H63, e63, s63, k63⟩ := newR (.tup [.int 1, .int 2]) n63
    rw [e63]
    clear e63 n63
    replace hD := s63 _ _ hD
    walk_at "rd"
    have hrow := s63 _ _ (s61 _ _ hrow)
    refine ⟨k, _, _, _, _, .tup [.int 0, .int 1, .int 1, .int 0], .tup [.int 1, .int 2], .pl (.int 3), .pl (.int 1), rfl, ⟨_, rfl, .inl (.inl hrow), rfl, by decide⟩, ⟨_, rfl, .inl (.inl k63), by decide +kernel, by decide +kernel⟩, ⟨rfl, rfl⟩, ⟨rfl, rfl⟩, fun z => absurd z (by omega), .inl ⟨.order, by rcases hk with rfl | rfl <;> decide +kernel, fun u H64 nu s64 hu => ?_⟩⟩
    have uD : u ≠ D := fun e => by
      rw [e, hD] at nu
      cases nu
    refine ⟨xs, s64 _ _ hD, by rw [lx]; exact szl (by omega), fun c o hc => ?_, xs ++ [.ref u], by rw [List.length_append, lx]; rfl, fun j hj => ?_, upd_same⟩
    · rw [upd_ne (ne_of_none hc nD)]
      exact s64 _ _ (s63 _ _ (s61 _ _ hc))
    · by_cases c : j < i
      · obtain ⟨v, vD, e1, e2⟩ := hx0 j c
        exact ⟨v, vD, by rw [List.getElem?_append_left (by omega)]; exact e1, by rw [upd_ne vD]; exact s64 _ _ (s63 _ _ e2)⟩
      · have e : j = i := by omega
        rw [e]
        exact ⟨u, uD, by rw [List.getElem?_append_right (by omega), lx, Nat.sub_self]; rfl, by rw [upd_ne uD]; exact hu⟩
  rintro H61 ⟨s61, xs, lx, hx0, hD⟩
  refine rhsN (n := 4) (k := 2) hD lx (by decide) (fun j hj => by
    obtain ⟨u, _, e1, e2⟩ := hx0 j hj
    exact ⟨u, e1, e2⟩) fun H62 s62 => ⟨_, rfl, iteF ?_⟩
  replace hrow := s61 _ _ hrow
  replace hrow := s62 _ _ hrow
  replace sA := sA.trans (s60.trans (s61.trans s62))
  walk_at "rd"
  intro p70 n70
  obtain ⟨H70, e70, s70, k70⟩ := newR (.tup []) n70
  rw [e70]
  clear e70 n70
  replace hrow := s70 _ _ hrow
  walk_at "rd"
  refine ⟨10, _, _, _, _, .tup [], .pl (.int 5), .pl (.int 1), .pl .non, rfl, ⟨_, rfl, .inl (.inl k70), by decide +kernel, by decide +kernel⟩, ⟨rfl, rfl⟩, ⟨rfl, rfl⟩, ⟨rfl, rfl⟩, fun _ => by decide +kernel, .inl ⟨.worths, by decide +kernel, fun p71 H71 n71 s71 k71 => ?_⟩⟩
  replace hrow := s71 _ _ hrow
  refine rhs1 k71 fun H72 s72 => ⟨_, rfl, iteF ?_⟩
  replace hrow := s72 _ _ hrow
  walk_at "rd"
  intro p73 n73
  obtain ⟨H73, e73, s73, k73⟩ := newR (.tup []) n73
  rw [e73]
  clear e73 n73
  replace hrow := s73 _ _ hrow
  walk_at "rd"
  refine ⟨11, _, _, _, _, .tup [.int 0, .int 1, .int 1, .int 0], .tup [], .pl (.int 1), .pl (.int 1), rfl, ⟨_, rfl, .inl (.inl hrow), rfl, by decide⟩, ⟨_, rfl, .inl (.inl k73), by decide +kernel, by decide +kernel⟩, ⟨rfl, rfl⟩, ⟨rfl, rfl⟩, fun z => absurd z (by decide), .inl ⟨.worths, by decide +kernel, fun p74 H74 n74 s74 k74 => ?_⟩⟩
  replace hrow := s74 _ _ hrow
  refine rhs1 k74 fun H75 s75 => ⟨_, rfl, iteF ?_⟩
  replace hrow := s75 _ _ hrow
  replace sA := sA.trans (s70.trans (s71.trans (s72.trans (s73.trans (s74.trans s75)))))
  walk_at "rd"
  intro p80 n80
  obtain ⟨H80, e80, s80, k80⟩ := newR (.tup [.int 0, .int 1]) n80
  rw [e80]
  clear e80 n80
  refine ⟨p80, 12, _, rfl, rfl, .inl (.inl k80), fun z => absurd (congrArg List.length z) (by decide +kernel), by decide, by decide, by decide +kernel, fun z => absurd z (by decide), fun _ => ?_⟩
  intro p81 n81
  obtain ⟨H81, e81, s81, k81⟩ := newR (.tup (List.replicate (12 : Int).toNat [V.int 0, V.int 1]).flatten) n81
  rw [e81]
  clear e81 n81
  walk_at "rd"
  intro p82 n82
  obtain ⟨H82, e82, s82, k82⟩ := newR (.tup [.int 0]) n82
  rw [e82]
  clear e82 n82
  replace k81 := s82 _ _ k81
  refine ⟨p81, p82, _, _, rfl, rfl, .inl (.inl k81), .inl (.inl k82), by show 25 ≤ sizeLine; decide, fun z => absurd (congrArg List.length z) (by decide +kernel), fun _ z => absurd (congrArg List.length z) (by decide), fun _ _ => ?_⟩
  intro p83 n83
  obtain ⟨H83, e83, s83, k83⟩ := newR (.tup ((List.replicate (12 : Int).toNat [V.int 0, V.int 1]).flatten ++ [V.int 0])) n83
  rw [e83]
  clear e83 n83
  walk_at "rd"
  intro p84 n84
  obtain ⟨H84, e84, s84, k84⟩ := newR (.tup [.int 1]) n84
  rw [e84]
  clear e84 n84
  replace k83 := s84 _ _ k83
  walk_at "rd"
  refine ⟨12, _, _, _, _, .tup ((List.replicate (12 : Int).toNat [V.int 0, V.int 1]).flatten ++ [V.int 0]), .tup [.int 1], .pl (.int 1), .pl (.int 1), rfl, ⟨_, rfl, .inl (.inl k83), by decide +kernel, by decide +kernel⟩, ⟨_, rfl, .inl (.inl k84), by decide +kernel, by decide +kernel⟩, ⟨rfl, rfl⟩, ⟨rfl, rfl⟩, fun z => absurd z (by decide), .inl ⟨.long, by decide +kernel, fun p85 H85 n85 s85 k85 => ?_⟩⟩
  refine rhs1 k85 fun H86 s86 => ⟨_, rfl, iteF ?_⟩
  replace sA := sA.trans (s80.trans (s81.trans (s82.trans (s83.trans (s84.trans (s85.trans s86))))))
  walk_at "rd"
  intro p90 n90
  obtain ⟨H90, e90, s90, k90⟩ := newR (.tup [.int 3]) n90
  rw [e90]
  clear e90 n90
  walk_at "rd"
  refine ⟨10, _, _, _, _, .tup [.int 3], .pl (.int 64), .pl (.int 1), .pl .non, rfl, ⟨_, rfl, .inl (.inl k90), by decide +kernel, by decide +kernel⟩, ⟨rfl, rfl⟩, ⟨rfl, rfl⟩, ⟨rfl, rfl⟩, fun _ => by decide, .inr ⟨by decide +kernel, .inr ⟨rfl, fun p91 st H91 s91 k91 gn => ?_⟩⟩⟩
  have est : line st 64 = List.replicate 64 3 := by
    have g1 : Gone 64 1 [3] (fun _ => 3) := by
      refine ⟨fun i hi => ?_, fun i h1 h2 => ?_⟩
      · have : i = 0 := by have : i < 1 := hi; omega
        rw [this]
        rfl
      · rfl
    have e := Gone.one (by decide) gn g1
    have e2 : line st 64 = line (fun _ => (3 : Int)) 64 := List.map_congr_left fun i hi => e i (List.mem_range.mp hi)
    rw [e2]
    decide +kernel
  have h91 : SqT K H91 p91 ((List.replicate 64 (3 : Int)).map V.int) := by
    rw [← est]
    exact .inl (.inl k91)
  walk_at "rd"
  intro p92 n92
  obtain ⟨H92, e92, s92, k92⟩ := newR (.tup [.int 3]) n92
  rw [e92]
  clear e92 n92
  refine ⟨p92, 64, _, rfl, rfl, .inl (.inl k92), fun z => absurd (congrArg List.length z) (by decide +kernel), by decide, by decide, by decide +kernel, fun z => absurd z (by decide), fun _ => ?_⟩
  intro p93 n93
  obtain ⟨H93, e93, s93, k93⟩ := newR (.tup (List.replicate (64 : Int).toNat [V.int 3]).flatten) n93
  rw [e93]
  clear e93 n93
  have h93 : SqT K H93 p93 ((List.replicate 64 (3 : Int)).map V.int) := by
    rw [show (List.replicate 64 (3 : Int)).map V.int = (List.replicate (64 : Int).toNat [V.int 3]).flatten from by rw [flat_rep, List.map_replicate]; rfl]
    exact .inl (.inl k93)
  refine eqT (seqT (s92.trans s93) h91) h93 ?_
  rw [decide_eq_true rfl]
  exact q _ (sA.trans (s90.trans (s91.trans (s92.trans s93))))

/-! law -/
def sp_law (K : PySem.W.Frag) : Sp := fun vs H Q _ => ∃ (a : Addr) (ns : List Int), vs = [.ref a] ∧ SqL K H a (ns.map V.int) ∧ ns.length ≤ 63 ∧ ∀ H', Q (.bl true) H'
theorem ok_law (T : Txt K mg) {f : Addr} {fd : FuncData} (F : FunD K "law" "law" (defArgs S_law) (defBody S_law) (defScope S_law) [] [] f fd) : FnOk P w K mg base CX0 11 f fd ["_law_script"] (sp_law K) := by
  refine fn_ok F sc_law (fun vs H Q E h => by first | (obtain ⟨_, rfl, _⟩ := h; rfl) | (obtain ⟨_, _, rfl, _⟩ := h; rfl) | (obtain ⟨_, _, _, rfl, _⟩ := h; rfl) | (obtain ⟨_, _, _, _, rfl, _⟩ := h; rfl) | (obtain ⟨_, _, _, _, _, rfl, _⟩ := h; rfl) | (obtain ⟨_, _, _, _, _, _, rfl, _⟩ := h; rfl) | (obtain ⟨_, _, _, _, _, _, _, rfl, _⟩ := h; rfl) | (obtain ⟨_, _, _, _, _, _, _, _, rfl, _⟩ := h; rfl) | (obtain ⟨_, _, _, _, _, _, _, _, _, rfl, _⟩ := h; rfl) | (obtain ⟨_, _, _, _, _, _, _, _, _, _, rfl, _⟩ := h; rfl) | (obtain ⟨_, _, _, _, _, _, _, _, _, _, _, rfl, _⟩ := h; rfl) | (obtain ⟨_, _, _, _, _, _, _, _, _, _, _, _, rfl, _⟩ := h; rfl) | (obtain ⟨_, _, _, _, _, _, _, _, _, _, _, _, _, rfl, _⟩ := h; rfl)) (fun cdv A outer s H vs Q E hr h => ?_)
  obtain ⟨a, ns, rfl, hS0, hl, q⟩ := h
  refine ⟨_, (pss_cons (ps_set (i := 1) sc_law.nd rfl (.inl rfl) (pe_lst pa_nil))
    (pss_cons (ps_set (i := 2) sc_law.nd rfl (.inr rfl) (pe_tup (pa_cons pe_int (pa_cons pe_int (pa_cons pe_int (pa_cons pe_int pa_nil))))))
    (pss_cons (ps_for PassesOwn.never rfl (kz_piL (K := K) (pe_lst (pa_cons pe_non (pa_cons pe_int (pa_cons pe_int (pa_cons pe_str (pa_cons pe_bl (pa_cons (pe_un un_neg pe_int) pa_nil)))))))) (pg_name (i := 3) sc_law.nd rfl (.inr rfl)) (pss_cons (ps_if (pt_cmpR (kz_neD (K := K) hr.units) (pe_lc (own := [("_law_what", 6)]) (g := (gName 6)) (tt := tYes) rfl sc_law.nd (kz_piT (K := K) (pe_tup (pa_cons pe_int (pa_cons pe_int (pa_cons pe_int (pa_cons pe_int (pa_cons pe_int pa_nil))))))) (blkOk_by (own := [("_law_what", 6)]) (N := ["_law_script", "_law_town", "_law_row", "_law_off", "_law_one", "_law_other", "_law_what"]) (sc := defScope S_law) (by decide +kernel)) (fun _ _ _ _ _ => (pg_name (i := 6) sc_law.nd rfl (.inl rfl))) (fun _ _ _ _ _ => pts_nil) (fun _ _ _ _ _ => (pe_cal (c__law_ask T) hr (by decide) (pa_cons (pv 6) (pa_cons (pv 2) (pa_cons (pv 3) (pa_cons pe_int (pa_cons pe_non pa_nil)))))))) (pe_op op_rep (pe_lst (pa_cons (pe_tup (pa_cons pe_str (pa_cons pe_int pa_nil))) pa_nil)) pe_int) (nomark _)) (pss_one (ps_ret pe_bl)) pss_nil)
    (pss_cons (ps_if (pt_cmpR (kz_neD (K := K) hr.units) (pe_lc (own := [("_law_what", 6)]) (g := (gName 6)) (tt := tYes) rfl sc_law.nd (kz_piT (K := K) (pe_tup (pa_cons pe_int (pa_cons pe_int pa_nil)))) (blkOk_by (own := [("_law_what", 6)]) (N := ["_law_script", "_law_town", "_law_row", "_law_off", "_law_one", "_law_other", "_law_what"]) (sc := defScope S_law) (by decide +kernel)) (fun _ _ _ _ _ => (pg_name (i := 6) sc_law.nd rfl (.inl rfl))) (fun _ _ _ _ _ => pts_nil) (fun _ _ _ _ _ => (pe_cal (c__law_ask T) hr (by decide) (pa_cons (pv 6) (pa_cons pe_int (pa_cons pe_int (pa_cons (pv 3) (pa_cons pe_non pa_nil)))))))) (pe_op op_rep (pe_lst (pa_cons (pe_tup (pa_cons pe_str (pa_cons pe_int pa_nil))) pa_nil)) pe_int) (nomark _)) (pss_one (ps_ret pe_bl)) pss_nil)
    (pss_cons (ps_if (pt_cmpR (kz_neD (K := K) hr.units) (pe_lc (own := [("_law_what", 6)]) (g := (gName 6)) (tt := tYes) rfl sc_law.nd (kz_piT (K := K) (pe_tup (pa_cons pe_int (pa_cons pe_int pa_nil)))) (blkOk_by (own := [("_law_what", 6)]) (N := ["_law_script", "_law_town", "_law_row", "_law_off", "_law_one", "_law_other", "_law_what"]) (sc := defScope S_law) (by decide +kernel)) (fun _ _ _ _ _ => (pg_name (i := 6) sc_law.nd rfl (.inl rfl))) (fun _ _ _ _ _ => pts_nil) (fun _ _ _ _ _ => (pe_cal (c__law_ask T) hr (by decide) (pa_cons (pv 6) (pa_cons (pv 2) (pa_cons (pe_tup (pa_cons pe_int (pa_cons pe_int (pa_cons pe_int (pa_cons pe_int pa_nil))))) (pa_cons (pv 3) (pa_cons pe_int pa_nil)))))))) (pe_op op_rep (pe_lst (pa_cons (pe_tup (pa_cons pe_str (pa_cons pe_int pa_nil))) pa_nil)) pe_int) (nomark _)) (pss_one (ps_ret pe_bl)) pss_nil)
    (pss_one (ps_if (pt_cmpR (kz_neD (K := K) hr.units) (pe_cal (c__law_ask T) hr (by decide) (pa_cons pe_int (pa_cons (pe_tup (pa_cons pe_int (pa_cons pe_int (pa_cons pe_int (pa_cons pe_int pa_nil))))) (pa_cons pe_int (pa_cons (pv 3) (pa_cons pe_non pa_nil)))))) (pe_tup (pa_cons pe_str (pa_cons pe_int pa_nil))) (nomark _)) (pss_one (ps_ret pe_bl)) pss_nil))))))
    (pss_cons (ps_for PassesOwn.never rfl (kz_piL (K := K) (pe_lst (pa_cons pe_non (pa_cons (pe_un un_neg pe_int) (pa_cons pe_int (pa_cons pe_str (pa_cons pe_bl pa_nil))))))) (pg_name (i := 3) sc_law.nd rfl (.inr rfl)) (pss_cons (ps_if (pt_cmpR (kz_neD (K := K) hr.units) (pe_lc (own := [("_law_what", 6)]) (g := (gName 6)) (tt := tYes) rfl sc_law.nd (kz_piT (K := K) (pe_tup (pa_cons pe_int (pa_cons pe_int (pa_cons pe_int pa_nil))))) (blkOk_by (own := [("_law_what", 6)]) (N := ["_law_script", "_law_town", "_law_row", "_law_off", "_law_one", "_law_other", "_law_what"]) (sc := defScope S_law) (by decide +kernel)) (fun _ _ _ _ _ => (pg_name (i := 6) sc_law.nd rfl (.inl rfl))) (fun _ _ _ _ _ => pts_nil) (fun _ _ _ _ _ => (pe_cal (c__law_ask T) hr (by decide) (pa_cons (pv 6) (pa_cons (pv 2) (pa_cons pe_int (pa_cons (pv 3) (pa_cons pe_non pa_nil)))))))) (pe_op op_rep (pe_lst (pa_cons (pe_tup (pa_cons pe_str (pa_cons pe_int pa_nil))) pa_nil)) pe_int) (nomark _)) (pss_one (ps_ret pe_bl)) pss_nil)
    (pss_one (ps_if (pt_cmpR (kz_neD (K := K) hr.units) (pe_lc (own := [("_law_what", 6)]) (g := (gName 6)) (tt := tYes) rfl sc_law.nd (kz_piT (K := K) (pe_tup (pa_cons pe_int (pa_cons pe_int pa_nil)))) (blkOk_by (own := [("_law_what", 6)]) (N := ["_law_script", "_law_town", "_law_row", "_law_off", "_law_one", "_law_other", "_law_what"]) (sc := defScope S_law) (by decide +kernel)) (fun _ _ _ _ _ => (pg_name (i := 6) sc_law.nd rfl (.inl rfl))) (fun _ _ _ _ _ => pts_nil) (fun _ _ _ _ _ => (pe_cal (c__law_ask T) hr (by decide) (pa_cons (pv 6) (pa_cons (pv 2) (pa_cons (pe_tup (pa_cons pe_int (pa_cons pe_int pa_nil))) (pa_cons pe_int (pa_cons (pv 3) pa_nil)))))))) (pe_op op_rep (pe_lst (pa_cons (pe_tup (pa_cons pe_str (pa_cons pe_int pa_nil))) pa_nil)) pe_int) (nomark _)) (pss_one (ps_ret pe_bl)) pss_nil))))
    (pss_cons (ps_for PassesOwn.never rfl (kz_piL (K := K) (pe_lst (pa_cons pe_non (pa_cons (pe_un un_neg pe_int) (pa_cons pe_int (pa_cons pe_str (pa_cons pe_bl pa_nil))))))) (pg_name (i := 3) sc_law.nd rfl (.inr rfl)) (pss_one (ps_if (pt_cmpR (kz_neD (K := K) hr.units) (pe_cal (c__law_ask T) hr (by decide) (pa_cons pe_int (pa_cons (pv 2) (pa_cons (pv 3) (pa_cons pe_non (pa_cons pe_non pa_nil)))))) (pe_tup (pa_cons pe_str (pa_cons pe_int pa_nil))) (nomark _)) (pss_one (ps_ret pe_bl)) pss_nil)))
    (pss_cons (ps_if (PW.pt (pw_or (pt_cmpR (kz_neD (K := K) hr.units) (pe_cal (c__law_ask T) hr (by decide) (pa_cons pe_int (pa_cons (pe_tup (pa_cons pe_int (pa_cons pe_int (pa_cons pe_int pa_nil)))) (pa_cons pe_int (pa_cons pe_int (pa_cons pe_non pa_nil)))))) (pe_tup (pa_cons pe_str (pa_cons pe_int pa_nil))) (nomark _)) (pw_or1 (pt_cmpR (kz_neD (K := K) hr.units) (pe_cal (c__law_ask T) hr (by decide) (pa_cons pe_int (pa_cons (pv 2) (pa_cons pe_int (pa_cons pe_int (pa_cons pe_non pa_nil)))))) (pe_tup (pa_cons pe_str (pa_cons pe_int pa_nil))) (nomark _))))) (pss_one (ps_ret pe_bl)) pss_nil)
    (pss_cons (ps_for PassesOwn.never rfl (kz_piL (K := K) (pe_lst (pa_cons (pe_tup (pa_cons pe_non (pa_cons pe_int pa_nil))) (pa_cons (pe_tup (pa_cons pe_int (pa_cons pe_int pa_nil))) (pa_cons (pe_tup (pa_cons pe_int (pa_cons pe_int pa_nil))) (pa_cons (pe_tup (pa_cons pe_int (pa_cons pe_int pa_nil))) (pa_cons (pe_tup (pa_cons pe_int (pa_cons pe_int pa_nil))) (pa_cons (pe_tup (pa_cons (pe_un un_neg pe_int) (pa_cons pe_int pa_nil))) (pa_cons (pe_tup (pa_cons pe_int (pa_cons pe_bl pa_nil))) (pa_cons (pe_tup (pa_cons pe_str (pa_cons pe_int pa_nil))) pa_nil)))))))))) (kz_gtup (K := K) 2 rfl (pgs_cons (pg_name (i := 4) sc_law.nd rfl (.inl rfl)) (pgs_cons (pg_name (i := 5) sc_law.nd rfl (.inl rfl)) pgs_nil))) (pss_one (ps_if (pt_cmpR (kz_neD (K := K) hr.units) (pe_cal (c__law_ask T) hr (by decide) (pa_cons pe_int (pa_cons (pv 2) (pa_cons (pv 4) (pa_cons (pv 5) (pa_cons pe_non pa_nil)))))) (pe_tup (pa_cons pe_str (pa_cons pe_int pa_nil))) (nomark _)) (pss_one (ps_ret pe_bl)) pss_nil)))
    (pss_cons (ps_if (PW.pt (pw_or (pt_cmpR (kz_neD (K := K) hr.units) (pe_cal (c__law_ask T) hr (by decide) (pa_cons pe_int (pa_cons (pv 2) (pa_cons pe_int (pa_cons pe_int (pa_cons pe_non pa_nil)))))) (pe_tup (pa_cons pe_int (pa_cons pe_int (pa_cons pe_int (pa_cons pe_int pa_nil))))) (nomark _)) (pw_or1 (pt_cmpR (kz_neD (K := K) hr.units) (pe_cal (c__law_ask T) hr (by decide) (pa_cons pe_int (pa_cons (pv 2) (pa_cons pe_int (pa_cons pe_int (pa_cons pe_non pa_nil)))))) (pe_tup (pa_cons pe_int (pa_cons pe_int (pa_cons pe_int (pa_cons pe_int pa_nil))))) (nomark _))))) (pss_one (ps_ret pe_bl)) pss_nil)
    (pss_one (ps_ret (pe_and (pe_cal (c__law_told_refused T) hr (by decide) (pa_cons (pv 2) pa_nil)) (pe_one (pe_cal0 (c__law_counts_refused T) hr (by decide)))))))))))))), ?_⟩
  walk_at "rd"
  clear hS0
  intro p1 n1
  obtain ⟨H1, e1, s1, k1⟩ := newR (.lst []) n1
  rw [e1]
  clear e1 n1
  change tSeq _ _ _ [some (.ref a), some (.ref p1), none, none, none, none, none] H1
  walk_at "rd"
  intro p2 n2
  obtain ⟨H2, e2, s2, k2⟩ := newR (.tup [.int 0, .int 1, .int 1, .int 0]) n2
  rw [e2]
  clear e2 n2
  have hrow := k2
  change tSeq _ _ _ [some (.ref a), some (.ref p1), some (.ref p2), none, none, none, none] H2
  walk_at "rd"
  intro p3 n3
  obtain ⟨H3, e3, s3, k3⟩ := newR (.lst [.non, .int 0, .int 5, .str "1", .bl true, .int (-1)]) n3
  rw [e3]
  clear e3 n3
  replace hrow := s3 _ _ hrow
  refine ⟨p3, rfl, ⟨_, .inl (.inl k3)⟩, ?_⟩
  refine for_list (xs := [.non, .int 0, .int 5, .str "1", .bl true, .int (-1)]) (fun _ σ H => ∃ y3 y4 y5 y6, σ = [some (.ref a), some (.ref p1), some (.ref p2), y3, y4, y5, y6] ∧ Same H3 H) ⟨_, _, _, _, rfl, fun _ _ e => e⟩ (fun _ _ H _ h => by obtain ⟨_, _, _, _, _, s⟩ := h; exact .inl (.inl (s _ _ k3))) ?_ ?_
  · rintro i v σ H10 hv ⟨y3, y4, y5, y6, rfl, s10⟩
    have hw : pln v = true ∧ (∀ k : Nat, (k = 0 ∨ k = 1 ∨ k = 2 ∨ k = 3 ∨ k = 4) → askO k (.tup [.int 0, .int 1, .int 1, .int 0]) (.pl v) (.pl (.int 100)) (.pl .non) = some .order) ∧ (∀ k : Nat, (k = 6 ∨ k = 7) → askO k (.pl (.int 2)) (.pl (.int 4)) (.pl v) (.pl .non) = some .order) ∧ (∀ k : Nat, (k = 11 ∨ k = 12) → askO k (.tup [.int 0, .int 1, .int 1, .int 0]) (.tup [.int 1, .int 2, .int 3, .int 4]) (.pl v) (.pl (.int 100)) = some .order) ∧ askO 10 (.tup [.int 1, .int 2, .int 3, .int 4]) (.pl (.int 9)) (.pl v) (.pl .non) = some .order := by
      have hv := List.mem_of_getElem? hv
      simp only [List.mem_cons, List.not_mem_nil, or_false] at hv
      rcases hv with rfl | rfl | rfl | rfl | rfl | rfl <;> exact ⟨rfl, fun k hk => by rcases hk with rfl | rfl | rfl | rfl | rfl <;> decide +kernel, fun k hk => by rcases hk with rfl | rfl <;> decide +kernel, fun k hk => by rcases hk with rfl | rfl <;> decide +kernel, by decide +kernel⟩
    obtain ⟨pv, f1, f2, f3, f4⟩ := hw
    have hrow := s10 _ _ hrow
    dsimp only [gName, List.set]
    walk_at "rd"
    intro p11 n11
    obtain ⟨H11, e11, s11, k11⟩ := newR (.tup [.int 0, .int 1, .int 2, .int 3, .int 4]) n11
    rw [e11]
    clear e11 n11
    replace hrow := s11 _ _ hrow
    refine ⟨p11, rfl, ⟨_, .inl (.inl k11)⟩, fun D nD => ?_⟩
    refine lcr (walk_tup (xs := [.int 0, .int 1, .int 2, .int 3, .int 4])) nD (by decide) (fun _ => rfO 4) (fun H s => .inl (.inl (s _ _ k11))) ?_ ?_
    · rintro i x H12 H13 R hi s12 ⟨rfl, hx⟩ kk
      obtain ⟨k, rfl, hk⟩ : ∃ k : Nat, x = .int (k : Int) ∧ (k = 0 ∨ k = 1 ∨ k = 2 ∨ k = 3 ∨ k = 4) := by
        have hx := List.mem_of_getElem? hx
        simp only [List.mem_cons, List.not_mem_nil, or_false] at hx
        rcases hx with rfl | rfl | rfl | rfl | rfl
        · exact ⟨0, rfl, .inl rfl⟩
        · exact ⟨1, rfl, .inr (.inl rfl)⟩
        · exact ⟨2, rfl, .inr (.inr (.inl rfl))⟩
        · exact ⟨3, rfl, .inr (.inr (.inr (.inl rfl)))⟩
        · exact ⟨4, rfl, .inr (.inr (.inr (.inr rfl)))⟩
      refine ⟨rfl, ?_⟩
      walk_at "rd"
      exact ⟨k, _, _, _, _, .tup [.int 0, .int 1, .int 1, .int 0], .pl v, .pl (.int 100), .pl (.non), rfl, ⟨_, rfl, .inl (.inl (s12 _ _ hrow)), rfl, by decide⟩, ⟨rfl, pv⟩, ⟨rfl, rfl⟩, ⟨rfl, rfl⟩, fun z => absurd z (by omega), .inl ⟨.order, f1 k hk, fun p H' np s hp => kk p H' np s hp⟩⟩
    · intro xs H12 lx s12 hx hD
      refine rhsN (n := 4) (k := 5) hD lx (by decide) hx fun H13 s13 => ⟨_, rfl, iteF ?_⟩
      replace hrow := s13 _ _ (s12 _ _ hrow)
      walk_at "rd"
      intro p20 n20
      obtain ⟨H20, e20, s20, k20⟩ := newR (.tup [.int 6, .int 7]) n20
      rw [e20]
      clear e20 n20
      replace hrow := s20 _ _ hrow
      refine ⟨p20, rfl, ⟨_, .inl (.inl k20)⟩, fun D nD => ?_⟩
      refine lcr (walk_tup (xs := [.int 6, .int 7])) nD (by decide) (fun _ => rfO 4) (fun H s => .inl (.inl (s _ _ k20))) ?_ ?_
      · rintro i x H21 H22 R hi s21 ⟨rfl, hx⟩ kk
        obtain ⟨k, rfl, hk⟩ : ∃ k : Nat, x = .int (k : Int) ∧ (k = 6 ∨ k = 7) := by
          have hx := List.mem_of_getElem? hx
          simp only [List.mem_cons, List.not_mem_nil, or_false] at hx
          rcases hx with rfl | rfl
          · exact ⟨6, rfl, .inl rfl⟩
          · exact ⟨7, rfl, .inr rfl⟩
        refine ⟨rfl, ?_⟩
        walk_at "rd"
        exact ⟨k, _, _, _, _, .pl (.int 2), .pl (.int 4), .pl v, .pl (.non), rfl, ⟨rfl, rfl⟩, ⟨rfl, rfl⟩, ⟨rfl, pv⟩, ⟨rfl, rfl⟩, fun z => absurd z (by omega), .inl ⟨.order, f2 k hk, fun p H' np s hp => kk p H' np s hp⟩⟩
      · intro xs H21 lx s21 hx hD
        refine rhsN (n := 4) (k := 2) hD lx (by decide) hx fun H22 s22 => ⟨_, rfl, iteF ?_⟩
        replace hrow := s22 _ _ (s21 _ _ hrow)
        walk_at "rd"
        intro p30 n30
        obtain ⟨H30, e30, s30, k30⟩ := newR (.tup [.int 11, .int 12]) n30
        rw [e30]
        clear e30 n30
        replace hrow := s30 _ _ hrow
        refine ⟨p30, rfl, ⟨_, .inl (.inl k30)⟩, fun D nD => ?_⟩
        refine lcr (walk_tup (xs := [.int 11, .int 12])) nD (by decide) (fun _ => rfO 4) (fun H s => .inl (.inl (s _ _ k30))) ?_ ?_
        · rintro i x H31 Hq R hi s31 ⟨rfl, hx⟩ kk
          obtain ⟨k, rfl, hk⟩ : ∃ k : Nat, x = .int (k : Int) ∧ (k = 11 ∨ k = 12) := by
            have hx := List.mem_of_getElem? hx
            simp only [List.mem_cons, List.not_mem_nil, or_false] at hx
            rcases hx with rfl | rfl
            · exact ⟨11, rfl, .inl rfl⟩
            · exact ⟨12, rfl, .inr rfl⟩
          refine ⟨rfl, ?_⟩
          walk_at "rd"
          intro p32 n32
          obtain ⟨H32, e32, s32, k32⟩ := newR (.tup [.int 1, .int 2, .int 3, .int 4]) n32
          rw [e32]
          clear e32 n32
          have hrow := s32 _ _ (s31 _ _ hrow)
          walk_at "rd"
          exact ⟨k, _, _, _, _, .tup [.int 0, .int 1, .int 1, .int 0], .tup [.int 1, .int 2, .int 3, .int 4], .pl v, .pl (.int 100), rfl, ⟨_, rfl, .inl (.inl hrow), rfl, by decide⟩, ⟨_, rfl, .inl (.inl k32), rfl, by decide⟩, ⟨rfl, pv⟩, ⟨rfl, rfl⟩, fun z => absurd z (by omega), .inl ⟨.order, f3 k hk, fun p H' np s hp => kk p H' (none_back s32 np) (s32.trans s) hp⟩⟩
        · intro xs H31 lx s31 hx hD
          refine rhsN (n := 4) (k := 2) hD lx (by decide) hx fun H32 s32 => ⟨_, rfl, iteF ?_⟩
          walk_at "rd"
          intro p40 n40
          obtain ⟨H40, e40, s40, k40⟩ := newR (.tup [.int 1, .int 2, .int 3, .int 4]) n40
          rw [e40]
          clear e40 n40
          walk_at "rd"
          refine ⟨10, _, _, _, _, .tup [.int 1, .int 2, .int 3, .int 4], .pl (.int 9), .pl v, .pl .non, rfl, ⟨_, rfl, .inl (.inl k40), by decide +kernel, by decide +kernel⟩, ⟨rfl, rfl⟩, ⟨rfl, pv⟩, ⟨rfl, rfl⟩, fun _ => by decide +kernel, .inl ⟨.order, f4, fun p41 H41 n41 s41 k41 => ?_⟩⟩
          refine rhs1 k41 fun H42 s42 => ⟨_, rfl, iteF ?_⟩
          exact ⟨_, _, _, _, rfl, s10.trans (s11.trans (s12.trans (s13.trans (s20.trans (s21.trans (s22.trans (s30.trans (s31.trans (s32.trans (s40.trans (s41.trans s42)))))))))))⟩
  rintro σ H49 ⟨y3, y4, y5, y6, rfl, s49⟩
  replace hrow := s49 _ _ hrow
  clear s49
  walk_at "rd"
  intro p50 n50
  obtain ⟨H50, e50, s50, k50⟩ := newR (.lst [.non, .int (-1), .int 100, .str "1", .bl true]) n50
  rw [e50]
  clear e50 n50
  replace hrow := s50 _ _ hrow
  refine ⟨p50, rfl, ⟨_, .inl (.inl k50)⟩, ?_⟩
  refine for_list (xs := [.non, .int (-1), .int 100, .str "1", .bl true]) (fun _ σ H => ∃ y3 y4 y5 y6, σ = [some (.ref a), some (.ref p1), some (.ref p2), y3, y4, y5, y6] ∧ Same H50 H) ⟨_, _, _, _, rfl, fun _ _ e => e⟩ (fun _ _ H _ h => by obtain ⟨_, _, _, _, _, s⟩ := h; exact .inl (.inl (s _ _ k50))) ?_ ?_
  · rintro i v σ H51 hv ⟨y3, y4, y5, y6, rfl, s51⟩
    have hw : pln v = true ∧ (∀ k : Nat, (k = 0 ∨ k = 3 ∨ k = 4) → askO k (.tup [.int 0, .int 1, .int 1, .int 0]) (.pl (.int 1)) (.pl v) (.pl .non) = some .bound) ∧ (∀ k : Nat, (k = 11 ∨ k = 12) → askO k (.tup [.int 0, .int 1, .int 1, .int 0]) (.tup [.int 1, .int 2]) (.pl (.int 2)) (.pl v) = some .bound) := by
      have hv := List.mem_of_getElem? hv
      simp only [List.mem_cons, List.not_mem_nil, or_false] at hv
      rcases hv with rfl | rfl | rfl | rfl | rfl <;> exact ⟨rfl, fun k hk => by rcases hk with rfl | rfl | rfl <;> decide +kernel, fun k hk => by rcases hk with rfl | rfl <;> decide +kernel⟩
    obtain ⟨pv, f1, f2⟩ := hw
    have hrow := s51 _ _ hrow
    dsimp only [gName, List.set]
    walk_at "rd"
    intro p52 n52
    obtain ⟨H52, e52, s52, k52⟩ := newR (.tup [.int 0, .int 3, .int 4]) n52
    rw [e52]
    clear e52 n52
    replace hrow := s52 _ _ hrow
    refine ⟨p52, rfl, ⟨_, .inl (.inl k52)⟩, fun D nD => ?_⟩
    refine lcr (walk_tup (xs := [.int 0, .int 3, .int 4])) nD (by decide) (fun _ => rfO 5) (fun H s => .inl (.inl (s _ _ k52))) ?_ ?_
    · rintro i x H53 H54 R hi s53 ⟨rfl, hx⟩ kk
      obtain ⟨k, rfl, hk⟩ : ∃ k : Nat, x = .int (k : Int) ∧ (k = 0 ∨ k = 3 ∨ k = 4) := by
        have hx := List.mem_of_getElem? hx
        simp only [List.mem_cons, List.not_mem_nil, or_false] at hx
        rcases hx with rfl | rfl | rfl
        · exact ⟨0, rfl, .inl rfl⟩
        · exact ⟨3, rfl, .inr (.inl rfl)⟩
        · exact ⟨4, rfl, .inr (.inr rfl)⟩
      refine ⟨rfl, ?_⟩
      walk_at "rd"
      exact ⟨k, _, _, _, _, .tup [.int 0, .int 1, .int 1, .int 0], .pl (.int 1), .pl v, .pl (.non), rfl, ⟨_, rfl, .inl (.inl (s53 _ _ hrow)), rfl, by decide⟩, ⟨rfl, rfl⟩, ⟨rfl, pv⟩, ⟨rfl, rfl⟩, fun z => absurd z (by omega), .inl ⟨.bound, f1 k hk, fun p H' np s hp => kk p H' np s hp⟩⟩
    · intro xs H53 lx s53 hx hD
      refine rhsN (n := 5) (k := 3) hD lx (by decide) hx fun H54 s54 => ⟨_, rfl, iteF ?_⟩
      replace hrow := s54 _ _ (s53 _ _ hrow)
      walk_at "rd"
      intro p60 n60
      obtain ⟨H60, e60, s60, k60⟩ := newR (.tup [.int 11, .int 12]) n60
      rw [e60]
      clear e60 n60
      replace hrow := s60 _ _ hrow
      refine ⟨p60, rfl, ⟨_, .inl (.inl k60)⟩, fun D nD => ?_⟩
      refine lcr (walk_tup (xs := [.int 11, .int 12])) nD (by decide) (fun _ => rfO 5) (fun H s => .inl (.inl (s _ _ k60))) ?_ ?_
      · rintro i x H61 Hq R hi s61 ⟨rfl, hx⟩ kk
        obtain ⟨k, rfl, hk⟩ : ∃ k : Nat, x = .int (k : Int) ∧ (k = 11 ∨ k = 12) := by
          have hx := List.mem_of_getElem? hx
          simp only [List.mem_cons, List.not_mem_nil, or_false] at hx
          rcases hx with rfl | rfl
          · exact ⟨11, rfl, .inl rfl⟩
          · exact ⟨12, rfl, .inr rfl⟩
        refine ⟨rfl, ?_⟩
        walk_at "rd"
        intro p62 n62
        obtain ⟨H62, e62, s62, k62⟩ := newR (.tup [.int 1, .int 2]) n62
        rw [e62]
        clear e62 n62
        have hrow := s62 _ _ (s61 _ _ hrow)
        walk_at "rd"
        exact ⟨k, _, _, _, _, .tup [.int 0, .int 1, .int 1, .int 0], .tup [.int 1, .int 2], .pl (.int 2), .pl v, rfl, ⟨_, rfl, .inl (.inl hrow), rfl, by decide⟩, ⟨_, rfl, .inl (.inl k62), rfl, by decide⟩, ⟨rfl, rfl⟩, ⟨rfl, pv⟩, fun z => absurd z (by omega), .inl ⟨.bound, f2 k hk, fun p H' np s hp => kk p H' (none_back s62 np) (s62.trans s) hp⟩⟩
      · intro xs H61 lx s61 hx hD
        refine rhsN (n := 5) (k := 2) hD lx (by decide) hx fun H62 s62 => ⟨_, rfl, iteF ?_⟩
        exact ⟨_, _, _, _, rfl, s51.trans (s52.trans (s53.trans (s54.trans (s60.trans (s61.trans s62)))))⟩
  rintro σ H69 ⟨y3, y4, y5, y6, rfl, s69⟩
  replace hrow := s69 _ _ hrow
  clear s69
  walk_at "rd"
  intro p70 n70
  obtain ⟨H70, e70, s70, k70⟩ := newR (.lst [.non, .int (-1), .int 10, .str "1", .bl true]) n70
  rw [e70]
  clear e70 n70
  replace hrow := s70 _ _ hrow
  refine ⟨p70, rfl, ⟨_, .inl (.inl k70)⟩, ?_⟩
  refine for_list (xs := [.non, .int (-1), .int 10, .str "1", .bl true]) (fun _ σ H => ∃ y3 y4 y5 y6, σ = [some (.ref a), some (.ref p1), some (.ref p2), y3, y4, y5, y6] ∧ Same H70 H) ⟨_, _, _, _, rfl, fun _ _ e => e⟩ (fun _ _ H _ h => by obtain ⟨_, _, _, _, _, s⟩ := h; exact .inl (.inl (s _ _ k70))) ?_ ?_
  · rintro i v σ H71 hv ⟨y3, y4, y5, y6, rfl, s71⟩
    have hw : pln v = true ∧ askO 5 (.tup [.int 0, .int 1, .int 1, .int 0]) (.pl v) (.pl .non) (.pl .non) = some .order := by
      have hv := List.mem_of_getElem? hv
      simp only [List.mem_cons, List.not_mem_nil, or_false] at hv
      rcases hv with rfl | rfl | rfl | rfl | rfl <;> exact ⟨rfl, by decide +kernel⟩
    obtain ⟨pv, f1⟩ := hw
    have hrow := s71 _ _ hrow
    dsimp only [gName, List.set]
    walk_at "rd"
    refine ⟨5, _, _, _, _, .tup [.int 0, .int 1, .int 1, .int 0], .pl v, .pl .non, .pl .non, rfl, ⟨_, rfl, .inl (.inl hrow), rfl, by decide⟩, ⟨rfl, pv⟩, ⟨rfl, rfl⟩, ⟨rfl, rfl⟩, fun z => absurd z (by decide), .inl ⟨.order, f1, fun p72 H72 n72 s72 k72 => ?_⟩⟩
    refine rhs1 k72 fun H73 s73 => ⟨_, rfl, iteF ?_⟩
    exact ⟨_, _, _, _, rfl, s71.trans (s72.trans s73)⟩
  rintro σ H79 ⟨y3, y4, y5, y6, rfl, s79⟩
  replace hrow := s79 _ _ hrow
  clear s79
  walk_at "rd"
  intro p80 n80
  obtain ⟨H80, e80, s80, k80⟩ := newR (.tup [.int 0, .int 1, .int 1]) n80
  rw [e80]
  clear e80 n80
  replace hrow := s80 _ _ hrow
  walk_at "rd"
  refine ⟨4, _, _, _, _, .tup [.int 0, .int 1, .int 1], .pl (.int 1), .pl (.int 1), .pl .non, rfl, ⟨_, rfl, .inl (.inl k80), by decide +kernel, by decide +kernel⟩, ⟨rfl, rfl⟩, ⟨rfl, rfl⟩, ⟨rfl, rfl⟩, fun z => absurd z (by decide), .inl ⟨.even, by decide +kernel, fun p81 H81 n81 s81 k81 => ?_⟩⟩
  replace hrow := s81 _ _ hrow
  refine rhs1 k81 fun H82 s82 => ⟨_, rfl, iteF ?_⟩
  replace hrow := s82 _ _ hrow
  walk_at "rd"
  refine ⟨4, _, _, _, _, .tup [.int 0, .int 1, .int 1, .int 0], .pl (.int 3), .pl (.int 1), .pl .non, rfl, ⟨_, rfl, .inl (.inl hrow), rfl, by decide⟩, ⟨rfl, rfl⟩, ⟨rfl, rfl⟩, ⟨rfl, rfl⟩, fun z => absurd z (by decide), .inl ⟨.even, by decide +kernel, fun p83 H83 n83 s83 k83 => ?_⟩⟩
  replace hrow := s83 _ _ hrow
  refine rhs1 k83 fun H84 s84 => ⟨_, rfl, iteF ?_⟩
  replace hrow := s84 _ _ hrow
  walk_at "rd"
  intro p90 n90
  obtain ⟨H90, e90, s90, k90⟩ := newR (.tup [.non, .int 0]) n90
  rw [e90]
  clear e90 n90
  replace hrow := s90 _ _ hrow
  walk_at "rd"
  intro p91 n91
  obtain ⟨H91, e91, s91, k91⟩ := newR (.tup [.int 0, .int 0]) n91
  rw [e91]
  clear e91 n91
  replace hrow := s91 _ _ hrow
  replace k90 := s91 _ _ k90
  walk_at "rd"
  intro p92 n92
  obtain ⟨H92, e92, s92, k92⟩ := newR (.tup [.int 0, .int 4]) n92
  rw [e92]
  clear e92 n92
  replace hrow := s92 _ _ hrow
  replace k90 := s92 _ _ k90
  replace k91 := s92 _ _ k91
  walk_at "rd"
  intro p93 n93
  obtain ⟨H93, e93, s93, k93⟩ := newR (.tup [.int 4, .int 0]) n93
  rw [e93]
  clear e93 n93
  replace hrow := s93 _ _ hrow
  replace k90 := s93 _ _ k90
  replace k91 := s93 _ _ k91
  replace k92 := s93 _ _ k92
  walk_at "rd"
  intro p94 n94
  obtain ⟨H94, e94, s94, k94⟩ := newR (.tup [.int 5, .int 1]) n94
  rw [e94]
  clear e94 n94
  replace hrow := s94 _ _ hrow
  replace k90 := s94 _ _ k90
  replace k91 := s94 _ _ k91
  replace k92 := s94 _ _ k92
  replace k93 := s94 _ _ k93
  walk_at "rd"
  intro p95 n95
  obtain ⟨H95, e95, s95, k95⟩ := newR (.tup [.int (-1), .int 0]) n95
  rw [e95]
  clear e95 n95
  replace hrow := s95 _ _ hrow
  replace k90 := s95 _ _ k90
  replace k91 := s95 _ _ k91
  replace k92 := s95 _ _ k92
  replace k93 := s95 _ _ k93
  replace k94 := s95 _ _ k94
  walk_at "rd"
  intro p96 n96
  obtain ⟨H96, e96, s96, k96⟩ := newR (.tup [.int 0, .bl true]) n96
  rw [e96]
  clear e96 n96
  replace hrow := s96 _ _ hrow
  replace k90 := s96 _ _ k90
  replace k91 := s96 _ _ k91
  replace k92 := s96 _ _ k92
  replace k93 := s96 _ _ k93
  replace k94 := s96 _ _ k94
  replace k95 := s96 _ _ k95
  walk_at "rd"
  intro p97 n97
  obtain ⟨H97, e97, s97, k97⟩ := newR (.tup [.str "0", .int 1]) n97
  rw [e97]
  clear e97 n97
  replace hrow := s97 _ _ hrow
  replace k90 := s97 _ _ k90
  replace k91 := s97 _ _ k91
  replace k92 := s97 _ _ k92
  replace k93 := s97 _ _ k93
  replace k94 := s97 _ _ k94
  replace k95 := s97 _ _ k95
  replace k96 := s97 _ _ k96
  walk_at "rd"
  refine ⟨by show 8 ≤ sizeLine; decide, ?_⟩
  intro p98 n98
  obtain ⟨H98, e98, s98, k98⟩ := newR (.lst [.ref p90, .ref p91, .ref p92, .ref p93, .ref p94, .ref p95, .ref p96, .ref p97]) n98
  rw [e98]
  clear e98 n98
  replace hrow := s98 _ _ hrow
  replace k90 := s98 _ _ k90
  replace k91 := s98 _ _ k91
  replace k92 := s98 _ _ k92
  replace k93 := s98 _ _ k93
  replace k94 := s98 _ _ k94
  replace k95 := s98 _ _ k95
  replace k96 := s98 _ _ k96
  replace k97 := s98 _ _ k97
  refine ⟨p98, rfl, ⟨_, .inl (.inl k98)⟩, ?_⟩
  refine for_list (xs := [.ref p90, .ref p91, .ref p92, .ref p93, .ref p94, .ref p95, .ref p96, .ref p97]) (fun _ σ H => ∃ y3 y4 y5 y6, σ = [some (.ref a), some (.ref p1), some (.ref p2), y3, y4, y5, y6] ∧ Same H98 H) ⟨_, _, _, _, rfl, fun _ _ e => e⟩ (fun _ _ H _ h => by obtain ⟨_, _, _, _, _, s⟩ := h; exact .inl (.inl (s _ _ k98))) ?_ ?_
  · rintro i v σ H110 hv ⟨y3, y4, y5, y6, rfl, s110⟩
    have hw : ∃ (p : Addr) (v1 v2 : V), v = .ref p ∧ H110 p = some (.tup [v1, v2]) ∧ pln v1 = true ∧ pln v2 = true ∧ askO 9 (.tup [.int 0, .int 1, .int 1, .int 0]) (.pl v1) (.pl v2) (.pl .non) = some .places := by
      have hv := List.mem_of_getElem? hv
      simp only [List.mem_cons, List.not_mem_nil, or_false] at hv
      rcases hv with rfl | rfl | rfl | rfl | rfl | rfl | rfl | rfl
      · exact ⟨_, _, _, rfl, s110 _ _ k90, rfl, rfl, by decide +kernel⟩
      · exact ⟨_, _, _, rfl, s110 _ _ k91, rfl, rfl, by decide +kernel⟩
      · exact ⟨_, _, _, rfl, s110 _ _ k92, rfl, rfl, by decide +kernel⟩
      · exact ⟨_, _, _, rfl, s110 _ _ k93, rfl, rfl, by decide +kernel⟩
      · exact ⟨_, _, _, rfl, s110 _ _ k94, rfl, rfl, by decide +kernel⟩
      · exact ⟨_, _, _, rfl, s110 _ _ k95, rfl, rfl, by decide +kernel⟩
      · exact ⟨_, _, _, rfl, s110 _ _ k96, rfl, rfl, by decide +kernel⟩
      · exact ⟨_, _, _, rfl, s110 _ _ k97, rfl, rfl, by decide +kernel⟩
    obtain ⟨p, v1, v2, rfl, hp, pv1, pv2, f1⟩ := hw
    have hrow := s110 _ _ hrow
    refine ⟨p, _, rfl, .inl (.inl hp), rfl, _, _, rfl, _, _, rfl, rfl, ?_⟩
    dsimp only [List.set]
    walk_at "rd"
    refine ⟨9, _, _, _, _, .tup [.int 0, .int 1, .int 1, .int 0], .pl v1, .pl v2, .pl .non, rfl, ⟨_, rfl, .inl (.inl hrow), rfl, by decide⟩, ⟨rfl, pv1⟩, ⟨rfl, pv2⟩, ⟨rfl, rfl⟩, fun z => absurd z (by decide), .inl ⟨.places, f1, fun p111 H111 n111 s111 k111 => ?_⟩⟩
    refine rhs1 k111 fun H112 s112 => ⟨_, rfl, iteF ?_⟩
    exact ⟨_, _, _, _, rfl, s110.trans (s111.trans s112)⟩
  rintro σ H119 ⟨y3, y4, y5, y6, rfl, s119⟩
  replace hrow := s119 _ _ hrow
  clear s119
  walk_at "rd"
  refine ⟨9, _, _, _, _, .tup [.int 0, .int 1, .int 1, .int 0], .pl (.int 3), .pl (.int 1), .pl .non, rfl, ⟨_, rfl, .inl (.inl hrow), rfl, by decide⟩, ⟨rfl, rfl⟩, ⟨rfl, rfl⟩, ⟨rfl, rfl⟩, fun z => absurd z (by decide), .inr ⟨by decide +kernel, .inl ⟨rfl, fun p120 H120 s120 k120 => ?_⟩⟩⟩
  replace hrow := s120 _ _ hrow
  walk_at "rd"
  intro p121 n121
  obtain ⟨H121, e121, s121, k121⟩ := newR (.tup [.int 0, .int 0, .int 1, .int 1]) n121
  rw [e121]
  clear e121 n121
  replace hrow := s121 _ _ hrow
  replace k120 := s121 _ _ k120
  refine neT (ms := [0, 0, 1, 1]) (.inl (.inl k120)) (.inl (.inl k121)) ?_
  rw [decide_eq_true (show swp (rowOf (.tup [.int 0, .int 1, .int 1, .int 0])) (intA (.pl (.int 3))).toNat (intA (.pl (.int 1))).toNat = [0, 0, 1, 1] from by decide +kernel)]
  refine ⟨_, rfl, iteF ?_⟩
  walk_at "rd"
  refine ⟨9, _, _, _, _, .tup [.int 0, .int 1, .int 1, .int 0], .pl (.int 1), .pl (.int 0), .pl .non, rfl, ⟨_, rfl, .inl (.inl hrow), rfl, by decide⟩, ⟨rfl, rfl⟩, ⟨rfl, rfl⟩, ⟨rfl, rfl⟩, fun z => absurd z (by decide), .inr ⟨by decide +kernel, .inl ⟨rfl, fun p122 H122 s122 k122 => ?_⟩⟩⟩
  replace hrow := s122 _ _ hrow
  walk_at "rd"
  intro p123 n123
  obtain ⟨H123, e123, s123, k123⟩ := newR (.tup [.int 1, .int 0, .int 1, .int 0]) n123
  rw [e123]
  clear e123 n123
  replace hrow := s123 _ _ hrow
  replace k122 := s123 _ _ k122
  refine neT (ms := [1, 0, 1, 0]) (.inl (.inl k122)) (.inl (.inl k123)) ?_
  rw [decide_eq_true (show swp (rowOf (.tup [.int 0, .int 1, .int 1, .int 0])) (intA (.pl (.int 1))).toNat (intA (.pl (.int 0))).toNat = [1, 0, 1, 0] from by decide +kernel)]
  refine ⟨_, rfl, iteF ?_⟩
  walk_at "rd"
  intro H124 s124
  refine ⟨true, rfl, iteT ?_⟩
  exact ⟨rfl, fun H' _ => q H'⟩

end
end Ev

/-! ### the head -/
namespace Ev
open PySem PySem.Spec PyProof.Rows L2 RZ Ly
def d__law_which : He.DefD := ⟨("_law_which", none), "_law_which", "_law_which", defArgs S__law_which, defBody S__law_which, defScope S__law_which, [], []⟩
def d_is_whole : He.DefD := ⟨("is_whole", none), "is_whole", "is_whole", defArgs S_is_whole, defBody S_is_whole, defScope S_is_whole, [], []⟩
def d_is_from_to : He.DefD := ⟨("is_from_to", none), "is_from_to", "is_from_to", defArgs S_is_from_to, defBody S_is_from_to, defScope S_is_from_to, [], []⟩
def d_check_hands : He.DefD := ⟨("check_hands", none), "check_hands", "check_hands", defArgs S_check_hands, defBody S_check_hands, defScope S_check_hands, [], []⟩
def d_check_lead_order : He.DefD := ⟨("check_lead_order", none), "check_lead_order", "check_lead_order", defArgs S_check_lead_order, defBody S_check_lead_order, defScope S_check_lead_order, [], []⟩
def d_check_places : He.DefD := ⟨("check_places", none), "check_places", "check_places", defArgs S_check_places, defBody S_check_places, defScope S_check_places, [], [("least", .int 1)]⟩
def d_calmest : He.DefD := ⟨("calmest", none), "calmest", "calmest", defArgs S_calmest, defBody S_calmest, defScope S_calmest, [], []⟩
def d_check_bound : He.DefD := ⟨("check_bound", none), "check_bound", "check_bound", defArgs S_check_bound, defBody S_check_bound, defScope S_check_bound, [], []⟩
def d_check_order_of : He.DefD := ⟨("check_order_of", none), "check_order_of", "check_order_of", defArgs S_check_order_of, defBody S_check_order_of, defScope S_check_order_of, [], []⟩
def d_check_worths : He.DefD := ⟨("check_worths", none), "check_worths", "check_worths", defArgs S_check_worths, defBody S_check_worths, defScope S_check_worths, [], []⟩
def d_check_foreseeing : He.DefD := ⟨("check_foreseeing", none), "check_foreseeing", "check_foreseeing", defArgs S_check_foreseeing, defBody S_check_foreseeing, defScope S_check_foreseeing, [], []⟩
def d_check_length : He.DefD := ⟨("check_length", none), "check_length", "check_length", defArgs S_check_length, defBody S_check_length, defScope S_check_length, [], []⟩
def d_is_hand : He.DefD := ⟨("is_hand", none), "is_hand", "is_hand", defArgs S_is_hand, defBody S_is_hand, defScope S_is_hand, [], []⟩
def d_fits_row : He.DefD := ⟨("fits_row", none), "fits_row", "fits_row", defArgs S_fits_row, defBody S_fits_row, defScope S_fits_row, [], []⟩
def d_check_row : He.DefD := ⟨("check_row", none), "check_row", "check_row", defArgs S_check_row, defBody S_check_row, defScope S_check_row, [], []⟩
def d_calming : He.DefD := ⟨("calming", none), "calming", "calming", defArgs S_calming, defBody S_calming, defScope S_calming, [], [("bound", .int 1)]⟩
def d_check_degree : He.DefD := ⟨("check_degree", none), "check_degree", "check_degree", defArgs S_check_degree, defBody S_check_degree, defScope S_check_degree, [], [("most", .int 9)]⟩
def d_counted : He.DefD := ⟨("counted", none), "counted", "counted", defArgs S_counted, defBody S_counted, defScope S_counted, [], []⟩
def d_check_two_places : He.DefD := ⟨("check_two_places", none), "check_two_places", "check_two_places", defArgs S_check_two_places, defBody S_check_two_places, defScope S_check_two_places, [], []⟩
def d_exchange_of : He.DefD := ⟨("exchange_of", none), "exchange_of", "exchange_of", defArgs S_exchange_of, defBody S_exchange_of, defScope S_exchange_of, [], []⟩
def d_exchanged : He.DefD := ⟨("exchanged", none), "exchanged", "exchanged", defArgs S_exchanged, defBody S_exchanged, defScope S_exchanged, [], []⟩
def d_check_two_hands : He.DefD := ⟨("check_two_hands", none), "check_two_hands", "check_two_hands", defArgs S_check_two_hands, defBody S_check_two_hands, defScope S_check_two_hands, [], []⟩
def d_check_two : He.DefD := ⟨("check_two", none), "check_two", "check_two", defArgs S_check_two, defBody S_check_two, defScope S_check_two, [], []⟩
def d_foreseen : He.DefD := ⟨("foreseen", none), "foreseen", "foreseen", defArgs S_foreseen, defBody S_foreseen, defScope S_foreseen, [], [("bound", .int 1)]⟩
def d_greatest : He.DefD := ⟨("greatest", none), "greatest", "greatest", defArgs S_greatest, defBody S_greatest, defScope S_greatest, [], [("bound", .int 1)]⟩
def d_check_mending : He.DefD := ⟨("check_mending", none), "check_mending", "check_mending", defArgs S_check_mending, defBody S_check_mending, defScope S_check_mending, [], []⟩
def d_mended : He.DefD := ⟨("mended", none), "mended", "mended", defArgs S_mended, defBody S_mended, defScope S_mended, [], []⟩
def d_mended_on : He.DefD := ⟨("mended_on", none), "mended_on", "mended_on", defArgs S_mended_on, defBody S_mended_on, defScope S_mended_on, [], []⟩
def d_check_lead : He.DefD := ⟨("check_lead", none), "check_lead", "check_lead", defArgs S_check_lead, defBody S_check_lead, defScope S_check_lead, [], []⟩
def d_of_two : He.DefD := ⟨("of_two", none), "of_two", "of_two", defArgs S_of_two, defBody S_of_two, defScope S_of_two, [], [("bound", .int 1)]⟩
def d_spread : He.DefD := ⟨("spread", none), "spread", "spread", defArgs S_spread, defBody S_spread, defScope S_spread, [], []⟩
def d_check_going_on : He.DefD := ⟨("check_going_on", none), "check_going_on", "check_going_on", defArgs S_check_going_on, defBody S_check_going_on, defScope S_check_going_on, [], []⟩
def d_differences_of : He.DefD := ⟨("differences_of", none), "differences_of", "differences_of", defArgs S_differences_of, defBody S_differences_of, defScope S_differences_of, [], []⟩
def d_gone_on : He.DefD := ⟨("gone_on", none), "gone_on", "gone_on", defArgs S_gone_on, defBody S_gone_on, defScope S_gone_on, [], []⟩
def d_straight_on : He.DefD := ⟨("straight_on", none), "straight_on", "straight_on", defArgs S_straight_on, defBody S_straight_on, defScope S_straight_on, [], []⟩
def d_check_order : He.DefD := ⟨("check_order", none), "check_order", "check_order", defArgs S_check_order, defBody S_check_order, defScope S_check_order, [], []⟩
def d_sums : He.DefD := ⟨("sums", none), "sums", "sums", defArgs S_sums, defBody S_sums, defScope S_sums, [], [("order", .int 1)]⟩
def d_running_sums : He.DefD := ⟨("running_sums", none), "running_sums", "running_sums", defArgs S_running_sums, defBody S_running_sums, defScope S_running_sums, [], []⟩
def d_are_signs_even : He.DefD := ⟨("are_signs_even", none), "are_signs_even", "are_signs_even", defArgs S_are_signs_even, defBody S_are_signs_even, defScope S_are_signs_even, [], []⟩
def d_sign_of : He.DefD := ⟨("sign_of", none), "sign_of", "sign_of", defArgs S_sign_of, defBody S_sign_of, defScope S_sign_of, [], []⟩
def d_signs_of : He.DefD := ⟨("signs_of", none), "signs_of", "signs_of", defArgs S_signs_of, defBody S_signs_of, defScope S_signs_of, [], []⟩
def d_worst : He.DefD := ⟨("worst", none), "worst", "worst", defArgs S_worst, defBody S_worst, defScope S_worst, [], [("bound", .int 1)]⟩
def d__law_ask : He.DefD := ⟨("_law_ask", none), "_law_ask", "_law_ask", defArgs S__law_ask, defBody S__law_ask, defScope S__law_ask, [], []⟩
def d__law_counts_refused : He.DefD := ⟨("_law_counts_refused", none), "_law_counts_refused", "_law_counts_refused", defArgs S__law_counts_refused, defBody S__law_counts_refused, defScope S__law_counts_refused, [], []⟩
def d__law_told_refused : He.DefD := ⟨("_law_told_refused", none), "_law_told_refused", "_law_told_refused", defArgs S__law_told_refused, defBody S__law_told_refused, defScope S__law_told_refused, [], []⟩
def d_law : He.DefD := ⟨("law", none), "law", "law", defArgs S_law, defBody S_law, defScope S_law, [], []⟩
def fnL : List He.DefD := [d__law_which, d_is_whole, d_is_from_to, d_check_hands, d_check_lead_order, d_check_places, d_calmest, d_check_bound, d_check_order_of, d_check_worths, d_check_foreseeing, d_check_length, d_is_hand, d_fits_row, d_check_row, d_calming, d_check_degree, d_counted, d_check_two_places, d_exchange_of, d_exchanged, d_check_two_hands, d_check_two, d_foreseen, d_greatest, d_check_mending, d_mended, d_mended_on, d_check_lead, d_of_two, d_spread, d_check_going_on, d_differences_of, d_gone_on, d_straight_on, d_check_order, d_sums, d_running_sums, d_are_signs_even, d_sign_of, d_signs_of, d_worst, d__law_ask, d__law_counts_refused, d__law_told_refused, d_law]
def faL : List He.Fa := [.glo "_law_which", .glo "is_whole", .glo "is_from_to", .glo "check_hands", .glo "check_lead_order", .glo "check_places", .glo "calmest", .glo "check_bound", .glo "check_order_of", .glo "check_worths", .glo "check_foreseeing", .glo "check_length", .glo "is_hand", .glo "fits_row", .glo "check_row", .glo "calming", .glo "check_degree", .glo "counted", .glo "check_two_places", .glo "exchange_of", .glo "exchanged", .glo "check_two_hands", .glo "check_two", .glo "foreseen", .glo "greatest", .glo "check_mending", .glo "mended", .glo "mended_on", .glo "check_lead", .glo "of_two", .glo "spread", .glo "check_going_on", .glo "differences_of", .glo "gone_on", .glo "straight_on", .glo "check_order", .glo "sums", .glo "running_sums", .glo "are_signs_even", .glo "sign_of", .glo "signs_of", .glo "worst", .glo "_law_ask", .glo "_law_counts_refused", .glo "_law_told_refused", .glo "law", .free "ValueError", .free "all", .free "bool", .free "int", .free "isinstance", .free "len", .free "list", .free "range", .free "tuple", .free "zip", .int "FEWEST_HANDS" (2), .int "MOST_BOUND" (99), .int "MOST_CALMED" (24), .int "MOST_COUNTED_DEGREE" (3), .int "MOST_HANDS" (4), .int "MOST_LEAD_ORDER" (4), .int "MOST_MENDED" (16), .int "MOST_ORDER" (9), .int "MOST_PLACES" (64)]
abbrev Rw : PySem.W.OpenRow := PySem.W.OpenLaw.row PySem.Challenge.rw_evenrows_k21_orders_refused
def exL (K : PySem.W.Frag) : Bool := excsB K && dicOk K "MOST_COUNTED_OF" [((2 : Int), (12 : Int)), ((3 : Int), (8 : Int)), ((4 : Int), (6 : Int))] && dicOk K "MOST_PLACES_OF" [((2 : Int), (10 : Int)), ((3 : Int), (6 : Int)), ((4 : Int), (5 : Int))]
def valL : List He.FnW := [He.DefD.val d__law_which, He.DefD.val d_is_whole, He.DefD.val d_is_from_to, He.DefD.val d_check_hands, He.DefD.val d_check_lead_order, He.DefD.val d_check_places, He.DefD.val d_calmest, He.DefD.val d_check_bound, He.DefD.val d_check_order_of, He.DefD.val d_check_worths, He.DefD.val d_check_foreseeing, He.DefD.val d_check_length, He.DefD.val d_is_hand, He.DefD.val d_fits_row, He.DefD.val d_check_row, He.DefD.val d_calming, He.DefD.val d_check_degree, He.DefD.val d_counted, He.DefD.val d_check_two_places, He.DefD.val d_exchange_of, He.DefD.val d_exchanged, He.DefD.val d_check_two_hands, He.DefD.val d_check_two, He.DefD.val d_foreseen, He.DefD.val d_greatest, He.DefD.val d_check_mending, He.DefD.val d_mended, He.DefD.val d_mended_on, He.DefD.val d_check_lead, He.DefD.val d_of_two, He.DefD.val d_spread, He.DefD.val d_check_going_on, He.DefD.val d_differences_of, He.DefD.val d_gone_on, He.DefD.val d_straight_on, He.DefD.val d_check_order, He.DefD.val d_sums, He.DefD.val d_running_sums, He.DefD.val d_are_signs_even, He.DefD.val d_sign_of, He.DefD.val d_signs_of, He.DefD.val d_worst, He.DefD.val d__law_ask, He.DefD.val d__law_counts_refused, He.DefD.val d__law_told_refused, He.DefD.val d_law]
def asL : List PySem.Addr := [3, 42, 55, 67, 79, 91, 103, 115, 127, 139, 151, 163, 175, 187, 199, 208, 215, 222, 227, 234, 241, 248, 255, 260, 267, 274, 281, 288, 296, 304, 311, 318, 325, 332, 337, 344, 352, 366, 380, 388, 396, 404, 411, 434, 441, 452, 459, 464, 471, 478, 485, 492, 499, 523, 530, 538, 546, 551, 575, 582, 587, 592, 597, 41, 54, 66, 78, 90, 102, 114, 126, 138, 150, 162, 174, 186, 198, 207, 214, 221, 226, 233, 240, 247, 254, 259, 266, 273, 280, 287, 295, 289, 303, 297, 310, 317, 324, 331, 336, 343, 351, 345, 365, 379, 387, 381, 395, 389, 403, 397, 410, 440, 458, 463, 470, 477, 484, 491, 498, 522, 529, 537, 531, 545, 539, 550, 574, 581, 586, 591, 596]
abbrev hk : PySem.W.Hook := Ly.hookMV asL faL fnL valL rfl exL
def loose0 : List PySem.Str := ["TurnError", "NoHands", "NoRow", "NoHand", "NoWorths", "NoOrder", "NoBound", "NotEven", "TooLong", "NoDegree", "NoPlaces", "NoText", "Done", "Nothing", "FEWEST_HANDS", "MOST_HANDS", "MOST_PLACES", "MOST_ORDER", "MOST_DEGREE", "MOST_LEAD_ORDER", "MOST_BOUND", "is_whole", "is_from_to", "is_hand", "fits_row", "check_hands", "check_row", "check_two", "check_two_hands", "check_worths"]
def loose1 : List PySem.Str := ["check_order", "check_lead_order", "check_order_of", "check_bound", "check_degree", "check_places", "check_two_places", "check_length", "check_going_on", "check_foreseeing", "signs_of", "sign_of", "sums", "sums_of", "running_sums", "is_even_to", "are_signs_even", "greatest", "of_two", "worst", "check_lead", "greatest_of", "greatest_at", "worst_gaps", "direction", "MOST_PLACES_OF", "calmest", "even_rows", "balanced_rows", "MOST_COUNTED_DEGREE"]
def loose2 : List PySem.Str := ["MOST_COUNTED_OF", "counted", "spread", "MOST_MENDED", "exchanged", "mended", "mended_on", "check_mending", "exchange_of", "mend_of", "leads_behind", "unlike_pairs", "differences_of", "MOST_CALMED", "straight_on", "foreseen", "calming", "gone_on", "foreseen_of", "tails_of", "most_foreseen", "_law_which", "_law_ask", "_law_told_refused", "_law_counts_refused"]
def looseL : List PySem.Str := loose0 ++ loose1 ++ loose2
theorem txt {K : PySem.W.Frag} {h : Heap} {mg : Str → Option Value} (X : K.In h) (G : h.Ns mainGlobals mg) (c : He.SaysD faL fnL K) (ce : exL K = true) : Txt K mg where
  f__law_which := at_of (d := d__law_which) X G c 0 0 rfl rfl rfl
  f_is_whole := at_of (d := d_is_whole) X G c 1 1 rfl rfl rfl
  f_is_from_to := at_of (d := d_is_from_to) X G c 2 2 rfl rfl rfl
  f_check_hands := at_of (d := d_check_hands) X G c 3 3 rfl rfl rfl
  f_check_lead_order := at_of (d := d_check_lead_order) X G c 4 4 rfl rfl rfl
  f_check_places := at_of (d := d_check_places) X G c 5 5 rfl rfl rfl
  f_calmest := at_of (d := d_calmest) X G c 6 6 rfl rfl rfl
  f_check_bound := at_of (d := d_check_bound) X G c 7 7 rfl rfl rfl
  f_check_order_of := at_of (d := d_check_order_of) X G c 8 8 rfl rfl rfl
  f_check_worths := at_of (d := d_check_worths) X G c 9 9 rfl rfl rfl
  f_check_foreseeing := at_of (d := d_check_foreseeing) X G c 10 10 rfl rfl rfl
  f_check_length := at_of (d := d_check_length) X G c 11 11 rfl rfl rfl
  f_is_hand := at_of (d := d_is_hand) X G c 12 12 rfl rfl rfl
  f_fits_row := at_of (d := d_fits_row) X G c 13 13 rfl rfl rfl
  f_check_row := at_of (d := d_check_row) X G c 14 14 rfl rfl rfl
  f_calming := at_of (d := d_calming) X G c 15 15 rfl rfl rfl
  f_check_degree := at_of (d := d_check_degree) X G c 16 16 rfl rfl rfl
  f_counted := at_of (d := d_counted) X G c 17 17 rfl rfl rfl
  f_check_two_places := at_of (d := d_check_two_places) X G c 18 18 rfl rfl rfl
  f_exchange_of := at_of (d := d_exchange_of) X G c 19 19 rfl rfl rfl
  f_exchanged := at_of (d := d_exchanged) X G c 20 20 rfl rfl rfl
  f_check_two_hands := at_of (d := d_check_two_hands) X G c 21 21 rfl rfl rfl
  f_check_two := at_of (d := d_check_two) X G c 22 22 rfl rfl rfl
  f_foreseen := at_of (d := d_foreseen) X G c 23 23 rfl rfl rfl
  f_greatest := at_of (d := d_greatest) X G c 24 24 rfl rfl rfl
  f_check_mending := at_of (d := d_check_mending) X G c 25 25 rfl rfl rfl
  f_mended := at_of (d := d_mended) X G c 26 26 rfl rfl rfl
  f_mended_on := at_of (d := d_mended_on) X G c 27 27 rfl rfl rfl
  f_check_lead := at_of (d := d_check_lead) X G c 28 28 rfl rfl rfl
  f_of_two := at_of (d := d_of_two) X G c 29 29 rfl rfl rfl
  f_spread := at_of (d := d_spread) X G c 30 30 rfl rfl rfl
  f_check_going_on := at_of (d := d_check_going_on) X G c 31 31 rfl rfl rfl
  f_differences_of := at_of (d := d_differences_of) X G c 32 32 rfl rfl rfl
  f_gone_on := at_of (d := d_gone_on) X G c 33 33 rfl rfl rfl
  f_straight_on := at_of (d := d_straight_on) X G c 34 34 rfl rfl rfl
  f_check_order := at_of (d := d_check_order) X G c 35 35 rfl rfl rfl
  f_sums := at_of (d := d_sums) X G c 36 36 rfl rfl rfl
  f_running_sums := at_of (d := d_running_sums) X G c 37 37 rfl rfl rfl
  f_are_signs_even := at_of (d := d_are_signs_even) X G c 38 38 rfl rfl rfl
  f_sign_of := at_of (d := d_sign_of) X G c 39 39 rfl rfl rfl
  f_signs_of := at_of (d := d_signs_of) X G c 40 40 rfl rfl rfl
  f_worst := at_of (d := d_worst) X G c 41 41 rfl rfl rfl
  f__law_ask := at_of (d := d__law_ask) X G c 42 42 rfl rfl rfl
  f__law_counts_refused := at_of (d := d__law_counts_refused) X G c 43 43 rfl rfl rfl
  f__law_told_refused := at_of (d := d__law_told_refused) X G c 44 44 rfl rfl rfl
  b_ValueError := He.free_ok X G (c.fact 46 (f := .free "ValueError") rfl)
  b_all := He.free_ok X G (c.fact 47 (f := .free "all") rfl)
  b_bool := He.free_ok X G (c.fact 48 (f := .free "bool") rfl)
  b_int := He.free_ok X G (c.fact 49 (f := .free "int") rfl)
  b_isinstance := He.free_ok X G (c.fact 50 (f := .free "isinstance") rfl)
  b_len := He.free_ok X G (c.fact 51 (f := .free "len") rfl)
  b_list := He.free_ok X G (c.fact 52 (f := .free "list") rfl)
  b_range := He.free_ok X G (c.fact 53 (f := .free "range") rfl)
  b_tuple := He.free_ok X G (c.fact 54 (f := .free "tuple") rfl)
  b_zip := He.free_ok X G (c.fact 55 (f := .free "zip") rfl)
  k_FEWEST_HANDS := He.int_ok X G (c.fact 56 (f := .int "FEWEST_HANDS" (2)) rfl)
  k_MOST_BOUND := He.int_ok X G (c.fact 57 (f := .int "MOST_BOUND" (99)) rfl)
  k_MOST_CALMED := He.int_ok X G (c.fact 58 (f := .int "MOST_CALMED" (24)) rfl)
  k_MOST_COUNTED_DEGREE := He.int_ok X G (c.fact 59 (f := .int "MOST_COUNTED_DEGREE" (3)) rfl)
  k_MOST_HANDS := He.int_ok X G (c.fact 60 (f := .int "MOST_HANDS" (4)) rfl)
  k_MOST_LEAD_ORDER := He.int_ok X G (c.fact 61 (f := .int "MOST_LEAD_ORDER" (4)) rfl)
  k_MOST_MENDED := He.int_ok X G (c.fact 62 (f := .int "MOST_MENDED" (16)) rfl)
  k_MOST_ORDER := He.int_ok X G (c.fact 63 (f := .int "MOST_ORDER" (9)) rfl)
  k_MOST_PLACES := He.int_ok X G (c.fact 64 (f := .int "MOST_PLACES" (64)) rfl)
  excs := excs_ok X G ((He.ba (He.ba ce).1).1)
  d_MOST_COUNTED_OF := dic_ok X G ((He.ba (He.ba ce).1).2)
  d_MOST_PLACES_OF := dic_ok X G ((He.ba ce).2)
theorem facts {P : Program} {w : World} {K : PySem.W.Frag} {h : Heap} {mg : Str → Option Value} {f : Addr} (X : K.In h) (G : h.Ns mainGlobals mg) (hfa : mg ("law" : Str) = some (.ref f)) (c : He.SaysD faL fnL K) (ce : exL K = true) :
    ∃ fd : FuncData, (∀ (s : Shared) (v : Value), BindsTo s fd ⟨[v], []⟩ [("_law_script", v)]) ∧ ∀ base : Heap, K.In base → base.Ns mainGlobals mg → FnOk P w K mg base CX0 11 f fd ["_law_script"] (sp_law K) := by
  obtain ⟨fd, F⟩ := c.def_ 45 (d := d_law) rfl
  have e := hfa.symm.trans (He.glo_ok X G (c.fact 45 (f := .glo "law") rfl))
  cases e
  have b := FunD.bindsA (ps := ["_law_script"]) F fun _ _ _ _ _ _ us hl => match us, hl with | [_], _ => rfl
  exact ⟨fd, fun s v => b s [v] rfl, fun base _ _ => ok_law (txt X G c ce)  F⟩
end Ev
open PySem PySem.W PySem.Calls PyProof.Rows
set_option maxHeartbeats 0 in
theorem PySem.Challenge.cw_evenrows_k21_orders_refused_holds : PySem.Challenge.rw_evenrows_k21_orders_refused.Holds := by
  w_on; o_law
  o_head Ev.hk
  case hw => w_witness2
  case hc =>
    refine L2.walk_ofE (l := PySem.Challenge.rw_evenrows_k21_orders_refused) (n := 63) (k := 11) (x := "_law_script") (CX := L2.CX0) rfl (by decide) (by kernel_rfl) ⟨rfl, by decide, by decide⟩ ?F (fun _ _ _ _ z => z)
    intro w mg fa h Y G hmg0
    obtain ⟨K, KX, c, ce⟩ := Y
    have hmg : mg ("law" : PySem.Str) = some (.ref fa) := by
      have e : (HandSHeadRun.topDef (OpenLaw.row PySem.Challenge.rw_evenrows_k21_orders_refused).prog 97).name = ("law" : PySem.Str) := by kernel_rfl
      rw [← e]
      exact hmg0
    obtain ⟨fd, hb, hF⟩ := Ev.facts (P := (PySem.Challenge.rw_evenrows_k21_orders_refused).prog) (w := w) KX G hmg c ce
    exact ⟨K, fd, Ev.sp_law K, KX, hb, fun H a ns hl _ hS => ⟨a, ns, rfl, hS, hl, fun _ => rfl⟩, hF⟩
