import PyProof.Rows.All
import Wide.All
import OpenK.AllK
import Wide.FinOn
import Lean
import KE.GoesEnum
import KE.KTupSum
import KE.KRevSl
import KE.GoesMore
import KE.GoesZip
import KE.DataMinMax
import KE.SortData
import PyProof.EqAt
import PyProof.EqKinds
import PyProof.TupleCall
import HandS.Base
import HandS.Call
import HandS.List
import HandS.Comp
import HandS.Ends
import HandS.Dict
import HandS.Iter
import HandS.Walk
import HandS.Text
import HandS.Words
import HandS.WordsList
import HandS.WordsDict
import HandS.Exc
import HandS.Zip
import HandS.Conv
import HandS.TryOnly
import HandS.TupAny
import HandS.Style
import HandS.IsInst
import HandS.Wide
import HandS.Defaults
import HandS.Head0
import HandS.Head1
import HandS.Head2
import HandS.HeadEnd
import HandS.HeadHook1
import HandS.HeadHook2
import HandS.Star
import HandS.SetFor
import HandS.Head3
import HandS.TupMul
import HandS.Codes
import HandS.Strs
import HandS.Lambda
import KE.DataMinKey
import HandS.EndTab
import HandS.HeadWalk
import HandS.Small
import HandS.ExcOwn
import HandS.ExcCtx
import HandS.ExcIs
import HandS.HotCalls
import PySem.Challenge.RW_evenrows_k25_tables_refused

set_option Elab.async false
set_option linter.all false
set_option maxRecDepth 100000
set_option maxHeartbeats 4000000

namespace Ly
open PySem PySem.Spec PyProof.Rows L2

/-! ### the text by names: a def as it stands, a def as it is called -/
/-- the def st stands under the module's name x -/
structure At (K : PySem.W.Frag) (mg : Str → Option Value) (x : Str) (st : Stmt) (kws : List (Str × V)) : Prop where
  ex : ∃ f fd, FunD K x x (defArgs st) (defBody st) (defScope st) [] kws f fd ∧ mg x = some (.ref f)
/-- the module's name x can be called by so many positional values, and keeps the promise sp -/
structure Cal (P : Program) (w : World) (K : PySem.W.Frag) (mg : Str → Option Value) (base : Heap) (k : Nat) (x : Str) (ps : List Str) (sp : Sp) : Prop where
  ex : ∃ f fd, FnOk P w K mg base CX0 k f fd ps sp ∧ mg x = some (.ref f) ∧ PySem.W.keepIn K (.ref f) = true ∧ Binds K fd ps []
/-- with the default of its one keyword-only name filled in -/
structure CalD (P : Program) (w : World) (K : PySem.W.Frag) (mg : Str → Option Value) (base : Heap) (k : Nat) (x : Str) (ps : List Str) (sp : Sp) (dv : V) : Prop where
  ex : ∃ f fd ds, FnOk P w K mg base CX0 k f fd ps sp ∧ mg x = some (.ref f) ∧ PySem.W.keepIn K (.ref f) = true ∧ Binds K fd ps ds ∧ Vals [dv] ds
/-- with its one keyword-only name written, behind n others -/
structure CalK (P : Program) (w : World) (K : PySem.W.Frag) (mg : Str → Option Value) (base : Heap) (k : Nat) (x : Str) (ps : List Str) (sp : Sp) (n : Nat) (kw : Str) : Prop where
  ex : ∃ f fd, FnOk P w K mg base CX0 k f fd ps sp ∧ mg x = some (.ref f) ∧ PySem.W.keepIn K (.ref f) = true ∧ KBn K fd ps n [kw] (fun us ws => us ++ ws) (fun vs zs => vs ++ zs)

section
variable {X : Cx} {j k : Nat} {x : Str} {ps : List Str} {sp : Sp} {p pos : Pos} {e : Expr} {es : List Expr} {t : TA} {dv : V}
theorem pe_cal (C : Cal X.prog X.w X.K X.mg X.base j x ps sp) (hr : Room k X.A) (hj : j ≤ k) (ha : PA X (e :: es) t) (hg : Gl X x := by rfl) (hdb : (x == ("__debug__" : Str)) = false := by decide)
    (he : starEach (e :: es) X.env = (false, eval e X.env) :: starEach es X.env := by rfl) (hpl : (backTo pos (starEach es X.env)).any (·.1) = false := by rfl) :
    PE X (.Call (.Name x p) (e :: es) [] pos) (tCall sp [] E0 t) := by
  obtain ⟨f, fd, F, m, kp, b⟩ := C.ex
  exact pe_call F (hr.mono hj) hg m kp b .nil pass0 ha hdb he hpl
theorem pe_calD (C : CalD X.prog X.w X.K X.mg X.base j x ps sp dv) (hr : Room k X.A) (hj : j ≤ k) (ha : PA X (e :: es) t) (hg : Gl X x := by rfl) (hdb : (x == ("__debug__" : Str)) = false := by decide)
    (he : starEach (e :: es) X.env = (false, eval e X.env) :: starEach es X.env := by rfl) (hpl : (backTo pos (starEach es X.env)).any (·.1) = false := by rfl) :
    PE X (.Call (.Name x p) (e :: es) [] pos) (tCall sp [dv] E0 t) := by
  obtain ⟨f, fd, ds, F, m, kp, b, r⟩ := C.ex
  exact pe_call F (hr.mono hj) hg m kp b r pass0 ha hdb he hpl
theorem pe_calK {n : Nat} {kw : Str} {kws : List Keyword} {tk : TA} (C : CalK X.prog X.w X.K X.mg X.base j x ps sp n kw) (hr : Room k X.A) (hj : j ≤ k) (ha : PA X (e :: es) t) (hkw : PK X kws tk) (hg : Gl X x := by rfl)
    (hall : (backToKw pos (keywordEach kws X.env)).all (·.1.isSome) = true := by rfl) (hks : (backToKw pos (keywordEach kws X.env)).filterMap (·.1) = [kw] := by rfl) (hdb : (x == ("__debug__" : Str)) = false := by decide)
    (he : starEach (e :: es) X.env = (false, eval e X.env) :: starEach es X.env := by rfl)
    (hpl : ((backTo pos (starEach (e :: es) X.env)).any (·.1) || (backToKw pos (keywordEach kws X.env)).any (·.1.isNone)) = false := by rfl) :
    PE X (.Call (.Name x p) (e :: es) kws pos) (tCallN n 1 sp (fun vs zs => vs ++ zs) E0 t tk) := by
  obtain ⟨f, fd, F, m, kp, b⟩ := C.ex
  exact pe_callN F (hr.mono hj) hg m kp b pass0 ha hkw hall hks hdb he hpl
/-- a module's whole number -/
theorem pe_kon {y : Str} {i : Int} {q : Pos} (h : ∃ t, X.mg y = some (.int i t)) (hg : Gl X y := by rfl) (hd : (y == ("__debug__" : Str)) = false := by decide) : PE X (.Name y q) (tC (.int i)) := by
  obtain ⟨u, m⟩ := h
  exact pe_glob hg m ⟨u, rfl⟩ hd
/-- a built-in class as a value -/
theorem pe_ty {y : Str} {n : String} {q : Pos} (hg : Gl X y) (hm : X.mg y = none) (hv : bootBuiltins y = some (.type n)) (hn : y ≠ "__name__" := by decide) (hd : (y == ("__debug__" : Str)) = false := by decide) : PE X (.Name y q) (tC (.ty n)) := pe_bltn hg hm hv rfl hn hd
end
theorem bt_len : bootBuiltins "len" = some (.builtin "len") := by decide +kernel
theorem bt_sum : bootBuiltins "sum" = some (.builtin "sum") := by decide +kernel
theorem bt_all : bootBuiltins "all" = some (.builtin "all") := by decide +kernel
theorem bt_any : bootBuiltins "any" = some (.builtin "any") := by decide +kernel
theorem bt_min : bootBuiltins "min" = some (.builtin "min") := by decide +kernel
theorem bt_max : bootBuiltins "max" = some (.builtin "max") := by decide +kernel
theorem bt_abs : bootBuiltins "abs" = some (.builtin "abs") := by decide +kernel
theorem bt_isinstance : bootBuiltins "isinstance" = some (.builtin "isinstance") := by decide +kernel
theorem bt_int : bootBuiltins "int" = some (.type "int") := by decide +kernel
theorem bt_bool : bootBuiltins "bool" = some (.type "bool") := by decide +kernel
theorem bt_tuple : bootBuiltins "tuple" = some (.type "tuple") := by decide +kernel
theorem bt_list : bootBuiltins "list" = some (.type "list") := by decide +kernel
theorem bt_str : bootBuiltins "str" = some (.type "str") := by decide +kernel

section
variable {P : Program} {w : World} {K : PySem.W.Frag} {mg : Str → Option Value} {base : Heap} {x : Str} {st : Stmt} {N ps : List Str} {k : Nat} {sp : Sp} {kws : List (Str × V)}
/-- a def's body walked: its promise -/
theorem At.fn (F : At K mg x st kws) (S : FnScope N ps (defScope st)) (len : ∀ vs H Q E, sp vs H Q E → vs.length = ps.length)
    (hbody : ∀ (cdv : Value) (A : Around) (outer : List Env) (s : Shared) (H : Hp) (vs : List V) (Q : VK) (E : XK) (f : Addr), Room k (A.deeper (envOfC x (defScope st) s.heap.objs.size f cdv)) → sp vs H Q E →
      ∃ t, PSs (cxOf CX0 P w K mg base N x (defScope st) f cdv A outer s H E).nox (defBody st) t ∧ t { nx := fun _ H' => Q .non H', rt := Q } (start N vs) H) :
    ∃ f fd, FunD K x x (defArgs st) (defBody st) (defScope st) [] kws f fd ∧ mg x = some (.ref f) ∧ FnOk P w K mg base CX0 (k + 1) f fd ps sp := by
  obtain ⟨f, fd, F, m⟩ := F.ex
  refine ⟨f, fd, F, m, F.ok (CX := CX0) S len fun cdv A outer s H vs Q E hr h => ?_⟩
  obtain ⟨t, h1, h2⟩ := hbody cdv A outer s H vs Q E f hr h
  exact ⟨t, PSs.nox h1, h2⟩
theorem At.cal (F : At K mg x st []) (S : FnScope N ps (defScope st))
    (hb : ∀ (kV doc pm : Value) (an : Option Addr) (cdv ct : Value) (us : List Value), us.length = ps.length → bindArgs (PySem.W.fnOf x x (defArgs st) (defBody st) (defScope st) .none kV doc pm an cdv ct) ⟨us, []⟩ = pure (ps.zip us))
    (len : ∀ vs H Q E, sp vs H Q E → vs.length = ps.length)
    (hbody : ∀ (cdv : Value) (A : Around) (outer : List Env) (s : Shared) (H : Hp) (vs : List V) (Q : VK) (E : XK) (f : Addr), Room k (A.deeper (envOfC x (defScope st) s.heap.objs.size f cdv)) → sp vs H Q E →
      ∃ t, PSs (cxOf CX0 P w K mg base N x (defScope st) f cdv A outer s H E).nox (defBody st) t ∧ t { nx := fun _ H' => Q .non H', rt := Q } (start N vs) H) : Cal P w K mg base (k + 1) x ps sp := by
  obtain ⟨f, fd, F, m, G⟩ := F.fn S len hbody
  exact ⟨f, fd, G, m, F.kp, F.bindsN hb⟩
end
section
variable {P : Program} {w : World} {K : PySem.W.Frag} {mg : Str → Option Value} {base : Heap} {x : Str} {st : Stmt} {N ps : List Str} {k : Nat} {sp : Sp} {kws : List (Str × V)} {f : Addr} {fd : FuncData}
/-- the law's own def, at a given place -/
theorem fn_ok (F : FunD K x x (defArgs st) (defBody st) (defScope st) [] kws f fd) (S : FnScope N ps (defScope st)) (len : ∀ vs H Q E, sp vs H Q E → vs.length = ps.length)
    (hbody : ∀ (cdv : Value) (A : Around) (outer : List Env) (s : Shared) (H : Hp) (vs : List V) (Q : VK) (E : XK), Room k (A.deeper (envOfC x (defScope st) s.heap.objs.size f cdv)) → sp vs H Q E →
      ∃ t, PSs (cxOf CX0 P w K mg base N x (defScope st) f cdv A outer s H E).nox (defBody st) t ∧ t { nx := fun _ H' => Q .non H', rt := Q } (start N vs) H) : FnOk P w K mg base CX0 (k + 1) f fd ps sp :=
  F.ok (CX := CX0) S len fun cdv A outer s H vs Q E hr h => by
    obtain ⟨t, h1, h2⟩ := hbody cdv A outer s H vs Q E hr h
    exact ⟨t, PSs.nox h1, h2⟩
/-- a def among the head's facts -/
theorem at_of {fa : List He.Fa} {fn : List He.DefD} {h : Heap} {d : He.DefD} (X : K.In h) (G : h.Ns mainGlobals mg) (c : He.SaysD fa fn K) (i j : Nat) (hd : fn[i]? = some d) (hf : fa[j]? = some (.glo x)) (e : d = ⟨(x, none), x, x, defArgs st, defBody st, defScope st, [], d.kwd⟩) : At K mg x st (d.kws K) := by
  obtain ⟨fd, F⟩ := c.def_ i (d := d) hd
  rw [e] at F
  exact ⟨_, fd, F, He.glo_ok X G (c.fact j (f := .glo x) hf)⟩
end
/-- how so many parameters bind -/
theorem len1 {a : List V} {v : V} (h : a = [v]) : a.length = 1 := by rw [h]; rfl

/-! ### heaps -/
theorem same_new {H : Hp} {p : Addr} {o : HO} (h : H p = none) : Same H (upd H p o) := fun b x e => by
  rw [upd_ne (ne_of_none e h)]
  exact e
theorem same_then {H H' : Hp} {p : Addr} {o : HO} (s : Same H H') (h : H' p = none) : Same H (upd H' p o) := fun b x e => same_new h b x (s b x e)
theorem seqL {K : PySem.W.Frag} {H H' : Hp} {a : Addr} {xs : List V} (s : Same H H') (h : SqL K H a xs) : SqL K H' a xs := by
  rcases h with (h | ⟨o, h⟩) | h
  · exact .inl (.inl (s _ _ h))
  · exact .inl (.inr ⟨o, s _ _ h⟩)
  · exact .inr h
theorem seqT {K : PySem.W.Frag} {H H' : Hp} {a : Addr} {xs : List V} (s : Same H H') (h : SqT K H a xs) : SqT K H' a xs := by
  rcases h with (h | ⟨o, h⟩) | h
  · exact .inl (.inl (s _ _ h))
  · exact .inl (.inr ⟨o, s _ _ h⟩)
  · exact .inr h
theorem none_back {H H' : Hp} {p : Addr} (s : Same H H') (n : H' p = none) : H p = none := by
  cases e : H p with
  | none => rfl
  | some o =>
    rw [s _ _ e] at n
    cases n
theorem flat_rep {α : Type} (v : α) : ∀ n : Nat, (List.replicate n [v]).flatten = List.replicate n v
  | 0 => rfl
  | n + 1 => by
    rw [List.replicate_succ, List.flatten_cons, flat_rep v n]
    rfl
/-- all but what stands at b is as it was -/
def But (b : Addr) (H H' : Hp) : Prop := ∀ c o, c ≠ b → H c = some o → H' c = some o
theorem But.refl (b : Addr) (H : Hp) : But b H H := fun _ _ _ e => e
theorem But.trans {b : Addr} {H H1 H2 : Hp} (h : But b H H1) (k : But b H1 H2) : But b H H2 := fun c o n e => k c o n (h c o n e)
theorem But.of_same {b : Addr} {H H' : Hp} (s : Same H H') : But b H H' := fun c o _ e => s c o e
theorem But.at {b : Addr} {H : Hp} {o : HO} : But b H (upd H b o) := fun c o n e => by
  rw [upd_ne n]
  exact e
theorem But.same {b : Addr} {H H1 H2 : Hp} (h : But b H H1) (s : Same H1 H2) : But b H H2 := h.trans (.of_same s)
/-- the town at b: a list of so many things at most -/
def Town (b : Addr) (n : Nat) (H : Hp) : Prop := ∃ xs, H b = some (.lst xs) ∧ xs.length ≤ n
theorem Town.same {b : Addr} {n : Nat} {H H' : Hp} (s : Same H H') (h : Town b n H) : Town b n H' := by
  obtain ⟨xs, e, l⟩ := h
  exact ⟨xs, s _ _ e, l⟩
theorem Town.le {b : Addr} {n m : Nat} {H : Hp} (h : Town b n H) (l : n ≤ m) : Town b m H := by
  obtain ⟨xs, e, q⟩ := h
  exact ⟨xs, e, Nat.le_trans q l⟩
theorem Town.ne_new {b p : Addr} {n : Nat} {H : Hp} (h : Town b n H) (np : H p = none) : p ≠ b := fun z => by
  obtain ⟨xs, e, _⟩ := h
  rw [← z, np] at e
  cases e
theorem but_none {b : Addr} {H H' : Hp} {p : Addr} (s : But b H H') (nb : p ≠ b) (n : H' p = none) : H p = none := by
  cases e : H p with
  | none => rfl
  | some o =>
    rw [s _ _ nb e] at n
    cases n
theorem butL {K : PySem.W.Frag} {b : Addr} {H H' : Hp} {a : Addr} {xs : List V} (s : But b H H') (n : a ≠ b) (h : SqL K H a xs) : SqL K H' a xs := by
  rcases h with (h | ⟨o, h⟩) | h
  · exact .inl (.inl (s _ _ n h))
  · exact .inl (.inr ⟨o, s _ _ n h⟩)
  · exact .inr h
theorem butT {K : PySem.W.Frag} {b : Addr} {H H' : Hp} {a : Addr} {xs : List V} (s : But b H H') (n : a ≠ b) (h : SqT K H a xs) : SqT K H' a xs := by
  rcases h with (h | ⟨o, h⟩) | h
  · exact .inl (.inl (s _ _ n h))
  · exact .inl (.inr ⟨o, s _ _ n h⟩)
  · exact .inr h
/-- the script at a is read, and what stands at b is another thing -/
def Scr (K : PySem.W.Frag) (H : Hp) (b a : Addr) (ns : List Int) : Prop := ns.length ≤ 63 ∧ ((∀ H', SqL K H' a (ns.map V.int)) ∨ (SqL K H a (ns.map V.int) ∧ a ≠ b))
theorem Scr.sq {K : PySem.W.Frag} {H : Hp} {b a : Addr} {ns : List Int} (h : Scr K H b a ns) : SqL K H a (ns.map V.int) := h.2.elim (fun k => k H) (fun k => k.1)
theorem Scr.but {K : PySem.W.Frag} {H H' : Hp} {b a : Addr} {ns : List Int} (h : Scr K H b a ns) (s : But b H H') : Scr K H' b a ns := ⟨h.1, h.2.elim (fun k => .inl k) (fun k => .inr ⟨butL s k.2 k.1, k.2⟩)⟩
theorem Scr.same {K : PySem.W.Frag} {H H' : Hp} {b a : Addr} {ns : List Int} (h : Scr K H b a ns) (s : Same H H') : Scr K H' b a ns := h.but (.of_same s)
theorem Scr.of {K : PySem.W.Frag} {H : Hp} {b a : Addr} {ns : List Int} {o : HO} (h : SqL K H a (ns.map V.int)) (l : ns.length ≤ 63) (n : H b = none) : Scr K (upd H b o) b a ns := by
  rcases h with (h | ⟨u, h⟩) | h
  · exact ⟨l, .inr ⟨.inl (.inl (by rw [upd_ne (ne_of_none h n)]; exact h)), ne_of_none h n⟩⟩
  · exact ⟨l, .inr ⟨.inl (.inr ⟨u, by rw [upd_ne (ne_of_none h n)]; exact h⟩), ne_of_none h n⟩⟩
  · exact ⟨l, .inl fun _ => .inr h⟩
theorem szl {n : Nat} (h : n < 100000) : n < sizeLine := Nat.lt_of_lt_of_le h (by decide)
theorem sz {n : Nat} (h : n ≤ 100000) : n ≤ sizeLine := Nat.le_trans h (by decide)

/-! ### further rules -/
/-- an item read by place, the place not below 0 -/
def rGetL (K : PySem.W.Frag) : V → V → Hp → VK → Prop := fun o i H Q => ∃ (p : Addr) (xs : List V) (j : Nat) (v : V), o = .ref p ∧ i = .int (j : Int) ∧ SqL K H p xs ∧ xs[j]? = some v ∧ Q v H
section
variable {X : Cx}
theorem get_list : PGet X (rGetL X.K) := by
  intro pins s σ H o i ov iv Q I ro ri h
  obtain ⟨p, xs, j, z, rfl, rfl, hq, he, q⟩ := h
  cases ro
  obtain ⟨t, rfl⟩ := ri
  obtain ⟨its, r, pl, hz⟩ := I.list hq
  obtain ⟨w, ew, rw'⟩ := r.get he
  have hl := r.length
  have hn := line63
  have hj : j < its.length := (List.getElem?_eq_some_iff.mp ew).1
  exact wpAny_getItem_list pl.isList (by omega) (by omega) (by simpa using ew) ⟨z, H, I, rw', q⟩
end
theorem m2_of {X : Cx} {o : Expr} {m : Str} {apos : Pos} {e f : Expr} {cpos : Pos} (h1 : attributeBase o m X.env (eval o X.env) = eval o X.env := by rfl)
    (h2 : ((backTo cpos (starEach [e, f] X.env)).all (fun x => !x.1) && (backToKw cpos (keywordEach [] X.env)).all (fun x => x.1.isSome) && decide (([e, f] : List Expr).length + ([] : List Keyword).length + (if ([] : List Keyword).isEmpty then 0 else 1) < 30)) = true := by rfl)
    (h3 : (apos.endLine == cpos.line) = true := by rfl) (h4 : backTo cpos (starEach [e, f] X.env) = [(false, eval e X.env), (false, eval f X.env)] := by rfl) : M2 X o m apos e f cpos := ⟨h1, h2, h3, h4⟩

/-! ### data compared -/
theorem dp_ints {K : PySem.W.Frag} {H : Hp} : ∀ ns : List Int, DpAll K H (ns.map V.int) (ns.map PyData.int)
  | [] => .nil
  | n :: r => .cons (.int n) (dp_ints r)
theorem eqvAll_ints : ∀ ns ms : List Int, PyData.eqvAll (ns.map PyData.int) (ms.map PyData.int) = decide (ns = ms)
  | [], [] => by simp [PyData.eqvAll]
  | [], _ :: _ => by simp [PyData.eqvAll]
  | _ :: _, [] => by simp [PyData.eqvAll]
  | a :: r, b :: t => by
    simp only [List.map_cons, PyData.eqvAll, PyData.eqv, eqvAll_ints r t]
    by_cases h : a = b <;> by_cases h2 : r = t <;> simp [h, h2]
theorem eqv_lst (ns ms : List Int) : PyData.eqv (.list (ns.map PyData.int)) (.list (ms.map PyData.int)) = decide (ns = ms) := by
  simp only [PyData.eqv]
  exact eqvAll_ints ns ms
theorem eqv_tup (ns ms : List Int) : PyData.eqv (.tuple (ns.map PyData.int)) (.tuple (ms.map PyData.int)) = decide (ns = ms) := by
  simp only [PyData.eqv]
  exact eqvAll_ints ns ms
theorem shaped_lst (ns : List Int) : SeqAt.shaped (.list (ns.map PyData.int)) = true := by
  simp [SeqAt.shaped, PyData.canLay0, PyData.depth, PySem.W.ke_canLayAll0, PySem.W.ke_depthAll]
theorem shaped_tup (ns : List Int) : SeqAt.shaped (.tuple (ns.map PyData.int)) = true := by
  simp [SeqAt.shaped, PyData.canLay0, PyData.depth, PySem.W.ke_canLayAll0, PySem.W.ke_depthAll]
section
variable {K : PySem.W.Frag} {H : Hp} {a b : Addr} {ns ms : List Int} {Q : VK}
theorem eqL (h1 : SqL K H a (ns.map V.int)) (h2 : SqL K H b (ms.map V.int)) (q : Q (.bl (decide (ns = ms))) H) : rEqD K (.ref a) (.ref b) H Q :=
  ⟨_, _, .lst h1 (dp_ints ns), .lst h2 (dp_ints ms), shaped_lst ns, shaped_lst ms, by rw [eqv_lst]; exact q⟩
theorem neL (h1 : SqL K H a (ns.map V.int)) (h2 : SqL K H b (ms.map V.int)) (q : Q (.bl (!decide (ns = ms))) H) : rNeD K (.ref a) (.ref b) H Q :=
  ⟨_, _, .lst h1 (dp_ints ns), .lst h2 (dp_ints ms), shaped_lst ns, shaped_lst ms, by rw [eqv_lst]; exact q⟩
theorem eqT (h1 : SqT K H a (ns.map V.int)) (h2 : SqT K H b (ms.map V.int)) (q : Q (.bl (decide (ns = ms))) H) : rEqD K (.ref a) (.ref b) H Q :=
  ⟨_, _, .tup h1 (dp_ints ns), .tup h2 (dp_ints ms), shaped_tup ns, shaped_tup ms, by rw [eqv_tup]; exact q⟩
theorem neT (h1 : SqT K H a (ns.map V.int)) (h2 : SqT K H b (ms.map V.int)) (q : Q (.bl (!decide (ns = ms))) H) : rNeD K (.ref a) (.ref b) H Q :=
  ⟨_, _, .tup h1 (dp_ints ns), .tup h2 (dp_ints ms), shaped_tup ns, shaped_tup ms, by rw [eqv_tup]; exact q⟩
/-- a list is not empty, or is -/
theorem eqL0 (h1 : SqL K H a (ns.map V.int)) (h2 : H b = some (.lst [])) (q : Q (.bl (decide (ns = []))) H) : rEqD K (.ref a) (.ref b) H Q := eqL (ms := []) h1 (.inl (.inl h2)) q
end
/-- lines of whole numbers -/
def Flat (d : PyData) : Prop := ∃ ns : List Int, d = .list (ns.map PyData.int) ∨ d = .tuple (ns.map PyData.int)
theorem flat_lay : ∀ ds : List PyData, (∀ d ∈ ds, Flat d) → PyData.canLayAll0 ds = true ∧ PyData.depthAll ds ≤ 1
  | [], _ => by simp [PyData.canLayAll0, PyData.depthAll]
  | d :: r, h => by
    obtain ⟨h1, h2⟩ := flat_lay r fun x hx => h x (List.mem_cons_of_mem _ hx)
    obtain ⟨ns, e | e⟩ := h d List.mem_cons_self
    · rw [e]
      simp [PyData.canLayAll0, PyData.depthAll, PyData.canLay0, PyData.depth, PySem.W.ke_canLayAll0, PySem.W.ke_depthAll, h1]
      omega
    · rw [e]
      simp [PyData.canLayAll0, PyData.depthAll, PyData.canLay0, PyData.depth, PySem.W.ke_canLayAll0, PySem.W.ke_depthAll, h1]
      omega
theorem shaped_flat {ds : List PyData} (h : ∀ d ∈ ds, Flat d) : SeqAt.shaped (.list ds) = true := by
  obtain ⟨h1, h2⟩ := flat_lay ds h
  simp [SeqAt.shaped, PyData.canLay0, PyData.depth, h1]
  omega
theorem eqv_nil (ds : List PyData) : PyData.eqv (.list ds) (.list []) = decide (ds = []) := by
  cases ds <;> simp [PyData.eqv, PyData.eqvAll]
theorem shaped_nil : SeqAt.shaped (.list []) = true := shaped_flat fun _ h => (nomatch h)
section
variable {K : PySem.W.Frag} {H : Hp} {a b : Addr} {xs : List V} {ds : List PyData} {Q : VK}
/-- a list of lines is empty, or is not -/
theorem eqF0 (h1 : SqL K H a xs) (hd : DpAll K H xs ds) (hf : ∀ d ∈ ds, Flat d) (h2 : H b = some (.lst [])) (q : Q (.bl (decide (ds = []))) H) : rEqD K (.ref a) (.ref b) H Q :=
  ⟨_, _, .lst h1 hd, .lst (.inl (.inl h2)) .nil, shaped_flat hf, shaped_nil, by rw [eqv_nil]; exact q⟩
end
theorem at_int {ns : List Int} {j : Nat} {z : Int} (h : ns[j]? = some z) : atI (ns.map V.int) (j : Int) = some (.int z) := atI_nat (by rw [List.getElem?_map, h]; rfl)
theorem at_intE {ns : List Int} {i : Int} {j : Nat} {z : Int} (e : i = (j : Int)) (h : ns[j]? = some z) : atI (ns.map V.int) i = some (.int z) := by
  rw [e]
  exact at_int h
theorem at_intI {ns : List Int} {i : Int} (h0 : 0 ≤ i) (h : i < ns.length) : atI (ns.map V.int) i = some (.int (ns.getD i.toNat 0)) := by
  have e : ((i.toNat : Nat) : Int) = i := Int.toNat_of_nonneg h0
  rw [← e]
  have l : i.toNat < ns.length := by omega
  refine at_int ?_
  rw [Int.toNat_natCast, List.getElem?_eq_getElem l, List.getD_eq_getElem?_getD, List.getElem?_eq_getElem l]
  rfl
theorem map_at {ns : List Int} {i : Nat} {x : V} (h : (ns.map V.int)[i]? = some x) : ∃ z, ns[i]? = some z ∧ x = .int z := by
  rw [List.getElem?_map] at h
  cases e : ns[i]? with
  | none =>
    rw [e] at h
    cases h
  | some z =>
    rw [e] at h
    exact ⟨z, rfl, (Option.some.inj h).symm⟩

/-! ### comprehensions -/
section
variable {J : It} {n : Nat} {G : Hp → Prop} {Y : Nat → Hp → V → Hp → Prop} {g : TG} {tt : TT} {te : TE} {vs : List Nat} {σ : L2.St} {H1 : Hp} {D : Addr} {Qd : Hp → Prop}
/-- nothing that stood changes: what is made so far is told -/
theorem lcp (w : Walk J n G Y) (nD : H1 D = none) (out : Nat → List V) (o0 : out 0 = []) (ol : ∀ i, i ≤ n → (out i).length < 1000000) (hG : ∀ H, Same H1 H → G H)
    (hs : ∀ i x H H' (R : VK) (N : Hp → Prop), i < n → Same H1 H → Y i H x H' → (∀ y H4, Same H H4 → out (i + 1) = out i ++ [y] → R y H4) → (∀ H3, Same H H3 → out (i + 1) = out i → N H3) →
      g x (wipe σ vs) H' fun σ2 H2 => wipe σ2 vs = wipe σ vs ∧ tt σ2 H2 fun b H3 => if b = true then te σ2 H3 R else N H3)
    (hd : ∀ H, Same H1 H → H D = some (.lst (out n)) → Qd H) :
    ∃ W : Nat → Nat → Hp → Prop, (∃ m, W 0 m (upd H1 D (.lst []))) ∧ ∀ i m H, W i m H →
      (J.stop i H ∧ Qd H) ∨ (J.go i H ∧ ∃ Nx : Hp → Prop, (∀ H', Nx H' → ∃ m', m' < m ∧ W (i + 1) m' H') ∧ ∀ x H', J.yld i H x H' → g x (wipe σ vs) H' fun σ2 H2 => wipe σ2 vs = wipe σ vs ∧ tt σ2 H2 fun b H3 =>
        if b = true then te σ2 H3 fun y H4 => ∃ acc, H4 D = some (.lst acc) ∧ acc.length < sizeLine ∧ Nx (upd H4 D (.lst (acc ++ [y]))) else Nx H3) := by
  refine lc_it w (fun i H => Same H1 H ∧ H D = some (.lst (out i))) ⟨same_new nD, by rw [o0]; exact upd_same⟩ (fun _ H _ h => hG H h.1) ?_ fun H h => hd H h.1 h.2
  rintro i x H H' hi ⟨sm, hD⟩ hy
  refine hs i x H H' _ _ hi sm hy (fun y H4 s4 e => ⟨out i, s4 _ _ hD, Nat.lt_of_lt_of_le (ol i (Nat.le_of_lt hi)) (by decide), ?_, ?_⟩) fun H3 s3 e => ⟨sm.trans s3, by rw [e]; exact s3 _ _ hD⟩
  · intro c o hc
    rw [upd_ne (ne_of_none hc nD)]
    exact s4 _ _ (sm _ _ hc)
  · rw [e]
    exact upd_same
/-- whole numbers, what stands at b grows by so many a turn -/
theorem lct (w : Walk J n G Y) (Pz : Int → Prop) {b : Addr} {m0 c : Nat} (t0 : Town b m0 H1) (nD : H1 D = none) (hn : n < 1000000) (hG : ∀ H, But b H1 H → G H)
    (hs : ∀ i x H H' (R : VK), i < n → But b H1 H → Town b (m0 + c * i) H → Y i H x H' → (∀ z H4, Pz z → But b H H4 → Town b (m0 + c * (i + 1)) H4 → R (.int z) H4) →
      g x (wipe σ vs) H' fun σ2 H2 => wipe σ2 vs = wipe σ vs ∧ te σ2 H2 R)
    (hd : ∀ (zs : List Int) (H : Hp), zs.length = n → (∀ z ∈ zs, Pz z) → But b H1 H → Town b (m0 + c * n) H → H D = some (.lst (zs.map V.int)) → Qd H) :
    ∃ W : Nat → Nat → Hp → Prop, (∃ m, W 0 m (upd H1 D (.lst []))) ∧ ∀ i m H, W i m H →
      (J.stop i H ∧ Qd H) ∨ (J.go i H ∧ ∃ Nx : Hp → Prop, (∀ H', Nx H' → ∃ m', m' < m ∧ W (i + 1) m' H') ∧ ∀ x H', J.yld i H x H' → g x (wipe σ vs) H' fun σ2 H2 => wipe σ2 vs = wipe σ vs ∧ tYes σ2 H2 fun b H3 =>
        if b = true then te σ2 H3 fun y H4 => ∃ acc, H4 D = some (.lst acc) ∧ acc.length < sizeLine ∧ Nx (upd H4 D (.lst (acc ++ [y]))) else Nx H3) := by
  have nb : D ≠ b := t0.ne_new nD
  refine lc_it w (fun i H => But b H1 H ∧ Town b (m0 + c * i) H ∧ ∃ zs : List Int, zs.length = i ∧ (∀ z ∈ zs, Pz z) ∧ H D = some (.lst (zs.map V.int))) ⟨.of_same (same_new nD), ?_, [], rfl, fun _ h => (nomatch h), upd_same⟩ (fun _ H _ h => hG H h.1) ?_ ?_
  · rw [Nat.mul_zero]
    exact t0.same (same_new nD)
  · rintro i x H H' hi ⟨bt, tw, zs, lz, pz, hD⟩ hy
    refine hs i x H H' _ hi bt tw hy fun z H4 hz b4 t4 => ?_
    refine ⟨zs.map V.int, b4 _ _ nb hD, ?_, ?_, ?_, zs ++ [z], by rw [List.length_append, lz]; rfl, fun u hu => ?_, ?_⟩
    · rw [List.length_map, lz]
      exact Nat.lt_of_lt_of_le (Nat.lt_trans hi hn) (by decide)
    · intro a o na ha
      rw [upd_ne (ne_of_none ha nD)]
      exact b4 _ _ na (bt _ _ na ha)
    · obtain ⟨xs, e, l⟩ := t4
      exact ⟨xs, by rw [upd_ne (Ne.symm nb)]; exact e, l⟩
    · rcases List.mem_append.mp hu with h | h
      · exact pz u h
      · rw [List.mem_singleton.mp h]
        exact hz
    · rw [List.map_append]
      exact upd_same
  · rintro H ⟨bt, tw, zs, lz, pz, hD⟩
    exact hd zs H lz pz bt tw hD
/-- new things: what stands at each is told -/
theorem lcr (w : Walk J n G Y) (nD : H1 D = none) (hn : n < 1000000) (o : Nat → HO) (hG : ∀ H, Same H1 H → G H)
    (hs : ∀ i x H H' (R : VK), i < n → Same H1 H → Y i H x H' → (∀ u H4, H u = none → Same H H4 → H4 u = some (o i) → R (.ref u) H4) → g x (wipe σ vs) H' fun σ2 H2 => wipe σ2 vs = wipe σ vs ∧ te σ2 H2 R)
    (hd : ∀ (xs : List V) (H : Hp), xs.length = n → Same H1 H → (∀ j, j < n → ∃ u, xs[j]? = some (.ref u) ∧ H u = some (o j)) → H D = some (.lst xs) → Qd H) :
    ∃ W : Nat → Nat → Hp → Prop, (∃ m, W 0 m (upd H1 D (.lst []))) ∧ ∀ i m H, W i m H →
      (J.stop i H ∧ Qd H) ∨ (J.go i H ∧ ∃ Nx : Hp → Prop, (∀ H', Nx H' → ∃ m', m' < m ∧ W (i + 1) m' H') ∧ ∀ x H', J.yld i H x H' → g x (wipe σ vs) H' fun σ2 H2 => wipe σ2 vs = wipe σ vs ∧ tYes σ2 H2 fun b H3 =>
        if b = true then te σ2 H3 fun y H4 => ∃ acc, H4 D = some (.lst acc) ∧ acc.length < sizeLine ∧ Nx (upd H4 D (.lst (acc ++ [y]))) else Nx H3) := by
  refine lc_it w (fun i H => Same H1 H ∧ ∃ xs : List V, xs.length = i ∧ (∀ j, j < i → ∃ u, u ≠ D ∧ xs[j]? = some (.ref u) ∧ H u = some (o j)) ∧ H D = some (.lst xs)) ⟨same_new nD, [], rfl, fun _ h => absurd h (Nat.not_lt_zero _), upd_same⟩ (fun _ H _ h => hG H h.1) ?_ ?_
  · rintro i x H H' hi ⟨sm, xs, lx, hx, hD⟩ hy
    refine hs i x H H' _ hi sm hy fun u H4 nu s4 hu => ?_
    have uD : u ≠ D := fun e => by
      rw [e, hD] at nu
      cases nu
    refine ⟨xs, s4 _ _ hD, by rw [lx]; exact Nat.lt_of_lt_of_le (Nat.lt_trans hi hn) (by decide), ?_, xs ++ [.ref u], by rw [List.length_append, lx]; rfl, fun j hj => ?_, upd_same⟩
    · intro c z hc
      rw [upd_ne (ne_of_none hc nD)]
      exact s4 _ _ (sm _ _ hc)
    · by_cases c : j < i
      · obtain ⟨v, vD, e1, e2⟩ := hx j c
        exact ⟨v, vD, by rw [List.getElem?_append_left (by omega)]; exact e1, by rw [upd_ne vD]; exact s4 _ _ e2⟩
      · have e : j = i := by omega
        rw [e]
        exact ⟨u, uD, by rw [List.getElem?_append_right (by omega), lx, Nat.sub_self]; rfl, by rw [upd_ne uD]; exact hu⟩
  · rintro H ⟨sm, xs, lx, hx, hD⟩
    exact hd xs H lx sm (fun j hj => by
      obtain ⟨u, _, r⟩ := hx j hj
      exact ⟨u, r⟩) hD
end

/-! ### kinds of things -/
theorem ty_tup {K : PySem.W.Frag} {H : Hp} {a : Addr} {xs : List V} (h : SqT K H a xs) : TyX K H (.ref a) (.type "tuple") := by
  rcases h with (h | ⟨o, h⟩) | ⟨o, its, n, h, c, _⟩
  · exact .base (.tup h)
  · exact .fTuple h
  · exact .kTuple h c
theorem ty_lst {K : PySem.W.Frag} {H : Hp} {a : Addr} {xs : List V} (h : SqL K H a xs) : TyX K H (.ref a) (.type "list") := by
  rcases h with (h | ⟨o, h⟩) | ⟨o, its, n, h, c, _⟩
  · exact .base (.lst h)
  · exact .base (.frz h)
  · exact .kList h c
/-- whether a thing is a whole number -/
inductive Wh (K : PySem.W.Frag) (H : Hp) : V → Bool → Prop
  | int (i : Int) : Wh K H (.int i) true
  | bl (b : Bool) : Wh K H (.bl b) false
  | no {v : V} {n : String} (h : TyX K H v (.type n)) (k : kitB n "int" = some false) (nb : ∀ i, v ≠ .int i) : Wh K H v false
/-- from lo to hi -/
def whB (v : V) (lo hi : Int) : Bool := match v with
  | .int i => decide (lo ≤ i ∧ i ≤ hi)
  | _ => false
theorem Wh.cases_ {K : PySem.W.Frag} {H : Hp} {v : V} {b : Bool} (h : Wh K H v b) : (∃ i, v = .int i ∧ b = true) ∨ ((∀ i, v ≠ .int i) ∧ b = false) := by
  cases h with
  | int i => exact .inl ⟨i, rfl, rfl⟩
  | bl b => exact .inr ⟨fun i z => V.noConfusion z, rfl⟩
  | no h k nb => exact .inr ⟨nb, rfl⟩
theorem whB_no {v : V} {lo hi : Int} (h : ∀ i, v ≠ .int i) : whB v lo hi = false := by
  cases v with
  | int i => exact absurd rfl (h i)
  | _ => rfl
theorem kit_int_int : kitB "int" "int" = some true := by decide +kernel
theorem kit_int_bool : kitB "int" "bool" = some false := by decide +kernel
theorem kit_bool_int : kitB "bool" "int" = some true := by decide +kernel
theorem kit_bool_bool : kitB "bool" "bool" = some true := by decide +kernel
theorem kit_tup_tup : kitB "tuple" "tuple" = some true := by decide +kernel
theorem isi {K : PySem.W.Frag} {H : Hp} {x : V} {a n : String} {b : Bool} {Q : VK} (t : TyX K H x (.type a)) (k : kitB a n = some b) (q : Q (.bl b) H) : rIsi K [x, .ty n] H Q := ⟨x, .ty n, .type a, .type n, b, rfl, .ty n, t, kit_ty k, q⟩
theorem row_ok {K : PySem.W.Frag} {H : Hp} {row : List Int} {i : Nat} {x : V} (h : (row.map V.int)[i]? = some x) : ∃ z, row[i]? = some z ∧ x = .int z ∧ z ∈ row := by
  obtain ⟨z, e, r⟩ := map_at h
  exact ⟨z, e, r, List.mem_of_getElem? e⟩

/-! ### zip of tuples -/
theorem walk_zipT {K : PySem.W.Frag} {a b : Addr} {xs ys : List V} {n : Nat} (hn : n = min xs.length ys.length) : Walk (RZ.ItzT K a b) n (fun H => SqT K H a xs ∧ SqT K H b ys) (YPair (fun i => xs[i]?) (fun i => ys[i]?)) := by
  refine ⟨fun i H hi q => ⟨xs, ys, xs[i]'(by omega), ys[i]'(by omega), q.1, q.2, List.getElem?_eq_getElem _, List.getElem?_eq_getElem _⟩, fun H q => ⟨xs, ys, q.1, q.2, by omega⟩, fun i H v H' hi q y => ?_⟩
  obtain ⟨T, x, z, h1, h2, h3, h4, h5⟩ := y
  exact ⟨T, x, z, h1, h2, h3, h4 xs q.1, h5 ys q.2⟩
/-- sum of a tuple of whole numbers -/
def rSumT (K : PySem.W.Frag) : List V → Hp → VK → Prop := fun vs H Q => ∃ (a : Addr) (ns : List Int), vs = [V.ref a] ∧ SqT K H a (ns.map V.int) ∧ Q (.int ns.sum) H
theorem cr_sumA {X : Cx} (hc : X.calm = true) : CallR X (.builtin "sum") (rSumT X.K) := by
  intro pins s σ H vs us Q I r h
  obtain ⟨a, ns, rfl, hs, q⟩ := h
  obtain ⟨its, rv, hl, _⟩ := I.tuple hs
  rw [Vals.ref1 r]
  obtain ⟨xs, e⟩ := rv.ints.allInts.items
  have hn : PySem.numsOf (intItems xs).toList = ns := by
    rw [← e]
    exact rv.ints.numsOf
  rw [PySem.nums_intItems] at hn
  have hl2 : s.heap.IsTuple a (intItems xs) := by
    rw [← e]
    exact hl
  refine PySem.W.ktm_sumG (I.ok.hd hc) hl2 fun h' tk t' hk => ?_
  rw [PySem.preSum_eq, List.take_of_length_le (by simp), hn]
  exact ⟨.int _, H, I.kept hk, ⟨_, rfl⟩, q⟩
/-- a comprehension in a comprehension: the block's names -/
theorem blkOk_in {N : List Str} {sc scope : Scope} {own : List (Str × Nat)} (h : blkC N sc scope own = true) : BlkOk N sc scope own := blkOk_by h

/-! ### the same rules, the written part said -/
def rLenQ (K : PySem.W.Frag) : List V → Hp → VK → Prop := fun xs H Q => ∃ p ys, xs = [.ref p] ∧ (SqL K H p ys ∨ SqT K H p ys) ∧ Q (.int ys.length) H
def rTupQ (K : PySem.W.Frag) : List V → Hp → VK → Prop := fun xs H Q => ∃ p ys, xs = [.ref p] ∧ ((SqL K H p ys ∧ ∀ l, H l = none → Q (.ref l) (upd H l (.tup ys))) ∨ (SqT K H p ys ∧ Q (.ref p) H))
def rLstQ (K : PySem.W.Frag) : List V → Hp → VK → Prop := fun xs H Q => ∃ p ys, xs = [.ref p] ∧ (SqL K H p ys ∨ SqT K H p ys) ∧ ∀ l, H l = none → Q (.ref l) (upd H l (.lst ys))
section
variable {X : Cx} {K : PySem.W.Frag}
theorem kz_len (hK : X.K = K := by rfl) : CallR X (.builtin "len") (rLenQ K) := hK ▸ call_len_seq
theorem kz_sum (hc : X.calm = true) (hK : X.K = K := by rfl) : CallR X (.builtin "sum") (rSum K) := hK ▸ cr_sum hc
theorem kz_sumT (hc : X.calm = true) (hK : X.K = K := by rfl) : CallR X (.builtin "sum") (rSumT K) := hK ▸ cr_sumA hc
theorem kz_all (hc : X.calm = true) (hK : X.K = K := by rfl) : CallR X (.builtin "all") (rAll K) := hK ▸ cr_all hc
theorem kz_any (hc : X.calm = true) (hK : X.K = K := by rfl) : CallR X (.builtin "any") (rAny K) := hK ▸ cr_any hc
theorem kz_max (hc : X.calm = true) (hK : X.K = K := by rfl) : CallR X (.builtin "max") (rMax K) := hK ▸ cr_max hc
theorem kz_min (hc : X.calm = true) (hK : X.K = K := by rfl) : CallR X (.builtin "min") (rMin K) := hK ▸ cr_min hc
theorem kz_isi (hK : X.K = K := by rfl) : CallR X (.builtin "isinstance") (rIsi K) := hK ▸ call_isi
theorem kz_tuple (hK : X.K = K := by rfl) : CallR X (.type "tuple") (rTupQ K) := hK ▸ call_tuple_of
theorem kz_list (hK : X.K = K := by rfl) : CallR X (.type "list") (rLstQ K) := hK ▸ call_list_of
theorem kz_ixL (hK : X.K = K := by rfl) : IxR X (rIxL K) := hK ▸ ix_list
theorem kz_ixT (hK : X.K = K := by rfl) : IxR X (rIxT K) := hK ▸ ix_tup
theorem kz_eqD (hu : X.A.units + 64 < cLine) (hK : X.K = K := by rfl) : OpR X (compareOp .Eq) (rEqD K) := hK ▸ op_eqD hu
theorem kz_neD (hu : X.A.units + 64 < cLine) (hK : X.K = K := by rfl) : OpR X (compareOp .NotEq) (rNeD K) := hK ▸ op_neD hu
theorem kz_in (hK : X.K = K := by rfl) : OpR X (compareOp .In) (rIn K false) := hK ▸ op_in_seq
theorem kz_notIn (hK : X.K = K := by rfl) : OpR X (compareOp .NotIn) (rIn K true) := hK ▸ op_notIn_seq
theorem kz_catT (hK : X.K = K := by rfl) : OpR X (binaryOp .Add) (rCatA K) := hK ▸ op_catA
theorem kz_slL (hK : X.K = K := by rfl) : SlR X (rSlL K) := hK ▸ sl_list
theorem kz_slT (hK : X.K = K := by rfl) : SlR X (rSlA K) := hK ▸ sl_tupA
theorem kz_getL (hK : X.K = K := by rfl) : PGet X (rGetL K) := hK ▸ get_list
variable {tg l e e2 : Expr} {tl : TE} {ta : TA} {p pos tpos : Pos} {elts : List Expr} {kk : Nat}
theorem kz_piL (hl : PE X l tl) (hK : X.K = K := by rfl) : PI X tg l (iList K tl) := hK ▸ pi_list hl
theorem kz_piT (hl : PE X l tl) (hK : X.K = K := by rfl) : PI X tg l (iTup K tl) := hK ▸ pi_tup hl
theorem kz_zip (hg : Gl X "zip") (hm : X.mg "zip" = none) (ha : PA X [e, e2] ta) (hK : X.K = K := by rfl)
    (hs : starEach [e, e2] X.env = (false, eval e X.env) :: starEach [e2] X.env := by rfl) (hpl : (backTo pos (starEach [e2] X.env)).any (·.1) = false := by rfl) :
    PI X (.Tuple elts kk tpos) (.Call (.Name "zip" p) [e, e2] [] pos) (RZ.iZipA K ta) := hK ▸ RZ.pi_zipA hg hm ha hs hpl
theorem kz_enum (hg : Gl X "enumerate") (hm : X.mg "enumerate" = none) (ha : PA X [e] ta) (hK : X.K = K := by rfl) (hs : starEach [e] X.env = [(false, eval e X.env)] := by rfl) :
    PI X (.Tuple elts kk tpos) (.Call (.Name "enumerate" p) [e] [] pos) (iEnum K ta) := hK ▸ pi_enum hg hm ha hs
theorem kz_gtup {es : List Expr} {k : Nat} {t : TGs} (n : Nat) (hc : X.calm = true) (h : PGs X es t) (hK : X.K = K := by rfl)
    (hn : (assignEach es X.env).length = n := by rfl) (hst : (assignEach es X.env).findIdx? (·.1) = none := by rfl) : PG X (.Tuple es k pos) (gTup K n t) := hK ▸ pg_tup hc h hn hst
theorem kz_glst {es : List Expr} {k : Nat} {t : TGs} (n : Nat) (hc : X.calm = true) (h : PGs X es t) (hK : X.K = K := by rfl)
    (hn : (assignEach es X.env).length = n := by rfl) (hst : (assignEach es X.env).findIdx? (·.1) = none := by rfl) : PG X (.Tuple es k pos) (gLst K n t) := hK ▸ pg_lst hc h hn hst
end
end Ly

/-! ### zip of a list and a tuple -/
namespace Ly
open PySem PySem.Spec PyProof.Rows L2
/-- the list at a, the tuple at b as they stand at each turn, the items in new pairs -/
def ItzLT (K : PySem.W.Frag) (a b : Addr) : It :=
  ⟨fun i H => ∃ (xs ys : List V) (x y : V), SqL K H a xs ∧ SqT K H b ys ∧ xs[i]? = some x ∧ ys[i]? = some y,
   fun i H v H' => ∃ T x y, v = .ref T ∧ H T = none ∧ H' = upd H T (.tup [x, y]) ∧ (∀ xs, SqL K H a xs → xs[i]? = some x) ∧ (∀ ys, SqT K H b ys → ys[i]? = some y),
   fun i H => ∃ (xs ys : List V), SqL K H a xs ∧ SqT K H b ys ∧ i ≤ xs.length ∧ i ≤ ys.length ∧ (i = xs.length ∨ i = ys.length)⟩
/-- the five cells of such a zip, made when so many stood -/
structure ZCells (n : Nat) (a b : Addr) (i : Nat) (h : Heap) : Prop where
  hz : IsZip h (n + 4) (n + 2) (n + 3) .none
  ti : IsTupOf2 h (n + 2) (.ref n) (.ref (n + 1))
  out : ∃ u v, IsTupOf2 h (n + 3) u v
  fst : h.IsListIter n a i
  snd : h.IsTupleIter (n + 1) b i
def zfp (n : Nat) : List Addr := [n + 4, n + 2, n + 3, n, n + 1]
theorem zfp_mem {n c : Nat} (h : c ∈ zfp n) : n ≤ c ∧ c < n + 5 ∧ (c = n + 4 ∨ c = n + 2 ∨ c = n + 3 ∨ c = n ∨ c = n + 1) := by
  have e : c = n + 4 ∨ c = n + 2 ∨ c = n + 3 ∨ c = n ∨ c = n + 1 := by simpa [zfp] using h
  refine ⟨?_, ?_, e⟩ <;> omega
theorem not_zfp {n c : Nat} (h : c ∉ zfp n) : c ≠ n + 4 ∧ c ≠ n + 3 ∧ c ≠ n ∧ c ≠ n + 1 := by
  simp only [zfp, List.mem_cons, List.not_mem_nil, or_false, not_or] at h
  obtain ⟨h1, h2, h3, h4, h5⟩ := h
  exact ⟨h1, h3, h4, h5⟩
theorem ZCells.keep {n : Nat} {a b : Addr} {i : Nat} {h h' : Heap} (z : ZCells n a b i h) (k : ∀ c ∈ zfp n, ∀ o, h.get? c = some o → h'.get? c = some o) : ZCells n a b i h' := by
  obtain ⟨u, v, e⟩ := z.out
  exact ⟨k _ (by simp [zfp]) _ z.hz, k _ (by simp [zfp]) _ z.ti, ⟨u, v, k _ (by simp [zfp]) _ e⟩, z.fst.at fun o q => k _ (by simp [zfp]) o q, z.snd.at fun o q => k _ (by simp [zfp]) o q⟩
theorem lt_ne {x y z : Nat} (h : x < y) (k : y ≤ z) : x ≠ z := by omega
theorem turn_zipLT {P : Program} {w : World} {K : PySem.W.Frag} {elts : List Expr} {kk : Nat} {tpos : Pos} {a b : Addr} {n : Nat} (ha : a < n) (hb : b < n) :
    Turn P w K (.Tuple elts kk tpos) (ItzLT K a b) (zfp n) (n + 4) (fun i h => ZCells n a b i h) where
  mem := by simp [zfp]
  obj := fun i h z c hc => by
    obtain ⟨u, v, e⟩ := z.out
    obtain ⟨o1, e1, _, d1⟩ := z.fst
    obtain ⟨o2, e2, _, d2⟩ := z.snd
    rcases (zfp_mem hc).2.2 with q | q | q | q | q
    · rw [q]; exact ⟨_, z.hz, fun v q => nomatch q⟩
    · rw [q]; exact ⟨_, z.ti, fun v q => nomatch q⟩
    · rw [q]; exact ⟨_, e, fun v q => nomatch q⟩
    · rw [q]; exact ⟨o1, e1, fun v q => by rw [d1] at q; cases q⟩
    · rw [q]; exact ⟨o2, e2, fun v q => by rw [d2] at q; cases q⟩
  keep := fun i h h' z k => z.keep k
  item := by
    intro X hP hw hK hc i pins s σ H E I hf z hg
    subst hP hw hK
    obtain ⟨xs, ys, x, y, qx, qy, hx, hy⟩ := hg
    obtain ⟨l1, r1, p1, _⟩ := I.list qx
    obtain ⟨l2, r2, p2, _⟩ := I.tuple qy
    obtain ⟨u1, hu1, ru1⟩ := r1.get hx
    obtain ⟨u2, hu2, ru2⟩ := r2.get hy
    obtain ⟨o1, o2, hout⟩ := z.out
    have hA : X.A.in1.handled = none := I.ok.hd hc
    have big : n + 4 < s.heap.objs.size := Heap.lt_size z.hz
    have sep : ZipSep2 (n + 4) (n + 2) (n + 3) n (n + 1) [n, a] [n + 1, b] := zip_sep2 (N := n) (fp1 := [a]) (fp2 := [b]) (fun c hc => by rw [List.mem_singleton.mp hc]; exact ha) (fun c hc => by rw [List.mem_singleton.mp hc]; exact hb)
    refine wpAny_pyNext_zipD2_item (i := i) sep (Draws.list hA n a (Nat.ne_of_lt ha) l1.toArray) (Draws.tuple hA (n + 1) b (Nat.ne_of_lt (Nat.lt_succ_of_lt hb)) l2.toArray) z.hz z.ti hout ⟨z.fst, p1.isList⟩ ⟨z.snd, show s.heap.IsTuple b l2.toArray from p2⟩
      (by rw [List.size_toArray]; exact (List.getElem?_eq_some_iff.mp hu1).1) (by rw [List.size_toArray]; exact (List.getElem?_eq_some_iff.mp hu2).1) ?_
    intro v1 v2 h' tk e1 e2 hz' hto' st1 st2 hT hsz hk
    have e1' : u1 = v1 := by
      have q : l1[i]? = some v1 := by simpa using e1
      rw [hu1] at q
      exact Option.some.inj q
    have e2' : u2 = v2 := by
      have q : l2[i]? = some v2 := by simpa using e2
      rw [hu2] at q
      exact Option.some.inj q
    subst e1' e2'
    refine ⟨_, rfl, wpAny_letOwnedTupleGo_zip (s := { s with heap := h', toks := tk }) hz' fun h2 hz2 sb => ?_⟩
    have nz : s.heap.objs.size ≠ n + 4 := Nat.ne_of_gt big
    have hT2 : h2.get? s.heap.objs.size = some { cls := .type "tuple", data := .seq #[u1, u2] } := (sb.2 _ nz).trans hT
    have nw : ObjOk X.prog X.w (upd H s.heap.objs.size (.tup [x, y])) h2 s.heap.objs.size (.tup [x, y]) := ⟨by show 2 ≤ sizeLine; decide, [u1, u2], .cons ru1 (.cons ru2 .nil), ⟨_, hT2, rfl, _, rfl⟩⟩
    have old : ∀ c o, c ∉ zfp n → s.heap.get? c = some o → h2.get? c = some o := fun c o hc q => by
      obtain ⟨c1, c2, c3, c4⟩ := not_zfp hc
      exact (sb.2 c c1).trans (hk c o c1 c2 c3 c4 q)
    refine ⟨.ref s.heap.objs.size, _, I.turnedNew (t' := tk) (ch := zfp n) old hf (Nat.le_refl _) nw, rfl, ⟨_, x, y, rfl, I.hok.fresh (Nat.le_refl _), rfl, fun l hl => ?_, fun l hl => by rw [I.tuple_inj hl qy]; exact hy⟩, ⟨hz2, ?_, ⟨u1, u2, ?_⟩, ?_, ?_⟩, fun c hcm => ?_⟩
    · rw [I.list_inj hl qx]
      exact hx
    · have m1 : (n + 2 : Nat) ≠ n + 4 := by omega
      exact (sb.2 _ m1).trans (hk _ _ m1 (show (n + 2 : Nat) ≠ n + 3 by omega) (show (n + 2 : Nat) ≠ n by omega) (show (n + 2 : Nat) ≠ n + 1 by omega) z.ti)
    · exact (sb.2 _ (show (n + 3 : Nat) ≠ n + 4 by omega)).trans hto'
    · exact st1.1.at fun o q => (sb.2 _ (show (n : Nat) ≠ n + 4 by omega)).trans q
    · exact st2.1.at fun o q => (sb.2 _ (show (n + 1 : Nat) ≠ n + 4 by omega)).trans q
    · have hlt : c < s.heap.objs.size := Nat.lt_of_le_of_lt (Nat.le_of_lt_succ (zfp_mem hcm).2.1) big
      rw [upd_ne (Nat.ne_of_lt hlt)]
      exact (hf c hcm).1
  done := by
    intro X hP hw hK hc i pins s σ H E I hf z hg
    subst hP hw hK
    obtain ⟨xs, ys, qx, qy, b1, b2, be⟩ := hg
    obtain ⟨l1, r1, p1, _⟩ := I.list qx
    obtain ⟨l2, r2, p2, _⟩ := I.tuple qy
    obtain ⟨o1, o2, hout⟩ := z.out
    have hA : X.A.in1.handled = none := I.ok.hd hc
    have g1 := r1.length
    have g2 := r2.length
    have sep : ZipSep2 (n + 4) (n + 2) (n + 3) n (n + 1) [n, a] [n + 1, b] := zip_sep2 (N := n) (fp1 := [a]) (fp2 := [b]) (fun c hc => by rw [List.mem_singleton.mp hc]; exact ha) (fun c hc => by rw [List.mem_singleton.mp hc]; exact hb)
    refine wpAny_pyNext_zipD2_end (i := i) sep (Draws.list hA n a (Nat.ne_of_lt ha) l1.toArray) (Draws.tuple hA (n + 1) b (Nat.ne_of_lt (Nat.lt_succ_of_lt hb)) l2.toArray) z.hz z.ti hout ⟨z.fst, p1.isList⟩ ⟨z.snd, show s.heap.IsTuple b l2.toArray from p2⟩
      (by rw [List.size_toArray]; omega) (by rw [List.size_toArray]; omega) (by rw [List.size_toArray, List.size_toArray]; omega) ?_
    intro h' tk hk
    exact ⟨rfl, I.turnedL (t' := tk) (ch := zfp n) (fun c o hc q => by
      obtain ⟨c1, c2, c3, c4⟩ := not_zfp hc
      exact hk c o c1 c2 c3 c4 q) hf⟩
  self := fun A i s Q E z h => wpAny_pyIter_zip z.hz h
def iZipLT (K : PySem.W.Frag) (ta : TA) : TI := fun σ H R => ta σ H fun vs H1 => ∃ a b xs ys, vs = [.ref a, .ref b] ∧ SqL K H1 a xs ∧ SqT K H1 b ys ∧ R (ItzLT K a b) H1
theorem pi_zipLT {X : Cx} {e e2 : Expr} {ta : TA} {p pos tpos : Pos} {elts : List Expr} {kk : Nat} (hg : Gl X "zip") (hm : X.mg "zip" = none) (ha : PA X [e, e2] ta)
    (hs : starEach [e, e2] X.env = (false, eval e X.env) :: starEach [e2] X.env := by rfl) (hpl : (backTo pos (starEach [e2] X.env)).any (·.1) = false := by rfl) :
    PI X (.Tuple elts kk tpos) (.Call (.Name "zip" p) [e, e2] [] pos) (iZipLT X.K ta) := by
  refine ⟨fun pins s σ H R I h => Call_ (ld_blt I hg hm PyProof.Rows.boot_zip (PyProof.Rows.callWith_type1 (thn (ha.run pos pins s σ H _ I h) ?_) hs hpl))⟩
  rintro us s1 ⟨vs, H1, I1, r1, a, b, xs, ys, rfl, qx, qy, q⟩
  cases r1 with
  | cons e1 r2 =>
    cases r2 with
    | cons e3 r3 =>
      cases r3
      cases e1
      cases e3
      obtain ⟨l1, v1, p1, _⟩ := I1.list qx
      obtain ⟨l2, v2, p2, _⟩ := I1.tuple qy
      obtain ⟨o1, g1, _⟩ := id p1.isList
      obtain ⟨o2, g2, _⟩ := id (show s1.heap.IsTuple b l2.toArray from p2)
      refine zip_begins2 (begins_list a l1.toArray) (begins_tuple b l2.toArray) p1.isList (show s1.heap.IsTuple b l2.toArray from p2) fun h' hz hti hto n1 n2 hsz hk => wpAny_pyIter_zip hz ?_
      have I2 : Inv X pins σ H1 { s1 with heap := h' } := I1.kept (t' := s1.toks) hk
      refine ⟨_, zfp s1.heap.objs.size, _, _, H1, rfl, I2, turn_zipLT (Heap.lt_size g1) (Heap.lt_size g2), ⟨hz, hti, ⟨_, _, hto⟩, ⟨_, n1, rfl, rfl⟩, ⟨_, n2, rfl, rfl⟩⟩, fun c hc => ?_, q⟩
      exact I1.fpOk (zfp_mem hc).1 (I1.hok.fresh (zfp_mem hc).1)
theorem walk_zipLT {K : PySem.W.Frag} {a b : Addr} {xs ys : List V} {n : Nat} (hn : n = min xs.length ys.length) : Walk (ItzLT K a b) n (fun H => SqL K H a xs ∧ SqT K H b ys) (YPair (fun i => xs[i]?) (fun i => ys[i]?)) := by
  refine ⟨fun i H hi q => ⟨xs, ys, xs[i]'(by omega), ys[i]'(by omega), q.1, q.2, List.getElem?_eq_getElem _, List.getElem?_eq_getElem _⟩, fun H q => ⟨xs, ys, q.1, q.2, by omega, by omega, by omega⟩, fun i H v H' hi q y => ?_⟩
  obtain ⟨T, x, z, h1, h2, h3, h4, h5⟩ := y
  exact ⟨T, x, z, h1, h2, h3, h4 xs q.1, h5 ys q.2⟩
theorem kz_zipLT {X : Cx} {K : PySem.W.Frag} {e e2 : Expr} {ta : TA} {p pos tpos : Pos} {elts : List Expr} {kk : Nat} (hg : Gl X "zip") (hm : X.mg "zip" = none) (ha : PA X [e, e2] ta) (hK : X.K = K := by rfl)
    (hs : starEach [e, e2] X.env = (false, eval e X.env) :: starEach [e2] X.env := by rfl) (hpl : (backTo pos (starEach [e2] X.env)).any (·.1) = false := by rfl) :
    PI X (.Tuple elts kk tpos) (.Call (.Name "zip" p) [e, e2] [] pos) (iZipLT K ta) := hK ▸ pi_zipLT hg hm ha hs hpl
end Ly

/-! ### zip of a tuple and a list, of any two -/
namespace Ly
open PySem PySem.Spec PyProof.Rows L2 RZ
/-- the list at a, the tuple at b as they stand at each turn, the items in new pairs -/
def ItzTL (K : PySem.W.Frag) (a b : Addr) : It :=
  ⟨fun i H => ∃ (xs ys : List V) (x y : V), SqT K H a xs ∧ SqL K H b ys ∧ xs[i]? = some x ∧ ys[i]? = some y,
   fun i H v H' => ∃ T x y, v = .ref T ∧ H T = none ∧ H' = upd H T (.tup [x, y]) ∧ (∀ xs, SqT K H a xs → xs[i]? = some x) ∧ (∀ ys, SqL K H b ys → ys[i]? = some y),
   fun i H => ∃ (xs ys : List V), SqT K H a xs ∧ SqL K H b ys ∧ i ≤ xs.length ∧ i ≤ ys.length ∧ (i = xs.length ∨ i = ys.length)⟩
/-- the five cells of such a zip, made when so many stood -/
structure ZCellsT (n : Nat) (a b : Addr) (i : Nat) (h : Heap) : Prop where
  hz : IsZip h (n + 4) (n + 2) (n + 3) .none
  ti : IsTupOf2 h (n + 2) (.ref n) (.ref (n + 1))
  out : ∃ u v, IsTupOf2 h (n + 3) u v
  fst : h.IsTupleIter n a i
  snd : h.IsListIter (n + 1) b i
theorem ZCellsT.keep {n : Nat} {a b : Addr} {i : Nat} {h h' : Heap} (z : ZCellsT n a b i h) (k : ∀ c ∈ zfp n, ∀ o, h.get? c = some o → h'.get? c = some o) : ZCellsT n a b i h' := by
  obtain ⟨u, v, e⟩ := z.out
  exact ⟨k _ (by simp [zfp]) _ z.hz, k _ (by simp [zfp]) _ z.ti, ⟨u, v, k _ (by simp [zfp]) _ e⟩, z.fst.at fun o q => k _ (by simp [zfp]) o q, z.snd.at fun o q => k _ (by simp [zfp]) o q⟩
theorem turn_zipTL {P : Program} {w : World} {K : PySem.W.Frag} {elts : List Expr} {kk : Nat} {tpos : Pos} {a b : Addr} {n : Nat} (ha : a < n) (hb : b < n) :
    Turn P w K (.Tuple elts kk tpos) (ItzTL K a b) (zfp n) (n + 4) (fun i h => ZCellsT n a b i h) where
  mem := by simp [zfp]
  obj := fun i h z c hc => by
    obtain ⟨u, v, e⟩ := z.out
    obtain ⟨o1, e1, _, d1⟩ := z.fst
    obtain ⟨o2, e2, _, d2⟩ := z.snd
    rcases (zfp_mem hc).2.2 with q | q | q | q | q
    · rw [q]; exact ⟨_, z.hz, fun v q => nomatch q⟩
    · rw [q]; exact ⟨_, z.ti, fun v q => nomatch q⟩
    · rw [q]; exact ⟨_, e, fun v q => nomatch q⟩
    · rw [q]; exact ⟨o1, e1, fun v q => by rw [d1] at q; cases q⟩
    · rw [q]; exact ⟨o2, e2, fun v q => by rw [d2] at q; cases q⟩
  keep := fun i h h' z k => z.keep k
  item := by
    intro X hP hw hK hc i pins s σ H E I hf z hg
    subst hP hw hK
    obtain ⟨xs, ys, x, y, qx, qy, hx, hy⟩ := hg
    obtain ⟨l1, r1, p1, _⟩ := I.tuple qx
    obtain ⟨l2, r2, p2, _⟩ := I.list qy
    obtain ⟨u1, hu1, ru1⟩ := r1.get hx
    obtain ⟨u2, hu2, ru2⟩ := r2.get hy
    obtain ⟨o1, o2, hout⟩ := z.out
    have hA : X.A.in1.handled = none := I.ok.hd hc
    have big : n + 4 < s.heap.objs.size := Heap.lt_size z.hz
    have sep : ZipSep2 (n + 4) (n + 2) (n + 3) n (n + 1) [n, a] [n + 1, b] := zip_sep2 (N := n) (fp1 := [a]) (fp2 := [b]) (fun c hc => by rw [List.mem_singleton.mp hc]; exact ha) (fun c hc => by rw [List.mem_singleton.mp hc]; exact hb)
    refine wpAny_pyNext_zipD2_item (i := i) sep (Draws.tuple hA n a (Nat.ne_of_lt ha) l1.toArray) (Draws.list hA (n + 1) b (Nat.ne_of_lt (Nat.lt_succ_of_lt hb)) l2.toArray) z.hz z.ti hout ⟨z.fst, show s.heap.IsTuple a l1.toArray from p1⟩ ⟨z.snd, p2.isList⟩
      (by rw [List.size_toArray]; exact (List.getElem?_eq_some_iff.mp hu1).1) (by rw [List.size_toArray]; exact (List.getElem?_eq_some_iff.mp hu2).1) ?_
    intro v1 v2 h' tk e1 e2 hz' hto' st1 st2 hT hsz hk
    have e1' : u1 = v1 := by
      have q : l1[i]? = some v1 := by simpa using e1
      rw [hu1] at q
      exact Option.some.inj q
    have e2' : u2 = v2 := by
      have q : l2[i]? = some v2 := by simpa using e2
      rw [hu2] at q
      exact Option.some.inj q
    subst e1' e2'
    refine ⟨_, rfl, wpAny_letOwnedTupleGo_zip (s := { s with heap := h', toks := tk }) hz' fun h2 hz2 sb => ?_⟩
    have nz : s.heap.objs.size ≠ n + 4 := Nat.ne_of_gt big
    have hT2 : h2.get? s.heap.objs.size = some { cls := .type "tuple", data := .seq #[u1, u2] } := (sb.2 _ nz).trans hT
    have nw : ObjOk X.prog X.w (upd H s.heap.objs.size (.tup [x, y])) h2 s.heap.objs.size (.tup [x, y]) := ⟨by show 2 ≤ sizeLine; decide, [u1, u2], .cons ru1 (.cons ru2 .nil), ⟨_, hT2, rfl, _, rfl⟩⟩
    have old : ∀ c o, c ∉ zfp n → s.heap.get? c = some o → h2.get? c = some o := fun c o hc q => by
      obtain ⟨c1, c2, c3, c4⟩ := not_zfp hc
      exact (sb.2 c c1).trans (hk c o c1 c2 c3 c4 q)
    refine ⟨.ref s.heap.objs.size, _, I.turnedNew (t' := tk) (ch := zfp n) old hf (Nat.le_refl _) nw, rfl, ⟨_, x, y, rfl, I.hok.fresh (Nat.le_refl _), rfl, fun l hl => ?_, fun l hl => by rw [I.list_inj hl qy]; exact hy⟩, ⟨hz2, ?_, ⟨u1, u2, ?_⟩, ?_, ?_⟩, fun c hcm => ?_⟩
    · rw [I.tuple_inj hl qx]
      exact hx
    · have m1 : (n + 2 : Nat) ≠ n + 4 := by omega
      exact (sb.2 _ m1).trans (hk _ _ m1 (show (n + 2 : Nat) ≠ n + 3 by omega) (show (n + 2 : Nat) ≠ n by omega) (show (n + 2 : Nat) ≠ n + 1 by omega) z.ti)
    · exact (sb.2 _ (show (n + 3 : Nat) ≠ n + 4 by omega)).trans hto'
    · exact st1.1.at fun o q => (sb.2 _ (show (n : Nat) ≠ n + 4 by omega)).trans q
    · exact st2.1.at fun o q => (sb.2 _ (show (n + 1 : Nat) ≠ n + 4 by omega)).trans q
    · have hlt : c < s.heap.objs.size := Nat.lt_of_le_of_lt (Nat.le_of_lt_succ (zfp_mem hcm).2.1) big
      rw [upd_ne (Nat.ne_of_lt hlt)]
      exact (hf c hcm).1
  done := by
    intro X hP hw hK hc i pins s σ H E I hf z hg
    subst hP hw hK
    obtain ⟨xs, ys, qx, qy, b1, b2, be⟩ := hg
    obtain ⟨l1, r1, p1, _⟩ := I.tuple qx
    obtain ⟨l2, r2, p2, _⟩ := I.list qy
    obtain ⟨o1, o2, hout⟩ := z.out
    have hA : X.A.in1.handled = none := I.ok.hd hc
    have g1 := r1.length
    have g2 := r2.length
    have sep : ZipSep2 (n + 4) (n + 2) (n + 3) n (n + 1) [n, a] [n + 1, b] := zip_sep2 (N := n) (fp1 := [a]) (fp2 := [b]) (fun c hc => by rw [List.mem_singleton.mp hc]; exact ha) (fun c hc => by rw [List.mem_singleton.mp hc]; exact hb)
    refine wpAny_pyNext_zipD2_end (i := i) sep (Draws.tuple hA n a (Nat.ne_of_lt ha) l1.toArray) (Draws.list hA (n + 1) b (Nat.ne_of_lt (Nat.lt_succ_of_lt hb)) l2.toArray) z.hz z.ti hout ⟨z.fst, show s.heap.IsTuple a l1.toArray from p1⟩ ⟨z.snd, p2.isList⟩
      (by rw [List.size_toArray]; omega) (by rw [List.size_toArray]; omega) (by rw [List.size_toArray, List.size_toArray]; omega) ?_
    intro h' tk hk
    exact ⟨rfl, I.turnedL (t' := tk) (ch := zfp n) (fun c o hc q => by
      obtain ⟨c1, c2, c3, c4⟩ := not_zfp hc
      exact hk c o c1 c2 c3 c4 q) hf⟩
  self := fun A i s Q E z h => wpAny_pyIter_zip z.hz h
theorem walk_zipTL {K : PySem.W.Frag} {a b : Addr} {xs ys : List V} {n : Nat} (hn : n = min xs.length ys.length) : Walk (ItzTL K a b) n (fun H => SqT K H a xs ∧ SqL K H b ys) (YPair (fun i => xs[i]?) (fun i => ys[i]?)) := by
  refine ⟨fun i H hi q => ⟨xs, ys, xs[i]'(by omega), ys[i]'(by omega), q.1, q.2, List.getElem?_eq_getElem _, List.getElem?_eq_getElem _⟩, fun H q => ⟨xs, ys, q.1, q.2, by omega, by omega, by omega⟩, fun i H v H' hi q y => ?_⟩
  obtain ⟨T, x, z, h1, h2, h3, h4, h5⟩ := y
  exact ⟨T, x, z, h1, h2, h3, h4 xs q.1, h5 ys q.2⟩

/-- zip of two lists, of two tuples, of a tuple and a list -/
def iZipB (K : PySem.W.Frag) (ta : TA) : TI := fun σ H R => ta σ H fun vs H1 => ∃ a b xs ys, vs = [.ref a, .ref b] ∧ (SqL K H1 a xs ∧ SqL K H1 b ys ∧ R (Itz K a b) H1 ∨ SqT K H1 a xs ∧ SqT K H1 b ys ∧ R (ItzT K a b) H1 ∨ SqT K H1 a xs ∧ SqL K H1 b ys ∧ R (ItzTL K a b) H1)
theorem pi_zipB {X : Cx} {e e2 : Expr} {ta : TA} {p pos tpos : Pos} {elts : List Expr} {kk : Nat} (hg : Gl X "zip") (hm : X.mg "zip" = none) (ha : PA X [e, e2] ta)
    (hs : starEach [e, e2] X.env = (false, eval e X.env) :: starEach [e2] X.env := by rfl) (hpl : (backTo pos (starEach [e2] X.env)).any (·.1) = false := by rfl) :
    PI X (.Tuple elts kk tpos) (.Call (.Name "zip" p) [e, e2] [] pos) (iZipB X.K ta) := by
  refine ⟨fun pins s σ H R I h => Call_ (ld_blt I hg hm PyProof.Rows.boot_zip (PyProof.Rows.callWith_type1 (thn (ha.run pos pins s σ H _ I h) fun us s1 ⟨vs, H1, I1, r1, q1⟩ => ?_) hs hpl))⟩
  obtain ⟨a, b, xs, ys, ex, q1⟩ := q1
  subst ex
  cases r1 with
  | cons r rr =>
    cases rr with
    | cons r' rr =>
      cases rr
      cases r
      cases r'
      have fresh5 : ∀ c, c ∈ zfp s1.heap.objs.size → FpOk X pins H1 c := fun c hc => I1.fpOk (zfp_mem hc).1 (I1.hok.fresh (zfp_mem hc).1)
      rcases q1 with ⟨hqx, hqy, q⟩ | ⟨hqx, hqy, q⟩ | ⟨hqx, hqy, q⟩
      · obtain ⟨its, rv, p1, _⟩ := I1.list hqx
        obtain ⟨its2, rv2, p2, _⟩ := I1.list hqy
        refine call_zip_2 p1.isList p2.isList fun h' hz hTI hTO h1 h2 hsz hk => wpAny_pyIter_zip hz ?_
        have I2 : Inv X pins σ H1 { s1 with heap := h' } := I1.kept (t' := s1.toks) hk
        exact ⟨s1.heap.objs.size + 4, zfp s1.heap.objs.size, _, _, H1, rfl, I2, turn_zip (PySem.W.ktu_apart s1.heap.objs.size a b p1.lt p2.lt), ⟨hz, hTI, ⟨_, _, hTO⟩, h1, h2⟩, fresh5, q⟩
      · obtain ⟨its, rv, p1, _⟩ := I1.tuple hqx
        obtain ⟨its2, rv2, p2, _⟩ := I1.tuple hqy
        obtain ⟨o1, ho1, _⟩ := id p1
        obtain ⟨o2, ho2, _⟩ := id p2
        refine call_zipT (show s1.heap.IsTuple a its.toArray from p1) (show s1.heap.IsTuple b its2.toArray from p2) fun h' hz hTI hTO h1 h2 hsz hk => wpAny_pyIter_zip hz ?_
        have I2 : Inv X pins σ H1 { s1 with heap := h' } := I1.kept (t' := s1.toks) hk
        exact ⟨s1.heap.objs.size + 4, zfp s1.heap.objs.size, _, _, H1, rfl, I2, turn_zipT (PySem.W.ktu_apart s1.heap.objs.size a b (Heap.lt_size ho1) (Heap.lt_size ho2)), ⟨hz, hTI, ⟨_, _, hTO⟩, h1, h2⟩, fresh5, q⟩
      · obtain ⟨l1, v1, p1, _⟩ := I1.tuple hqx
        obtain ⟨l2, v2, p2, _⟩ := I1.list hqy
        obtain ⟨o1, g1, _⟩ := id (show s1.heap.IsTuple a l1.toArray from p1)
        obtain ⟨o2, g2, _⟩ := id p2.isList
        refine zip_begins2 (begins_tuple a l1.toArray) (begins_list b l2.toArray) (show s1.heap.IsTuple a l1.toArray from p1) p2.isList fun h' hz hti hto n1 n2 hsz hk => wpAny_pyIter_zip hz ?_
        have I2 : Inv X pins σ H1 { s1 with heap := h' } := I1.kept (t' := s1.toks) hk
        exact ⟨_, zfp s1.heap.objs.size, _, _, H1, rfl, I2, turn_zipTL (Heap.lt_size g1) (Heap.lt_size g2), ⟨hz, hti, ⟨_, _, hto⟩, ⟨_, n1, rfl, rfl⟩, ⟨_, n2, rfl, rfl⟩⟩, fresh5, q⟩
theorem kz_zipB {X : Cx} {K : PySem.W.Frag} {e e2 : Expr} {ta : TA} {p pos tpos : Pos} {elts : List Expr} {kk : Nat} (hg : Gl X "zip") (hm : X.mg "zip" = none) (ha : PA X [e, e2] ta) (hK : X.K = K := by rfl)
    (hs : starEach [e, e2] X.env = (false, eval e X.env) :: starEach [e2] X.env := by rfl) (hpl : (backTo pos (starEach [e2] X.env)).any (·.1) = false := by rfl) :
    PI X (.Tuple elts kk tpos) (.Call (.Name "zip" p) [e, e2] [] pos) (iZipB K ta) := hK ▸ pi_zipB hg hm ha hs hpl
end Ly

/-! ### a tuple turned round: t[::-1] -/
namespace Ly
open PySem PySem.Spec PyProof.Rows L2
section
variable {prog : Program} {w : World} {A : Around} {E : Value → Shared → Prop} {s : Shared}
theorem part_is {v : Value} {o : Option Int} {Q : Option Int → Shared → Prop} (p : IsPart v o) (h : Q o s) : wpAny (model prog w) A (Builtin.Slice.slicePartIndex v) Q E s := HT.slicePart_ p h
theorem adj_back (n : Nat) : Builtin.Slice.sliceAdjust none none (-1) (n : Int) = ((n : Int) - 1, -1) := by
  have g : (-1 : Int) < 0 := by decide
  unfold Builtin.Slice.sliceAdjust
  simp only [g, if_true]
theorem places_back (n : Nat) : Builtin.Slice.slicePlaces ((n : Int) - 1) (-1) (-1) = n := by
  have g : ¬ ((-1 : Int) > 0) := by decide
  unfold Builtin.Slice.slicePlaces
  rw [if_neg g]
  by_cases c : (n : Int) - 1 > -1
  · rw [if_pos c, show (- (-1 : Int)) = 1 from rfl, Int.ediv_one]
    omega
  · rw [if_neg c]
    omega
theorem pick_back (xs : Array Value) : ((List.range xs.size).filterMap fun (k : Nat) => xs[((xs.size : Int) - 1 + (k : Int) * (-1)).toNat]?).toArray = xs.toList.reverse.toArray := by
  have e : (fun (k : Nat) => xs[((xs.size : Int) - 1 + (k : Int) * (-1)).toNat]?) = fun k => xs[xs.size - 1 - k]? := by
    funext k
    have q : ((xs.size : Int) - 1 + (k : Int) * (-1)).toNat = xs.size - 1 - k := by omega
    rw [q]
  have k := PySem.W.krv_pick xs
  unfold slicePick at k
  rw [PySem.W.krv_bounds] at k
  have k2 : ((sliceRange ((xs.size : Int) - 1) (-1) (-1)).filterMap (xs[·]?)).toArray = xs.toList.reverse.toArray := k
  rw [PySem.W.krv_sliceRange, List.filterMap_map] at k2
  rw [e]
  exact k2
theorem applied_back {sl : Addr} {vs : Value} {n : Nat} {Q : Int × Int × Nat → Shared → Prop} (hs : s.heap.IsSliceOf sl .none .none vs) (pv : IsPart vs (some (-1)))
    (h : Q ((n : Int) - 1, -1, n) s) : wpAny (model prog w) A (Builtin.Slice.sliceApplied (.ref sl) (pure (n : Int))) Q E s := by
  obtain ⟨o, ho, _, hd⟩ := id hs
  unfold Builtin.Slice.sliceApplied Builtin.Slice.sliceFields
  have f0 : ∀ {R : Value → Shared → Prop}, R .none s → wpAny (model prog w) A (field (.ref sl) 0) R E s := fun r => wpAny_field ho hd (x := .none) rfl r
  have f1 : ∀ {R : Value → Shared → Prop}, R .none s → wpAny (model prog w) A (field (.ref sl) 1) R E s := fun r => wpAny_field ho hd (x := .none) rfl r
  have f2 : ∀ {R : Value → Shared → Prop}, R vs s → wpAny (model prog w) A (field (.ref sl) 2) R E s := fun r => wpAny_field ho hd (x := vs) rfl r
  refine wpAny_bind (wpAny_bind (f0 (wpAny_bind (f1 (wpAny_bind (f2 (wpAny_pure ?_)))))))
  refine wpAny_bind (part_is pv ?_)
  show wpAny _ _ (if ((-1 : Int) == 0) = true then _ else _) _ _ s
  rw [if_neg (show ¬ ((-1 : Int) == 0) = true by decide)]
  refine wpAny_bind (part_is .none (wpAny_bind (part_is .none (wpAny_bind (wpAny_pure ?_)))))
  show wpAny _ _ (match Builtin.Slice.sliceAdjust none none (-1) (n : Int) with | (x, y) => pure (x, (-1 : Int), Builtin.Slice.slicePlaces x y (-1))) _ _ s
  rw [adj_back]
  show wpAny _ _ (pure ((n : Int) - 1, (-1 : Int), Builtin.Slice.slicePlaces ((n : Int) - 1) (-1) (-1))) _ _ s
  rw [places_back]
  exact wpAny_pure h
theorem item_back {t sl : Addr} {items : Array Value} {vs : Value} {Q : Value → Shared → Prop} (ht : IsTup s.heap t items) (hs : s.heap.IsSliceOf sl .none .none vs) (pv : IsPart vs (some (-1))) (hz : items.size ≤ sizeLine)
    (h : Q (.ref s.heap.objs.size) { s with heap := s.heap.push { cls := .type "tuple", data := .seq items.toList.reverse.toArray } }) : wpAny (model prog w) A (getItem (.ref t) (.ref sl)) Q E s := by
  have ok : sizeOk (.seq items.toList.reverse.toArray) := by
    show items.toList.reverse.toArray.size ≤ sizeLine
    rw [List.size_toArray, List.length_reverse, Array.length_toList]
    exact hz
  obtain ⟨o, ho, hc, _⟩ := id hs
  unfold getItem
  try with_reducible refine wpAny_holding ?_
  first | refine wpAny_bind (wpAny_pure ?_) | skip
  have key : wpAny (model prog w) A.in1 (Builtin.«tuple.__getitem__» ⟨[.ref t, .ref sl], []⟩) (fun fin s' => ∃ v, fin = .done (.ret v) ∧ Q v s') E s := by
    show wpAny _ _ (Builtin.Tuple.tupleItemsOf (.ref t) >>= _) _ _ s
    refine wpAny_bind (tupleItemsOf_ ht (wpAny_bind (wpAny_typeOf (show s.TypeIs (.ref sl) "slice" from ⟨o, ho, hc⟩) ?_)))
    rw [if_pos (by decide)]
    refine wpAny_bind (applied_back hs pv ?_)
    show wpAny _ _ (if (((items.size : Int) - 1 == 0) && ((-1 : Int) == 1) && (items.size == items.size)) = true then _ else _) _ _ s
    rw [if_neg (by rw [show ((-1 : Int) == 1) = false from rfl, Bool.and_false, Bool.false_and]; exact Bool.false_ne_true), pick_back]
    first
      | exact wpAny_bind (m := Builtin.Tuple.tupleExact _) (wpAny_newObj_type (wpAny_pure ⟨_, rfl, h⟩) ok)
      | exact wpAny_bind (m := Builtin.Tuple.tupleExact _) (wpAny_newObj_type (wpAny_bind (wpAny_pure (wpAny_pure ⟨_, rfl, h⟩))) ok)
      | exact wpAny_bind (wpAny_bind (m := Builtin.Tuple.tupleExact _) (wpAny_newObj_type (wpAny_pure (wpAny_pure ⟨_, rfl, h⟩)) ok))
      | exact wpAny_bind (wpAny_bind (m := Builtin.Tuple.tupleExact _) (wpAny_newObj_type (wpAny_pure ⟨_, rfl, h⟩) ok))
  refine wpAny_bind (wpAny_sequenceKey ht.typeIs (by decide) ?_)
  refine wpAny_bind (wpAny_callSpecial?_slot (name := Str.ofString "__getitem__") ht.typeIs PyProof.Rows.slot_tuple_getitem ?_)
  refine wpAny_call_entry PyProof.Rows.slot_tuple_getitem ht.typeIs entry_tuple_getitem ?_ (args_tuple_getitem _ _)
  exact wpAny_mono key (fun f s' z => ⟨z.choose, z.choose_spec.1, wpAny_pure z.choose_spec.2⟩) fun _ _ z => z
end
def tRevT (K : PySem.W.Frag) (te : TE) : TE := fun σ H Q => te σ H fun x H1 => ∃ a xs, x = .ref a ∧ SqT K H1 a xs ∧ ∀ p, H1 p = none → Q (.ref p) (upd H1 p (.tup xs.reverse))
section
variable {X : Cx} {e : Expr} {te : TE} {k : Nat} {p1 p2 p3 pos : Pos}
theorem pe_revT {K : PySem.W.Frag} (he : PE X e te) (hK : X.K = K := by rfl) : PE X (.Subscript e (.Slice none none (some (.UnaryOp .USub (.Constant (.int 1) k p1) p2)) p3) pos) (tRevT K te) := by
  subst hK
  refine ⟨fun pins s σ H Q I h => Subscript_ (thn (he.run pins s σ H _ I h) ?_)⟩
  rintro v s1 ⟨x, H1, I1, r1, a, xs, rfl, hx, q⟩
  cases r1
  refine wpAny_Slice (thn (po_none.run pins s1 σ H1 (fun o H2 => o = none ∧ H2 = H1) I1 ⟨rfl, rfl⟩) ?_)
  rintro vl s2 ⟨l, H2, I2, pl, rfl, rfl⟩
  refine thn (po_none.run pins s2 σ H2 (fun o H3 => o = none ∧ H3 = H2) I2 ⟨rfl, rfl⟩) ?_
  rintro vu s3 ⟨u, H3, I3, pu, rfl, rfl⟩
  refine thn ((po_some (pe_un un_neg pe_int)).run pins s3 σ H3 (fun o H4 => o = some (-1) ∧ H4 = H3) I3 ⟨1, rfl, -1, rfl, rfl, rfl⟩) ?_
  rintro vs s4 ⟨o, H4, I4, ps, rfl, rfl⟩
  cases pl
  cases pu
  have I5 : Inv X pins σ H4 { s4 with heap := s4.heap.push { cls := .type "slice", data := .fields #[.none, .none, vs] } } := I4.kept (t' := s4.toks) fun b ob q => Heap.get?_push_of_some _ q
  obtain ⟨its, r, ht, hz⟩ := I5.tuple hx
  have hlen := r.length
  show wpAny (model X.prog X.w) X.A (subscriptTail e (.Slice none none (some (.UnaryOp .USub (.Constant (.int 1) k p1) p2)) p3) (.ref a) (.ref s4.heap.objs.size)) (EP X pins σ Q) X.xe { s4 with heap := s4.heap.push { cls := .type "slice", data := .fields #[.none, .none, vs] } }
  refine tail_any (ops := [.ref a, .ref s4.heap.objs.size]) ht.typeIs (PyProof.Rows.slot_tuple_getitem.lookup) ?_ (by with_unfolding_all rfl)
  refine item_back ht (Heap.IsSliceOf.new _ .none .none vs) ps (by rw [List.size_toArray]; omega) ?_
  refine ⟨.ref _, _, I5.laid (t' := s4.toks) (o := .tup xs.reverse) (fun b ob q => Heap.get?_push_of_some _ q) (Nat.le_refl _) ?_, rfl, q _ (I5.hok.fresh (Nat.le_refl _))⟩
  exact ⟨by rw [List.length_reverse]; exact hz, _, r.reverse, IsTup.new _ _⟩
end
end Ly

/-! ### the mathematics: rows, signs, totals -/
namespace Ly
open PySem L2
/-- a row of hands -/
def RowOk (hands : Int) (row : List Int) : Prop := 2 ≤ hands ∧ hands ≤ 4 ∧ row ≠ [] ∧ row.length ≤ 64 ∧ ∀ z ∈ row, 0 ≤ z ∧ z < hands
def signOf (t a b : Int) : Int := if t = a then 1 else if t = b then -1 else 0
def signsOf (row : List Int) (a b : Int) : List Int := row.map fun t => signOf t a b
theorem signsOf_len (row : List Int) (a b : Int) : (signsOf row a b).length = row.length := by rw [signsOf, List.length_map]
theorem signOf_small (t a b : Int) : signOf t a b = 1 ∨ signOf t a b = -1 ∨ signOf t a b = 0 := by
  unfold signOf
  split
  · exact .inl rfl
  · split
    · exact .inr (.inl rfl)
    · exact .inr (.inr rfl)
/-- what a hand has -/
def tot (row ws : List Int) (h : Int) : Int := ((row.zip ws).map fun p => if p.1 = h then p.2 else 0).sum
def totsOf (hands : Int) (row ws : List Int) : List Int := (List.range hands.toNat).map fun (h : Nat) => tot row ws (h : Int)
theorem tot_more {row ws : List Int} {i : Nat} {t w h : Int} (e1 : row[i]? = some t) (e2 : ws[i]? = some w) : tot (row.take (i + 1)) (ws.take (i + 1)) h = tot (row.take i) (ws.take i) h + if t = h then w else 0 := by
  have e : (row.take (i + 1)).zip (ws.take (i + 1)) = (row.take i).zip (ws.take i) ++ [(t, w)] := by
    rw [List.take_add_one, List.take_add_one, e1, e2]
    refine List.zip_append ?_
    have l1 := (List.getElem?_eq_some_iff.mp e1).1
    have l2 := (List.getElem?_eq_some_iff.mp e2).1
    rw [List.length_take, List.length_take]
    omega
  unfold tot
  rw [e, List.map_append, List.sum_append]
  simp
theorem totsOf_at {hands : Int} {row ws : List Int} {h : Nat} (hh : (h : Int) < hands) : (totsOf hands row ws)[h]? = some (tot row ws (h : Int)) := by
  unfold totsOf
  rw [List.getElem?_map, List.getElem?_range (by omega)]
  rfl
theorem totsOf_len {hands : Int} {row ws : List Int} : (totsOf hands row ws).length = hands.toNat := by
  unfold totsOf
  rw [List.length_map, List.length_range]
theorem totsOf_more {hands : Int} {row ws : List Int} {i : Nat} {t w : Int} (e1 : row[i]? = some t) (e2 : ws[i]? = some w) (h0 : 0 ≤ t) (h1 : t < hands) :
    totsOf hands (row.take (i + 1)) (ws.take (i + 1)) = (totsOf hands (row.take i) (ws.take i)).set t.toNat (tot (row.take i) (ws.take i) t + w) := by
  refine List.ext_getElem? fun k => ?_
  rw [List.getElem?_set, totsOf_len]
  by_cases hk : k < hands.toNat
  · have hk2 : (k : Int) < hands := by omega
    rw [totsOf_at hk2, tot_more e1 e2]
    by_cases hc : t.toNat = k
    · have ht : t = (k : Int) := by omega
      rw [if_pos hc, if_pos (show t.toNat < hands.toNat by omega), if_pos ht, ht]
    · rw [if_neg hc, totsOf_at hk2, if_neg (by omega), Int.add_zero]
  · rw [List.getElem?_eq_none (by rw [totsOf_len]; omega), if_neg (by omega), List.getElem?_eq_none (by rw [totsOf_len]; omega)]
theorem totsOf_nil {hands : Int} : totsOf hands [] [] = List.replicate hands.toNat 0 := by
  refine List.ext_getElem? fun k => ?_
  by_cases hk : k < hands.toNat
  · rw [totsOf_at (by omega), List.getElem?_replicate, if_pos hk]
    rfl
  · rw [List.getElem?_eq_none (by rw [totsOf_len]; omega), List.getElem?_eq_none (by rw [List.length_replicate]; omega)]

/-- a lead by signs -/
def leadBy (sg ws : List Int) : Int := ((sg.zip ws).map fun p => p.1 * p.2).sum
theorem leadBy_cons (s w : Int) (sg ws : List Int) : leadBy (s :: sg) (w :: ws) = s * w + leadBy sg ws := by
  unfold leadBy
  rw [List.zip_cons_cons, List.map_cons, List.sum_cons]
theorem tot_cons (t w h : Int) (row ws : List Int) : tot (t :: row) (w :: ws) h = (if t = h then w else 0) + tot row ws h := by
  unfold tot
  rw [List.zip_cons_cons, List.map_cons, List.sum_cons]
theorem lead_tot {a b : Int} (hab : a ≠ b) : ∀ row ws : List Int, leadBy (signsOf row a b) ws = tot row ws a - tot row ws b
  | [], ws => by simp [leadBy, signsOf, tot]
  | t :: r, [] => by simp [leadBy, tot]
  | t :: r, w :: ws => by
    have ih := lead_tot hab r ws
    show leadBy (signOf t a b :: signsOf r a b) (w :: ws) = _
    rw [leadBy_cons, tot_cons, tot_cons, ih]
    unfold signOf
    by_cases h1 : t = a
    · rw [if_pos h1, if_pos h1, if_neg (fun z => hab (h1.symm.trans z))]
      omega
    · by_cases h2 : t = b
      · rw [if_neg h1, if_pos h2, if_neg h1, if_pos h2]
        omega
      · rw [if_neg h1, if_neg h2, if_neg h1, if_neg h2]
        omega
theorem erase_perm : ∀ (l : List Int) {i : Nat} (h : i < l.length), (l[i] :: l.eraseIdx i).Perm l
  | [], _, h => absurd h (Nat.not_lt_zero _)
  | a :: r, 0, _ => .refl _
  | a :: r, i + 1, h => (List.Perm.swap a (r[i]'(Nat.lt_of_succ_lt_succ h)) (r.eraseIdx i)).trans ((erase_perm r (Nat.lt_of_succ_lt_succ h)).cons a)
theorem erase_map : ∀ (l : List Int) (i : Nat), (l.map V.int).eraseIdx i = (l.eraseIdx i).map V.int
  | [], _ => rfl
  | a :: r, 0 => rfl
  | a :: r, i + 1 => by
    rw [List.map_cons, List.eraseIdx_cons_succ, erase_map r i, List.eraseIdx_cons_succ, List.map_cons]
/-- the numbers below m -/
def nums (m : Nat) : List Int := (List.range m).map fun (i : Nat) => (i : Int)
theorem nums_len (m : Nat) : (nums m).length = m := by rw [nums, List.length_map, List.length_range]
theorem nums_mem {m : Nat} {z : Int} : z ∈ nums m ↔ 0 ≤ z ∧ z < (m : Int) := by
  unfold nums
  rw [List.mem_map]
  constructor
  · rintro ⟨i, hi, e⟩
    rw [List.mem_range] at hi
    omega
  · rintro ⟨h1, h2⟩
    exact ⟨z.toNat, List.mem_range.mpr (by omega), by omega⟩
theorem nums_nodup (m : Nat) : (nums m).Nodup := List.Pairwise.map _ (fun x y h e => h (Int.ofNat.inj e)) List.nodup_range
/-- a row put into another one -/
def putL (hands : Int) (row other : List Int) : List Int := other.flatMap fun t => row.map fun x => (x + t) % hands
theorem putL_len (hands : Int) (row other : List Int) : (putL hands row other).length = other.length * row.length := by
  induction other with
  | nil => simp [putL]
  | cons t r ih =>
    show (row.map (fun x => (x + t) % hands) ++ putL hands row r).length = _
    rw [List.length_append, List.length_map, ih, List.length_cons, Nat.add_mul, Nat.one_mul, Nat.add_comm]
theorem putL_mem {hands : Int} (h : 0 < hands) {row other : List Int} : ∀ z ∈ putL hands row other, 0 ≤ z ∧ z < hands := by
  intro z hz
  obtain ⟨t, _, hz⟩ := List.mem_flatMap.mp hz
  obtain ⟨x, _, e⟩ := List.mem_map.mp hz
  rw [← e]
  exact ⟨Int.emod_nonneg _ (by omega), Int.emod_lt_of_pos _ h⟩
theorem putL_more (hands : Int) (row : List Int) {other : List Int} {i : Nat} {t : Int} (h : other[i]? = some t) : putL hands row (other.take (i + 1)) = putL hands row (other.take i) ++ row.map fun x => (x + t) % hands := by
  unfold putL
  rw [List.take_add_one, h, List.flatMap_append]
  congr 1
  show (row.map _) ++ [] = _
  rw [List.append_nil]
end Ly

/-! ### the mathematics: differences -/
namespace Ly
/-- the differences of a line -/
def diffs : List Int → List Int
  | x :: y :: r => (y - x) :: diffs (y :: r)
  | _ => []
def diffsN : Nat → List Int → List Int
  | 0, l => l
  | n + 1, l => diffs (diffsN n l)
theorem diffs_len : ∀ l : List Int, (diffs l).length = l.length - 1
  | [] => rfl
  | [_] => rfl
  | x :: y :: r => by
    show (diffs (y :: r)).length + 1 = r.length + 1 + 1 - 1
    rw [diffs_len (y :: r), List.length_cons]
    omega
theorem diffs_at : ∀ (l : List Int) (i : Nat) (x y : Int), l[i]? = some x → l[i + 1]? = some y → (diffs l)[i]? = some (y - x)
  | [], _, _, _, h, _ => by simp at h
  | [_], 0, _, _, _, h => by simp at h
  | [_], _ + 1, _, _, h, _ => by simp at h
  | a :: b :: r, 0, x, y, h, h2 => by
    rw [← Option.some.inj h, ← Option.some.inj h2]
    rfl
  | a :: b :: r, i + 1, x, y, h, h2 => diffs_at (b :: r) i x y h h2
theorem diffsN_len (n : Nat) (l : List Int) : (diffsN n l).length = l.length - n := by
  induction n with
  | zero => rfl
  | succ n ih =>
    show (diffs (diffsN n l)).length = _
    rw [diffs_len, ih]
    omega
/-- differences of numbers that go on -/
def Df (f : Nat → Int) : Nat → Int := fun n => f (n + 1) - f n
def DN : Nat → (Nat → Int) → Nat → Int
  | 0, f => f
  | m + 1, f => Df (DN m f)
theorem DN_succ (m : Nat) (f : Nat → Int) : DN (m + 1) f = DN m (Df f) := by
  induction m with
  | zero => rfl
  | succ m ih =>
    show Df (DN (m + 1) f) = Df (DN m (Df f))
    rw [ih]
/-- a line as the first so many of f -/
def line (f : Nat → Int) (n : Nat) : List Int := (List.range n).map f
theorem line_len (f : Nat → Int) (n : Nat) : (line f n).length = n := by rw [line, List.length_map, List.length_range]
theorem line_at {f : Nat → Int} {n i : Nat} (h : i < n) : (line f n)[i]? = some (f i) := by
  rw [line, List.getElem?_map, List.getElem?_range h]
  rfl
theorem line_ext {l : List Int} {f : Nat → Int} {n : Nat} (hl : l.length = n) (h : ∀ i, i < n → l[i]? = some (f i)) : l = line f n := by
  refine List.ext_getElem? fun i => ?_
  by_cases hi : i < n
  · rw [h i hi, line_at hi]
  · rw [List.getElem?_eq_none (by omega), List.getElem?_eq_none (by rw [line_len]; omega)]
theorem diffs_line (f : Nat → Int) (n : Nat) : diffs (line f n) = line (Df f) (n - 1) := by
  refine line_ext (by rw [diffs_len, line_len]) fun i hi => ?_
  exact diffs_at _ i _ _ (line_at (by omega)) (line_at (by omega))
theorem diffsN_line (m : Nat) (f : Nat → Int) (n : Nat) : diffsN m (line f n) = line (DN m f) (n - m) := by
  induction m with
  | zero => rfl
  | succ m ih =>
    show diffs (diffsN m (line f n)) = _
    rw [ih, diffs_line]
    show line (DN (m + 1) f) (n - m - 1) = line (DN (m + 1) f) (n - (m + 1))
    rw [show n - m - 1 = n - (m + 1) by omega]
/-- every line goes on somehow -/
theorem line_of (l : List Int) : l = line (fun i => l.getD i 0) l.length := by
  refine line_ext rfl fun i hi => ?_
  rw [List.getD_eq_getElem?_getD, List.getElem?_eq_getElem hi]
  rfl
/-! smooth: the differences of order m are nought -/
def Sm (m : Nat) (f : Nat → Int) : Prop := ∀ n, DN m f n = 0
theorem Sm.step {m : Nat} {f : Nat → Int} (h : Sm m (Df f)) : Sm (m + 1) f := fun n => by
  rw [DN_succ]
  exact h n
theorem Sm.back {m : Nat} {f : Nat → Int} (h : Sm (m + 1) f) : Sm m (Df f) := fun n => by
  rw [← DN_succ]
  exact h n
theorem Sm.more {m : Nat} {f : Nat → Int} (h : Sm m f) : Sm (m + 1) f := fun n => by
  show DN m f (n + 1) - DN m f n = 0
  rw [h, h]
  rfl
theorem Sm.le {m k : Nat} {f : Nat → Int} (h : Sm m f) (l : m ≤ k) : Sm k f := by
  induction l with
  | refl => exact h
  | step _ ih => exact ih.more
theorem DN_add (m : Nat) : ∀ (f g : Nat → Int), DN m (fun n => f n + g n) = fun n => DN m f n + DN m g n := by
  induction m with
  | zero => intros; rfl
  | succ m ih =>
    intro f g
    funext n
    show DN m (fun n => f n + g n) (n + 1) - DN m (fun n => f n + g n) n = (DN m f (n + 1) - DN m f n) + (DN m g (n + 1) - DN m g n)
    rw [ih]
    show (DN m f (n + 1) + DN m g (n + 1)) - (DN m f n + DN m g n) = _
    omega
theorem DN_mul (m : Nat) (c : Int) : ∀ f : Nat → Int, DN m (fun n => c * f n) = fun n => c * DN m f n := by
  induction m with
  | zero => intros; rfl
  | succ m ih =>
    intro f
    funext n
    show DN m (fun n => c * f n) (n + 1) - DN m (fun n => c * f n) n = c * (DN m f (n + 1) - DN m f n)
    rw [ih]
    show c * DN m f (n + 1) - c * DN m f n = _
    rw [Int.mul_sub]
theorem DN_shift (m : Nat) : ∀ f : Nat → Int, DN m (fun n => f (n + 1)) = fun n => DN m f (n + 1) := by
  induction m with
  | zero => intros; rfl
  | succ m ih =>
    intro f
    funext n
    show DN m (fun n => f (n + 1)) (n + 1) - DN m (fun n => f (n + 1)) n = DN m f (n + 1 + 1) - DN m f (n + 1)
    rw [ih]
theorem Sm.add {m : Nat} {f g : Nat → Int} (h : Sm m f) (k : Sm m g) : Sm m (fun n => f n + g n) := fun n => by
  rw [DN_add]
  show DN m f n + DN m g n = 0
  rw [h, k]
  rfl
theorem Sm.mul {m : Nat} {f : Nat → Int} (c : Int) (h : Sm m f) : Sm m (fun n => c * f n) := fun n => by
  rw [DN_mul]
  show c * DN m f n = 0
  rw [h, Int.mul_zero]
theorem Sm.zero (m : Nat) : Sm m (fun _ => 0) := Sm.le (m := 0) (fun _ => rfl) (Nat.zero_le m)
theorem Sm.times {m : Nat} : ∀ {f : Nat → Int}, Sm m f → Sm (m + 1) (fun (n : Nat) => (n : Int) * f n) := by
  induction m with
  | zero =>
    intro f h n
    have e : ∀ k, f k = 0 := h
    show ((n + 1 : Nat) : Int) * f (n + 1) - (n : Int) * f n = 0
    rw [e, e]
    simp
  | succ m ih =>
    intro f h
    refine Sm.step ?_
    have e : Df (fun (n : Nat) => (n : Int) * f n) = fun (n : Nat) => (n : Int) * Df f n + f (n + 1) := by
      funext n
      show ((n + 1 : Nat) : Int) * f (n + 1) - (n : Int) * f n = (n : Int) * (f (n + 1) - f n) + f (n + 1)
      rw [Int.natCast_add, Int.add_mul, Int.mul_sub]
      omega
    rw [e]
    refine Sm.add (ih h.back) fun n => ?_
    rw [DN_shift]
    exact h (n + 1)
theorem Sm.pow : ∀ k : Nat, Sm (k + 1) (fun n => (n : Int) ^ k)
  | 0 => fun n => by
    show ((n + 1 : Nat) : Int) ^ 0 - ((n : Nat) : Int) ^ 0 = 0
    simp
  | k + 1 => by
    have h := (Sm.pow k).times
    have e : (fun n : Nat => (n : Int) * (n : Int) ^ k) = fun n : Nat => (n : Int) ^ (k + 1) := by
      funext n
      rw [Int.pow_succ, Int.mul_comm]
    rw [e] at h
    exact h
/-- made of powers -/
def poly (cs : List Int) (n : Nat) : Int := (cs.zipIdx.map fun p => p.1 * (n : Int) ^ p.2).sum
theorem sm_polyFrom : ∀ (cs : List Int) (k m : Nat), k + cs.length ≤ m → Sm m (fun n => ((cs.zipIdx k).map fun p => p.1 * (n : Int) ^ p.2).sum)
  | [], _, m, _ => Sm.zero m
  | c :: r, k, m, h => by
    have ih := sm_polyFrom r (k + 1) m (by rw [List.length_cons] at h; omega)
    have e : (fun n : Nat => (((c :: r).zipIdx k).map fun p => p.1 * (n : Int) ^ p.2).sum) = fun n : Nat => c * (n : Int) ^ k + ((r.zipIdx (k + 1)).map fun p => p.1 * (n : Int) ^ p.2).sum := by
      funext n
      rw [List.zipIdx_cons, List.map_cons, List.sum_cons]
    rw [e]
    exact Sm.add (Sm.mul c ((Sm.pow k).le (by rw [List.length_cons] at h; omega))) ih
theorem sm_poly (cs : List Int) : Sm cs.length (poly cs) := sm_polyFrom cs 0 cs.length (by omega)
/-- a line is smooth to d -/
def SmL (m : Nat) (l : List Int) : Prop := ∀ z ∈ diffsN m l, z = 0
theorem SmL.of {m n : Nat} {f : Nat → Int} (h : Sm m f) : SmL m (line f n) := fun z hz => by
  rw [diffsN_line] at hz
  obtain ⟨i, _, e⟩ := List.mem_map.mp hz
  rw [← e]
  exact h i
/-! one worth changed -/
def bump (i : Nat) (n : Nat) : Int := if n = i then 1 else 0
def bin : Nat → Nat → Nat
  | _, 0 => 1
  | 0, _ + 1 => 0
  | n + 1, k + 1 => bin n k + bin n (k + 1)
def alt (n : Nat) : Int := if n % 2 = 0 then 1 else -1
theorem alt_succ (n : Nat) : alt (n + 1) = - alt n := by
  unfold alt
  rcases Nat.mod_two_eq_zero_or_one n with h | h
  · rw [if_neg (by omega), if_pos h]
  · rw [if_pos (by omega), if_neg (by omega)]
    rfl
theorem bin_pos : ∀ {n k : Nat}, k ≤ n → 0 < bin n k
  | n, 0, _ => by
    cases n <;> exact Nat.one_pos
  | 0, k + 1, h => by omega
  | n + 1, k + 1, h => by
    have := bin_pos (n := n) (k := k) (by omega)
    show 0 < bin n k + bin n (k + 1)
    omega
theorem bin_big : ∀ {n k : Nat}, n < k → bin n k = 0
  | _, 0, h => by omega
  | 0, _ + 1, _ => rfl
  | n + 1, k + 1, h => by
    show bin n k + bin n (k + 1) = 0
    rw [bin_big (by omega), bin_big (by omega)]
theorem alt_sq (n : Nat) : alt n = 1 ∨ alt n = -1 := by
  unfold alt
  split
  · exact .inl rfl
  · exact .inr rfl
theorem DN_bump (m : Nat) : ∀ i j : Nat, DN m (bump i) j = if j ≤ i then alt (m + i + j) * (bin m (i - j) : Int) else 0 := by
  induction m with
  | zero =>
    intro i j
    show bump i j = _
    unfold bump
    by_cases h : j = i
    · rw [if_pos h, if_pos (by omega), h, Nat.sub_self]
      have e : alt (0 + i + i) = 1 := by
        unfold alt
        rw [if_pos (by omega)]
      rw [e]
      cases i <;> rfl
    · rw [if_neg h]
      by_cases h2 : j ≤ i
      · rw [if_pos h2, bin_big (by omega)]
        simp
      · rw [if_neg h2]
  | succ m ih =>
    intro i j
    show DN m (bump i) (j + 1) - DN m (bump i) j = _
    rw [ih, ih]
    have e1 : alt (m + i + (j + 1)) = - alt (m + i + j) := by
      rw [← alt_succ, Nat.add_assoc (m + i) j 1]
    have e2 : alt (m + 1 + i + j) = - alt (m + i + j) := by
      rw [← alt_succ, show m + i + j + 1 = m + 1 + i + j by omega]
    by_cases h1 : j + 1 ≤ i
    · rw [if_pos h1, if_pos (by omega), if_pos (by omega), e1, e2]
      obtain ⟨k, hk⟩ : ∃ k, i - j = k + 1 := ⟨i - j - 1, by omega⟩
      rw [hk, show i - (j + 1) = k by omega]
      show _ = -alt (m + i + j) * ((bin m k + bin m (k + 1) : Nat) : Int)
      rw [Int.natCast_add, Int.mul_add, Int.neg_mul, Int.neg_mul]
      omega
    · rw [if_neg h1]
      by_cases h2 : j ≤ i
      · rw [if_pos h2, if_pos h2, e2, show i - j = 0 by omega]
        have e3 : ∀ n, bin n 0 = 1 := fun n => by cases n <;> rfl
        rw [e3, e3, Int.neg_mul]
        omega
      · rw [if_neg h2, if_neg h2]
        rfl
/-- smooth numbers with one changed are not smooth -/
theorem bent_not {m n i : Nat} {f : Nat → Int} {c : Int} (h : Sm m f) (hi : i < n) (hm : m < n) (hc : c ≠ 0) : ¬ SmL m (line (fun k => f k + c * bump i k) n) := fun z => by
  have hj : min i (n - 1 - m) < n - m := by omega
  have q := z (DN m (fun k => f k + c * bump i k) (min i (n - 1 - m))) (by
    rw [diffsN_line]
    exact List.mem_map.mpr ⟨_, List.mem_range.mpr hj, rfl⟩)
  rw [DN_add, DN_mul] at q
  have q2 : DN m f (min i (n - 1 - m)) + c * DN m (bump i) (min i (n - 1 - m)) = 0 := q
  rw [h, DN_bump, if_pos (by omega), Int.zero_add] at q2
  have p := bin_pos (n := m) (k := i - min i (n - 1 - m)) (by omega)
  rcases Int.mul_eq_zero.mp q2 with e | e
  · exact hc e
  · rcases Int.mul_eq_zero.mp e with e | e
    · rcases alt_sq (m + i + min i (n - 1 - m)) with a | a <;> rw [a] at e <;> omega
    · omega
end Ly
namespace Ly
open PySem L2
theorem cut1 (xs : List V) : cutV xs (some 1) none = xs.drop 1 := by
  unfold cutV
  rw [show HT.sIx xs.length 0 (some 1) = min 1 xs.length from HT.sIx_nat xs.length 0 1, HT.sIx_none]
  cases xs with
  | nil => rfl
  | cons x r =>
    rw [show min 1 (x :: r).length = 1 by rw [List.length_cons]; omega, List.take_of_length_le]
    rw [List.length_drop]
    exact Nat.le_refl _
/-- all differences of an order are nought -/
def smB (m : Nat) (l : List Int) : Bool := (diffsN m l).all fun z => decide (z = 0)
theorem smB_iff {m : Nat} {l : List Int} : smB m l = true ↔ SmL m l := by
  unfold smB SmL
  rw [List.all_eq_true]
  exact ⟨fun h z hz => of_decide_eq_true (h z hz), fun h z hz => decide_eq_true (h z hz)⟩
end Ly

/-! ### the mathematics: sums, moments, evenness -/
namespace Ly
/-- the sum of the first n -/
def sumTo : Nat → (Nat → Int) → Int
  | 0, _ => 0
  | n + 1, g => sumTo n g + g n
theorem sumTo_ext {n : Nat} {f g : Nat → Int} (h : ∀ i, i < n → f i = g i) : sumTo n f = sumTo n g := by
  induction n with
  | zero => rfl
  | succ n ih =>
    show sumTo n f + f n = sumTo n g + g n
    rw [ih fun i hi => h i (by omega), h n (by omega)]
theorem sumTo_add (n : Nat) (f g : Nat → Int) : sumTo n (fun i => f i + g i) = sumTo n f + sumTo n g := by
  induction n with
  | zero => rfl
  | succ n ih =>
    show sumTo n (fun i => f i + g i) + (f n + g n) = (sumTo n f + f n) + (sumTo n g + g n)
    rw [ih]
    omega
theorem sumTo_mul (n : Nat) (c : Int) (f : Nat → Int) : sumTo n (fun i => c * f i) = c * sumTo n f := by
  induction n with
  | zero => rw [sumTo, sumTo, Int.mul_zero]
  | succ n ih =>
    show sumTo n (fun i => c * f i) + c * f n = c * (sumTo n f + f n)
    rw [ih, Int.mul_add]
theorem sumTo_zero {n : Nat} {f : Nat → Int} (h : ∀ i, i < n → f i = 0) : sumTo n f = 0 := by
  induction n with
  | zero => rfl
  | succ n ih =>
    show sumTo n f + f n = 0
    rw [ih fun i hi => h i (by omega), h n (by omega)]
    rfl
theorem sumTo_sub (n : Nat) (f g : Nat → Int) : sumTo n (fun i => f i - g i) = sumTo n f - sumTo n g := by
  induction n with
  | zero => rfl
  | succ n ih =>
    show sumTo n (fun i => f i - g i) + (f n - g n) = (sumTo n f + f n) - (sumTo n g + g n)
    rw [ih]
    omega
theorem line_sum (f : Nat → Int) (n : Nat) : (line f n).sum = sumTo n f := by
  induction n with
  | zero => rfl
  | succ n ih =>
    rw [line, List.range_succ, List.map_append, List.sum_append]
    show (line f n).sum + _ = sumTo n f + f n
    rw [ih, List.map_singleton, List.sum_cons, List.sum_nil, Int.add_zero]
/-- sums over all places up to each -/
def Su (s : Nat → Int) : Nat → Int := fun i => sumTo (i + 1) s
def SN : Nat → (Nat → Int) → Nat → Int
  | 0, s => s
  | k + 1, s => Su (SN k s)
theorem SN_succ (k : Nat) (s : Nat → Int) : SN (k + 1) s = SN k (Su s) := by
  induction k with
  | zero => rfl
  | succ k ih =>
    show Su (SN (k + 1) s) = Su (SN k (Su s))
    rw [ih]
theorem SN_ext {k : Nat} {s t : Nat → Int} {n : Nat} (h : ∀ i, i < n → s i = t i) : ∀ i, i < n → SN k s i = SN k t i := by
  induction k with
  | zero => exact h
  | succ k ih => exact fun i hi => sumTo_ext fun j hj => ih j (by omega)
/-- the sums of order k of a line -/
def psums (l : List Int) : List Int := (List.range l.length).map fun i => (l.take (i + 1)).sum
def psumsN : Nat → List Int → List Int
  | 0, l => l
  | k + 1, l => psums (psumsN k l)
theorem psums_len (l : List Int) : (psums l).length = l.length := by rw [psums, List.length_map, List.length_range]
theorem psumsN_len (k : Nat) (l : List Int) : (psumsN k l).length = l.length := by
  induction k with
  | zero => rfl
  | succ k ih =>
    show (psums (psumsN k l)).length = _
    rw [psums_len, ih]
theorem line_take {f : Nat → Int} {n i : Nat} (h : i ≤ n) : (line f n).take i = line f i := by
  refine line_ext (by rw [List.length_take, line_len]; omega) fun j hj => ?_
  rw [List.getElem?_take_of_lt hj, line_at (by omega)]
theorem psums_line (s : Nat → Int) (n : Nat) : psums (line s n) = line (Su s) n := by
  refine line_ext (by rw [psums_len, line_len]) fun i hi => ?_
  rw [psums, List.getElem?_map, line_len, List.getElem?_range hi]
  show some ((line s n).take (i + 1)).sum = _
  rw [line_take (by omega), line_sum]
  rfl
theorem psumsN_line (k : Nat) (s : Nat → Int) (n : Nat) : psumsN k (line s n) = line (SN k s) n := by
  induction k with
  | zero => rfl
  | succ k ih =>
    show psums (psumsN k (line s n)) = _
    rw [ih, psums_line]
    rfl
/-- the last sums of the orders from 1 to m are nought -/
def Lz (n : Nat) (s : Nat → Int) (m : Nat) : Prop := ∀ k, k < m → sumTo n (SN k s) = 0
theorem Lz.first {n m : Nat} {s : Nat → Int} (h : Lz n s (m + 1)) : sumTo n s = 0 := h 0 (by omega)
theorem Lz.rest {n m : Nat} {s : Nat → Int} (h : Lz n s (m + 1)) : Lz n (Su s) m := fun k hk => by
  rw [← SN_succ]
  exact h (k + 1) (by omega)
theorem Lz.mk {n m : Nat} {s : Nat → Int} (h : sumTo n s = 0) (r : Lz n (Su s) m) : Lz n s (m + 1) := fun k hk => by
  cases k with
  | zero => exact h
  | succ k =>
    rw [SN_succ]
    exact r k (by omega)
/-- sums by parts -/
theorem parts (n : Nat) (s f : Nat → Int) : sumTo n (fun i => s i * f i) = sumTo n s * f n - sumTo n (fun i => Su s i * Df f i) := by
  induction n with
  | zero =>
    show (0 : Int) = 0 * f 0 - 0
    rw [Int.zero_mul]
    rfl
  | succ n ih =>
    show sumTo n (fun i => s i * f i) + s n * f n = sumTo (n + 1) s * f (n + 1) - (sumTo n (fun i => Su s i * Df f i) + sumTo (n + 1) s * (f (n + 1) - f n))
    rw [ih, Int.mul_sub]
    show _ = sumTo (n + 1) s * f (n + 1) - (_ + (_ - (sumTo n s + s n) * f n))
    rw [Int.add_mul]
    omega
theorem parts0 {n : Nat} {s : Nat → Int} (h : sumTo n s = 0) (f : Nat → Int) : sumTo n (fun i => s i * f i) = - sumTo n (fun i => Su s i * Df f i) := by
  rw [parts, h, Int.zero_mul]
  omega
/-- then at all that is smooth it comes to nought -/
theorem Lz.smooth {m : Nat} : ∀ {n : Nat} {s f : Nat → Int}, Lz n s m → Sm m f → sumTo n (fun i => s i * f i) = 0 := by
  induction m with
  | zero =>
    intro n s f _ hf
    have e : ∀ i, f i = 0 := hf
    exact sumTo_zero fun i _ => by rw [e i, Int.mul_zero]
  | succ m ih =>
    intro n s f h hf
    rw [parts0 h.first, ih h.rest hf.back]
    rfl
/-- moments below m are nought -/
def Mz (n : Nat) (s : Nat → Int) (m : Nat) : Prop := ∀ k, k < m → sumTo n (fun i => s i * (i : Int) ^ k) = 0
theorem Lz.moments {n m : Nat} {s : Nat → Int} (h : Lz n s m) : Mz n s m := fun k hk => h.smooth ((Sm.pow k).le hk)
/-- made of powers below m -/
inductive Pw (m : Nat) : (Nat → Int) → Prop
  | nil : Pw m (fun _ => 0)
  | more {f : Nat → Int} (c : Int) (k : Nat) (hk : k < m) : Pw m f → Pw m (fun i => c * (i : Int) ^ k + f i)
theorem Pw.add {m : Nat} {f g : Nat → Int} (hf : Pw m f) (hg : Pw m g) : Pw m (fun i => f i + g i) := by
  induction hf with
  | nil =>
    have e : (fun i => (0 : Int) + g i) = g := funext fun i => Int.zero_add _
    rw [e]
    exact hg
  | @more f c k hk _ ih =>
    have e : (fun i : Nat => c * (i : Int) ^ k + f i + g i) = fun i : Nat => c * (i : Int) ^ k + (f i + g i) := funext fun i => Int.add_assoc _ _ _
    rw [e]
    exact .more c k hk ih
theorem Pw.le {m k : Nat} {f : Nat → Int} (h : Pw m f) (l : m ≤ k) : Pw k f := by
  induction h with
  | nil => exact .nil
  | more c j hj _ ih => exact .more c j (by omega) ih
theorem Pw.times {m : Nat} {f : Nat → Int} (h : Pw m f) : Pw (m + 1) (fun i => (i : Int) * f i) := by
  induction h with
  | nil =>
    have e : (fun i : Nat => (i : Int) * 0) = fun _ => (0 : Int) := funext fun i => Int.mul_zero _
    rw [e]
    exact .nil
  | @more f c k hk _ ih =>
    have e : (fun i : Nat => (i : Int) * (c * (i : Int) ^ k + f i)) = fun i : Nat => c * (i : Int) ^ (k + 1) + (i : Int) * f i := funext fun i => by
      rw [Int.mul_add, Int.pow_succ, ← Int.mul_assoc, Int.mul_comm (i : Int) c, Int.mul_assoc, Int.mul_comm (i : Int) ((i : Int) ^ k)]
    rw [e]
    exact .more c (k + 1) (by omega) ih
theorem Pw.at {m n : Nat} {s f : Nat → Int} (h : Pw m f) (z : Mz n s m) : sumTo n (fun i => s i * f i) = 0 := by
  induction h with
  | nil => exact sumTo_zero fun i _ => Int.mul_zero _
  | @more f c k hk _ ih =>
    have e : (fun i : Nat => s i * (c * (i : Int) ^ k + f i)) = fun i => c * (s i * (i : Int) ^ k) + s i * f i := funext fun i => by
      rw [Int.mul_add, ← Int.mul_assoc, Int.mul_comm (s i) c, Int.mul_assoc]
    rw [e, sumTo_add, sumTo_mul, z k hk, ih, Int.mul_zero]
    rfl
/-- the difference of a power -/
theorem pow_step (k : Nat) : ∃ r, Pw k r ∧ ∀ i : Nat, ((i : Int) + 1) ^ (k + 1) = (i : Int) ^ (k + 1) + ((k : Int) + 1) * (i : Int) ^ k + r i := by
  induction k with
  | zero => exact ⟨_, .nil, fun i => by simp [Int.pow_succ, Int.pow_zero]⟩
  | succ k ih =>
    obtain ⟨r, hr, h⟩ := ih
    refine ⟨fun i => ((k : Int) + 1) * (i : Int) ^ k + ((i : Int) * r i + r i), .more _ k (by omega) (Pw.add hr.times (hr.le (by omega))), fun i => ?_⟩
    have e1 : (i : Int) ^ (k + 1 + 1) = (i : Int) ^ (k + 1) * (i : Int) := Int.pow_succ _ _
    have e2 : (i : Int) ^ (k + 1) = (i : Int) ^ k * (i : Int) := Int.pow_succ _ _
    show _ = (i : Int) ^ (k + 1 + 1) + (((k + 1 : Nat) : Int) + 1) * (i : Int) ^ (k + 1) + (((k : Int) + 1) * (i : Int) ^ k + ((i : Int) * r i + r i))
    rw [Int.pow_succ, h i, e1, e2, Int.mul_add, Int.add_mul, Int.add_mul, Int.mul_one, Int.natCast_succ]
    generalize (i : Int) ^ k = p
    generalize (i : Int) = x
    generalize r i = q
    generalize (k : Int) = c
    have a1 : (c + 1) * p * x = (c + 1) * (p * x) := Int.mul_assoc _ _ _
    have a2 : (c + 1 + 1) * (p * x) = (c + 1) * (p * x) + p * x := by rw [Int.add_mul (c + 1) 1, Int.one_mul]
    rw [a1, a2, Int.mul_comm x q]
    generalize (c + 1) * (p * x) = u
    generalize (c + 1) * p = v
    omega
theorem Mz.sums {n m : Nat} {s : Nat → Int} (h : Mz n s (m + 1)) : Mz n (Su s) m := by
  have h0 : sumTo n s = 0 := by
    rw [← h 0 (by omega)]
    exact sumTo_ext fun i _ => by rw [Int.pow_zero, Int.mul_one]
  intro k
  refine Nat.strongRecOn k ?_
  intro k ih hk
  obtain ⟨r, hr, e⟩ := pow_step k
  have z := parts0 h0 (fun i : Nat => (i : Int) ^ (k + 1))
  rw [h (k + 1) (by omega)] at z
  have e2 : (fun i => Su s i * Df (fun i : Nat => (i : Int) ^ (k + 1)) i) = fun i => ((k : Int) + 1) * (Su s i * (i : Int) ^ k) + Su s i * r i := funext fun i => by
    show Su s i * (((i + 1 : Nat) : Int) ^ (k + 1) - (i : Int) ^ (k + 1)) = _
    rw [Int.natCast_succ, e i]
    have e3 : (i : Int) ^ (k + 1) + ((k : Int) + 1) * (i : Int) ^ k + r i - (i : Int) ^ (k + 1) = ((k : Int) + 1) * (i : Int) ^ k + r i := by omega
    rw [e3, Int.mul_add, ← Int.mul_assoc, Int.mul_comm (Su s i) ((k : Int) + 1), Int.mul_assoc]
  rw [e2, sumTo_add, sumTo_mul, hr.at fun j hj => ih j hj (by omega)] at z
  have z2 : ((k : Int) + 1) * sumTo n (fun i => Su s i * (i : Int) ^ k) = 0 := by omega
  rcases Int.mul_eq_zero.mp z2 with q | q
  · omega
  · exact q
theorem Mz.last {m : Nat} : ∀ {n : Nat} {s : Nat → Int}, Mz n s m → Lz n s m := by
  induction m with
  | zero => exact fun _ k hk => absurd hk (Nat.not_lt_zero k)
  | succ m ih =>
    intro n s h
    refine .mk ?_ (ih h.sums)
    rw [← h 0 (by omega)]
    exact sumTo_ext fun i _ => by rw [Int.pow_zero, Int.mul_one]
theorem lz_iff {n m : Nat} {s : Nat → Int} : Lz n s m ↔ Mz n s m := ⟨Lz.moments, Mz.last⟩
/-- numbers gone on smoothly -/
theorem smooth_on : ∀ (n : Nat) (l : List Int), l.length = n → ∃ f, Sm n f ∧ ∀ i, i < n → l[i]? = some (f i)
  | 0, _, _ => ⟨fun _ => 0, fun _ => rfl, fun i h => absurd h (Nat.not_lt_zero i)⟩
  | n + 1, l, hl => by
    obtain ⟨g, hg, h⟩ := smooth_on n (diffs l) (by rw [diffs_len]; omega)
    refine ⟨fun i => l.getD 0 0 + sumTo i g, .step ?_, ?_⟩
    · have e : Df (fun i => l.getD 0 0 + sumTo i g) = g := funext fun i => by
        show l.getD 0 0 + (sumTo i g + g i) - (l.getD 0 0 + sumTo i g) = g i
        omega
      rw [e]
      exact hg
    · intro i hi
      induction i with
      | zero =>
        rw [List.getElem?_eq_getElem (by omega)]
        show some _ = some (l.getD 0 0 + 0)
        rw [List.getD_eq_getElem?_getD, List.getElem?_eq_getElem (by omega), Int.add_zero]
        rfl
      | succ i ih =>
        have a := ih (by omega)
        have b := h i (by omega)
        have c := List.getElem?_eq_getElem (l := l) (i := i + 1) (by omega)
        rw [diffs_at l i _ _ a c] at b
        have b2 : l[i + 1] - (l.getD 0 0 + sumTo i g) = g i := Option.some.inj b
        rw [c]
        show some _ = some (l.getD 0 0 + (sumTo i g + g i))
        congr 1
        omega
theorem sq_sum {n : Nat} {f : Nat → Int} (h : sumTo n (fun i => f i * f i) = 0) : ∀ i, i < n → f i = 0 := by
  have pos : ∀ n, 0 ≤ sumTo n (fun i => f i * f i) := fun n => by
    induction n with
    | zero => exact Int.le_refl 0
    | succ n ih =>
      have q : 0 ≤ f n * f n := by
        rcases Int.le_total 0 (f n) with c | c
        · exact Int.mul_nonneg c c
        · exact Int.mul_nonneg_of_nonpos_of_nonpos c c
      show 0 ≤ sumTo n (fun i => f i * f i) + f n * f n
      omega
  induction n with
  | zero => exact fun i hi => absurd hi (Nat.not_lt_zero i)
  | succ n ih =>
    have q : 0 ≤ f n * f n := by
      rcases Int.le_total 0 (f n) with c | c
      · exact Int.mul_nonneg c c
      · exact Int.mul_nonneg_of_nonpos_of_nonpos c c
    have z : sumTo n (fun i => f i * f i) + f n * f n = 0 := h
    have p := pos n
    intro i hi
    by_cases c : i = n
    · rw [c]
      rcases Int.mul_eq_zero.mp (show f n * f n = 0 by omega) with e | e <;> exact e
    · exact ih (by omega) i (by omega)
/-- as many last sums as places are nought of nothing but noughts -/
theorem Lz.none {n : Nat} {s : Nat → Int} (h : Lz n s n) : ∀ i, i < n → s i = 0 := by
  obtain ⟨f, hf, e⟩ := smooth_on n (line s n) (line_len s n)
  have e2 : ∀ i, i < n → f i = s i := fun i hi => by
    have a := e i hi
    rw [line_at hi] at a
    exact (Option.some.inj a).symm
  have z := h.smooth hf
  rw [sumTo_ext (g := fun i => s i * s i) fun i hi => by rw [e2 i hi]] at z
  exact sq_sum z
end Ly
namespace Ly
open PySem L2
/-- the signs of two hands, place by place -/
def sg (row : List Int) (a b : Int) : Nat → Int := fun i => signOf (row.getD i 0) a b
theorem signsOf_line (row : List Int) (a b : Int) : signsOf row a b = line (sg row a b) row.length := by
  refine line_ext (signsOf_len row a b) fun i hi => ?_
  rw [signsOf, List.getElem?_map, List.getElem?_eq_getElem hi]
  show some (signOf row[i] a b) = some (signOf (row.getD i 0) a b)
  rw [List.getD_eq_getElem?_getD, List.getElem?_eq_getElem hi]
  rfl
/-- each two of the hands are even: the last sums of the orders from 1 to m are nought -/
def REv (hands : Int) (row : List Int) (m : Nat) : Prop := ∀ a b : Nat, a < b → (b : Int) < hands → Lz row.length (sg row a b) m
/-- what a hand has of the k-th powers of its places -/
def mom (row : List Int) (h : Int) (k : Nat) : Int := sumTo row.length fun i => if row.getD i 0 = h then (i : Int) ^ k else 0
theorem sg_mom (row : List Int) {a b : Int} (hab : a ≠ b) (k : Nat) : sumTo row.length (fun i => sg row a b i * (i : Int) ^ k) = mom row a k - mom row b k := by
  rw [mom, mom, ← sumTo_sub]
  refine sumTo_ext fun i _ => ?_
  unfold sg signOf
  by_cases h1 : row.getD i 0 = a
  · rw [if_pos h1, if_pos h1, if_neg (fun z => hab (h1.symm.trans z)), Int.one_mul, Int.sub_zero]
  · by_cases h2 : row.getD i 0 = b
    · rw [if_neg h1, if_pos h2, if_neg h1, if_pos h2, Int.neg_mul, Int.one_mul, Int.zero_sub]
    · rw [if_neg h1, if_neg h2, if_neg h1, if_neg h2, Int.zero_mul]
      rfl
theorem rev_mom {hands : Int} (hh : 0 < hands) {row : List Int} {m : Nat} : REv hands row m ↔ ∀ h : Nat, (h : Int) < hands → ∀ k, k < m → mom row h k = mom row 0 k := by
  have key : ∀ a b : Nat, a < b → (Lz row.length (sg row a b) m ↔ ∀ k, k < m → mom row a k = mom row b k) := fun a b hab => by
    rw [lz_iff]
    have ne : (a : Int) ≠ (b : Int) := by omega
    constructor
    · intro h k hk
      have := h k hk
      rw [sg_mom row ne] at this
      omega
    · intro h k hk
      show sumTo row.length (fun i => sg row a b i * (i : Int) ^ k) = 0
      rw [sg_mom row ne, h k hk]
      omega
  constructor
  · intro h x hx k hk
    cases x with
    | zero => rfl
    | succ x =>
      have := (key 0 (x + 1) (by omega)).mp (h 0 (x + 1) (by omega) hx) k hk
      exact this.symm
  · intro h a b hab hb
    exact (key a b hab).mpr fun k hk => by rw [h a (by omega) k hk, h b hb k hk]
/-- no row of hands is even to a degree as great as places -/
theorem rev_ends {hands : Int} {row : List Int} (ok : RowOk hands row) : ¬ REv hands row row.length := by
  obtain ⟨h1, _, h3, _, h5⟩ := ok
  intro h
  cases row with
  | nil => exact h3 rfl
  | cons t r =>
    obtain ⟨t0, t1⟩ := h5 t List.mem_cons_self
    have s1 : ∀ a b : Nat, a < b → (b : Int) < hands → sg (t :: r) a b 0 = 0 := fun a b hab hb => (h a b hab hb).none 0 (by rw [List.length_cons]; omega)
    have e : ∀ a b : Nat, sg (t :: r) a b 0 = signOf t a b := fun a b => rfl
    by_cases c : t = 0
    · have := s1 0 1 (by omega) (by omega)
      rw [e, signOf, if_pos (show t = ((0 : Nat) : Int) from c)] at this
      cases this
    · have := s1 0 t.toNat (by omega) (by omega)
      rw [e, signOf, if_neg (show ¬ t = ((0 : Nat) : Int) from c), if_pos (Int.toNat_of_nonneg t0).symm] at this
      cases this
theorem REv.le {hands : Int} {row : List Int} {m k : Nat} (h : REv hands row m) (l : k ≤ m) : REv hands row k := fun a b hab hb j hj => h a b hab hb j (by omega)
/-- the evenness: to just one degree it is the first that fails -/
theorem evn_one {p : Nat → Prop} {d e : Nat} (h1 : ∀ j, j < d → p j) (h2 : ¬ p d) (h3 : ∀ j, j < e → p j) (h4 : ¬ p e) : d = e := by
  rcases Nat.lt_trichotomy d e with c | c | c
  · exact absurd (h3 d c) h2
  · exact c
  · exact absurd (h1 e c) h4
theorem cut_to (xs : List V) (j : Nat) : cutV xs none (some (j : Int)) = xs.take j := by
  unfold cutV
  rw [show HT.sIx xs.length xs.length (some (j : Int)) = min j xs.length from HT.sIx_nat xs.length xs.length j, HT.sIx_none, List.drop_zero, Nat.sub_zero]
  by_cases c : j ≤ xs.length
  · rw [Nat.min_eq_left c]
  · rw [Nat.min_eq_right (by omega), List.take_length, List.take_of_length_le (by omega)]
theorem at_end {l : List Int} {n : Nat} {z : Int} (hl : l.length = n + 1) (h : l[n]? = some z) : atI (l.map V.int) (-1) = some (.int z) := by
  unfold atI ixN
  rw [if_neg (by decide), List.length_map, hl, if_pos (by omega)]
  show (l.map V.int)[((-1 : Int) + ((n + 1 : Nat) : Int)).toNat]? = _
  rw [show ((-1 : Int) + ((n + 1 : Nat) : Int)).toNat = n by omega, List.getElem?_map, h]
  rfl
/-- a pair of hands at x -/
def PrAt (H : Hp) (x : V) (a b : Nat) : Prop := ∃ u, x = .ref u ∧ H u = some (.tup [.int (a : Int), .int (b : Int)])
/-- the pairs whose first is below i -/
def Prs (i m : Nat) (rs : List V) (H : Hp) : Prop := (∀ x ∈ rs, ∃ a b, a < b ∧ b < m ∧ a < i ∧ PrAt H x a b) ∧ ∀ a b, a < b → b < m → a < i → ∃ x ∈ rs, PrAt H x a b
theorem PrAt.keep {H H' : Hp} {x : V} {a b : Nat} (h : PrAt H x a b) (k : ∀ u xs, H u = some (.tup xs) → H' u = some (.tup xs)) : PrAt H' x a b := by
  obtain ⟨u, e, r⟩ := h
  exact ⟨u, e, k _ _ r⟩
theorem Prs.keep {H H' : Hp} {i m : Nat} {rs : List V} (h : Prs i m rs H) (k : ∀ u xs, H u = some (.tup xs) → H' u = some (.tup xs)) : Prs i m rs H' := by
  refine ⟨fun x hx => ?_, fun a b h1 h2 h3 => ?_⟩
  · obtain ⟨a, b, h1, h2, h3, p⟩ := h.1 x hx
    exact ⟨a, b, h1, h2, h3, p.keep k⟩
  · obtain ⟨x, hx, p⟩ := h.2 a b h1 h2 h3
    exact ⟨x, hx, p.keep k⟩
theorem Prs.next {H : Hp} {i m : Nat} {rs ys : List V} (h : Prs i m rs H) (ly : ys.length = m - (i + 1)) (k : ∀ j, j < m - (i + 1) → ∃ x, ys[j]? = some x ∧ PrAt H x i (i + 1 + j)) : Prs (i + 1) m (rs ++ ys) H := by
  refine ⟨fun x hx => ?_, fun a b h1 h2 h3 => ?_⟩
  · rcases List.mem_append.mp hx with g | g
    · obtain ⟨a, b, h1, h2, h3, p⟩ := h.1 x g
      exact ⟨a, b, h1, h2, by omega, p⟩
    · obtain ⟨j, hj, e⟩ := List.mem_iff_getElem.mp g
      obtain ⟨y, e2, p⟩ := k j (by omega)
      rw [List.getElem?_eq_getElem hj, e] at e2
      rw [← Option.some.inj e2] at p
      exact ⟨i, i + 1 + j, by omega, by omega, by omega, p⟩
  · by_cases c : a = i
    · obtain ⟨x, e, p⟩ := k (b - (i + 1)) (by omega)
      rw [show i + 1 + (b - (i + 1)) = b by omega, ← c] at p
      exact ⟨x, List.mem_append.mpr (.inr (List.mem_of_getElem? e)), p⟩
    · obtain ⟨x, hx, p⟩ := h.2 a b h1 h2 (by omega)
      exact ⟨x, List.mem_append.mpr (.inl hx), p⟩
end Ly

/-! ### the mathematics: rows of rows, how even they are -/
namespace Ly
open PySem L2
/-- what a hand has of f at its places -/
def hs : List Int → Int → (Nat → Int) → Int
  | [], _, _ => 0
  | t :: r, h, f => (if t = h then f 0 else 0) + hs r h fun i => f (i + 1)
theorem hs_ext {h : Int} : ∀ (row : List Int) {f g : Nat → Int}, (∀ i, i < row.length → f i = g i) → hs row h f = hs row h g
  | [], _, _, _ => rfl
  | t :: r, f, g, e => by
    show (if t = h then f 0 else 0) + hs r h _ = (if t = h then g 0 else 0) + hs r h _
    rw [e 0 (by rw [List.length_cons]; omega), hs_ext r (f := fun i => f (i + 1)) (g := fun i => g (i + 1)) fun i hi => e (i + 1) (by rw [List.length_cons]; omega)]
theorem hs_add (h : Int) : ∀ (row : List Int) (f g : Nat → Int), hs row h (fun i => f i + g i) = hs row h f + hs row h g
  | [], _, _ => rfl
  | t :: r, f, g => by
    show (if t = h then f 0 + g 0 else 0) + hs r h (fun i => f (i + 1) + g (i + 1)) = ((if t = h then f 0 else 0) + hs r h _) + ((if t = h then g 0 else 0) + hs r h _)
    rw [hs_add h r]
    by_cases c : t = h
    · rw [if_pos c, if_pos c, if_pos c]
      omega
    · rw [if_neg c, if_neg c, if_neg c]
      omega
theorem hs_append (h : Int) : ∀ (a b : List Int) (f : Nat → Int), hs (a ++ b) h f = hs a h f + hs b h fun i => f (a.length + i)
  | [], b, f => by
    show hs b h f = 0 + hs b h fun i => f (0 + i)
    rw [Int.zero_add]
    exact hs_ext b fun i _ => by rw [Nat.zero_add]
  | t :: r, b, f => by
    show (if t = h then f 0 else 0) + hs (r ++ b) h _ = ((if t = h then f 0 else 0) + hs r h _) + _
    rw [hs_append h r b, Int.add_assoc, hs_ext b (f := fun i => f (r.length + i + 1)) (g := fun i => f ((t :: r).length + i)) fun i _ => by rw [List.length_cons, show r.length + i + 1 = r.length + 1 + i by omega]]
theorem hs_rev (h : Int) : ∀ (a : List Int) (f : Nat → Int), hs a.reverse h f = hs a h fun i => f (a.length - 1 - i)
  | [], _ => rfl
  | t :: r, f => by
    rw [List.reverse_cons, hs_append, hs_rev h r]
    show hs r h (fun i => f (r.length - 1 - i)) + ((if t = h then f (r.reverse.length + 0) else 0) + 0) = (if t = h then f ((t :: r).length - 1 - 0) else 0) + hs r h fun i => f ((t :: r).length - 1 - (i + 1))
    rw [List.length_reverse, List.length_cons, Int.add_zero, Int.add_comm]
    congr 1
    exact hs_ext r fun i hi => by rw [show r.length - 1 - i = r.length + 1 - 1 - (i + 1) by omega]
theorem sumTo_front (n : Nat) (f : Nat → Int) : sumTo (n + 1) f = f 0 + sumTo n fun i => f (i + 1) := by
  induction n with
  | zero =>
    show (0 : Int) + f 0 = f 0 + 0
    omega
  | succ n ih =>
    show sumTo (n + 1) f + f (n + 1) = f 0 + (sumTo n (fun i => f (i + 1)) + f (n + 1))
    rw [ih]
    omega
theorem hs_sumTo (h : Int) : ∀ (row : List Int) (f : Nat → Int), hs row h f = sumTo row.length fun i => if row.getD i 0 = h then f i else 0
  | [], _ => rfl
  | t :: r, f => by
    rw [List.length_cons, sumTo_front]
    show _ + hs r h (fun i => f (i + 1)) = _ + sumTo r.length fun i => if r.getD i 0 = h then f (i + 1) else 0
    rw [hs_sumTo h r]
    rfl
theorem sg_hs (row : List Int) {a b : Int} (hab : a ≠ b) (f : Nat → Int) : sumTo row.length (fun i => sg row a b i * f i) = hs row a f - hs row b f := by
  rw [hs_sumTo, hs_sumTo, ← sumTo_sub]
  refine sumTo_ext fun i _ => ?_
  unfold sg signOf
  by_cases h1 : row.getD i 0 = a
  · rw [if_pos h1, if_pos h1, if_neg (fun z => hab (h1.symm.trans z)), Int.one_mul, Int.sub_zero]
  · by_cases h2 : row.getD i 0 = b
    · rw [if_neg h1, if_pos h2, if_neg h1, if_pos h2, Int.neg_mul, Int.one_mul, Int.zero_sub]
    · rw [if_neg h1, if_neg h2, if_neg h1, if_neg h2, Int.zero_mul]
      rfl
/-- even: at all that is smooth all hands have alike -/
theorem rev_hs {m : Nat} (hm : 0 < m) {row : List Int} {e : Nat} : REv (m : Int) row e ↔ ∀ f, Sm e f → ∀ h : Nat, h < m → hs row (h : Int) f = hs row 0 f := by
  constructor
  · intro r f hf h hh
    cases h with
    | zero => rfl
    | succ h =>
      have := (r 0 (h + 1) (by omega) (by omega)).smooth hf
      rw [sg_hs row (by omega)] at this
      have e0 : hs row ((0 : Nat) : Int) f = hs row 0 f := rfl
      omega
  · intro r
    refine (rev_mom (by omega)).mpr fun h hh k hk => ?_
    have := r _ ((Sm.pow k).le hk) h (by omega)
    rw [hs_sumTo, hs_sumTo] at this
    exact this
theorem Sm.shift {m : Nat} {f : Nat → Int} (h : Sm m f) : ∀ c : Nat, Sm m fun i => f (c + i)
  | 0 => by
    have e : (fun i => f (0 + i)) = f := funext fun i => by rw [Nat.zero_add]
    rw [e]
    exact h
  | c + 1 => by
    have e : (fun i => f (c + 1 + i)) = fun i => (fun j => f (c + j)) (i + 1) := funext fun i => by
      show _ = f (c + (i + 1))
      rw [show c + 1 + i = c + (i + 1) by omega]
    rw [e]
    intro n
    rw [DN_shift m fun j => f (c + j)]
    exact (h.shift c) (n + 1)
theorem Sm.step_to {m : Nat} {f : Nat → Int} (h : Sm (m + 1) f) : ∀ c : Nat, Sm m fun i => f (c + i) - f i
  | 0 => by
    have e : (fun i => f (0 + i) - f i) = fun _ => 0 := funext fun i => by rw [Nat.zero_add]; exact Int.sub_self _
    rw [e]
    exact Sm.zero m
  | c + 1 => by
    have e : (fun i => f (c + 1 + i) - f i) = fun i => Df f (c + i) + (f (c + i) - f i) := funext fun i => by
      show _ = (f (c + i + 1) - f (c + i)) + _
      rw [show c + 1 + i = c + i + 1 by omega]
      omega
    rw [e]
    exact Sm.add (h.back.shift c) (h.step_to c)
theorem mod_back {m : Nat} (hm : 2 ≤ m ∧ m ≤ 4) {x t h : Int} (x0 : 0 ≤ x) (x1 : x < m) (h0 : 0 ≤ h) (h1 : h < m) : (x + t) % (m : Int) = h ↔ x = (h - t) % (m : Int) := by
  obtain ⟨a, b⟩ := hm
  have c : m = 2 ∨ m = 3 ∨ m = 4 := by omega
  rcases c with rfl | rfl | rfl <;> omega
theorem hs_moved {m : Nat} (hm : 2 ≤ m ∧ m ≤ 4) {t h : Int} (h0 : 0 ≤ h) (h1 : h < m) : ∀ {row : List Int} (_ : ∀ z ∈ row, 0 ≤ z ∧ z < (m : Int)) (f : Nat → Int), hs (row.map fun x => (x + t) % (m : Int)) h f = hs row ((h - t) % (m : Int)) f
  | [], _, _ => rfl
  | x :: r, ok, f => by
    show (if (x + t) % (m : Int) = h then f 0 else 0) + hs (r.map _) h _ = (if x = (h - t) % (m : Int) then f 0 else 0) + hs r _ _
    rw [hs_moved hm h0 h1 fun z hz => ok z (List.mem_cons_of_mem _ hz)]
    obtain ⟨x0, x1⟩ := ok x List.mem_cons_self
    have q := mod_back hm (t := t) x0 x1 h0 h1
    by_cases c : x = (h - t) % (m : Int)
    · rw [if_pos c, if_pos (q.mpr c)]
    · rw [if_neg c, if_neg (fun z => c (q.mp z))]
/-- a row put into one more of all hands: one degree more -/
theorem put_sum {m : Nat} (hm : 2 ≤ m ∧ m ≤ 4) {row : List Int} (ok : ∀ z ∈ row, 0 ≤ z ∧ z < (m : Int)) {e : Nat} (r : REv (m : Int) row e) {f : Nat → Int} (hf : Sm (e + 1) f) : ∀ (zs : List Int) (c : Nat),
    ∃ C, ∀ h : Int, 0 ≤ h → h < m → hs (putL (m : Int) row zs) h (fun i => f (c + i)) = (zs.map fun t => hs row ((h - t) % (m : Int)) f).sum + C
  | [], c => ⟨0, fun _ _ _ => rfl⟩
  | t :: zs, c => by
    obtain ⟨C, hC⟩ := put_sum hm ok r hf zs (c + row.length)
    refine ⟨C + hs row 0 (fun i => f (c + i) - f i), fun h h0 h1 => ?_⟩
    show hs (row.map (fun x => (x + t) % (m : Int)) ++ putL (m : Int) row zs) h (fun i => f (c + i)) = _
    rw [hs_append, List.length_map, hs_moved hm h0 h1 ok, List.map_cons, List.sum_cons]
    have e1 : hs (putL (m : Int) row zs) h (fun i => f (c + (row.length + i))) = _ := (hs_ext _ fun i _ => by rw [Nat.add_assoc]).trans (hC h h0 h1)
    have g0 : 0 ≤ (h - t) % (m : Int) := Int.emod_nonneg _ (by omega)
    have g1 : (h - t) % (m : Int) < m := Int.emod_lt_of_pos _ (by omega)
    have e2 : hs row ((h - t) % (m : Int)) (fun i => f (c + i)) = hs row ((h - t) % (m : Int)) f + hs row 0 (fun i => f (c + i) - f i) := by
      have := (rev_hs (by omega)).mp r _ (hf.step_to c) ((h - t) % (m : Int)).toNat (by omega)
      rw [Int.toNat_of_nonneg g0] at this
      rw [← this, ← hs_add]
      exact hs_ext row fun i _ => by omega
    rw [e1, e2]
    omega
theorem turn_sum {m : Nat} (hm : 2 ≤ m ∧ m ≤ 4) (F : Int → Int) {h : Int} (h0 : 0 ≤ h) (h1 : h < m) : ((nums m).map fun t => F ((h - t) % (m : Int))).sum = ((nums m).map F).sum := by
  obtain ⟨a, b⟩ := hm
  have c : m = 2 ∨ m = 3 ∨ m = 4 := by omega
  rcases c with rfl | rfl | rfl
  · have d : h = 0 ∨ h = 1 := by omega
    rcases d with rfl | rfl
    · show F 0 + (F 1 + 0) = F 0 + (F 1 + 0)
      rfl
    · show F 1 + (F 0 + 0) = F 0 + (F 1 + 0)
      omega
  · have d : h = 0 ∨ h = 1 ∨ h = 2 := by omega
    rcases d with rfl | rfl | rfl
    · show F 0 + (F 2 + (F 1 + 0)) = F 0 + (F 1 + (F 2 + 0))
      omega
    · show F 1 + (F 0 + (F 2 + 0)) = F 0 + (F 1 + (F 2 + 0))
      omega
    · show F 2 + (F 1 + (F 0 + 0)) = F 0 + (F 1 + (F 2 + 0))
      omega
  · have d : h = 0 ∨ h = 1 ∨ h = 2 ∨ h = 3 := by omega
    rcases d with rfl | rfl | rfl | rfl
    · show F 0 + (F 3 + (F 2 + (F 1 + 0))) = F 0 + (F 1 + (F 2 + (F 3 + 0)))
      omega
    · show F 1 + (F 0 + (F 3 + (F 2 + 0))) = F 0 + (F 1 + (F 2 + (F 3 + 0)))
      omega
    · show F 2 + (F 1 + (F 0 + (F 3 + 0))) = F 0 + (F 1 + (F 2 + (F 3 + 0)))
      omega
    · show F 3 + (F 2 + (F 1 + (F 0 + 0))) = F 0 + (F 1 + (F 2 + (F 3 + 0)))
      omega
theorem perm_sum {a b : List Int} (p : a.Perm b) : a.sum = b.sum := by
  induction p with
  | nil => rfl
  | cons x _ ih => rw [List.sum_cons, List.sum_cons, ih]
  | swap x y l =>
    simp only [List.sum_cons]
    omega
  | trans _ _ h1 h2 => exact h1.trans h2
theorem put_rev {m : Nat} (hm : 2 ≤ m ∧ m ≤ 4) {row : List Int} (ok : ∀ z ∈ row, 0 ≤ z ∧ z < (m : Int)) {e : Nat} (r : REv (m : Int) row e) {zs : List Int} (p : zs.Perm (nums m)) : REv (m : Int) (putL (m : Int) row zs) (e + 1) := by
  refine (rev_hs (by omega)).mpr fun f hf h hh => ?_
  obtain ⟨C, hC⟩ := put_sum hm ok r hf zs 0
  have key : ∀ h : Int, 0 ≤ h → h < m → hs (putL (m : Int) row zs) h f = ((nums m).map fun t => hs row t f).sum + C := fun h h0 h1 => by
    have e1 := hC h h0 h1
    rw [perm_sum (p.map fun t => hs row ((h - t) % (m : Int)) f), turn_sum hm (fun t => hs row t f) h0 h1] at e1
    rw [← e1]
    exact hs_ext _ fun i _ => by rw [Nat.zero_add]
  rw [key h (by omega) (by omega), key 0 (by omega) (by omega)]
/-- rows of all hands put into one another, the last first -/
def built (m : Nat) : List (List Int) → List Int
  | [] => [0]
  | zs :: r => putL (m : Int) (built m r) zs
theorem built_ok {m : Nat} (hm : 2 ≤ m ∧ m ≤ 4) : ∀ zss : List (List Int), ∀ z ∈ built m zss, 0 ≤ z ∧ z < (m : Int)
  | [], z, hz => by
    rw [List.mem_singleton.mp hz]
    omega
  | _ :: _, z, hz => putL_mem (by omega) z hz
theorem built_rev {m : Nat} (hm : 2 ≤ m ∧ m ≤ 4) : ∀ {zss : List (List Int)}, (∀ zs ∈ zss, zs.Perm (nums m)) → REv (m : Int) (built m zss) zss.length
  | [], _ => fun _ _ _ _ k hk => absurd hk (Nat.not_lt_zero k)
  | zs :: r, h => put_rev hm (built_ok hm r) (built_rev hm fun z hz => h z (List.mem_cons_of_mem _ hz)) (h zs List.mem_cons_self)
theorem sm2 {f : Nat → Int} (h : Sm 2 f) (i : Nat) : f i = f 0 + (i : Int) * (f 1 - f 0) := by
  have d : ∀ i, f (i + 1) - f i = f 1 - f 0 := fun i => by
    induction i with
    | zero => rfl
    | succ i ih =>
      have : (f (i + 1 + 1) - f (i + 1)) - (f (i + 1) - f i) = 0 := h i
      omega
  induction i with
  | zero => omega
  | succ i ih =>
    have := d i
    rw [Int.natCast_succ, Int.add_mul, Int.one_mul]
    omega
/-- a row and then the row from its end: to one degree at least -/
theorem twice_rev {m : Nat} (hm : 0 < m) {row : List Int} (r : REv (m : Int) row 1) : REv (m : Int) (row ++ row.reverse) 2 := by
  refine (rev_hs hm).mpr fun f hf h hh => ?_
  have key : ∀ h : Int, hs (row ++ row.reverse) h f = hs row h fun _ => 2 * f 0 + (2 * (row.length : Int) - 1) * (f 1 - f 0) := fun h => by
    rw [hs_append, hs_rev, ← hs_add]
    refine hs_ext row fun i hi => ?_
    rw [sm2 hf i, sm2 hf (row.length + (row.length - 1 - i))]
    have e : ((row.length + (row.length - 1 - i) : Nat) : Int) = 2 * (row.length : Int) - 1 - (i : Int) := by omega
    rw [e]
    generalize f 1 - f 0 = c
    rw [Int.sub_mul (2 * (row.length : Int) - 1) (i : Int) c]
    omega
  rw [key, key]
  exact (rev_hs hm).mp r _ (fun n => Int.sub_self _) h hh
end Ly

/-! ### the mathematics: rows nearly even, no row too even -/
namespace Ly
open PySem L2
theorem hs_set (h v : Int) : ∀ (row : List Int) (i : Nat) (f : Nat → Int) (hi : i < row.length), hs (row.set i v) h f = hs row h f - (if row[i] = h then f i else 0) + if v = h then f i else 0
  | [], _, _, hi => absurd hi (Nat.not_lt_zero _)
  | t :: r, 0, f, _ => by
    show (if v = h then f 0 else 0) + hs r h _ = (if t = h then f 0 else 0) + hs r h _ - (if t = h then f 0 else 0) + _
    omega
  | t :: r, i + 1, f, hi => by
    show (if t = h then f 0 else 0) + hs (r.set i v) h _ = (if t = h then f 0 else 0) + hs r h _ - (if r[i]'(Nat.lt_of_succ_lt_succ hi) = h then f (i + 1) else 0) + _
    rw [hs_set h v r i (fun j => f (j + 1)) (Nat.lt_of_succ_lt_succ hi)]
    omega
theorem rev_two {m : Nat} {row : List Int} {e : Nat} (r : REv (m : Int) row e) {f : Nat → Int} (hf : Sm e f) {p q : Int} (p0 : 0 ≤ p) (p1 : p < m) (q0 : 0 ≤ q) (q1 : q < m) : hs row p f = hs row q f := by
  have hm : 0 < m := by omega
  have a := (rev_hs hm).mp r f hf p.toNat (by omega)
  have b := (rev_hs hm).mp r f hf q.toNat (by omega)
  rw [Int.toNat_of_nonneg p0] at a
  rw [Int.toNat_of_nonneg q0] at b
  exact a.trans b.symm
theorem set_self {row : List Int} {i : Nat} {v : Int} (hi : i < row.length) (e : row[i] = v) : row.set i v = row := by
  rw [← e]
  exact List.set_getElem_self hi
/-- one turn given to another: the counts are not alike then -/
theorem one_rev {m : Nat} {row : List Int} (ok : RowOk (m : Int) row) (r : REv (m : Int) row 1) {i : Nat} (hi : i < row.length) {v : Int} (v0 : 0 ≤ v) (v1 : v < m) (n : ¬ REv (m : Int) row 10) : ¬ REv (m : Int) (row.set i v) 10 := by
  by_cases c : row[i] = v
  · rw [set_self hi c]
    exact n
  · intro r2
    obtain ⟨t0, t1⟩ := ok.2.2.2.2 row[i] (List.getElem_mem hi)
    have s1 : Sm 1 (fun _ => (1 : Int)) := fun n => Int.sub_self 1
    have a := rev_two r s1 t0 t1 v0 v1
    have b := rev_two (r2.le (show 1 ≤ 10 by decide)) s1 t0 t1 v0 v1
    rw [hs_set _ _ _ _ _ hi, hs_set _ _ _ _ _ hi, if_pos rfl, if_neg (Ne.symm c), if_neg c, if_pos rfl] at b
    omega
/-- two turns exchanged -/
theorem two_rev {m : Nat} {row : List Int} (ok : RowOk (m : Int) row) (r : REv (m : Int) row 2 ∨ row.length ≤ 10) {i j : Nat} (hi : i < row.length) (hj : j < row.length) (n : ¬ REv (m : Int) row 10) (ok2 : RowOk (m : Int) ((row.set i row[j]).set j row[i])) : ¬ REv (m : Int) ((row.set i row[j]).set j row[i]) 10 := by
  by_cases c : row[i] = row[j]
  · have e1 : row.set i row[j] = row := set_self hi c
    have e2 : (row.set i row[j]).set j row[i] = row := by
      rw [e1]
      exact set_self hj c.symm
    rw [e2]
    exact n
  · have ij : i ≠ j := fun e => by
      subst e
      exact c rfl
    rcases r with r | r
    · intro r2
      obtain ⟨t0, t1⟩ := ok.2.2.2.2 row[i] (List.getElem_mem hi)
      obtain ⟨u0, u1⟩ := ok.2.2.2.2 row[j] (List.getElem_mem hj)
      have s2 : Sm 2 (fun k : Nat => (k : Int)) := by
        have h := Sm.pow 1
        have e : (fun n : Nat => (n : Int) ^ 1) = fun k : Nat => (k : Int) := funext fun k => Int.pow_succ _ _ |>.trans (by rw [Int.pow_zero, Int.one_mul])
        rw [e] at h
        exact h
      have a := rev_two r s2 t0 t1 u0 u1
      have b := rev_two (r2.le (show 2 ≤ 10 by decide)) s2 t0 t1 u0 u1
      have lj : j < (row.set i row[j]).length := by rw [List.length_set]; exact hj
      have g : (row.set i row[j])[j] = row[j] := by rw [List.getElem_set_ne ij]
      rw [hs_set _ _ _ _ _ lj, hs_set _ _ _ _ _ lj, hs_set _ _ _ _ _ hi, hs_set _ _ _ _ _ hi, g, if_pos rfl, if_neg (Ne.symm c), if_neg (Ne.symm c), if_pos rfl, if_neg c, if_pos rfl, if_pos rfl, if_neg c] at b
      omega
    · exact fun r2 => rev_ends ok2 (r2.le (by rw [List.length_set, List.length_set]; exact r))
/-- short rows -/
theorem Sm.lin {m : Nat} {f : Nat → Int} (h : Sm m f) (c : Int) : Sm (m + 1) fun n => ((n : Int) + c) * f n := by
  have e : (fun n : Nat => ((n : Int) + c) * f n) = fun n : Nat => (n : Int) * f n + c * f n := funext fun n => Int.add_mul _ _ _
  rw [e]
  exact Sm.add h.times (Sm.mul c h.more)
/-- nought from 3 to 11 -/
def p9 (n : Nat) : Int := ((n : Int) + -3) * (((n : Int) + -4) * (((n : Int) + -5) * (((n : Int) + -6) * (((n : Int) + -7) * (((n : Int) + -8) * (((n : Int) + -9) * (((n : Int) + -10) * (((n : Int) + -11) * 1))))))))
theorem sm_one : Sm 1 fun _ => (1 : Int) := fun _ => Int.sub_self 1
theorem sm_p9 : Sm 10 p9 := ((((((((((sm_one).lin (-11)).lin (-10)).lin (-9)).lin (-8)).lin (-7)).lin (-6)).lin (-5)).lin (-4)).lin (-3))
theorem short_rev {m : Nat} {row : List Int} (ok : RowOk (m : Int) row) (l : row.length ≤ 12) : ¬ REv (m : Int) row 10 := by
  by_cases c : row.length ≤ 10
  · exact fun r => rev_ends ok (r.le c)
  · intro r
    have s1 : ∀ a b : Nat, a < b → (b : Int) < m → sg row a b 0 = 0 := fun a b hab hb => by
      have z := (r a b hab hb).smooth sm_p9
      have small : ∀ i, sg row a b i = 1 ∨ sg row a b i = -1 ∨ sg row a b i = 0 := fun i => signOf_small _ _ _
      have q0 := small 0
      have q1 := small 1
      have q2 := small 2
      have d : row.length = 11 ∨ row.length = 12 := by omega
      generalize sg row a b = s at z q0 q1 q2 ⊢
      have z2 : s 0 * (-19958400) + s 1 * (-3628800) + s 2 * (-362880) = 0 := by
        rcases d with d | d
        · rw [d] at z
          have z3 : 0 + s 0 * (-19958400) + s 1 * (-3628800) + s 2 * (-362880) + s 3 * 0 + s 4 * 0 + s 5 * 0 + s 6 * 0 + s 7 * 0 + s 8 * 0 + s 9 * 0 + s 10 * 0 = 0 := z
          omega
        · rw [d] at z
          have z3 : 0 + s 0 * (-19958400) + s 1 * (-3628800) + s 2 * (-362880) + s 3 * 0 + s 4 * 0 + s 5 * 0 + s 6 * 0 + s 7 * 0 + s 8 * 0 + s 9 * 0 + s 10 * 0 + s 11 * 0 = 0 := z
          omega
      omega
    obtain ⟨h1, h2, h3, _, h5⟩ := ok
    cases row with
    | nil => exact h3 rfl
    | cons t rest =>
      obtain ⟨t0, t1⟩ := h5 t List.mem_cons_self
      have e : ∀ a b : Nat, sg (t :: rest) a b 0 = signOf t a b := fun a b => rfl
      by_cases c : t = 0
      · have := s1 0 1 (by omega) (by omega)
        rw [e, signOf, if_pos (show t = ((0 : Nat) : Int) from c)] at this
        cases this
      · have := s1 0 t.toNat (by omega) (by omega)
        rw [e, signOf, if_neg (show ¬ t = ((0 : Nat) : Int) from c), if_pos (Int.toNat_of_nonneg t0).symm] at this
        cases this
end Ly

/-! ### the mathematics: rows of rows are not too even, all of them looked through -/
namespace Ly
open PySem L2
def wsum (w : Int → Int) (k : Nat) : Nat → List Int → Int
  | _, [] => 0
  | i, t :: r => w t * (i : Int) ^ k + wsum w k (i + 1) r
theorem wsum_hs (w : Int → Int) (k : Nat) : ∀ (row : List Int) (i : Nat), (∀ z ∈ row, 0 ≤ z ∧ z < 4) →
    wsum w k i row = w 0 * hs row 0 (fun j => ((i + j : Nat) : Int) ^ k) + w 1 * hs row 1 (fun j => ((i + j : Nat) : Int) ^ k) + w 2 * hs row 2 (fun j => ((i + j : Nat) : Int) ^ k) + w 3 * hs row 3 (fun j => ((i + j : Nat) : Int) ^ k)
  | [], _, _ => by
    show (0 : Int) = w 0 * 0 + w 1 * 0 + w 2 * 0 + w 3 * 0
    simp
  | t :: r, i, ok => by
    have ih := wsum_hs w k r (i + 1) fun z hz => ok z (List.mem_cons_of_mem _ hz)
    have ex : ∀ h : Int, hs r h (fun j => ((i + (j + 1) : Nat) : Int) ^ k) = hs r h (fun j => ((i + 1 + j : Nat) : Int) ^ k) := fun h => hs_ext r fun j _ => by rw [show i + (j + 1) = i + 1 + j by omega]
    have st : ∀ h : Int, hs (t :: r) h (fun j => ((i + j : Nat) : Int) ^ k) = (if t = h then (i : Int) ^ k else 0) + hs r h (fun j => ((i + 1 + j : Nat) : Int) ^ k) := fun h => by
      rw [← ex h]
      rfl
    show w t * (i : Int) ^ k + wsum w k (i + 1) r = _
    rw [ih, st, st, st, st, Int.mul_add, Int.mul_add, Int.mul_add, Int.mul_add]
    obtain ⟨t0, t1⟩ := ok t List.mem_cons_self
    have d : t = 0 ∨ t = 1 ∨ t = 2 ∨ t = 3 := by omega
    rcases d with rfl | rfl | rfl | rfl
    · rw [if_pos rfl, if_neg (by decide), if_neg (by decide), if_neg (by decide), Int.mul_zero, Int.mul_zero, Int.mul_zero]
      omega
    · rw [if_pos rfl, if_neg (by decide), if_neg (by decide), if_neg (by decide), Int.mul_zero, Int.mul_zero, Int.mul_zero]
      omega
    · rw [if_pos rfl, if_neg (by decide), if_neg (by decide), if_neg (by decide), Int.mul_zero, Int.mul_zero, Int.mul_zero]
      omega
    · rw [if_pos rfl, if_neg (by decide), if_neg (by decide), if_neg (by decide), Int.mul_zero, Int.mul_zero, Int.mul_zero]
      omega
/-- some power below 10 tells two kinds of hands apart -/
def chk (w : Int → Int) (row : List Int) : Bool := (List.range 10).any fun k => !decide (wsum w k 0 row = 0)
def w2 (t : Int) : Int := if t = 0 then 1 else -1
def w3 (t : Int) : Int := if t = 0 then 1 else if t = 1 then -1 else 0
def w4 (t : Int) : Int := w2 (t % 2)
def wOf (m : Nat) (t : Int) : Int := if m = 4 then w4 t else w3 t
theorem chk_rev {m : Nat} (hm : 2 ≤ m ∧ m ≤ 4) {row : List Int} (ok : ∀ z ∈ row, 0 ≤ z ∧ z < (m : Int)) (c : chk (wOf m) row = true) : ¬ REv (m : Int) row 10 := by
  intro r
  obtain ⟨k, hk, e⟩ := List.any_eq_true.mp c
  have hk := List.mem_range.mp hk
  have e : ¬ wsum (wOf m) k 0 row = 0 := fun z => by
    rw [decide_eq_true z] at e
    cases e
  apply e
  rw [wsum_hs (wOf m) k row 0 fun z hz => by have := ok z hz; omega]
  have sp : Sm 10 (fun j => ((0 + j : Nat) : Int) ^ k) := by
    have a : (fun j : Nat => ((0 + j : Nat) : Int) ^ k) = fun j : Nat => (j : Int) ^ k := funext fun j => by rw [Nat.zero_add]
    rw [a]
    exact (Sm.pow k).le hk
  obtain ⟨a, b⟩ := hm
  have d : m = 2 ∨ m = 3 ∨ m = 4 := by omega
  have r1 := rev_two r sp (show (0 : Int) ≤ 0 by decide) (by omega) (show (0 : Int) ≤ 1 by decide) (by omega)
  rcases d with rfl | rfl | rfl
  · show 1 * _ + (-1) * _ + 0 * _ + 0 * _ = (0 : Int)
    rw [r1]
    omega
  · show 1 * _ + (-1) * _ + 0 * _ + 0 * _ = (0 : Int)
    rw [r1]
    omega
  · have r2 := rev_two r sp (show (0 : Int) ≤ 2 by decide) (by decide) (show (0 : Int) ≤ 3 by decide) (by decide)
    show 1 * _ + (-1) * _ + 1 * _ + (-1) * _ = (0 : Int)
    rw [r1, r2]
    omega
theorem wsum_mod (k : Nat) : ∀ (row : List Int) (i : Nat), wsum w4 k i row = wsum w2 k i (row.map fun t => t % 2)
  | [], _ => rfl
  | t :: r, i => by
    show w4 t * _ + wsum w4 k (i + 1) r = w2 (t % 2) * _ + wsum w2 k (i + 1) (r.map _)
    rw [wsum_mod k r]
    rfl
theorem chk_mod (row : List Int) : chk w4 row = chk w2 (row.map fun t => t % 2) := by
  unfold chk
  congr 1
  funext k
  rw [wsum_mod]
theorem built_mod : ∀ zss : List (List Int), (built 4 zss).map (fun t => t % 2) = built 2 (zss.map fun zs => zs.map fun t => t % 2)
  | [] => rfl
  | zs :: r => by
    have ih := built_mod r
    show (putL 4 (built 4 r) zs).map _ = putL 2 (built 2 (r.map _)) (zs.map _)
    rw [← ih]
    generalize built 4 r = row
    induction zs with
    | nil => rfl
    | cons t zs ih2 =>
      show (row.map (fun x => (x + t) % 4) ++ putL 4 row zs).map (fun t => t % 2) = (row.map fun t => t % 2).map (fun x => (x + t % 2) % 2) ++ putL 2 (row.map fun t => t % 2) (zs.map fun t => t % 2)
      rw [List.map_append, ih2, List.map_map, List.map_map]
      congr 1
      exact List.map_congr_left fun x _ => by
        show (x + t) % 4 % 2 = (x % 2 + t % 2) % 2
        omega
/-- all choices of so many -/
def allc (P : List (List Int)) : Nat → (List (List Int) → Bool) → Bool
  | 0, p => p []
  | n + 1, p => P.all fun z => allc P n fun r => p (z :: r)
theorem allc_mem {P : List (List Int)} : ∀ (n : Nat) {p : List (List Int) → Bool}, allc P n p = true → ∀ zss : List (List Int), zss.length = n → (∀ z ∈ zss, z ∈ P) → p zss = true
  | 0, _, h, [], _, _ => h
  | 0, _, _, _ :: _, l, _ => by cases l
  | n + 1, _, _, [], l, _ => by cases l
  | n + 1, p, h, z :: r, l, hz => allc_mem n (List.all_eq_true.mp h z (hz z List.mem_cons_self)) r (Nat.succ.inj l) fun y hy => hz y (List.mem_cons_of_mem _ hy)
def P2 : List (List Int) := [[0, 1], [1, 0]]
def P3 : List (List Int) := [[0, 1, 2], [0, 2, 1], [1, 0, 2], [1, 2, 0], [2, 0, 1], [2, 1, 0]]
def P4 : List (List Int) := [[0, 0, 1, 1], [0, 1, 0, 1], [0, 1, 1, 0], [1, 0, 0, 1], [1, 0, 1, 0], [1, 1, 0, 0]]
def both (m : Nat) (w : Int → Int) (zss : List (List Int)) : Bool := chk w (built m zss) && chk w (built m zss ++ (built m zss).reverse)
theorem all2 : (allc P2 1 (both 2 w3) && allc P2 2 (both 2 w3) && allc P2 3 (both 2 w3)) = true := by decide +kernel
theorem all3 : (allc P3 1 (both 3 w3) && allc P3 2 (both 3 w3) && allc P3 3 (both 3 w3)) = true := by decide +kernel
theorem all4 : (allc P4 1 (both 2 w2) && allc P4 2 (both 2 w2) && allc P4 3 (both 2 w2)) = true := by decide +kernel
theorem perm_mem {m : Nat} {zs : List Int} (p : zs.Perm (nums m)) : ∀ z ∈ zs, 0 ≤ z ∧ z < (m : Int) := fun z hz => nums_mem.mp (p.mem_iff.mp hz)
theorem perm_len {m : Nat} {zs : List Int} (p : zs.Perm (nums m)) : zs.length = m := by rw [p.length_eq, nums_len]
theorem perm2 {zs : List Int} (p : zs.Perm (nums 2)) : zs ∈ P2 := by
  have nd : zs.Nodup := p.nodup_iff.mpr (nums_nodup 2)
  have mm := perm_mem p
  have l := perm_len p
  match zs, l with
  | [a, b], _ =>
    have ha := mm a (by simp)
    have hb := mm b (by simp)
    have da : a = 0 ∨ a = 1 := by omega
    have db : b = 0 ∨ b = 1 := by omega
    clear ha hb mm p l
    rcases da with rfl | rfl <;> rcases db with rfl | rfl <;> revert nd <;> decide
theorem perm3 {zs : List Int} (p : zs.Perm (nums 3)) : zs ∈ P3 := by
  have nd : zs.Nodup := p.nodup_iff.mpr (nums_nodup 3)
  have mm := perm_mem p
  have l := perm_len p
  match zs, l with
  | [a, b, c], _ =>
    have ha := mm a (by simp)
    have hb := mm b (by simp)
    have hc := mm c (by simp)
    have da : a = 0 ∨ a = 1 ∨ a = 2 := by omega
    have db : b = 0 ∨ b = 1 ∨ b = 2 := by omega
    have dc : c = 0 ∨ c = 1 ∨ c = 2 := by omega
    clear ha hb hc mm p l
    rcases da with rfl | rfl | rfl <;> rcases db with rfl | rfl | rfl <;> rcases dc with rfl | rfl | rfl <;> revert nd <;> decide
theorem fours : ∀ a : Fin 4, ∀ b : Fin 4, ∀ c : Fin 4, ∀ d : Fin 4, [a, b, c, d].Nodup → [((a.val : Int)) % 2, (b.val : Int) % 2, (c.val : Int) % 2, (d.val : Int) % 2] ∈ P4 := by decide +kernel
theorem perm4 {zs : List Int} (p : zs.Perm (nums 4)) : zs.map (fun t => t % 2) ∈ P4 := by
  have nd : zs.Nodup := p.nodup_iff.mpr (nums_nodup 4)
  have mm := perm_mem p
  have l := perm_len p
  match zs, l with
  | [a, b, c, d], _ =>
    have fin : ∀ z ∈ [a, b, c, d], ∃ k : Fin 4, z = (k.val : Int) := fun z hz => by
      have := mm z hz
      exact ⟨⟨z.toNat, by omega⟩, by show z = ((z.toNat : Nat) : Int); omega⟩
    obtain ⟨a, rfl⟩ := fin a (by simp)
    obtain ⟨b, rfl⟩ := fin b (by simp)
    obtain ⟨c, rfl⟩ := fin c (by simp)
    obtain ⟨d, rfl⟩ := fin d (by simp)
    refine fours a b c d ?_
    have e : [(a.val : Int), b.val, c.val, d.val] = [a, b, c, d].map fun k : Fin 4 => (k.val : Int) := rfl
    rw [e] at nd
    exact List.Pairwise.of_map _ (fun x y h e => h (by rw [e])) nd
theorem both_of {m : Nat} {w : Int → Int} {P : List (List Int)} (h : (allc P 1 (both m w) && allc P 2 (both m w) && allc P 3 (both m w)) = true) {zss : List (List Int)} (l : zss.length = 1 ∨ zss.length = 2 ∨ zss.length = 3) (hz : ∀ z ∈ zss, z ∈ P) : both m w zss = true := by
  rw [Bool.and_eq_true, Bool.and_eq_true] at h
  rcases l with l | l | l
  · exact allc_mem 1 h.1.1 zss l hz
  · exact allc_mem 2 h.1.2 zss l hz
  · exact allc_mem 3 h.2 zss l hz
theorem built_not {m : Nat} (hm : 2 ≤ m ∧ m ≤ 4) {zss : List (List Int)} (l : zss.length = 1 ∨ zss.length = 2 ∨ zss.length = 3) (h : ∀ zs ∈ zss, zs.Perm (nums m)) :
    ¬ REv (m : Int) (built m zss) 10 ∧ ¬ REv (m : Int) (built m zss ++ (built m zss).reverse) 10 := by
  have ok := built_ok hm zss
  have ok2 : ∀ z ∈ built m zss ++ (built m zss).reverse, 0 ≤ z ∧ z < (m : Int) := fun z hz => by
    rcases List.mem_append.mp hz with g | g
    · exact ok z g
    · exact ok z (List.mem_reverse.mp g)
  suffices c : chk (wOf m) (built m zss) = true ∧ chk (wOf m) (built m zss ++ (built m zss).reverse) = true from ⟨chk_rev hm ok c.1, chk_rev hm ok2 c.2⟩
  have d : m = 2 ∨ m = 3 ∨ m = 4 := by omega
  rcases d with rfl | rfl | rfl
  · exact Bool.and_eq_true _ _ |>.mp (both_of all2 l fun z hz => perm2 (h z hz))
  · exact Bool.and_eq_true _ _ |>.mp (both_of all3 l fun z hz => perm3 (h z hz))
  · have b := Bool.and_eq_true _ _ |>.mp (both_of all4 (zss := zss.map fun zs => zs.map fun t => t % 2) (by rw [List.length_map]; exact l) fun z hz => by
      obtain ⟨y, hy, e⟩ := List.mem_map.mp hz
      rw [← e]
      exact perm4 (h y hy))
    rw [← built_mod] at b
    refine ⟨(chk_mod _).trans b.1, (chk_mod _).trans ?_⟩
    rw [List.map_append, List.map_reverse]
    exact b.2
theorem built_one {m : Nat} {zs : List Int} (p : zs.Perm (nums m)) : built m [zs] = zs := by
  have mm := perm_mem p
  clear p
  show zs.flatMap (fun t => [((0 : Int) + t) % (m : Int)]) = zs
  induction zs with
  | nil => rfl
  | cons t r ih =>
    show [((0 : Int) + t) % (m : Int)] ++ r.flatMap _ = _
    rw [ih fun z hz => mm z (List.mem_cons_of_mem _ hz), Int.zero_add, Int.emod_eq_of_lt (mm t List.mem_cons_self).1 (mm t List.mem_cons_self).2]
    rfl
end Ly

/-! ### the mathematics: leads at worths told as numbers that go on -/
namespace Ly
open PySem L2
theorem hs_mul (h c : Int) : ∀ (row : List Int) (f : Nat → Int), hs row h (fun i => c * f i) = c * hs row h f
  | [], _ => (Int.mul_zero c).symm
  | t :: r, f => by
    show (if t = h then c * f 0 else 0) + hs r h (fun i => c * f (i + 1)) = c * ((if t = h then f 0 else 0) + hs r h _)
    rw [hs_mul h c r, Int.mul_add]
    by_cases d : t = h
    · rw [if_pos d, if_pos d]
    · rw [if_neg d, if_neg d, Int.mul_zero]
theorem tot_hs (h : Int) : ∀ (row ws : List Int), ws.length = row.length → tot row ws h = hs row h fun i => ws.getD i 0
  | [], _, _ => rfl
  | _ :: _, [], l => by cases l
  | t :: r, w :: ws, l => by
    rw [tot_cons, tot_hs h r ws (Nat.succ.inj l)]
    rfl
theorem tot_line (row : List Int) (f : Nat → Int) (h : Int) : tot row (line f row.length) h = hs row h f := by
  rw [tot_hs h row _ (line_len _ _)]
  refine hs_ext row fun i hi => ?_
  rw [List.getD_eq_getElem?_getD, line_at hi]
  rfl
/-- the lead of a hand of another one -/
def LD (row : List Int) (f : Nat → Int) (a b : Int) : Int := hs row a f - hs row b f
theorem ld_add (row : List Int) (f g : Nat → Int) (a b : Int) : LD row (fun i => f i + g i) a b = LD row f a b + LD row g a b := by
  unfold LD
  rw [hs_add, hs_add]
  omega
theorem ld_two (row : List Int) (f : Nat → Int) (a b : Int) : LD row (fun i => 2 * f i) a b = 2 * LD row f a b := by
  unfold LD
  rw [hs_mul, hs_mul]
  omega
theorem ld_even {m : Nat} {row : List Int} {e : Nat} (r : REv (m : Int) row e) {f : Nat → Int} (hf : Sm e f) {a b : Nat} (ha : a < m) (hb : b < m) : LD row f a b = 0 := by
  unfold LD
  rw [rev_two r hf (show (0 : Int) ≤ (a : Int) by omega) (by omega) (show (0 : Int) ≤ (b : Int) by omega) (by omega)]
  omega
theorem ld_odd {m : Nat} (hm : 0 < m) {row : List Int} {e : Nat} (r : REv (m : Int) row e) (n : ¬ REv (m : Int) row (e + 1)) : ¬ ∀ a b : Nat, a < b → b < m → LD row (fun i => (i : Int) ^ e) a b = 0 := by
  intro z
  refine n ((rev_mom (by omega)).mpr fun h hh k hk => ?_)
  by_cases c : k < e
  · exact (rev_mom (by omega)).mp r h hh k c
  · have ke : k = e := by omega
    rw [ke]
    cases h with
    | zero => rfl
    | succ h =>
      have q := z 0 (h + 1) (by omega) (by omega)
      unfold LD at q
      rw [hs_sumTo, hs_sumTo] at q
      show sumTo row.length _ = sumTo row.length _
      have e0 : ((0 : Nat) : Int) = 0 := rfl
      rw [e0] at q
      omega
theorem Pw.sm {m : Nat} {f : Nat → Int} (h : Pw m f) : Sm m f := by
  induction h with
  | nil => exact Sm.zero m
  | more c k hk _ ih => exact Sm.add (Sm.mul c ((Sm.pow k).le hk)) ih
/-- the differences of order k of the k-th powers -/
theorem dn_pow (k : Nat) : 0 < DN k (fun i => (i : Int) ^ k) 0 := by
  induction k with
  | zero => exact Int.one_pos
  | succ k ih =>
    obtain ⟨r, hr, e⟩ := pow_step k
    have d : Df (fun i : Nat => (i : Int) ^ (k + 1)) = fun (i : Nat) => ((k : Int) + 1) * (i : Int) ^ k + r i := funext fun i => by
      show ((i + 1 : Nat) : Int) ^ (k + 1) - (i : Int) ^ (k + 1) = _
      rw [Int.natCast_succ, e i]
      omega
    rw [DN_succ, d, DN_add, DN_mul]
    show 0 < ((k : Int) + 1) * DN k (fun i => (i : Int) ^ k) 0 + DN k r 0
    rw [hr.sm 0, Int.add_zero]
    exact Int.mul_pos (by omega) ih
end Ly

/-! ### the mathematics: rows joined, turned round, named anew, put into any even ones -/
namespace Ly
open PySem L2
theorem Sm.neg {m : Nat} {f : Nat → Int} (h : Sm m f) : Sm m fun i => - f i := by
  have e : (fun i => - f i) = fun i => (-1) * f i := funext fun i => by omega
  rw [e]
  exact Sm.mul _ h
/-- what is smooth is so from its end as well -/
theorem sm_back {e : Nat} : ∀ {f : Nat → Int}, Sm e f → ∀ c : Nat, ∃ g, Sm e g ∧ ∀ i, i ≤ c → g i = f (c - i) := by
  induction e with
  | zero => exact fun {f} h c => ⟨fun _ => 0, fun _ => rfl, fun i _ => (h (c - i)).symm⟩
  | succ e ih =>
    intro f h c
    obtain ⟨g, hg, eg⟩ := ih h.back (c - 1)
    refine ⟨fun i => f c - sumTo i g, .step ?_, ?_⟩
    · have e1 : Df (fun i => f c - sumTo i g) = fun i => - g i := funext fun i => by
        show f c - (sumTo i g + g i) - (f c - sumTo i g) = - g i
        omega
      rw [e1]
      exact hg.neg
    · intro i
      induction i with
      | zero =>
        intro _
        show f c - 0 = f (c - 0)
        rw [Int.sub_zero, Nat.sub_zero]
      | succ i ih2 =>
        intro hi
        have a : f c - sumTo i g = f (c - i) := ih2 (by omega)
        have b : g i = f (c - 1 - i + 1) - f (c - 1 - i) := eg i (by omega)
        show f c - (sumTo i g + g i) = f (c - (i + 1))
        rw [b, show c - 1 - i + 1 = c - i by omega, show c - 1 - i = c - (i + 1) by omega]
        omega
theorem rev_turned {m : Nat} (hm : 0 < m) {row : List Int} {e : Nat} (r : REv (m : Int) row e) : REv (m : Int) row.reverse e := by
  refine (rev_hs hm).mpr fun f hf h hh => ?_
  obtain ⟨g, hg, eg⟩ := sm_back hf (row.length - 1)
  have key : ∀ h : Int, hs row.reverse h f = hs row h g := fun h => by
    rw [hs_rev]
    exact hs_ext row fun i hi => (eg i (by omega)).symm
  rw [key, key]
  exact (rev_hs hm).mp r g hg h hh
theorem rev_joined {m : Nat} (hm : 0 < m) {row other : List Int} {e : Nat} (r : REv (m : Int) row e) (o : REv (m : Int) other e) : REv (m : Int) (row ++ other) e := by
  refine (rev_hs hm).mpr fun f hf h hh => ?_
  rw [hs_append, hs_append, (rev_hs hm).mp r f hf h hh, (rev_hs hm).mp o _ (hf.shift row.length) h hh]
theorem built_twice {m : Nat} (hm : 2 ≤ m ∧ m ≤ 4) {zss : List (List Int)} (h : ∀ zs ∈ zss, zs.Perm (nums m)) : REv (m : Int) (built m zss ++ (built m zss).reverse) zss.length :=
  rev_joined (by omega) (built_rev hm h) (rev_turned (by omega) (built_rev hm h))
/-- in blocks: what a hand has more than the first one goes smoothly -/
theorem sm_blocks {m : Nat} (hm : 0 < m) {row : List Int} {d : Nat} (r : REv (m : Int) row d) (L : Nat) {g : Int} (g0 : 0 ≤ g) (g1 : g < m) : ∀ (e : Nat) {f : Nat → Int}, Sm (d + e) f → Sm e fun j => hs row g (fun i => f (j * L + i)) - hs row 0 (fun i => f (j * L + i))
  | 0, f, hf => fun j => by
    have := rev_two r (hf.shift (j * L)) g0 g1 (show (0 : Int) ≤ 0 by decide) (by omega)
    show hs row g (fun i => f (j * L + i)) - hs row 0 (fun i => f (j * L + i)) = 0
    omega
  | e + 1, f, hf => by
    refine .step ?_
    have ih := sm_blocks hm r L g0 g1 e (f := fun i => f (L + i) - f i) (hf.step_to L)
    have q : ∀ h : Int, ∀ j, hs row h (fun i => f ((j + 1) * L + i)) = hs row h (fun i => f (j * L + i)) + hs row h (fun i => f (L + (j * L + i)) - f (j * L + i)) := fun h j => by
      rw [← hs_add]
      refine hs_ext row fun i _ => ?_
      show f ((j + 1) * L + i) = f (j * L + i) + (f (L + (j * L + i)) - f (j * L + i))
      rw [show (j + 1) * L + i = L + (j * L + i) by rw [Nat.add_mul]; omega]
      omega
    have e1 : Df (fun j => hs row g (fun i => f (j * L + i)) - hs row 0 (fun i => f (j * L + i))) = fun j => hs row g (fun i => f (L + (j * L + i)) - f (j * L + i)) - hs row 0 (fun i => f (L + (j * L + i)) - f (j * L + i)) := funext fun j => by
      show hs row g (fun i => f ((j + 1) * L + i)) - hs row 0 (fun i => f ((j + 1) * L + i)) - (hs row g (fun i => f (j * L + i)) - hs row 0 (fun i => f (j * L + i))) = _
      rw [q g j, q 0 j]
      omega
    rw [e1]
    exact ih
theorem sum_add (l : List Int) (A B : Int → Int) : (l.map fun g => A g + B g).sum = (l.map A).sum + (l.map B).sum := by
  induction l with
  | nil => rfl
  | cons a l ih =>
    rw [List.map_cons, List.sum_cons, List.map_cons, List.sum_cons, List.map_cons, List.sum_cons, ih]
    omega
theorem one_sum {m : Nat} (hm : 2 ≤ m ∧ m ≤ 4) {x : Int} (x0 : 0 ≤ x) (x1 : x < m) (F : Int → Int) : ((nums m).map fun g => if g = x then F g else 0).sum = F x := by
  have d : m = 2 ∨ m = 3 ∨ m = 4 := by omega
  rcases d with rfl | rfl | rfl
  · show (if (0 : Int) = x then F 0 else 0) + ((if (1 : Int) = x then F 1 else 0) + 0) = F x
    have c : x = 0 ∨ x = 1 := by omega
    rcases c with rfl | rfl <;> simp
  · show (if (0 : Int) = x then F 0 else 0) + ((if (1 : Int) = x then F 1 else 0) + ((if (2 : Int) = x then F 2 else 0) + 0)) = F x
    have c : x = 0 ∨ x = 1 ∨ x = 2 := by omega
    rcases c with rfl | rfl | rfl <;> simp
  · show (if (0 : Int) = x then F 0 else 0) + ((if (1 : Int) = x then F 1 else 0) + ((if (2 : Int) = x then F 2 else 0) + ((if (3 : Int) = x then F 3 else 0) + 0))) = F x
    have c : x = 0 ∨ x = 1 ∨ x = 2 ∨ x = 3 := by omega
    rcases c with rfl | rfl | rfl | rfl <;> simp
theorem pick_sum {m : Nat} (hm : 2 ≤ m ∧ m ≤ 4) {h t : Int} (h0 : 0 ≤ h) (h1 : h < m) (t0 : 0 ≤ t) (t1 : t < m) (F : Int → Int) : ((nums m).map fun g => if t = (h - g) % (m : Int) then F g else 0).sum = F ((h - t) % (m : Int)) := by
  rw [← one_sum hm (Int.emod_nonneg (h - t) (show (m : Int) ≠ 0 by omega)) (Int.emod_lt_of_pos (h - t) (show (0 : Int) < m by omega)) F]
  refine congrArg List.sum (List.map_congr_left fun g hg => ?_)
  obtain ⟨g0, g1⟩ := nums_mem.mp hg
  have q : t = (h - g) % (m : Int) ↔ g = (h - t) % (m : Int) := by
    have d : m = 2 ∨ m = 3 ∨ m = 4 := by omega
    rcases d with rfl | rfl | rfl <;> omega
  by_cases c : g = (h - t) % (m : Int)
  · rw [if_pos c, if_pos (q.mpr c)]
  · rw [if_neg c, if_neg (fun z => c (q.mp z))]
theorem hs_put {m : Nat} (hm : 2 ≤ m ∧ m ≤ 4) {row : List Int} (ok : ∀ z ∈ row, 0 ≤ z ∧ z < (m : Int)) {h : Int} (h0 : 0 ≤ h) (h1 : h < m) : ∀ (other : List Int), (∀ z ∈ other, 0 ≤ z ∧ z < (m : Int)) → ∀ (f : Nat → Int),
    hs (putL (m : Int) row other) h f = ((nums m).map fun g => hs other ((h - g) % (m : Int)) fun j => hs row g fun i => f (j * row.length + i)).sum
  | [], _, f => by
    show (0 : Int) = ((nums m).map fun _ => (0 : Int)).sum
    induction nums m with
    | nil => rfl
    | cons a l ih =>
      rw [List.map_cons, List.sum_cons, ← ih]
      rfl
  | t :: o, oko, f => by
    obtain ⟨t0, t1⟩ := oko t List.mem_cons_self
    have ih := hs_put hm ok h0 h1 o (fun z hz => oko z (List.mem_cons_of_mem _ hz)) fun i => f (row.length + i)
    show hs (row.map (fun x => (x + t) % (m : Int)) ++ putL (m : Int) row o) h f = _
    rw [hs_append, List.length_map, ih, hs_moved hm h0 h1 ok]
    have st : ∀ g : Int, hs (t :: o) ((h - g) % (m : Int)) (fun j => hs row g fun i => f (j * row.length + i)) =
        (if t = (h - g) % (m : Int) then hs row g f else 0) + hs o ((h - g) % (m : Int)) fun j => hs row g fun i => f (row.length + (j * row.length + i)) := fun g => by
      show (if t = (h - g) % (m : Int) then hs row g (fun i => f (0 * row.length + i)) else 0) + hs o _ (fun j => hs row g fun i => f ((j + 1) * row.length + i)) = _
      congr 1
      · rw [hs_ext row (f := fun i => f (0 * row.length + i)) (g := f) fun i _ => by rw [Nat.zero_mul, Nat.zero_add]]
      · exact hs_ext o fun j _ => hs_ext row fun i _ => by rw [show (j + 1) * row.length + i = row.length + (j * row.length + i) by rw [Nat.add_mul]; omega]
    have e1 : ((nums m).map fun g => hs (t :: o) ((h - g) % (m : Int)) fun j => hs row g fun i => f (j * row.length + i)) = (nums m).map fun g => (if t = (h - g) % (m : Int) then hs row g f else 0) + hs o ((h - g) % (m : Int)) fun j => hs row g fun i => f (row.length + (j * row.length + i)) :=
      List.map_congr_left fun g _ => st g
    rw [e1]
    rw [sum_add]
    congr 1
    exact (pick_sum hm h0 h1 t0 t1 fun g => hs row g f).symm
/-- a row put into one that is even: both together -/
theorem put_even {m : Nat} (hm : 2 ≤ m ∧ m ≤ 4) {row other : List Int} (ok : ∀ z ∈ row, 0 ≤ z ∧ z < (m : Int)) (oko : ∀ z ∈ other, 0 ≤ z ∧ z < (m : Int)) {d e : Nat} (r : REv (m : Int) row d) (o : REv (m : Int) other e) : REv (m : Int) (putL (m : Int) row other) (d + e) := by
  refine (rev_hs (by omega)).mpr fun f hf h hh => ?_
  have key : ∀ h : Int, 0 ≤ h → h < m → hs (putL (m : Int) row other) h f = ((nums m).map fun g => hs other ((h - g) % (m : Int)) fun j => hs row 0 fun i => f (j * row.length + i)).sum +
      ((nums m).map fun g => hs other 0 fun j => hs row g (fun i => f (j * row.length + i)) - hs row 0 (fun i => f (j * row.length + i))).sum := fun h h0 h1 => by
    rw [hs_put hm ok h0 h1 other oko f, ← sum_add]
    refine congrArg List.sum (List.map_congr_left fun g hg => ?_)
    obtain ⟨g0, g1⟩ := nums_mem.mp hg
    have s := sm_blocks (by omega) r row.length g0 g1 e hf
    have q := rev_two o s (Int.emod_nonneg (h - g) (show (m : Int) ≠ 0 by omega)) (Int.emod_lt_of_pos (h - g) (show (0 : Int) < m by omega)) (show (0 : Int) ≤ 0 by decide) (show (0 : Int) < m by omega)
    rw [← q, ← hs_add]
    exact hs_ext other fun j _ => by omega
  rw [key h (by omega) (by omega), key 0 (by omega) (by omega)]
  rw [turn_sum hm (fun t => hs other t fun j => hs row 0 fun i => f (j * row.length + i)) (by omega) (by omega), turn_sum hm (fun t => hs other t fun j => hs row 0 fun i => f (j * row.length + i)) (by omega) (by omega)]
/-- hands named anew -/
theorem hs_named {m : Nat} {N : Int → Int} (inj : ∀ a b : Int, 0 ≤ a → a < m → 0 ≤ b → b < m → N a = N b → a = b) {h : Int} (h0 : 0 ≤ h) (h1 : h < m) : ∀ {row : List Int} (_ : ∀ z ∈ row, 0 ≤ z ∧ z < (m : Int)) (f : Nat → Int), hs (row.map N) (N h) f = hs row h f
  | [], _, _ => rfl
  | t :: r, ok, f => by
    show (if N t = N h then f 0 else 0) + hs (r.map N) (N h) _ = (if t = h then f 0 else 0) + hs r h _
    rw [hs_named inj h0 h1 (fun z hz => ok z (List.mem_cons_of_mem _ hz))]
    obtain ⟨t0, t1⟩ := ok t List.mem_cons_self
    by_cases c : t = h
    · rw [if_pos c, if_pos (by rw [c])]
    · rw [if_neg c, if_neg (fun z => c (inj t h t0 t1 h0 h1 z))]
theorem rev_named {m : Nat} (hm : 0 < m) {N : Int → Int} (inj : ∀ a b : Int, 0 ≤ a → a < m → 0 ≤ b → b < m → N a = N b → a = b) (sur : ∀ b : Int, 0 ≤ b → b < m → ∃ a : Int, 0 ≤ a ∧ a < m ∧ N a = b) {row : List Int} (ok : ∀ z ∈ row, 0 ≤ z ∧ z < (m : Int)) {e : Nat} (r : REv (m : Int) row e) : REv (m : Int) (row.map N) e := by
  refine (rev_hs hm).mpr fun f hf h hh => ?_
  obtain ⟨a, a0, a1, ea⟩ := sur h (by omega) (by omega)
  obtain ⟨b, b0, b1, eb⟩ := sur 0 (by omega) (by omega)
  rw [← ea, ← eb, hs_named inj a0 a1 ok, hs_named inj b0 b1 ok]
  exact rev_two r hf a0 a1 b0 b1
/-- nought from 3 to 7 -/
def p5 (n : Nat) : Int := ((n : Int) + -3) * (((n : Int) + -4) * (((n : Int) + -5) * (((n : Int) + -6) * (((n : Int) + -7) * 1))))
theorem sm_p5 : Sm 6 p5 := (((((sm_one.lin (-7)).lin (-6)).lin (-5)).lin (-4)).lin (-3))
theorem short8_rev {m : Nat} {row : List Int} (ok : RowOk (m : Int) row) (l : row.length ≤ 8) : ¬ REv (m : Int) row 6 := by
  by_cases c : row.length ≤ 6
  · exact fun r => rev_ends ok (r.le c)
  · intro r
    have s1 : ∀ a b : Nat, a < b → (b : Int) < m → sg row a b 0 = 0 := fun a b hab hb => by
      have z := (r a b hab hb).smooth sm_p5
      have small : ∀ i, sg row a b i = 1 ∨ sg row a b i = -1 ∨ sg row a b i = 0 := fun i => signOf_small _ _ _
      have q0 := small 0
      have q1 := small 1
      have q2 := small 2
      have d : row.length = 7 ∨ row.length = 8 := by omega
      generalize sg row a b = s at z q0 q1 q2 ⊢
      have z2 : s 0 * (-2520) + s 1 * (-720) + s 2 * (-120) = 0 := by
        rcases d with d | d
        · rw [d] at z
          have z3 : 0 + s 0 * (-2520) + s 1 * (-720) + s 2 * (-120) + s 3 * 0 + s 4 * 0 + s 5 * 0 + s 6 * 0 = 0 := z
          omega
        · rw [d] at z
          have z3 : 0 + s 0 * (-2520) + s 1 * (-720) + s 2 * (-120) + s 3 * 0 + s 4 * 0 + s 5 * 0 + s 6 * 0 + s 7 * 0 = 0 := z
          omega
      omega
    obtain ⟨h1, h2, h3, _, h5⟩ := ok
    cases row with
    | nil => exact h3 rfl
    | cons t rest =>
      obtain ⟨t0, t1⟩ := h5 t List.mem_cons_self
      have e : ∀ a b : Nat, sg (t :: rest) a b 0 = signOf t a b := fun a b => rfl
      by_cases c : t = 0
      · have := s1 0 1 (by omega) (by omega)
        rw [e, signOf, if_pos (show t = ((0 : Nat) : Int) from c)] at this
        cases this
      · have := s1 0 t.toNat (by omega) (by omega)
        rw [e, signOf, if_neg (show ¬ t = ((0 : Nat) : Int) from c), if_pos (Int.toNat_of_nonneg t0).symm] at this
        cases this
theorem put_zero {m : Nat} {row : List Int} (ok : ∀ z ∈ row, 0 ≤ z ∧ z < (m : Int)) : putL (m : Int) row [0] = row := by
  show row.map (fun x => (x + 0) % (m : Int)) ++ [] = row
  rw [List.append_nil]
  induction row with
  | nil => rfl
  | cons t r ih =>
    rw [List.map_cons, ih fun z hz => ok z (List.mem_cons_of_mem _ hz), Int.add_zero, Int.emod_eq_of_lt (ok t List.mem_cons_self).1 (ok t List.mem_cons_self).2]
theorem zero_put {m : Nat} {row : List Int} (ok : ∀ z ∈ row, 0 ≤ z ∧ z < (m : Int)) : putL (m : Int) [0] row = row := by
  show row.flatMap (fun t => [((0 : Int) + t) % (m : Int)]) = row
  induction row with
  | nil => rfl
  | cons t r ih =>
    show [((0 : Int) + t) % (m : Int)] ++ r.flatMap _ = _
    rw [ih fun z hz => ok z (List.mem_cons_of_mem _ hz), Int.zero_add, Int.emod_eq_of_lt (ok t List.mem_cons_self).1 (ok t List.mem_cons_self).2]
    rfl
end Ly

/-! ### the mathematics: the greatest lead -/
namespace Ly
open PySem L2
theorem sumTo_split (n k : Nat) (f : Nat → Int) (h : k ≤ n) (z : ∀ i, k ≤ i → i < n → f i = 0) : sumTo n f = sumTo k f := by
  induction n with
  | zero =>
    have e : k = 0 := by omega
    rw [e]
  | succ n ih =>
    by_cases c : k = n + 1
    · rw [c]
    · show sumTo n f + f n = _
      rw [z n (by omega) (by omega), ih (by omega) fun i h1 h2 => z i h1 (by omega), Int.add_zero]
/-- sums of even signs end in noughts -/
theorem Lz.ends {n : Nat} {s : Nat → Int} : ∀ {k : Nat}, Lz n s k → ∀ i, i < n → n ≤ i + k → SN k s i = 0
  | 0, _, i, h1, h2 => by omega
  | k + 1, h, i, h1, h2 => by
    have z := Lz.ends (k := k) (fun j hj => h j (by omega))
    show sumTo (i + 1) (SN k s) = 0
    rw [← sumTo_split n (i + 1) (SN k s) (by omega) fun j h3 h4 => z j h4 (by omega)]
    exact h k (by omega)
def altI (k : Nat) (z : Int) : Int := if k % 2 = 0 then z else -z
theorem altI_succ (k : Nat) (z : Int) : altI (k + 1) z = altI k (-z) := by
  unfold altI
  rcases Nat.mod_two_eq_zero_or_one k with h | h
  · rw [if_neg (by omega), if_pos h]
  · rw [if_pos (by omega), if_neg (by omega), Int.neg_neg]
/-- a lead by sums of an order -/
theorem Lz.lead {n : Nat} : ∀ {k : Nat} {s : Nat → Int}, Lz n s k → ∀ f : Nat → Int, sumTo n (fun i => s i * f i) = altI k (sumTo n fun i => SN k s i * DN k f i)
  | 0, _, _, _ => rfl
  | k + 1, s, h, f => by
    rw [parts0 h.first, h.rest.lead (Df f), altI_succ]
    have e : (fun i => SN k (Su s) i * DN k (Df f) i) = fun i => SN (k + 1) s i * DN (k + 1) f i := funext fun i => by rw [SN_succ, DN_succ]
    rw [e]
    unfold altI
    by_cases c : k % 2 = 0
    · rw [if_pos c, if_pos c]
    · rw [if_neg c, if_neg c]
def absI (z : Int) : Int := if z < 0 then -z else z
theorem absI_pos (z : Int) : 0 ≤ absI z := by
  unfold absI
  split <;> omega
theorem absI_le {z b : Int} (h1 : -b ≤ z) (h2 : z ≤ b) : absI z ≤ b := by
  unfold absI
  split <;> omega
theorem mul_le_abs {a x M : Int} (h1 : -M ≤ x) (h2 : x ≤ M) : a * x ≤ M * absI a := by
  unfold absI
  by_cases c : a < 0
  · rw [if_pos c]
    have q := Int.mul_le_mul_of_nonneg_left (show -x ≤ M by omega) (show 0 ≤ -a by omega)
    rw [Int.neg_mul_neg] at q
    rw [Int.mul_comm M]
    exact q
  · rw [if_neg c, Int.mul_comm M]
    exact Int.mul_le_mul_of_nonneg_left h2 (by omega)
theorem sumTo_le {n : Nat} {f g : Nat → Int} (h : ∀ i, i < n → f i ≤ g i) : sumTo n f ≤ sumTo n g := by
  induction n with
  | zero => exact Int.le_refl _
  | succ n ih =>
    show sumTo n f + f n ≤ sumTo n g + g n
    have a := ih fun i hi => h i (by omega)
    have b := h n (by omega)
    omega
/-- the sum of the amounts of the sums of an order -/
def Amt (n k : Nat) (s : Nat → Int) : Int := sumTo n fun i => absI (SN k s i)
/-- never passed -/
theorem Lz.most {n k : Nat} {s : Nat → Int} (h : Lz n s k) {f : Nat → Int} {M : Int} (hf : ∀ i, i + k < n → -M ≤ DN k f i ∧ DN k f i ≤ M) : sumTo n (fun i => s i * f i) ≤ M * Amt n k s := by
  rw [h.lead f]
  have z := h.ends
  have e : M * Amt n k s = sumTo n fun i => M * absI (SN k s i) := (sumTo_mul n M _).symm
  rw [e]
  unfold altI
  by_cases c : k % 2 = 0
  · rw [if_pos c]
    refine sumTo_le fun i hi => ?_
    by_cases d : i + k < n
    · exact mul_le_abs (hf i d).1 (hf i d).2
    · rw [z i hi (by omega)]
      simp [absI]
  · rw [if_neg c]
    have e2 : -(sumTo n fun i => SN k s i * DN k f i) = sumTo n fun i => SN k s i * -(DN k f i) := by
      have q := sumTo_mul n (-1) fun i => SN k s i * DN k f i
      rw [← Int.neg_one_mul, ← q]
      exact sumTo_ext fun i _ => by rw [Int.mul_neg, Int.neg_mul, Int.one_mul]
    rw [e2]
    refine sumTo_le fun i hi => ?_
    by_cases d : i + k < n
    · obtain ⟨d1, d2⟩ := hf i d
      exact mul_le_abs (by omega) (by omega)
    · rw [z i hi (by omega)]
      simp [absI]
/-- met -/
theorem Lz.met {n k : Nat} {s : Nat → Int} (h : Lz n s k) {f : Nat → Int} {M : Int} (hf : ∀ i, i + k < n → DN k f i = altI k (if 0 < SN k s i then M else if SN k s i < 0 then -M else 0)) : sumTo n (fun i => s i * f i) = M * Amt n k s := by
  rw [h.lead f]
  have z := h.ends
  have e : M * Amt n k s = sumTo n fun i => M * absI (SN k s i) := (sumTo_mul n M _).symm
  have core : ∀ a : Int, a * (if 0 < a then M else if a < 0 then -M else 0) = M * absI a := fun a => by
    unfold absI
    by_cases c : 0 < a
    · rw [if_pos c, if_neg (by omega), Int.mul_comm]
    · by_cases d : a < 0
      · rw [if_neg c, if_pos d, if_pos d, Int.mul_neg, Int.mul_neg, Int.mul_comm]
      · have e0 : a = 0 := by omega
        rw [e0]
        simp
  rw [e]
  unfold altI
  by_cases c : k % 2 = 0
  · rw [if_pos c]
    refine sumTo_ext fun i hi => ?_
    by_cases d : i + k < n
    · rw [hf i d, altI, if_pos c]
      exact core _
    · rw [z i hi (by omega)]
      simp [absI]
  · rw [if_neg c]
    have e2 : -(sumTo n fun i => SN k s i * DN k f i) = sumTo n fun i => SN k s i * -(DN k f i) := by
      have q := sumTo_mul n (-1) fun i => SN k s i * DN k f i
      rw [← Int.neg_one_mul, ← q]
      exact sumTo_ext fun i _ => by rw [Int.mul_neg, Int.neg_mul, Int.one_mul]
    rw [e2]
    refine sumTo_ext fun i hi => ?_
    by_cases d : i + k < n
    · rw [hf i d, altI, if_neg c, Int.neg_neg]
      exact core _
    · rw [z i hi (by omega)]
      simp [absI]
theorem SN_agree {n : Nat} {s t : Nat → Int} (h : ∀ i, i < n → s i = t i) : ∀ (k i : Nat), i < n → SN k s i = SN k t i
  | 0, i, hi => h i hi
  | k + 1, i, hi => by
    show sumTo (i + 1) (SN k s) = sumTo (i + 1) (SN k t)
    exact sumTo_ext fun j hj => SN_agree h k j (by omega)
theorem SN_neg (s : Nat → Int) : ∀ k i : Nat, SN k (fun i => - s i) i = - SN k s i
  | 0, _ => rfl
  | k + 1, i => by
    show sumTo (i + 1) (SN k fun i => - s i) = - sumTo (i + 1) (SN k s)
    rw [sumTo_ext (g := fun j => (-1) * SN k s j) fun j _ => by rw [SN_neg s k j]; omega, sumTo_mul]
    omega
theorem absI_neg (z : Int) : absI (-z) = absI z := by
  unfold absI
  by_cases h : z < 0
  · rw [if_pos h, if_neg (by omega)]
  · by_cases h2 : -z < 0
    · rw [if_neg h, if_pos h2]
      omega
    · rw [if_neg h, if_neg h2]
      omega
theorem Amt_ext {n : Nat} {s t : Nat → Int} (h : ∀ i, i < n → s i = t i) (k : Nat) : Amt n k s = Amt n k t := sumTo_ext fun i hi => by rw [SN_agree h k i hi]
theorem Amt_neg (n k : Nat) (s : Nat → Int) : Amt n k (fun i => - s i) = Amt n k s := sumTo_ext fun i _ => by rw [SN_neg, absI_neg]
theorem signOf_turn {t a b : Int} (h : a ≠ b) : signOf t b a = - signOf t a b := by
  unfold signOf
  by_cases h1 : t = a
  · rw [if_pos h1, if_pos h1, if_neg (fun z => h (h1.symm.trans z))]
  · by_cases h2 : t = b
    · rw [if_pos h2, if_neg h1, if_pos h2]
      rfl
    · rw [if_neg h1, if_neg h1, if_neg h2, if_neg h2]
      rfl
theorem sg_turn (row : List Int) {a b : Int} (h : a ≠ b) : sg row b a = fun i => - sg row a b i := funext fun _ => signOf_turn h
theorem Lz_neg {n k : Nat} {s : Nat → Int} (h : Lz n s k) : Lz n (fun i => - s i) k := fun j hj => by
  rw [sumTo_ext (g := fun i => (-1) * SN j s i) fun i _ => by rw [SN_neg]; omega, sumTo_mul, h j hj, Int.mul_zero]
theorem sumTo_cat (n m : Nat) (f : Nat → Int) : sumTo (n + m) f = sumTo n f + sumTo m fun i => f (n + i) := by
  induction m with
  | zero => exact (Int.add_zero _).symm
  | succ m ih =>
    show sumTo (n + m) f + f (n + m) = _
    rw [ih, Int.add_assoc]
    rfl
/-- the one behind the other -/
theorem SN_cat {n : Nat} {u s t : Nat → Int} (h1 : ∀ i, i < n → u i = s i) (h2 : ∀ i, u (n + i) = t i) : ∀ k : Nat, Lz n s k → ∀ i, SN k u (n + i) = SN k t i
  | 0, _, i => h2 i
  | k + 1, z, i => by
    have ih := SN_cat h1 h2 k fun j hj => z j (by omega)
    show sumTo (n + i + 1) (SN k u) = sumTo (i + 1) (SN k t)
    rw [show n + i + 1 = n + (i + 1) by omega, sumTo_cat, sumTo_ext (g := SN k s) fun j hj => SN_agree h1 k j hj, z k (by omega), Int.zero_add]
    exact sumTo_ext fun j _ => ih j
theorem Amt_cat {n m k : Nat} {u s t : Nat → Int} (h1 : ∀ i, i < n → u i = s i) (h2 : ∀ i, u (n + i) = t i) (z : Lz n s k) : Amt (n + m) k u = Amt n k s + Amt m k t := by
  unfold Amt
  rw [sumTo_cat, sumTo_ext (n := n) (g := fun i => absI (SN k s i)) fun i hi => by rw [SN_agree h1 k i hi], sumTo_ext (n := m) (f := fun i => absI (SN k u (n + i))) (g := fun i => absI (SN k t i)) fun i _ => by rw [SN_cat h1 h2 k z i]]
/-- turned round -/
theorem SN_turned {n : Nat} {s t : Nat → Int} (h : ∀ i, i < n → t i = s (n - 1 - i)) : ∀ k : Nat, Lz n s k → ∀ i, i + k < n → SN k t i = altI k (SN k s (n - 1 - k - i))
  | 0, _, i, hi => h i (by omega)
  | k + 1, z, i, hi => by
    have zk : Lz n s k := fun j hj => z j (by omega)
    have ih := SN_turned h k zk
    have e1 : SN (k + 1) t i = sumTo (i + 1) fun j => altI k (SN k s (n - 1 - k - j)) := sumTo_ext fun j hj => ih j (by omega)
    -- the sum from its end
    have fl : ∀ (c m : Nat) (f : Nat → Int), m ≤ c + 1 → sumTo m (fun j => f (c - j)) = sumTo (c + 1) f - sumTo (c + 1 - m) f := fun c m f => by
      induction m with
      | zero =>
        intro _
        show (0 : Int) = sumTo (c + 1) f - sumTo (c + 1) f
        omega
      | succ m ihm =>
        intro hm
        show sumTo m (fun j => f (c - j)) + f (c - m) = _
        rw [ihm (by omega), show c + 1 - m = (c - m) + 1 by omega, show c + 1 - (m + 1) = c - m by omega]
        show _ - (sumTo (c - m) f + f (c - m)) + f (c - m) = _
        omega
    have tot : sumTo (n - k) (SN k s) = 0 := by
      rw [← sumTo_split n (n - k) (SN k s) (by omega) fun j h3 h4 => zk.ends j h4 (by omega)]
      exact z k (by omega)
    have e2 : sumTo (i + 1) (fun j => SN k s (n - 1 - k - j)) = - SN (k + 1) s (n - 1 - (k + 1) - i) := by
      rw [fl (n - 1 - k) (i + 1) (SN k s) (by omega), show n - 1 - k + 1 = n - k by omega, tot]
      show 0 - sumTo (n - k - (i + 1)) (SN k s) = - sumTo (n - 1 - (k + 1) - i + 1) (SN k s)
      rw [show n - k - (i + 1) = n - 1 - (k + 1) - i + 1 by omega]
      omega
    rw [e1, altI_succ, ← e2]
    unfold altI
    by_cases c : k % 2 = 0
    · simp only [if_pos c]
    · simp only [if_neg c]
      rw [sumTo_ext (g := fun j => (-1) * SN k s (n - 1 - k - j)) fun j _ => by omega, sumTo_mul]
      omega
theorem absI_alt (k : Nat) (z : Int) : absI (altI k z) = absI z := by
  unfold altI
  by_cases c : k % 2 = 0
  · rw [if_pos c]
  · rw [if_neg c, absI_neg]
theorem sumTo_back (c : Nat) (f : Nat → Int) : sumTo c (fun j => f (c - 1 - j)) = sumTo c f := by
  cases c with
  | zero => rfl
  | succ c =>
    have fl : ∀ (m : Nat), m ≤ c + 1 → sumTo m (fun j => f (c - j)) = sumTo (c + 1) f - sumTo (c + 1 - m) f := fun m => by
      induction m with
      | zero =>
        intro _
        show (0 : Int) = sumTo (c + 1) f - sumTo (c + 1) f
        omega
      | succ m ihm =>
        intro hm
        show sumTo m (fun j => f (c - j)) + f (c - m) = _
        rw [ihm (by omega), show c + 1 - m = (c - m) + 1 by omega, show c + 1 - (m + 1) = c - m by omega]
        show _ - (sumTo (c - m) f + f (c - m)) + f (c - m) = _
        omega
    have e := fl (c + 1) (by omega)
    rw [Nat.sub_self] at e
    show sumTo (c + 1) (fun j => f (c - j)) = _
    rw [e]
    exact Int.sub_zero _
theorem Lz_turned {n k : Nat} {s t : Nat → Int} (h : ∀ i, i < n → t i = s (n - 1 - i)) (z : Lz n s k) : Lz n t k := by
  rw [lz_iff]
  intro j hj
  obtain ⟨g, hg, eg⟩ := sm_back (Sm.pow j) (n - 1)
  have e1 : sumTo n (fun i => t i * (i : Int) ^ j) = sumTo n (fun i => (fun i => s i * g i) (n - 1 - i)) := sumTo_ext fun i hi => by
    show _ = s (n - 1 - i) * g (n - 1 - i)
    rw [h i hi, eg (n - 1 - i) (by omega), show n - 1 - (n - 1 - i) = i by omega]
  rw [e1, sumTo_back n fun i => s i * g i]
  exact z.smooth (hg.le (by omega))
theorem Amt_turned {n k : Nat} {s t : Nat → Int} (h : ∀ i, i < n → t i = s (n - 1 - i)) (z : Lz n s k) : Amt n k t = Amt n k s := by
  have zt := Lz_turned h z
  unfold Amt
  by_cases c : k ≤ n
  · rw [sumTo_split n (n - k) (fun i => absI (SN k t i)) (by omega) fun i h1 h2 => by rw [zt.ends i h2 (by omega)]; rfl,
      sumTo_split n (n - k) (fun i => absI (SN k s i)) (by omega) fun i h1 h2 => by rw [z.ends i h2 (by omega)]; rfl,
      ← sumTo_back (n - k) fun i => absI (SN k s i)]
    refine sumTo_ext fun i hi => ?_
    rw [SN_turned h k z i (by omega), absI_alt, show n - 1 - k - i = n - k - 1 - i by omega]
  · rw [sumTo_zero fun i hi => by rw [zt.ends i hi (by omega)]; rfl, sumTo_zero fun i hi => by rw [z.ends i hi (by omega)]; rfl]
end Ly
namespace Ly
/-- the greatest of the amounts of each two hands -/
def GrtIs (hands : Int) (row : List Int) (k : Nat) (M : Int) : Prop := (∀ a b : Nat, a < b → (b : Int) < hands → Amt row.length k (sg row a b) ≤ M) ∧ ∃ a b : Nat, a < b ∧ (b : Int) < hands ∧ Amt row.length k (sg row a b) = M
theorem GrtIs.one {hands : Int} {row : List Int} {k : Nat} {M N : Int} (h : GrtIs hands row k M) (g : GrtIs hands row k N) : M = N := by
  obtain ⟨a, b, h1, h2, e⟩ := h.2
  obtain ⟨c, d, g1, g2, f⟩ := g.2
  have := g.1 a b h1 h2
  have := h.1 c d g1 g2
  omega
end Ly
namespace Ly
/-- what a worst difference is -/
def side (k : Nat) (z M : Int) : Int := altI k (if 0 < z then M else if z < 0 then -M else 0)
/-- the worst worths: the first k are nought, the differences of order k by the sums' signs -/
def Worst (n k : Nat) (s : Nat → Int) (M : Int) (f : Nat → Int) : Prop := (∀ i, i < k → f i = 0) ∧ ∀ i, i + k < n → DN k f i = side k (SN k s i) M
theorem dn_one : ∀ (k : Nat) {n : Nat} {f g : Nat → Int}, (∀ i, i < k → f i = g i) → (∀ i, i + k < n → DN k f i = DN k g i) → ∀ i, i < n → f i = g i
  | 0, _, _, _, _, h, i, hi => h i hi
  | k + 1, n, f, g, h0, h, i, hi => by
    have ih := dn_one k (n := n - 1) (f := Df f) (g := Df g) (fun j hj => by
      show f (j + 1) - f j = g (j + 1) - g j
      rw [h0 (j + 1) (by omega), h0 j (by omega)]) (fun j hj => by
      rw [← DN_succ, ← DN_succ]
      exact h j (by omega))
    induction i with
    | zero => exact h0 0 (by omega)
    | succ i ihi =>
      have a := ihi (by omega)
      have b : f (i + 1) - f i = g (i + 1) - g i := ih i (by omega)
      omega
theorem Worst.one {n k : Nat} {s : Nat → Int} {M : Int} {f g : Nat → Int} (hf : Worst n k s M f) (hg : Worst n k s M g) : line f n = line g n := by
  refine line_ext (line_len f n) fun i hi => ?_
  rw [line_at hi, dn_one k (f := f) (g := g) (fun j hj => by rw [hf.1 j hj, hg.1 j hj]) (fun j hj => by rw [hf.2 j hj, hg.2 j hj]) i hi]
theorem side_neg (k : Nat) (z M : Int) : side k (-z) M = - side k z M := by
  unfold side altI
  by_cases c : k % 2 = 0
  · rw [if_pos c, if_pos c]
    by_cases h1 : 0 < z
    · rw [if_neg (by omega), if_pos (by omega), if_pos h1]
    · by_cases h2 : z < 0
      · rw [if_pos (by omega), if_neg h1, if_pos h2, Int.neg_neg]
      · rw [if_neg (by omega), if_neg (by omega), if_neg h1, if_neg h2]
        rfl
  · rw [if_neg c, if_neg c]
    by_cases h1 : 0 < z
    · rw [if_neg (by omega), if_pos (by omega), if_pos h1]
    · by_cases h2 : z < 0
      · rw [if_pos (by omega), if_neg h1, if_pos h2, Int.neg_neg]
      · rw [if_neg (by omega), if_neg (by omega), if_neg h1, if_neg h2]
        rfl
theorem Worst.neg {n k : Nat} {s t : Nat → Int} {M : Int} {f : Nat → Int} (h : Worst n k s M f) (e : t = fun i => - s i) : Worst n k t M fun i => - f i := by
  refine ⟨fun i hi => by show - f i = 0; rw [h.1 i hi]; rfl, fun i hi => ?_⟩
  have d : DN k (fun i => - f i) i = - DN k f i := by
    have q : (fun i => - f i) = fun i => (-1) * f i := funext fun i => by omega
    rw [q, DN_mul]
    show (-1) * DN k f i = _
    omega
  rw [d, h.2 i hi, e, SN_neg, side_neg]
end Ly
namespace Ly
open PySem L2
theorem PrAt.same {H : Hp} {x : V} {a b c d : Nat} (h : PrAt H x a b) (k : PrAt H x c d) : a = c ∧ b = d := by
  obtain ⟨u, e, h⟩ := h
  obtain ⟨v, e2, k⟩ := k
  rw [e] at e2
  rw [V.ref.inj e2, k] at h
  have h2 := HO.tup.inj (Option.some.inj h)
  have h3 := List.cons.inj h2
  have h4 := List.cons.inj h3.2
  exact ⟨Int.ofNat.inj (V.int.inj h3.1).symm, Int.ofNat.inj (V.int.inj h4.1).symm⟩
end Ly
namespace Ly
theorem dn_agree : ∀ (k i : Nat) {f g : Nat → Int}, (∀ j, j ≤ i + k → f j = g j) → DN k f i = DN k g i
  | 0, i, _, _, h => h i (by omega)
  | k + 1, i, f, g, h => by
    show DN k f (i + 1) - DN k f i = DN k g (i + 1) - DN k g i
    rw [dn_agree k (i + 1) fun j hj => h j (by omega), dn_agree k i fun j hj => h j (by omega)]
/-- gone on: by the last of each order of differences -/
theorem gone_on (f : Nat → Int) (n : Nat) : ∀ k : Nat, k ≤ n → f n = sumTo k (fun u => DN u f (n - 1 - u)) + DN k f (n - k)
  | 0, _ => by
    show f n = 0 + f (n - 0)
    rw [Int.zero_add, Nat.sub_zero]
  | k + 1, h => by
    rw [gone_on f n k (by omega)]
    show _ = (sumTo k _ + DN k f (n - 1 - k)) + (DN k f (n - (k + 1) + 1) - DN k f (n - (k + 1)))
    rw [show n - (k + 1) + 1 = n - k by omega, show n - 1 - k = n - (k + 1) by omega]
    omega
end Ly
namespace Ly
theorem top_of (F : Nat → Nat → Int) : ∀ m : Nat, 2 ≤ m → ∃ M, (∀ a b : Nat, a < b → b < m → F a b ≤ M) ∧ ∃ a b : Nat, a < b ∧ b < m ∧ F a b = M := by
  have row : ∀ (b n : Nat), 1 ≤ n → ∃ M, (∀ a : Nat, a < n → F a b ≤ M) ∧ ∃ a : Nat, a < n ∧ F a b = M := by
    intro b n
    induction n with
    | zero => exact fun h => absurd h (by omega)
    | succ n ih =>
      intro _
      by_cases c : n = 0
      · subst c
        exact ⟨F 0 b, fun a ha => by rw [show a = 0 by omega]; exact Int.le_refl _, 0, by omega, rfl⟩
      · obtain ⟨M, h1, a, ha, e⟩ := ih (by omega)
        by_cases d : F n b ≤ M
        · exact ⟨M, fun x hx => by
            by_cases z : x = n
            · rw [z]; exact d
            · exact h1 x (by omega), a, by omega, e⟩
        · exact ⟨F n b, fun x hx => by
            by_cases z : x = n
            · rw [z]; exact Int.le_refl _
            · have := h1 x (by omega); omega, n, by omega, rfl⟩
  intro m
  induction m with
  | zero => exact fun h => absurd h (by omega)
  | succ m ih =>
    intro hm
    obtain ⟨N, g1, c, hc, f⟩ := row m m (by omega)
    by_cases z : 2 ≤ m
    · obtain ⟨M, h1, a, b, hab, hb, e⟩ := ih z
      by_cases d : N ≤ M
      · exact ⟨M, fun x y hx hy => by
          by_cases w : y = m
          · have := g1 x (by omega); rw [w]; omega
          · exact h1 x y hx (by omega), a, b, hab, by omega, e⟩
      · exact ⟨N, fun x y hx hy => by
          by_cases w : y = m
          · rw [w]; exact g1 x (by omega)
          · have := h1 x y hx (by omega); omega, c, m, hc, by omega, f⟩
    · exact ⟨N, fun x y hx hy => by rw [show y = m by omega]; exact g1 x (by omega), c, m, hc, by omega, f⟩
/-- there is a greatest -/
theorem grt_ex {m k : Nat} {row : List Int} (ok : RowOk (m : Int) row) : ∃ M, GrtIs (m : Int) row k M := by
  obtain ⟨M, h1, a, b, hab, hb, e⟩ := top_of (fun a b => Amt row.length k (sg row a b)) m (by have := ok.1; omega)
  exact ⟨M, fun a b h2 h3 => h1 a b h2 (by omega), a, b, hab, by omega, e⟩
end Ly
namespace Ly
theorem dn_shift : ∀ (k : Nat) (f : Nat → Int) (i : Nat), DN k (fun j => f (j + 1)) i = DN k f (i + 1)
  | 0, _, _ => rfl
  | k + 1, f, i => by
    show DN k (fun j => f (j + 1)) (i + 1) - DN k (fun j => f (j + 1)) i = DN k f (i + 1 + 1) - DN k f (i + 1)
    rw [dn_shift k f (i + 1), dn_shift k f i]
theorem dn_sn : ∀ (k : Nat) (u : Nat → Int) (i : Nat), DN k (SN k u) i = u (i + k)
  | 0, _, _ => rfl
  | k + 1, u, i => by
    rw [DN_succ]
    have e : Df (SN (k + 1) u) = fun j => SN k u (j + 1) := funext fun j => by
      show sumTo (j + 1 + 1) (SN k u) - sumTo (j + 1) (SN k u) = _
      show sumTo (j + 1) (SN k u) + SN k u (j + 1) - sumTo (j + 1) (SN k u) = _
      omega
    rw [e, dn_shift, dn_sn k u (i + 1)]
    rw [show i + 1 + k = i + (k + 1) by omega]
theorem sn_nought {k : Nat} {u : Nat → Int} (h : ∀ i, i < k → u i = 0) : ∀ (m i : Nat), i < k → SN m u i = 0
  | 0, i, hi => h i hi
  | m + 1, i, hi => by
    show sumTo (i + 1) (SN m u) = 0
    exact sumTo_zero fun j hj => sn_nought h m j (by omega)
/-- sums of an order, with as many noughts ahead, of the worst gaps -/
theorem worst_sums {n k : Nat} {s : Nat → Int} {M : Int} : Worst n k s M (SN k fun i => if i < k then 0 else side k (SN k s (i - k)) M) := by
  refine ⟨fun i hi => sn_nought (fun j hj => if_pos hj) k i hi, fun i hi => ?_⟩
  rw [dn_sn]
  rw [if_neg (by omega), Nat.add_sub_cancel]
end Ly
namespace Ly
open PySem L2
theorem perm_put_len {m : Nat} : ∀ {zss : List (List Int)}, (∀ zs ∈ zss, zs.Perm (nums m)) → (built m zss).length = m ^ zss.length
  | [], _ => rfl
  | zs :: r, h => by
    show (putL (m : Int) (built m r) zs).length = _
    rw [putL_len, perm_len (h zs List.mem_cons_self), perm_put_len fun z hz => h z (List.mem_cons_of_mem _ hz), List.length_cons, Nat.pow_succ, Nat.mul_comm]
theorem butT_town {K : PySem.W.Frag} {b : Addr} {H H' : Hp} {a : Addr} {xs : List V} {n : Nat} (s : But b H H') (t : Town b n H) (h : SqT K H a xs) : SqT K H' a xs := by
  obtain ⟨ys, hb, _⟩ := t
  rcases h with (h | ⟨o, h⟩) | h
  · exact .inl (.inl (s _ _ (fun e => by rw [e, hb] at h; cases h) h))
  · exact .inl (.inr ⟨o, s _ _ (fun e => by rw [e, hb] at h; cases h) h⟩)
  · exact .inr h
/-- an evenness is not below what is known -/
theorem not_less {hands : Int} {row : List Int} {d e : Nat} (h : REv hands row d) (n : ¬ REv hands row (e + 1)) : d ≤ e := by
  by_cases c : d ≤ e
  · exact c
  · exact absurd (h.le (by omega)) n
/-- a row as they are made: how even, how long -/
theorem made_of {m k : Nat} (hm : 2 ≤ m ∧ m ≤ 4) {row : List Int} (h : ∃ zss : List (List Int), zss.length = k ∧ (∀ zs ∈ zss, zs.Perm (nums m)) ∧ (row = built m zss ∨ row = built m zss ++ (built m zss).reverse)) :
    REv (m : Int) row k ∧ k ≤ row.length := by
  obtain ⟨zss, lz, pz, e⟩ := h
  have l := perm_put_len pz
  have g : k ≤ m ^ zss.length := by
    rw [lz]
    exact Nat.le_of_lt (Nat.lt_of_lt_of_le Nat.lt_two_pow_self (Nat.pow_le_pow_left hm.1 k))
  rcases e with e | e
  · rw [e, ← lz]
    refine ⟨built_rev hm pz, ?_⟩
    rw [l, lz]
    rw [lz] at g
    exact g
  · rw [e, ← lz]
    refine ⟨built_twice hm pz, ?_⟩
    rw [List.length_append, l, lz]
    rw [lz] at g
    omega
end Ly
namespace Ly
/-- a lead, place by place -/
theorem lead_line {row : List Int} {a b : Int} (hab : a ≠ b) (f : Nat → Int) : tot row (line f row.length) a - tot row (line f row.length) b = sumTo row.length fun i => sg row a b i * f i := by
  rw [← lead_tot hab, signsOf_line, leadBy]
  have e : ((line (sg row a b) row.length).zip (line f row.length)).map (fun p => p.1 * p.2) = line (fun i => sg row a b i * f i) row.length := by
    refine line_ext ?_ fun i hi => ?_
    · rw [List.length_map, List.length_zip, line_len, line_len, Nat.min_self]
    · rw [List.getElem?_map, List.getElem?_zip_eq_some (z := (sg row a b i, f i)) |>.mpr ⟨line_at hi, line_at hi⟩]
      rfl
  rw [e, line_sum]
theorem Lz.within {n k : Nat} {s : Nat → Int} (h : Lz n s k) {f : Nat → Int} {M : Int} (hf : ∀ i, i + k < n → -M ≤ DN k f i ∧ DN k f i ≤ M) : -(M * Amt n k s) ≤ sumTo n (fun i => s i * f i) ∧ sumTo n (fun i => s i * f i) ≤ M * Amt n k s := by
  refine ⟨?_, h.most hf⟩
  have g := (Lz_neg h).most hf
  rw [Amt_neg] at g
  have e : sumTo n (fun i => -s i * f i) = - sumTo n (fun i => s i * f i) := by
    have q := sumTo_mul n (-1) fun i => s i * f i
    rw [← Int.neg_one_mul, ← q]
    exact sumTo_ext fun i _ => by rw [Int.neg_mul, Int.neg_mul, Int.one_mul]
  rw [e] at g
  omega
end Ly
namespace Ly
open PySem L2
/-! ### hands named anew, rows turned round: the same leads -/
theorem Lz_ext {n k : Nat} {s t : Nat → Int} (h : ∀ i, i < n → s i = t i) (z : Lz n s k) : Lz n t k := fun j hj => by
  rw [← sumTo_ext (f := SN j s) fun i hi => SN_agree h j i hi]
  exact z j hj
theorem Amt_swap {n k : Nat} (row : List Int) {a b : Int} (h : a ≠ b) : Amt n k (sg row b a) = Amt n k (sg row a b) := by rw [sg_turn row h, Amt_neg]
/-- a naming of hands -/
structure Naming (m : Nat) (N : Int → Int) : Prop where
  inj : ∀ a b : Int, 0 ≤ a → a < m → 0 ≤ b → b < m → N a = N b → a = b
  sur : ∀ b : Int, 0 ≤ b → b < m → ∃ a : Int, 0 ≤ a ∧ a < m ∧ N a = b
  low : ∀ a : Int, 0 ≤ a → a < m → 0 ≤ N a ∧ N a < m
theorem Naming.sg {m : Nat} {N : Int → Int} (h : Naming m N) {row : List Int} (ok : ∀ z ∈ row, 0 ≤ z ∧ z < (m : Int)) {a b : Int} (ha : 0 ≤ a ∧ a < (m : Int)) (hb : 0 ≤ b ∧ b < (m : Int)) (i : Nat) (hi : i < row.length) : sg (row.map N) (N a) (N b) i = Ly.sg row a b i := by
  unfold Ly.sg signOf
  have e : (row.map N).getD i 0 = N (row.getD i 0) := by
    rw [List.getD_eq_getElem?_getD, List.getD_eq_getElem?_getD, List.getElem?_map, List.getElem?_eq_getElem hi]
    rfl
  have mem : 0 ≤ row.getD i 0 ∧ row.getD i 0 < (m : Int) := by
    rw [List.getD_eq_getElem?_getD, List.getElem?_eq_getElem hi]
    exact ok _ (List.getElem_mem hi)
  rw [e]
  by_cases c : row.getD i 0 = a
  · rw [if_pos (by rw [c]), if_pos c]
  · rw [if_neg (fun z => c (h.inj _ _ mem.1 mem.2 ha.1 ha.2 z)), if_neg c]
    by_cases d : row.getD i 0 = b
    · rw [if_pos (by rw [d]), if_pos d]
    · rw [if_neg (fun z => d (h.inj _ _ mem.1 mem.2 hb.1 hb.2 z)), if_neg d]
theorem Naming.lz {m : Nat} {N : Int → Int} (h : Naming m N) {row : List Int} (ok : ∀ z ∈ row, 0 ≤ z ∧ z < (m : Int)) {a b : Int} (ha : 0 ≤ a ∧ a < (m : Int)) (hb : 0 ≤ b ∧ b < (m : Int)) (k : Nat) : Lz (row.map N).length (Ly.sg (row.map N) (N a) (N b)) k ↔ Lz row.length (Ly.sg row a b) k := by
  rw [List.length_map]
  exact ⟨Lz_ext fun i hi => h.sg ok ha hb i hi, Lz_ext fun i hi => (h.sg ok ha hb i hi).symm⟩
theorem Naming.amt {m : Nat} {N : Int → Int} (h : Naming m N) {row : List Int} (ok : ∀ z ∈ row, 0 ≤ z ∧ z < (m : Int)) {a b : Int} (ha : 0 ≤ a ∧ a < (m : Int)) (hb : 0 ≤ b ∧ b < (m : Int)) (k : Nat) : Amt (row.map N).length k (Ly.sg (row.map N) (N a) (N b)) = Amt row.length k (Ly.sg row a b) := by
  rw [List.length_map]
  exact Amt_ext (fun i hi => h.sg ok ha hb i hi) k
theorem Naming.rev {m : Nat} {N : Int → Int} (h : Naming m N) {row : List Int} (ok : ∀ z ∈ row, 0 ≤ z ∧ z < (m : Int)) (k : Nat) : REv (m : Int) (row.map N) k ↔ REv (m : Int) row k := by
  constructor
  · intro r a b hab hb
    have ha : 0 ≤ (a : Int) ∧ (a : Int) < (m : Int) := ⟨by omega, by omega⟩
    have hb' : 0 ≤ (b : Int) ∧ (b : Int) < (m : Int) := ⟨by omega, by omega⟩
    have e : N a ≠ N b := fun z => by have := h.inj _ _ ha.1 ha.2 hb'.1 hb'.2 z; omega
    refine (h.lz ok ha hb' k).mp ?_
    obtain ⟨x, hx⟩ : ∃ x : Nat, N a = (x : Int) := ⟨(N a).toNat, by have := h.low _ ha.1 ha.2; omega⟩
    obtain ⟨y, hy⟩ : ∃ y : Nat, N b = (y : Int) := ⟨(N b).toNat, by have := h.low _ hb'.1 hb'.2; omega⟩
    have lx := h.low _ ha.1 ha.2
    have ly := h.low _ hb'.1 hb'.2
    rw [hx, hy] at e ⊢
    rw [hx] at lx
    rw [hy] at ly
    by_cases c : x < y
    · exact r x y c (by omega)
    · rw [sg_turn (row.map N) (a := (y : Int)) (b := (x : Int)) (by omega)]
      exact Lz_neg (r y x (by omega) (by omega))
  · intro r a b hab hb
    obtain ⟨x, x0, x1, ex⟩ := h.sur (a : Int) (by omega) (by omega)
    obtain ⟨y, y0, y1, ey⟩ := h.sur (b : Int) (by omega) (by omega)
    rw [← ex, ← ey]
    refine (h.lz ok ⟨x0, x1⟩ ⟨y0, y1⟩ k).mpr ?_
    obtain ⟨u, rfl⟩ : ∃ u : Nat, x = (u : Int) := ⟨x.toNat, by omega⟩
    obtain ⟨v, rfl⟩ : ∃ v : Nat, y = (v : Int) := ⟨y.toNat, by omega⟩
    have ne : u ≠ v := fun z => by
      rw [z, ey] at ex
      omega
    by_cases c : u < v
    · exact r u v c (by omega)
    · rw [sg_turn row (a := (v : Int)) (b := (u : Int)) (by omega)]
      exact Lz_neg (r v u (by omega) (by omega))
theorem Naming.grt {m : Nat} {N : Int → Int} (h : Naming m N) {row : List Int} (ok : ∀ z ∈ row, 0 ≤ z ∧ z < (m : Int)) {k : Nat} {M : Int} (g : GrtIs (m : Int) (row.map N) k M) : GrtIs (m : Int) row k M := by
  refine ⟨fun a b hab hb => ?_, ?_⟩
  · have ha : 0 ≤ (a : Int) ∧ (a : Int) < (m : Int) := ⟨by omega, by omega⟩
    have hb' : 0 ≤ (b : Int) ∧ (b : Int) < (m : Int) := ⟨by omega, by omega⟩
    have e : N a ≠ N b := fun z => by have := h.inj _ _ ha.1 ha.2 hb'.1 hb'.2 z; omega
    rw [← h.amt ok ha hb']
    obtain ⟨x, hx⟩ : ∃ x : Nat, N a = (x : Int) := ⟨(N a).toNat, by have := h.low _ ha.1 ha.2; omega⟩
    obtain ⟨y, hy⟩ : ∃ y : Nat, N b = (y : Int) := ⟨(N b).toNat, by have := h.low _ hb'.1 hb'.2; omega⟩
    have lx := h.low _ ha.1 ha.2
    have ly := h.low _ hb'.1 hb'.2
    rw [hx, hy] at e ⊢
    rw [hx] at lx
    rw [hy] at ly
    by_cases c : x < y
    · exact g.1 x y c (by omega)
    · rw [Amt_swap (row.map N) (a := (y : Int)) (b := (x : Int)) (by omega)]
      exact g.1 y x (by omega) (by omega)
  · obtain ⟨c, d, cd, dm, e⟩ := g.2
    obtain ⟨x, x0, x1, ex⟩ := h.sur (c : Int) (by omega) (by omega)
    obtain ⟨y, y0, y1, ey⟩ := h.sur (d : Int) (by omega) (by omega)
    rw [← ex, ← ey, h.amt ok ⟨x0, x1⟩ ⟨y0, y1⟩] at e
    obtain ⟨u, rfl⟩ : ∃ u : Nat, x = (u : Int) := ⟨x.toNat, by omega⟩
    obtain ⟨v, rfl⟩ : ∃ v : Nat, y = (v : Int) := ⟨y.toNat, by omega⟩
    have ne : u ≠ v := fun z => by
      rw [z, ey] at ex
      omega
    by_cases w : u < v
    · exact ⟨u, v, w, by omega, e⟩
    · rw [Amt_swap row (a := (v : Int)) (b := (u : Int)) (by omega)] at e
      exact ⟨v, u, by omega, by omega, e⟩
/-- names in a line -/
theorem naming_of {m : Nat} {names : List Int} (p : names.Perm (nums m)) : Naming m fun t => names.getD t.toNat 0 := by
  have ln : names.length = m := perm_len p
  have nd : names.Nodup := p.nodup_iff.mpr (nums_nodup m)
  have at_ : ∀ i : Nat, i < m → names.getD i 0 ∈ names := fun i hi => by
    rw [List.getD_eq_getElem?_getD, List.getElem?_eq_getElem (by omega)]
    exact List.getElem_mem _
  refine ⟨fun a b a0 a1 b0 b1 e => ?_, fun b b0 b1 => ?_, fun a a0 a1 => nums_mem.mp (p.mem_iff.mp (at_ _ (by omega)))⟩
  · have la : a.toNat < names.length := by omega
    have lb : b.toNat < names.length := by omega
    have e2 : names[a.toNat] = names[b.toNat] := by
      have e3 : names.getD a.toNat 0 = names.getD b.toNat 0 := e
      rw [List.getD_eq_getElem?_getD, List.getD_eq_getElem?_getD, List.getElem?_eq_getElem la, List.getElem?_eq_getElem lb] at e3
      exact e3
    have pw := List.pairwise_iff_getElem.mp nd
    by_cases c : a.toNat < b.toNat
    · exact absurd e2 (pw _ _ la lb c)
    · by_cases d : b.toNat < a.toNat
      · exact absurd e2.symm (pw _ _ lb la d)
      · omega
  · have mem : b ∈ names := p.mem_iff.mpr (nums_mem.mpr ⟨b0, b1⟩)
    obtain ⟨i, hi, ei⟩ := List.mem_iff_getElem.mp mem
    refine ⟨(i : Int), by omega, by omega, ?_⟩
    show names.getD (i : Int).toNat 0 = b
    rw [Int.toNat_natCast, List.getD_eq_getElem?_getD, List.getElem?_eq_getElem hi]
    exact ei
theorem sg_back (row : List Int) (a b : Int) : ∀ i, i < row.length → sg row.reverse a b i = sg row a b (row.length - 1 - i) := fun i hi => by
  unfold sg
  rw [List.getD_eq_getElem?_getD, List.getD_eq_getElem?_getD, List.getElem?_reverse hi]
theorem lz_back (row : List Int) (a b : Int) (k : Nat) : Lz row.reverse.length (sg row.reverse a b) k ↔ Lz row.length (sg row a b) k := by
  rw [List.length_reverse]
  refine ⟨fun z => ?_, Lz_turned (sg_back row a b)⟩
  refine Lz_turned (s := sg row.reverse a b) (fun i hi => ?_) z
  rw [sg_back row a b _ (by omega), show row.length - 1 - (row.length - 1 - i) = i by omega]
theorem rev_back (hands : Int) (row : List Int) (k : Nat) : REv hands row.reverse k ↔ REv hands row k := ⟨fun r a b h1 h2 => (lz_back row a b k).mp (r a b h1 h2), fun r a b h1 h2 => (lz_back row a b k).mpr (r a b h1 h2)⟩
theorem amt_back {row : List Int} {a b : Int} {k : Nat} (z : Lz row.length (sg row a b) k) : Amt row.reverse.length k (sg row.reverse a b) = Amt row.length k (sg row a b) := by
  rw [List.length_reverse]
  exact Amt_turned (sg_back row a b) z
theorem grt_back {hands : Int} {row : List Int} {k : Nat} {M : Int} (r : REv hands row k) (g : GrtIs hands row.reverse k M) : GrtIs hands row k M := by
  refine ⟨fun a b h1 h2 => ?_, ?_⟩
  · rw [← amt_back (r a b h1 h2)]
    exact g.1 a b h1 h2
  · obtain ⟨a, b, h1, h2, e⟩ := g.2
    rw [amt_back (r a b h1 h2)] at e
    exact ⟨a, b, h1, h2, e⟩
end Ly
namespace Ly
/-- the other way of a naming: where each name stands -/
theorem naming_back {m : Nat} {names : List Int} (p : names.Perm (nums m)) : ∃ I : List Int, I.length = m ∧ I.Perm (nums m) ∧ (∀ h : Nat, h < m → ∃ j : Nat, I[h]? = some (j : Int) ∧ names[j]? = some (h : Int) ∧ ∀ i, i < j → names[i]? ≠ some (h : Int)) ∧
    ∀ z : Int, 0 ≤ z → z < m → I.getD (names.getD z.toNat 0).toNat 0 = z := by
  have ln : names.length = m := perm_len p
  have nd : names.Nodup := p.nodup_iff.mpr (nums_nodup m)
  have pw := List.pairwise_iff_getElem.mp nd
  have uniq : ∀ (i j : Nat) (x : Int), names[i]? = some x → names[j]? = some x → i = j := fun i j x hi hj => by
    obtain ⟨li, ei⟩ := List.getElem?_eq_some_iff.mp hi
    obtain ⟨lj, ej⟩ := List.getElem?_eq_some_iff.mp hj
    by_cases c : i < j
    · exact absurd (ei.trans ej.symm) (pw _ _ li lj c)
    · by_cases d : j < i
      · exact absurd (ej.trans ei.symm) (pw _ _ lj li d)
      · omega
  have ex : ∀ h : Nat, ∃ j : Nat, h < m → names[j]? = some (h : Int) := fun h => by
    by_cases c : h < m
    · have mem : (h : Int) ∈ names := p.mem_iff.mpr (nums_mem.mpr ⟨by omega, by omega⟩)
      obtain ⟨i, hi, ei⟩ := List.mem_iff_getElem.mp mem
      exact ⟨i, fun _ => by rw [List.getElem?_eq_getElem hi, ei]⟩
    · exact ⟨0, fun z => absurd z c⟩
  obtain ⟨J, hJ⟩ : ∃ J : Nat → Nat, ∀ h, h < m → names[J h]? = some (h : Int) := ⟨fun h => Classical.choose (ex h), fun h => Classical.choose_spec (ex h)⟩
  have Jm : ∀ h, h < m → J h < m := fun h hh => by
    have := (List.getElem?_eq_some_iff.mp (hJ h hh)).1
    omega
  have back : ∀ z : Nat, z < m → ∃ y : Nat, y < m ∧ names[z]? = some (y : Int) ∧ J y = z := fun z hz => by
    have e := List.getElem?_eq_getElem (l := names) (show z < names.length by omega)
    have mem := nums_mem.mp (p.mem_iff.mp (List.getElem_mem (show z < names.length by omega)))
    obtain ⟨y, hy⟩ : ∃ y : Nat, names[z] = (y : Int) := ⟨(names[z]).toNat, by omega⟩
    rw [hy] at e
    rw [hy] at mem
    exact ⟨y, by omega, e, uniq _ _ _ (hJ y (by omega)) e⟩
  have at_ : ∀ h, h < m → ((List.range m).map fun h => (J h : Int))[h]? = some (J h : Int) := fun h hh => by
    rw [List.getElem?_map, List.getElem?_range hh]
    rfl
  refine ⟨(List.range m).map fun h => (J h : Int), by rw [List.length_map, List.length_range], ?_, fun h hh => ⟨J h, at_ h hh, hJ h hh, fun i hi e => ?_⟩, fun z z0 z1 => ?_⟩
  · refine (List.perm_ext_iff_of_nodup ?_ (nums_nodup m)).mpr fun x => ?_
    · refine List.pairwise_map.mpr (List.Pairwise.imp_of_mem (fun {x y} hx hy h e => ?_) List.nodup_range)
      have := hJ x (List.mem_range.mp hx)
      rw [Int.ofNat.inj e, hJ y (List.mem_range.mp hy)] at this
      have := Option.some.inj this
      omega
    · rw [List.mem_map, nums_mem]
      constructor
      · rintro ⟨h, hh, rfl⟩
        have := Jm h (List.mem_range.mp hh)
        omega
      · rintro ⟨x0, x1⟩
        obtain ⟨y, hy, _, ey⟩ := back x.toNat (by omega)
        exact ⟨y, List.mem_range.mpr hy, by rw [ey]; omega⟩
  · have := uniq _ _ _ e (hJ h hh)
    omega
  · obtain ⟨y, hy, ey, ez⟩ := back z.toNat (by omega)
    have e1 : names.getD z.toNat 0 = (y : Int) := by rw [List.getD_eq_getElem?_getD, ey]; rfl
    rw [e1, Int.toNat_natCast, List.getD_eq_getElem?_getD, at_ y hy, ez]
    show ((z.toNat : Nat) : Int) = z
    omega
end Ly

/-! ### itertools.combinations(range(n), 2) -/
namespace Cmb
open PySem PySem.Spec PyProof.Rows
open Sem (wp)
theorem mro_c : mroOf (.type "itertools.combinations") = pure [.type "itertools.combinations", .type "object"] := by rw [mroOf_type]; kernel_rfl
theorem new_c : typeLookup (.type "itertools.combinations") "__new__" = pure (some (.builtin "itertools.combinations.__new__")) := by rw [typeLookup_type, builtinLookup_eq_fast]; kernel_rfl
theorem sub_c : isSubtype (.type "itertools.combinations") (.type "itertools.combinations") = pure true := by rw [isSubtype_type]; kernel_rfl
theorem init_c : Slot "itertools.combinations" "__init__" "object.__init__" := .of (owner := "object") (n := "__init__") (by rw [typeLookup_type, builtinLookup_eq_fast]; kernel_rfl) (by decide +kernel) (by decide +kernel) (by decide +kernel)
  (.inl (by decide +kernel)) (by rw [isSubtype_type]; kernel_rfl)
theorem called_c : TypeCalled "itertools.combinations" "itertools.combinations.__new__" "object.__init__" := ⟨by decide +kernel, by decide +kernel, ⟨_, _, mro_c⟩, madeBy_type mro_c new_c (by decide +kernel), by decide +kernel, sub_c, init_c⟩
theorem tcall_c (a b : Value) : checkTypeCall "itertools.combinations" ⟨[a, b], []⟩ = pure () := by kernel_rfl
theorem ncall_c (a b : Value) : checkBuiltinCall "itertools.combinations.__new__" ⟨[.type "itertools.combinations", a, b], []⟩ = pure () := by kernel_rfl
theorem plain_c : plainId "itertools.combinations.__new__" = true := by decide +kernel
theorem entry_c : entryFor table "itertools.combinations.__new__" = some Builtin.«itertools.combinations.__new__» := entryFor_of_tree (by kernel_rfl)
theorem iter_c : Slot "itertools.combinations" "__iter__" "itertools.combinations.__iter__" := .of (owner := "itertools.combinations") (n := "__iter__") (by rw [typeLookup_type, builtinLookup_eq_fast]; kernel_rfl) (by decide +kernel) (by decide +kernel) (by decide +kernel)
  (.inl (by decide +kernel)) sub_c
theorem next_c : Slot "itertools.combinations" "__next__" "itertools.combinations.__next__" := .of (owner := "itertools.combinations") (n := "__next__") (by rw [typeLookup_type, builtinLookup_eq_fast]; kernel_rfl) (by decide +kernel) (by decide +kernel) (by decide +kernel)
  (.inl (by decide +kernel)) sub_c
theorem eiter_c : entryFor table "itertools.combinations.__iter__" = some Builtin.«dict_keyiterator.__iter__» := entryFor_alias (id' := "dict_keyiterator.__iter__") (by kernel_rfl) (by first | rfl | decide +kernel | (unfold String.splitOn; simp +decide [String.splitOnAux])) (by decide +kernel) (by kernel_rfl)
theorem enext_c : entryFor table "itertools.combinations.__next__" = some Builtin.«itertools.combinations.__next__» := entryFor_of_tree (by kernel_rfl)
theorem owner_c : Manifest.owners.lookup (String.ofList ['s', 'n', 'o', 'i', 't', 'a', 'n', 'i', 'b', 'm', 'o', 'c', '.', 's', 'l', 'o', 'o', 't', 'r', 'e', 't', 'i'].reverse) = some Manifest.sig_itertools_combinations := by kernel_rfl
theorem aiter_c (a : Value) : argsOk "itertools.combinations.__iter__" ⟨[a], []⟩ := by
  unfold argsOk
  rw [signature?_of (id := "itertools.combinations.__iter__") (n := ['_', '_', 'r', 'e', 't', 'i', '_', '_']) (o := ['s', 'n', 'o', 'i', 't', 'a', 'n', 'i', 'b', 'm', 'o', 'c', '.', 's', 'l', 'o', 'o', 't', 'r', 'e', 't', 'i']) (by kernel_rfl) owner_c]
  kernel_rfl
theorem anext_c (a : Value) : argsOk "itertools.combinations.__next__" ⟨[a], []⟩ := by
  unfold argsOk
  rw [signature?_of (id := "itertools.combinations.__next__") (n := ['_', '_', 't', 'x', 'e', 'n', '_', '_']) (o := ['s', 'n', 'o', 'i', 't', 'a', 'n', 'i', 'b', 'm', 'o', 'c', '.', 's', 'l', 'o', 'o', 't', 'r', 'e', 't', 'i']) (by kernel_rfl) owner_c]
  kernel_rfl
theorem dict_c : typeHasDict (.type "itertools.combinations") = false := by decide +kernel
theorem nolen_c : typeLookup (.type "itertools.combinations") "__len__" = pure none := by rw [typeLookup_type, builtinLookup_eq_fast]; kernel_rfl
theorem nohint_c : typeLookup (.type "itertools.combinations") "__length_hint__" = pure none := by rw [typeLookup_type, builtinLookup_eq_fast]; kernel_rfl

/-! the next pair of places below n -/
def nx (n : Nat) (p : Nat × Nat) : Option (Nat × Nat) := if p.2 + 1 < n then some (p.1, p.2 + 1) else if p.1 + 2 < n then some (p.1 + 1, p.1 + 2) else none
def pa (n : Nat) : Nat → Option (Nat × Nat)
  | 0 => if 1 < n then some (0, 1) else none
  | i + 1 => (pa n i).bind (nx n)
theorem pa_lt {n : Nat} : ∀ {i a b : Nat}, pa n i = some (a, b) → a < b ∧ b < n
  | 0, a, b, h => by
    unfold pa at h
    split at h
    · cases h
      omega
    · cases h
  | i + 1, a, b, h => by
    have h2 : (pa n i).bind (nx n) = some (a, b) := h
    cases e : pa n i with
    | none =>
      rw [e] at h2
      cases h2
    | some p =>
      rw [e] at h2
      obtain ⟨c, d⟩ := p
      have q := pa_lt e
      have h3 : nx n (c, d) = some (a, b) := h2
      unfold nx at h3
      dsimp only at h3
      split at h3
      · cases h3
        omega
      · split at h3
        · cases h3
          omega
        · cases h3
theorem pa_code {n : Nat} : ∀ {i a b : Nat}, pa n i = some (a, b) → i ≤ a * n + b
  | 0, a, b, h => Nat.zero_le _
  | i + 1, a, b, h => by
    have h2 : (pa n i).bind (nx n) = some (a, b) := h
    cases e : pa n i with
    | none =>
      rw [e] at h2
      cases h2
    | some p =>
      rw [e] at h2
      obtain ⟨c, d⟩ := p
      have q := pa_lt e
      have k := pa_code e
      have h3 : nx n (c, d) = some (a, b) := h2
      unfold nx at h3
      dsimp only at h3
      split at h3
      · cases h3
        omega
      · split at h3
        · cases h3
          rw [Nat.add_mul]
          omega
        · cases h3
theorem pa_step {n i : Nat} {a b : Nat} (h : pa n i = some (a, b)) : pa n (i + 1) = nx n (a, b) := by
  show (pa n i).bind (nx n) = _
  rw [h]
  rfl
theorem pa_all {n : Nat} : ∀ a b : Nat, a < b → b < n → ∃ i, pa n i = some (a, b) := by
  have row : ∀ a : Nat, (∃ i, pa n i = some (a, a + 1)) → ∀ k : Nat, a + 1 + k < n → ∃ i, pa n i = some (a, a + 1 + k) := by
    intro a h k
    induction k with
    | zero => exact fun _ => h
    | succ k ih =>
      intro l
      obtain ⟨i, e⟩ := ih (by omega)
      refine ⟨i + 1, ?_⟩
      rw [pa_step e]
      unfold nx
      dsimp only
      rw [if_pos (by omega)]
      rfl
  have first : ∀ a : Nat, a + 1 < n → ∃ i, pa n i = some (a, a + 1) := by
    intro a
    induction a with
    | zero =>
      intro l
      refine ⟨0, ?_⟩
      unfold pa
      rw [if_pos (by omega)]
    | succ a ih =>
      intro l
      obtain ⟨i, e⟩ := row a (ih (by omega)) (n - 1 - (a + 1)) (by omega)
      refine ⟨i + 1, ?_⟩
      rw [pa_step e]
      unfold nx
      dsimp only
      rw [if_neg (by omega), if_pos (by omega)]
  intro a b h1 h2
  obtain ⟨i, e⟩ := row a (first a (by omega)) (b - (a + 1)) (by omega)
  exact ⟨i, by rw [e, show a + 1 + (b - (a + 1)) = b by omega]⟩
theorem pa_none {n : Nat} : pa n (n * n) = none := by
  cases e : pa n (n * n) with
  | none => rfl
  | some p =>
    obtain ⟨a, b⟩ := p
    have h1 := pa_lt e
    have h2 := pa_code e
    have h3 : (a + 1) * n ≤ n * n := Nat.mul_le_mul_right n (by omega)
    rw [Nat.add_mul] at h3
    omega
theorem least_none (f : Nat → Option (Nat × Nat)) : ∀ m : Nat, f m = none → ∃ N, N ≤ m ∧ f N = none ∧ ∀ i, i < N → ∃ p, f i = some p := by
  intro m
  induction m using Nat.strongRecOn with
  | _ m ih =>
    intro h
    by_cases c : ∃ i, i < m ∧ f i = none
    · obtain ⟨i, l, e⟩ := c
      obtain ⟨N, hN, r⟩ := ih i l e
      exact ⟨N, by omega, r⟩
    · refine ⟨m, Nat.le_refl _, h, fun i l => ?_⟩
      cases e : f i with
      | some p => exact ⟨p, rfl⟩
      | none => exact absurd ⟨i, l, e⟩ c
/-- how many pairs -/
theorem pa_many (n : Nat) : ∃ N, N ≤ n * n ∧ pa n N = none ∧ ∀ i, i < N → ∃ p, pa n i = some p := least_none _ _ pa_none
theorem pa_stay {n i : Nat} (h : pa n i = none) : ∀ k : Nat, pa n (i + k) = none
  | 0 => h
  | k + 1 => by
    show (pa n (i + k)).bind (nx n) = none
    rw [pa_stay h k]
    rfl
end Cmb
namespace Cmb
open PySem PySem.Spec PyProof.Rows
open Sem (wp)
/-- the next two places, as the library finds them -/
def nc (n : Nat) (ks : List Nat) : Option (List Nat) :=
  match (List.range ks.length).reverse.find? (fun j => ks.getD j 0 != j + n - ks.length) with
  | none => none
  | some j => some (ks.take j ++ (List.range (ks.length - j)).map (ks.getD j 0 + 1 + ·))
theorem nc_is {n c d : Nat} (h : c < d) (l : d < n) : nc n [c, d] = (nx n (c, d)).map fun p => [p.1, p.2] := by
  have e : (List.range [c, d].length).reverse = [1, 0] := rfl
  unfold nc nx
  rw [e]
  have g1 : ([c, d].getD 1 0 != 1 + n - [c, d].length) = (d != n - 1) := by
    show (d != 1 + n - 2) = _
    rw [show 1 + n - 2 = n - 1 by omega]
  have g0 : ([c, d].getD 0 0 != 0 + n - [c, d].length) = (c != n - 2) := by
    show (c != 0 + n - 2) = _
    rw [Nat.zero_add]
  dsimp only
  by_cases q : d + 1 < n
  · rw [List.find?_cons_of_pos (by rw [g1]; simp; omega), if_pos q]
    rfl
  · rw [List.find?_cons_of_neg (by rw [g1]; simp; omega), if_neg q]
    by_cases r : c + 2 < n
    · rw [List.find?_cons_of_pos (by rw [g0]; simp; omega), if_pos r]
      rfl
    · rw [List.find?_cons_of_neg (by rw [g0]; simp; omega), if_neg r]
      rfl
/-- the numbers 0 .. n - 1 in a tuple -/
def Pool (h : Heap) (pl : Addr) (f n : Nat) : Prop := ∃ us : Array Value, (∃ m, h.get? pl = some { cls := .type "tuple", data := .seq us m }) ∧ us.size = n ∧ ∀ (j : Nat) v, us[j]? = some v → ∃ t, v = .int ((j + f : Nat) : Int) t
/-- the object's fields ahead of its i-th pair -/
def fds (pl : Addr) (n : Nat) (i : Nat) (old : Value) : Array Value := match i with
  | 0 => #[.ref pl, .int (if 1 < n then 0 else 2) 0, .none, .int 0 0, .int 1 0]
  | i + 1 => #[.ref pl, .int 1 0, old, .int ((pa n i).getD (0, 0)).1 0, .int ((pa n i).getD (0, 0)).2 0]
theorem fds_succ {pl : Addr} {n i : Nat} {old : Value} {a b : Nat} (h : pa n i = some (a, b)) : fds pl n (i + 1) old = #[.ref pl, .int 1 0, old, .int a 0, .int b 0] := by
  show #[.ref pl, .int 1 0, old, .int ((pa n i).getD (0, 0)).1 0, .int ((pa n i).getD (0, 0)).2 0] = _
  rw [h]
  rfl
/-- ahead of its i-th pair -/
structure CAt (h : Heap) (it pl : Addr) (f n i : Nat) : Prop where
  pool : Pool h pl f n
  fld : ∃ old, h.get? it = some { cls := .type "itertools.combinations", dict := none, data := .fields (fds pl n i old), slots := #[] }
  was : ∀ j, i = j + 1 → ∃ p, pa n j = some p
theorem CAt.ne {h : Heap} {it pl : Addr} {f n i : Nat} (c : CAt h it pl f n i) : pl ≠ it := fun e => by
  obtain ⟨us, ⟨m, q⟩, _⟩ := c.pool
  obtain ⟨old, r⟩ := c.fld
  rw [e, r] at q
  have z : Value.type "itertools.combinations" = Value.type "tuple" := congrArg Obj.cls (Option.some.inj q)
  exact absurd (Value.type.inj z) (by decide)
theorem CAt.keep {h h' : Heap} {it pl : Addr} {f n i : Nat} (c : CAt h it pl f n i) (k : ∀ b, b = it ∨ b = pl → ∀ o, h.get? b = some o → h'.get? b = some o) : CAt h' it pl f n i := by
  obtain ⟨us, ⟨m, q⟩, r⟩ := c.pool
  obtain ⟨old, e⟩ := c.fld
  exact ⟨⟨us, ⟨m, k _ (.inr rfl) _ q⟩, r⟩, ⟨old, k _ (.inl rfl) _ e⟩, c.was⟩
section
variable {prog : Program} {w : World} {A : Around} {E : Value → Shared → Prop} {s : Shared} {it pl : Addr} {f n i : Nat}
theorem iter_self {Q : Value → Shared → Prop} (c : CAt s.heap it pl f n i) (h : Q (.ref it) s) : wpAny (model prog w) A (pyIter (.ref it)) Q E s := by
  obtain ⟨old, e⟩ := c.fld
  have hT : s.TypeIs (.ref it) "itertools.combinations" := ⟨_, e, rfl⟩
  refine wpAny_pyIter_slot hT iter_c (wpAny_call_entry iter_c hT eiter_c ?_ (aiter_c _))
  show wpAny _ _ (ret (.ref it)) _ _ s
  exact wpAny_pure ⟨_, rfl, "itertools.combinations", _, hT, next_c.lookup, h⟩
/-- the numbers of two fields -/
theorem nums {Q : List Nat → Shared → Prop} {fs : Array Value} {a b : Nat} (e : s.heap.get? it = some { cls := .type "itertools.combinations", dict := none, data := .fields fs, slots := #[] }) (h3 : fs.toList.drop 3 = [.int a 0, .int b 0])
    (h : Q [a, b] s) : wpAny (model prog w) A (Builtin.Itertools.itNumbersFrom (.ref it) 3) Q E s := by
  show wpAny _ _ (load it >>= _) _ _ s
  refine wpAny_bind (wpAny_load e ?_)
  show wpAny _ _ (pure ((fs.toList.drop 3).map _)) _ _ s
  rw [h3]
  exact wpAny_pure h
/-- a pair is made of the pool, told, kept in the third field -/
theorem hand_out {a b : Nat} {fs : Array Value} {Q : PySem.Fin → Shared → Prop} (e : s.heap.get? it = some { cls := .type "itertools.combinations", dict := none, data := .fields fs, slots := #[] }) (hs : fs.size = 5)
    (P : Pool s.heap pl f n) (ha : a < n) (hb : b < n) (hpi : pl ≠ it)
    (hQ : ∀ (h' : Heap) (t u : Tok), h'.get? s.heap.objs.size = some { cls := .type "tuple", data := .seq #[.int ((a + f : Nat) : Int) t, .int ((b + f : Nat) : Int) u] } → h'.get? it = some { cls := .type "itertools.combinations", dict := none, data := .fields (fs.setIfInBounds 2 (.ref s.heap.objs.size)), slots := #[] } →
      (∀ c o, c ≠ it → s.heap.get? c = some o → h'.get? c = some o) → s.heap.objs.size ≤ h'.objs.size → Q (.done (.ret (.ref s.heap.objs.size))) { s with heap := h' }) :
    wpAny (model prog w) A ((Builtin.Itertools.itPoolItems (.ref pl) >>= fun items => newTuple ([a, b].map fun i => items.getD i .none)) >>= fun result => field (.ref it) 2 >>= fun before => setField (.ref it) 2 result >>= fun _ => letGo [before] [result] >>= fun _ => ret result) Q E s := by
  obtain ⟨us, ⟨m, hpl⟩, hu, hv⟩ := P
  refine wpAny_bind (wpAny_bind ?_)
  show wpAny _ _ (seqItems? (.ref pl) >>= _) _ _ s
  refine wpAny_bind (wpAny_seqItems hpl rfl (wpAny_pure ?_))
  have ga : ∀ j, j < n → ∃ t, us.getD j .none = .int ((j + f : Nat) : Int) t := fun j hj => by
    have l : j < us.size := by omega
    obtain ⟨t, e⟩ := hv j us[j] (Array.getElem?_eq_getElem l)
    refine ⟨t, ?_⟩
    rw [Array.getD_eq_getD_getElem?, Array.getElem?_eq_getElem l]
    exact e
  obtain ⟨t, et⟩ := ga a ha
  obtain ⟨u, eu⟩ := ga b hb
  show wpAny _ _ (newTuple [us.getD a .none, us.getD b .none]) _ _ s
  rw [et, eu]
  refine wpAny_newObj_type ?_ (by size_fits)
  have e1 := Heap.get?_push_of_some { cls := .type "tuple", data := .seq [Value.int ((a + f : Nat) : Int) t, Value.int ((b + f : Nat) : Int) u].toArray } e
  obtain ⟨x, hx⟩ : ∃ x, fs[2]? = some x := ⟨fs[2], Array.getElem?_eq_getElem (by omega)⟩
  refine wpAny_bind (wpAny_field e1 rfl hx ?_)
  refine wpAny_bind (wpAny_setField e1 rfl (by omega) ?_)
  refine wpAny_bind (wpAny_letGo (wpAny_pure ?_))
  have nb : s.heap.objs.size ≠ it := Nat.ne_of_gt (Heap.lt_size e)
  refine hQ _ t u ?_ (Heap.get?_update_self _ e1 rfl) (fun c o hc q => ?_) ?_
  · exact (Heap.get?_update_other _ _ (Ne.symm nb)).trans (Heap.get?_push_size _ rfl)
  · exact (Heap.get?_update_other _ _ (Ne.symm hc)).trans (Heap.get?_push_of_some _ q)
  · rw [Heap.size_after_update]
    exact Nat.le_of_lt (Heap.lt_size (Heap.get?_push_size s.heap (o := { cls := .type "tuple", data := .seq [Value.int ((a + f : Nat) : Int) t, Value.int ((b + f : Nat) : Int) u].toArray }) rfl))
theorem item_next {a b : Nat} {Q : Option Value → Shared → Prop} (c : CAt s.heap it pl f n i) (hp : pa n i = some (a, b))
    (hQ : ∀ (h' : Heap) (t u : Tok), h'.get? s.heap.objs.size = some { cls := .type "tuple", data := .seq #[.int ((a + f : Nat) : Int) t, .int ((b + f : Nat) : Int) u] } → CAt h' it pl f n (i + 1) → (∀ c o, c ≠ it → s.heap.get? c = some o → h'.get? c = some o) → s.heap.objs.size ≤ h'.objs.size → Q (some (.ref s.heap.objs.size)) { s with heap := h' }) :
    wpAny (model prog w) A (callSpecial? (.ref it) "__next__") Q E s := by
  obtain ⟨old, e⟩ := c.fld
  have hT : s.TypeIs (.ref it) "itertools.combinations" := ⟨_, e, rfl⟩
  refine wpAny_callSpecial?_slot (name := Str.ofString "__next__") hT next_c (wpAny_call_entry next_c hT enext_c ?_ (anext_c _))
  have key := c.ne
  have pl' := c.pool
  have lt := pa_lt hp
  have done : ∀ (h' : Heap) (t u : Tok) (fs : Array Value), fs.setIfInBounds 2 (.ref s.heap.objs.size) = fds pl n (i + 1) (.ref s.heap.objs.size) → h'.get? s.heap.objs.size = some { cls := .type "tuple", data := .seq #[.int ((a + f : Nat) : Int) t, .int ((b + f : Nat) : Int) u] } → h'.get? it = some { cls := .type "itertools.combinations", dict := none, data := .fields (fs.setIfInBounds 2 (.ref s.heap.objs.size)), slots := #[] } →
      (∀ c o, c ≠ it → s.heap.get? c = some o → h'.get? c = some o) → s.heap.objs.size ≤ h'.objs.size → Q (some (.ref s.heap.objs.size)) { s with heap := h' } := fun h' t u fs ef h1 h2 h3 h4 => by
    rw [ef] at h2
    obtain ⟨us, ⟨m, q⟩, r⟩ := pl'
    exact hQ h' t u h1 ⟨⟨us, ⟨m, h3 _ _ key q⟩, r⟩, ⟨_, h2⟩, fun j hj => by
      have ej : j = i := by omega
      rw [ej]
      exact ⟨_, hp⟩⟩ h3 h4
  show wpAny _ _ (field (.ref it) 0 >>= _) _ _ s
  have f0 : (fds pl n i old)[0]? = some (.ref pl) := by
    cases i <;> rfl
  refine wpAny_bind (wpAny_field e rfl f0 ?_)
  cases i with
  | zero =>
    have h1n : 1 < n := by
      by_cases q : 1 < n
      · exact q
      · unfold pa at hp
        rw [if_neg q] at hp
        cases hp
    have eab : a = 0 ∧ b = 1 := by
      unfold pa at hp
      rw [if_pos h1n] at hp
      cases hp
      exact ⟨rfl, rfl⟩
    obtain ⟨rfl, rfl⟩ := eab
    refine wpAny_bind (nums (a := 0) (b := 1) e rfl ?_)
    show wpAny _ _ (Builtin.Itertools.itIntField (.ref it) 1 >>= _) _ _ s
    refine wpAny_bind ?_
    show wpAny _ _ (field (.ref it) 1 >>= _) _ _ s
    have e' : s.heap.get? it = some { cls := .type "itertools.combinations", dict := none, data := .fields #[.ref pl, .int 0 0, .none, .int 0 0, .int 1 0], slots := #[] } := by
      rw [e]
      unfold fds
      rw [if_pos h1n]
    refine wpAny_bind (wpAny_field e' rfl (x := .int 0 0) rfl (wpAny_pure ?_))
    refine wpAny_bind (wpAny_setField e' rfl (by simp) ?_)
    have e2 := Heap.get?_update_self (Obj.mapFields fun x => x.setIfInBounds 1 (rawInt 1)) e' rfl
    have pl2 : Pool (s.heap.update it (Obj.mapFields fun x => x.setIfInBounds 1 (rawInt 1))) pl f n := by
      obtain ⟨us, ⟨m, q⟩, r⟩ := pl'
      exact ⟨us, ⟨m, (Heap.get?_update_other _ _ (Ne.symm key)).trans q⟩, r⟩
    have sz : (s.heap.update it (Obj.mapFields fun x => x.setIfInBounds 1 (rawInt 1))).objs.size = s.heap.objs.size := Heap.size_after_update _ _ _
    refine hand_out (s := { s with heap := _ }) (n := n) e2 rfl pl2 (by omega) (by omega) key fun h' t u h1 h2 h3 h4 => ?_
    rw [sz] at h1 h2 h4 ⊢
    refine ⟨_, rfl, done h' t u _ ?_ h1 h2 (fun c o hc q => h3 c o hc ((Heap.get?_update_other _ _ (Ne.symm hc)).trans q)) h4⟩
    rw [fds_succ hp]
    rfl
  | succ i =>
    obtain ⟨⟨c, d⟩, hcd⟩ := c.was i rfl
    have lcd := pa_lt hcd
    have e' : s.heap.get? it = some { cls := .type "itertools.combinations", dict := none, data := .fields #[.ref pl, .int 1 0, old, .int c 0, .int d 0], slots := #[] } := by
      rw [e, fds_succ hcd]
    refine wpAny_bind (nums (a := c) (b := d) e' rfl ?_)
    show wpAny _ _ (Builtin.Itertools.itIntField (.ref it) 1 >>= _) _ _ s
    refine wpAny_bind ?_
    show wpAny _ _ (field (.ref it) 1 >>= _) _ _ s
    refine wpAny_bind (wpAny_field e' rfl (x := .int 1 0) rfl (wpAny_pure ?_))
    obtain ⟨us, ⟨m, hpl⟩, hu, hv⟩ := id pl'
    refine wpAny_bind ?_
    show wpAny _ _ (seqItems? (.ref pl) >>= _) _ _ s
    refine wpAny_bind (wpAny_seqItems hpl rfl (wpAny_pure ?_))
    rw [hu]
    have hn2 : 2 ≤ n := by omega
    have setN : ∀ (x y : Nat) (R : Unit → Shared → Prop), R () { s with heap := s.heap.update it (Obj.mapFields fun fs => fs.extract 0 3 ++ (([x, y] : List Nat).map fun (n : Nat) => rawInt n).toArray) } → wpAny (model prog w) A.in1 (Builtin.Itertools.itSetNumbersFrom (.ref it) 3 [x, y]) R E s := fun x y R r => by
      show wpAny _ _ (updateFields it _) _ _ s
      exact wpAny_updateFields e' rfl r (by show 5 ≤ sizeLine + 3; decide)
    have fin : ∀ (x y : Nat), x < n → y < n → pa n (i + 1) = some (x, y) → x = a → y = b → wpAny (model prog w) A.in1 (Builtin.Itertools.itSetNumbersFrom (.ref it) 3 [x, y] >>= fun _ => ((Builtin.Itertools.itPoolItems (.ref pl) >>= fun items => newTuple ([x, y].map fun i => items.getD i .none)) >>= fun result => field (.ref it) 2 >>= fun before => setField (.ref it) 2 result >>= fun _ => letGo [before] [result] >>= fun _ => ret result)) (fun fin s' => ∃ v, fin = Fin.done (Flow.ret v) ∧ Q (some v) s') E s := fun x y lx ly hxy ex ey => by
      subst ex ey
      refine wpAny_bind (setN x y _ ?_)
      have e2 := Heap.get?_update_self (Obj.mapFields fun fs => fs.extract 0 3 ++ (([x, y] : List Nat).map fun (n : Nat) => rawInt n).toArray) e' rfl
      have pl2 : Pool (s.heap.update it (Obj.mapFields fun fs => fs.extract 0 3 ++ (([x, y] : List Nat).map fun (n : Nat) => rawInt n).toArray)) pl f n := ⟨us, ⟨m, (Heap.get?_update_other _ _ (Ne.symm key)).trans hpl⟩, hu, hv⟩
      have sz : (s.heap.update it (Obj.mapFields fun fs => fs.extract 0 3 ++ (([x, y] : List Nat).map fun (n : Nat) => rawInt n).toArray)).objs.size = s.heap.objs.size := Heap.size_after_update _ _ _
      refine hand_out (s := { s with heap := _ }) (n := n) e2 rfl pl2 lx ly key fun h' t u h1 h2 h3 h4 => ?_
      rw [sz] at h1 h2 h4 ⊢
      refine ⟨_, rfl, done h' t u _ ?_ h1 h2 (fun c o hc q => h3 c o hc ((Heap.get?_update_other _ _ (Ne.symm hc)).trans q)) h4⟩
      rw [fds_succ hxy]
      rfl
    have hp0 := hp
    rw [pa_step hcd] at hp
    split
    · rename_i next heq
      have h2 : nc n [c, d] = some next := heq
      rw [nc_is lcd.1 lcd.2, hp] at h2
      have h3 : [a, b] = next := Option.some.inj h2
      subst h3
      exact fin a b (by omega) (by omega) hp0 rfl rfl
    · rename_i heq
      have h2 : nc n [c, d] = none := heq
      rw [nc_is lcd.1 lcd.2, hp] at h2
      cases h2
/-- no pair is left -/
theorem item_stop {Q : Option Value → Shared → Prop} (hh : A.handled = none) (c : CAt s.heap it pl f n i) (hp : pa n i = none)
    (hQ : ∀ (h' : Heap) (e : Addr), (∃ o, h'.get? e = some o ∧ o.cls = .type "StopIteration") → (∀ c o, c ≠ it → s.heap.get? c = some o → h'.get? c = some o) → E (.ref e) { s with heap := h' }) :
    wpAny (model prog w) A (callSpecial? (.ref it) "__next__") Q E s := by
  obtain ⟨old, e⟩ := c.fld
  have hT : s.TypeIs (.ref it) "itertools.combinations" := ⟨_, e, rfl⟩
  refine wpAny_callSpecial?_slot (name := Str.ofString "__next__") hT next_c (wpAny_call_entry next_c hT enext_c ?_ (anext_c _))
  have key := c.ne
  have pl' := c.pool
  have stop : ∀ {P : PySem.Fin → Shared → Prop} (h' : Heap), (∀ c o, c ≠ it → s.heap.get? c = some o → h'.get? c = some o) → wpAny (model prog w) A.in1 (Builtin.Itertools.itStop : Sem PySem.Fin) P E { s with heap := h' } := fun {P} h' k => by
    show wpAny _ _ (newExc (.type "StopIteration") [] >>= _) _ _ _
    refine wpAny_bind ?_
    simp only [newExc, newTuple]
    refine wpAny_bind (wpAny_newObj_type ?_ (by size_fits))
    refine wpAny_bind (m := firstArgMember _ _) (wpAny_of_eq (a := Value.none) (by first | rfl | (simp only [firstArgMember]; rfl)) ?_)
    refine wpAny_newObj_type ?_ (by size_fits)
    simp only [raiseNew]
    refine wpAny_bind (wpAny_handled ?_)
    first | rw [show A.in1.handled = none from hh] | rw [hh]
    refine wpAny_bind (wpAny_pure (wpAny_throw ?_))
    exact hQ _ _ ⟨_, Heap.get?_push_size _ rfl, rfl⟩ fun b o hb q => Heap.get?_push_of_some _ (Heap.get?_push_of_some _ (k b o hb q))
  show wpAny _ _ (field (.ref it) 0 >>= _) _ _ s
  have f0 : (fds pl n i old)[0]? = some (.ref pl) := by
    cases i <;> rfl
  refine wpAny_bind (wpAny_field e rfl f0 ?_)
  cases i with
  | zero =>
    have h1n : ¬ 1 < n := fun q => by
      unfold pa at hp
      rw [if_pos q] at hp
      cases hp
    refine wpAny_bind (nums (a := 0) (b := 1) e rfl ?_)
    show wpAny _ _ (Builtin.Itertools.itIntField (.ref it) 1 >>= _) _ _ s
    refine wpAny_bind ?_
    show wpAny _ _ (field (.ref it) 1 >>= _) _ _ s
    have e' : s.heap.get? it = some { cls := .type "itertools.combinations", dict := none, data := .fields #[.ref pl, .int 2 0, .none, .int 0 0, .int 1 0], slots := #[] } := by
      rw [e]
      unfold fds
      rw [if_neg h1n]
    refine wpAny_bind (wpAny_field e' rfl (x := .int 2 0) rfl (wpAny_pure ?_))
    refine wpAny_bind (wpAny_rule ?_)
    exact stop s.heap fun _ _ _ q => q
  | succ i =>
    obtain ⟨⟨c, d⟩, hcd⟩ := c.was i rfl
    have lcd := pa_lt hcd
    have e' : s.heap.get? it = some { cls := .type "itertools.combinations", dict := none, data := .fields #[.ref pl, .int 1 0, old, .int c 0, .int d 0], slots := #[] } := by
      rw [e, fds_succ hcd]
    refine wpAny_bind (nums (a := c) (b := d) e' rfl ?_)
    show wpAny _ _ (Builtin.Itertools.itIntField (.ref it) 1 >>= _) _ _ s
    refine wpAny_bind ?_
    show wpAny _ _ (field (.ref it) 1 >>= _) _ _ s
    refine wpAny_bind (wpAny_field e' rfl (x := .int 1 0) rfl (wpAny_pure ?_))
    obtain ⟨us, ⟨m, hpl⟩, hu, hv⟩ := id pl'
    refine wpAny_bind ?_
    show wpAny _ _ (seqItems? (.ref pl) >>= _) _ _ s
    refine wpAny_bind (wpAny_seqItems hpl rfl (wpAny_pure ?_))
    rw [hu]
    rw [pa_step hcd] at hp
    split
    · rename_i next heq
      have h2 : nc n [c, d] = some next := heq
      rw [nc_is lcd.1 lcd.2, hp] at h2
      cases h2
    · refine wpAny_bind (wpAny_setField e' rfl (by simp) ?_)
      exact stop _ fun b o hb q => (Heap.get?_update_other _ _ (Ne.symm hb)).trans q
/-- the next of a for, of a comprehension -/
theorem next_item {a b : Nat} {Q : Option Value → Shared → Prop} (c : CAt s.heap it pl f n i) (hp : pa n i = some (a, b))
    (hQ : ∀ (h' : Heap) (t u : Tok), h'.get? s.heap.objs.size = some { cls := .type "tuple", data := .seq #[.int ((a + f : Nat) : Int) t, .int ((b + f : Nat) : Int) u] } → CAt h' it pl f n (i + 1) → (∀ c o, c ≠ it → s.heap.get? c = some o → h'.get? c = some o) → s.heap.objs.size ≤ h'.objs.size → Q (some (.ref s.heap.objs.size)) { s with heap := h' }) :
    wpAny (model prog w) A (pyNext (.ref it)) Q E s := by
  unfold pyNext
  exact wpAny_bind (wpAny_attempt (item_next c hp fun h' t u h1 h2 h3 h4 => wpAny_pure (hQ h' t u h1 h2 h3 h4)))
theorem next_stop {Q : Option Value → Shared → Prop} (hh : A.handled = none) (c : CAt s.heap it pl f n i) (hp : pa n i = none)
    (hQ : ∀ h' : Heap, (∀ c o, c ≠ it → s.heap.get? c = some o → h'.get? c = some o) → Q none { s with heap := h' }) : wpAny (model prog w) A (pyNext (.ref it)) Q E s := by
  unfold pyNext
  refine wpAny_bind (wpAny_attempt (item_stop hh c hp fun h' e he k => ?_))
  obtain ⟨o, ho, hc⟩ := he
  refine wpAny_bind (wpAny_isInstance (T := "StopIteration") (b := true) ⟨o, ho, hc⟩ (by rw [isSubtype_type]; kernel_rfl) ?_)
  exact wpAny_pure (hQ h' k)
end
end Cmb
namespace Cmb
open PySem PySem.Spec PyProof.Rows L2
open Sem (wp)
section
variable {prog : Program} {w : World} {A : Around} {E : Value → Shared → Prop} {s : Shared} {r : Addr} {f n : Nat} {t u v k : Tok}
theorem bind_c (a b : Value) : Builtin.Itertools.itBindNamed "combinations" ["iterable", "r"] 2 2 [a, b] [] = pure [some a, some b] := by rfl
theorem ssize_c (k : Tok) : Builtin.Itertools.itSsizeArg (.int 2 k) = pure 2 := by rfl
theorem code_new {Q₁ : Value → Shared → Prop} (hh : A.handled = none) (hr : IsRange s.heap r (f : Int) ((f + n : Nat) : Int) 1 t u v) (hf : f ≤ 1000) (hn : n ≤ 1000)
    (h : ∀ (h1 h' : Heap) (tk : Nat) (it pl : Addr), (∀ b o, s.heap.get? b = some o → h1.get? b = some o) → h1.objs.size ≤ it → h1.objs.size ≤ pl → CAt h' it pl f n 0 → (∀ b o, h1.get? b = some o → h'.get? b = some o) → Q₁ (.ref it) { s with heap := h', toks := tk }) :
    codeAny (model prog w) A (.call (.builtin "itertools.combinations.__new__") ⟨[.type "itertools.combinations", .ref r, .int 2 k], []⟩) (wants Q₁ E) s := by
  refine codeAny_of_tree ?_
  show wpAny _ A.in1 (checkBuiltinCall "itertools.combinations.__new__" ⟨[.type "itertools.combinations", .ref r, .int 2 k], []⟩ >>= fun _ => again (.builtin "itertools.combinations.__new__" ⟨[.type "itertools.combinations", .ref r, .int 2 k], []⟩)) _ _ s
  refine wpAny_bind (wpAny_of_eq (ncall_c _ _) (wpAny_pure ⟨plainId_quiet plain_c _, codeAny_builtin entry_c ?_⟩))
  rw [Around.under_plainId plain_c _]
  have hh1 : A.in1.handled = none := hh
  refine wpAny_bind ?_
  refine wpAny_bind (m := Builtin.Itertools.itClassAndRest "combinations" ⟨[.type "itertools.combinations", .ref r, .int 2 k], []⟩) ?_
  show wpAny _ _ (isType (.type "itertools.combinations") >>= _) _ _ s
  refine wpAny_bind (wpAny_of_eq (a := true) rfl ?_)
  refine wpAny_ite_false (by decide) ?_
  rw [show ("itertools." ++ "combinations") = "itertools.combinations" by decide]
  refine wpAny_bind (wpAny_of_eq sub_c ?_)
  refine wpAny_ite_false (by decide) (wpAny_pure ?_)
  refine wpAny_bind (m := Builtin.Itertools.itBindNamed "combinations" ["iterable", "r"] 2 2 [.ref r, .int 2 k] []) (wpAny_of_eq (bind_c _ _) ?_)
  show wpAny _ _ (Builtin.Itertools.itSsizeArg (.int 2 k) >>= _) _ _ s
  refine wpAny_bind (wpAny_of_eq (ssize_c k) ?_)
  refine wpAny_bind (collect_range (A := A.in1) (n := n) hh1 hr (small_one (by omega) (by omega) (by omega) (by omega)) (by rw [rangeSize_nat]; omega) (by omega) fun h' tk acc hk hacc => ?_)
  refine wpAny_ite_false (by decide) (wpAny_ite_false (by decide) ?_)
  have sz : acc.toList.length = n := by
    rw [Array.length_toList]
    exact hacc.1
  show wpAny _ _ (newTuple acc.toList >>= _) _ _ _
  refine wpAny_bind ?_
  refine wpAny_newObj_type (wpAny_pure ?_) (by show acc.toList.toArray.size ≤ sizeLine; rw [List.size_toArray, sz, sizeLine_eq]; omega)
  rw [sz]
  show wpAny _ _ (Builtin.Itertools.itNewRecord (.type "itertools.combinations") [.ref h'.objs.size, rawInt (if 2 > n then 2 else 0), .none, rawInt 0, rawInt 1] >>= _) _ _ _
  refine wpAny_bind ?_
  unfold Builtin.Itertools.itNewRecord
  rw [dict_c]
  refine wpAny_ite_true (by decide) ?_
  have e0 : (h'.push { cls := .type "tuple", data := .seq acc.toList.toArray }).get? h'.objs.size = some { cls := .type "tuple", data := .seq acc.toList.toArray } := Heap.get?_push_size _ rfl
  refine wpAny_newObj_type (wpAny_pure ?_) (by size_fits)
  refine h h' _ tk _ h'.objs.size hk (Nat.le_of_lt (Heap.lt_size e0)) (Nat.le_refl _) ⟨⟨acc.toList.toArray, ⟨_, Heap.get?_push_of_some _ e0⟩, ?_, ?_⟩, ⟨.none, ?_⟩, fun j hj => absurd hj (by omega)⟩ fun b o q => Heap.get?_push_of_some _ (Heap.get?_push_of_some _ q)
  · rw [List.size_toArray]
    exact sz
  · intro j v hj
    rw [Array.toArray_toList] at hj
    obtain ⟨t, rfl⟩ := hacc.2 j v hj
    exact ⟨t, by rw [Int.mul_one, Int.natCast_add, Int.add_comm]⟩
  · rw [Heap.get?_push_size _ rfl]
    unfold fds
    by_cases c : 1 < n
    · rw [if_pos c, if_neg (show ¬ 2 > n by omega)]
      rfl
    · rw [if_neg c, if_pos (show 2 > n by omega)]
      rfl
/-- combinations(range(n), 2) -/
theorem call_c {Q : Value → Shared → Prop} (hh : A.handled = none) (hr : IsRange s.heap r (f : Int) ((f + n : Nat) : Int) 1 t u v) (hf : f ≤ 1000) (hn : n ≤ 1000)
    (h : ∀ (h1 h' : Heap) (tk : Nat) (it pl : Addr), (∀ b o, s.heap.get? b = some o → h1.get? b = some o) → h1.objs.size ≤ it → h1.objs.size ≤ pl → CAt h' it pl f n 0 → (∀ b o, h1.get? b = some o → h'.get? b = some o) → Q (.ref it) { s with heap := h', toks := tk }) :
    wpAny (model prog w) A (call (.type "itertools.combinations") [.ref r, .int 2 k]) Q E s := by
  refine callType_codes (Q₁ := fun obj s₁ => s₁.TypeIs obj "itertools.combinations" ∧ Q obj s₁) called_c (tcall_c _ _) F.entry_object_init
    (code_new (A := A.in1) hh hr hf hn fun h1 h' tk it pl k1 l1 l2 c k2 => ⟨?_, h h1 h' tk it pl k1 l1 l2 c k2⟩) fun obj s₁ h₁ => ?_
  · obtain ⟨old, e⟩ := c.fld
    exact ⟨_, e, rfl⟩
  · exact ⟨h₁.1, F.args_object_init_3 obj _ _, object_init_meets init_c.lookup called_c.made (by decide) prog w A.in1 _ s₁ ⟨h₁.1, rfl, h₁.2⟩⟩
end
/-! ### walked by a for, by a comprehension -/
def Itcb (f n : Nat) : It := ⟨fun i _ => ∃ p, pa n i = some p, fun i H v H' => ∃ (T : Addr) (a b : Nat), v = .ref T ∧ H T = none ∧ H' = upd H T (.tup [.int ((a + f : Nat) : Int), .int ((b + f : Nat) : Int)]) ∧ pa n i = some (a, b), fun i _ => pa n i = none⟩
theorem walk_c {f n N : Nat} (h0 : pa n N = none) (h1 : ∀ i, i < N → ∃ p, pa n i = some p) : Walk (Itcb f n) N (fun _ => True) (fun i H v H' => ∃ (T : Addr) (a b : Nat), v = .ref T ∧ H T = none ∧ H' = upd H T (.tup [.int ((a + f : Nat) : Int), .int ((b + f : Nat) : Int)]) ∧ pa n i = some (a, b)) :=
  ⟨fun i _ hi _ => h1 i hi, fun _ _ => h0, fun _ _ _ _ _ _ y => y⟩
theorem turn_c {P : Program} {w : World} {K : PySem.W.Frag} {tg : Expr} {it pl : Addr} {f n : Nat} : Turn P w K tg (Itcb f n) [it, pl] it (fun i h => CAt h it pl f n i) where
  mem := by simp
  obj := fun i h c b hb => by
    have e : b = it ∨ b = pl := by simpa using hb
    obtain ⟨us, ⟨m, q⟩, _⟩ := c.pool
    obtain ⟨old, r⟩ := c.fld
    rcases e with e | e
    · rw [e]
      exact ⟨_, r, fun v z => nomatch z⟩
    · rw [e]
      exact ⟨_, q, fun v z => nomatch z⟩
  keep := fun i h h' c k => c.keep fun b hb o e => k b (by simpa using hb) o e
  item := by
    intro X hP hw hK hc i pins s σ H E I hf c hg
    subst hP hw hK
    obtain ⟨⟨a, b⟩, hp⟩ := hg
    have lit : it < s.heap.objs.size := by
      obtain ⟨old, e⟩ := c.fld
      exact Heap.lt_size e
    have lpl : pl < s.heap.objs.size := by
      obtain ⟨us, ⟨m, q⟩, _⟩ := c.pool
      exact Heap.lt_size q
    refine next_item c hp fun h' t u h1 c1 k _ => ⟨_, rfl, ?_⟩
    obtain ⟨old, e1⟩ := c1.fld
    refine go_of (s := { s with heap := h' }) (n := "itertools.combinations") e1 rfl rfl (by decide) ?_
    have nw : ObjOk X.prog X.w (upd H s.heap.objs.size (.tup [.int ((a + f : Nat) : Int), .int ((b + f : Nat) : Int)])) h' s.heap.objs.size (.tup [.int ((a + f : Nat) : Int), .int ((b + f : Nat) : Int)]) := ⟨by show 2 ≤ sizeLine; decide, [.int ((a + f : Nat) : Int) t, .int ((b + f : Nat) : Int) u], .cons ⟨t, rfl⟩ (.cons ⟨u, rfl⟩ .nil), ⟨_, h1, rfl, _, rfl⟩⟩
    refine ⟨.ref s.heap.objs.size, _, I.turnedNew (t' := s.toks) (ch := [it]) (fun b o hb q => k b o (by simpa using hb) q) (fun b hb => hf b (by rw [List.mem_singleton.mp hb]; exact List.mem_cons_self)) (Nat.le_refl _) nw, rfl, ⟨_, a, b, rfl, I.hok.fresh (Nat.le_refl _), rfl, hp⟩, c1, fun d hd => ?_⟩
    have e : d = it ∨ d = pl := by simpa using hd
    have ld : d < s.heap.objs.size := by
      rcases e with e | e
      · rw [e]; exact lit
      · rw [e]; exact lpl
    rw [upd_ne (Nat.ne_of_lt ld)]
    exact (hf d hd).1
  done := by
    intro X hP hw hK hc i pins s σ H E I hf c hg
    subst hP hw hK
    exact next_stop (I.ok.hd hc) c hg fun h' k => ⟨rfl, I.turnedL (t' := s.toks) (ch := [it]) (fun b o hb q => k b o (by simpa using hb) q) fun b hb => hf b (by rw [List.mem_singleton.mp hb]; exact List.mem_cons_self)⟩
  self := fun A i s Q E c h => iter_self c h
def iCmb (te : L2.St → Hp → (Int → Int → Hp → Prop) → Prop) : TI := fun σ H R => te σ H fun a b H1 => ∃ f n : Nat, a = (f : Int) ∧ b = ((f + n : Nat) : Int) ∧ f ≤ 1000 ∧ n ≤ 1000 ∧ R (Itcb f n) H1
/-- what stands for a type under the module's name -/
theorem ld_ty {X : Cx} {pins : List (Addr × Obj)} {s : Shared} {σ : L2.St} {H : Hp} {E : Value → Shared → Prop} {y : Str} {n : String} {q : Pos} {Q : Value → Shared → Prop} (I : Inv X pins σ H s) (hg : Gl X y) (hm : X.mg y = some (.type n)) (h : Q (.type n) s) (hd : (y == ("__debug__" : Str)) = false := by decide) :
    wpAny (model X.prog X.w) X.A (eval (.Name y q) X.env) Q E s := ld_glob I hg hm h hd
/-- the iterator is made -/
theorem made_c {X : Cx} {e : Expr} {te : L2.St → Hp → (Int → Int → Hp → Prop) → Prop} {p pos kp : Pos} {kk : Nat} (hg : Gl X "combinations") (hm : X.mg "combinations" = some (.type "itertools.combinations")) (hc : X.calm = true) (he : PRg X e te)
    (na : starEach [e, .Constant (.int 2) kk kp] X.env = (false, eval e X.env) :: starEach [.Constant (.int 2) kk kp] X.env) (nb : starEach [.Constant (.int 2) kk kp] X.env = (false, eval (.Constant (.int 2) kk kp) X.env) :: starEach [] X.env)
    (hp : (backTo pos (starEach [.Constant (.int 2) kk kp] X.env)).any (·.1) = false)
    (pins : List (Addr × Obj)) (s : Shared) (σ : L2.St) (H : Hp) (Q : Nat → Nat → Hp → Prop) (I : Inv X pins σ H s) (h : te σ H fun a b H1 => ∃ f n : Nat, a = (f : Int) ∧ b = ((f + n : Nat) : Int) ∧ f ≤ 1000 ∧ n ≤ 1000 ∧ Q f n H1) :
    wpAny (model X.prog X.w) X.A (eval (.Call (.Name "combinations" p) [e, .Constant (.int 2) kk kp] [] pos) X.env) (fun v s' => ∃ (it pl : Addr) (f n : Nat) (H' : Hp), v = .ref it ∧ CAt s'.heap it pl f n 0 ∧ Inv X pins σ H' s' ∧ (∀ b ∈ [it, pl], FpOk X pins H' b) ∧ n ≤ 1000 ∧ Q f n H') X.xe s := by
  refine Call_ (ld_ty I hg hm (PyProof.Rows.callWith_type1 (args_cons (thn (he pins s σ H _ I h) fun x s1 hx => ?_) na) na hp))
  obtain ⟨r, a, b, t, u, v, H1, rfl, hr, I1, f, n, rfl, rfl, hfb, hn, q⟩ := hx
  refine args_cons (wpAny_Constant_int (args_nil ?_)) nb
  have I2 : Inv X pins σ H1 { s1 with toks := s1.toks + 1 } := I1.tok _
  refine call_c (s := { s1 with toks := s1.toks + 1 }) (I2.ok.hd hc) hr hfb hn fun h1 h' tk it pl k1 l1 l2 c k2 => ?_
  have I3 : Inv X pins σ H1 { s1 with heap := h1, toks := tk } := I2.kept k1
  have I4 : Inv X pins σ H1 { s1 with heap := h', toks := tk } := I3.kept k2
  have I5 : ∀ b, h1.objs.size ≤ b → FpOk X pins H1 b := fun b hb => I3.fpOk hb (I3.hok.fresh hb)
  refine ⟨it, pl, f, n, H1, rfl, c, I4, fun b hb => ?_, hn, q⟩
  have e : b = it ∨ b = pl := by simpa using hb
  rcases e with e | e
  · rw [e]
    exact I5 _ l1
  · rw [e]
    exact I5 _ l2
/-- for a, b in combinations(range(n), 2) -/
theorem pi_comb {X : Cx} {tg e : Expr} {te : L2.St → Hp → (Int → Int → Hp → Prop) → Prop} {p pos kp : Pos} {kk : Nat} (hc : X.calm = true) (hg : Gl X "combinations") (hm : X.mg "combinations" = some (.type "itertools.combinations")) (he : PRg X e te)
    (na : starEach [e, .Constant (.int 2) kk kp] X.env = (false, eval e X.env) :: starEach [.Constant (.int 2) kk kp] X.env := by rfl) (nb : starEach [.Constant (.int 2) kk kp] X.env = (false, eval (.Constant (.int 2) kk kp) X.env) :: starEach [] X.env := by rfl)
    (hp : (backTo pos (starEach [.Constant (.int 2) kk kp] X.env)).any (·.1) = false := by rfl) : PI X tg (.Call (.Name "combinations" p) [e, .Constant (.int 2) kk kp] [] pos) (iCmb te) := by
  refine ⟨fun pins s σ H R I h => ?_⟩
  refine thn (made_c hg hm hc he na nb hp pins s σ H (fun f n H1 => R (Itcb f n) H1) I h) ?_
  rintro v s1 ⟨it, pl, f, n, H1, rfl, c, I1, hf, _, q⟩
  refine iter_self c ?_
  exact ⟨it, [it, pl], _, _, H1, rfl, I1, turn_c, c, hf, q⟩
/-! ### list(combinations(range(n), 2)) -/
section
variable {prog : Program} {w : World} {A : Around} {E : Value → Shared → Prop} {s : Shared} {it pl S : Addr} {n N : Nat}
/-- the pairs so far, all made since h0 -/
def Tups (h0 h : Heap) (S it : Addr) (n : Nat) (acc : Array Value) (i : Nat) : Prop := acc.size = i ∧ ∀ j a b, j < i → pa n j = some (a, b) → ∃ T t u, acc[j]? = some (.ref T) ∧ h0.objs.size ≤ T ∧ T ≠ S ∧ T ≠ it ∧ h.get? T = some { cls := .type "tuple", data := .seq #[.int (a : Int) t, .int (b : Int) u] }
theorem Tups.keep {h0 h h' : Heap} {acc : Array Value} {i : Nat} (x : Tups h0 h S it n acc i) (k : ∀ b o, b ≠ S → b ≠ it → h.get? b = some o → h'.get? b = some o) : Tups h0 h' S it n acc i :=
  ⟨x.1, fun j a b hj hp => by
    obtain ⟨T, t, u, e1, e2, e3, e4, e5⟩ := x.2 j a b hj hp
    exact ⟨T, t, u, e1, e2, e3, e4, k _ _ e3 e4 e5⟩⟩
theorem drain_c {R : Result → Shared → Prop} (hh : A.handled = none) (hSi : S ≠ it) (hSp : S ≠ pl) (res : Value) (h0 : pa n N = none) (h1 : ∀ i, i < N → ∃ p, pa n i = some p) (hN : N ≤ 1000000) (g0 : Heap)
    (hR : ∀ (h' : Heap) (tk : Nat) (acc : Array Value) (c : Nat), h'.get? S = some { cls := .type "list", dict := none, data := .seq acc c, slots := #[] } → Tups g0 h' S it n acc N → (∀ b o, b ≠ S → b ≠ it → g0.get? b = some o → h'.get? b = some o) → R (.ok (.ret res)) { s with heap := h', toks := tk }) :
    ∀ (k i : Nat) (h : Heap) (tk : Nat) (acc : Array Value) (c : Nat), N - i = k → i ≤ N → CAt h it pl 0 n i → h.get? S = some { cls := .type "list", dict := none, data := .seq acc c, slots := #[] } → Tups g0 h S it n acc i → g0.objs.size ≤ h.objs.size →
      (∀ b o, b ≠ S → b ≠ it → g0.get? b = some o → h.get? b = some o) → codeAny (model prog w) A (.builtin "list.extend.loop" ⟨[.ref S, .ref it, res], []⟩) R { s with heap := h, toks := tk } := by
  intro k
  induction k with
  | zero =>
    intro i h tk acc c hk hi hc hS ht hz ho
    have e : i = N := by omega
    subst e
    refine codeAny_builtin F.entry_extend_loop ?_
    rw [Around.under_plainId F.plain_extend_loop _]
    show wpAny _ A.in1 (pyNext (.ref it) >>= _) _ _ _
    refine wpAny_bind (next_stop (s := { s with heap := h, toks := tk }) hh hc h0 fun h' kk => ?_)
    exact wpAny_pure (hR h' tk acc c (kk _ _ hSi hS) (ht.keep fun b o _ b2 q => kk b o b2 q) fun b o b1 b2 q => kk b o b2 (ho b o b1 b2 q))
  | succ k ih =>
    intro i h tk acc c hk hi hc hS ht hz ho
    have hlt : i < N := by omega
    obtain ⟨⟨a, b⟩, hp⟩ := h1 i hlt
    refine codeAny_builtin F.entry_extend_loop ?_
    rw [Around.under_plainId F.plain_extend_loop _]
    show wpAny _ A.in1 (pyNext (.ref it) >>= _) _ _ _
    refine wpAny_bind (next_item (s := { s with heap := h, toks := tk }) hc hp fun h' t u hT hc' kk hz' => ?_)
    have hS' := kk _ _ hSi hS
    have nS : h.objs.size ≠ S := Nat.ne_of_gt (Heap.lt_size hS)
    have nI : h.objs.size ≠ it := by
      obtain ⟨old, e⟩ := hc.fld
      exact Nat.ne_of_gt (Heap.lt_size e)
    show wpAny _ A.in1 (updateSeq S (·.push (.ref h.objs.size)) >>= _) _ _ _
    refine wpAny_bind ?_
    have asz := ht.1
    refine wpAny_updateSeq hS' rfl (wpAny_pure ⟨plainId_quiet F.plain_extend_loop _, ?_⟩) (by rw [asz, sizeLine_eq]; omega) (by show (acc.push _).size ≤ sizeLine + 1; rw [Array.size_push, asz, sizeLine_eq]; omega)
    have k2 : ∀ b o, b ≠ S → h'.get? b = some o → (h'.update S (Obj.mapSeq (·.push (.ref h.objs.size)))).get? b = some o := fun b o hb q => (Heap.get?_update_other _ _ (Ne.symm hb)).trans q
    refine ih (i + 1) _ tk (acc.push (.ref h.objs.size)) _ (by omega) hlt (hc'.keep fun b hb o q => k2 b o ?_ q) (Heap.get?_update_self _ hS' rfl) ⟨by rw [Array.size_push, asz], fun j a' b' hj hp' => ?_⟩ (by rw [Heap.size_after_update]; exact Nat.le_trans hz hz') fun b o b1 b2 q => k2 b o b1 (kk b o b2 (ho b o b1 b2 q))
    · rcases hb with e | e
      · rw [e]; exact Ne.symm hSi
      · rw [e]; exact Ne.symm hSp
    · by_cases q : j < i
      · obtain ⟨T, t', u', e1, e2, e3, e4, e5⟩ := ht.2 j a' b' q hp'
        refine ⟨T, t', u', ?_, e2, e3, e4, k2 _ _ e3 (kk _ _ e4 e5)⟩
        rw [Array.getElem?_push_lt (by omega)]
        rw [Array.getElem?_eq_getElem (by omega)] at e1
        exact e1
      · have e : j = i := by omega
        subst e
        rw [hp] at hp'
        cases hp'
        refine ⟨h.objs.size, t, u, ?_, hz, nS, nI, k2 _ _ nS hT⟩
        rw [← asz, Array.getElem?_push_size]
end
end Cmb
namespace Cmb
open PySem PySem.Spec PyProof.Rows L2
open Sem (wp)
section
variable {X : Cx} {pins : List (Addr × Obj)} {σ : L2.St} {H H' : Hp} {s : Shared} {h' : Heap}
/-- several records of ours have turned, several new objects are laid -/
theorem turnedMany {t' : Nat} {ch : List Addr} (I : Inv X pins σ H s) (k : ∀ b o, b ∉ ch → s.heap.get? b = some o → h'.get? b = some o) (hf : ∀ b ∈ ch, FpOk X pins H b) (sm : Same H H') (od : ∀ b, b < s.heap.objs.size → H' b = H b)
    (new : ∀ b u, H b = none → H' b = some u → ObjOk X.prog X.w H' h' b u) : Inv X pins σ H' { s with heap := h', toks := t' } := by
  have nit : ∀ b u, H b = some u → b ∉ ch := fun b u e z => by
    rw [(hf b z).1] at e
    cases e
  refine I.step (g' := s.gens) (d' := s.drawn) (ch := ch) (fun b hb => ⟨(hf b hb).2.2.2.1, (hf b hb).2.1, (hf b hb).2.2.2.2.1, (hf b hb).2.2.2.2.2⟩) (fun b o _ _ hc e _ => k b o hc e) (fun b o _ _ hc e _ => ⟨o.slots, k b o hc e⟩)
    (fun b o _ e n => by rw [od b (Heap.lt_size e)]; exact n) (fun b o hc e => ⟨o, k b o hc e⟩) (fun b xs e => sm _ _ e) (fun b o u e => sm _ _ e) (fun b ps e => ⟨#[], by rw [sm _ _ e, Array.append_empty]⟩) (fun m hm => ?_) (fun b u e => ?_) I.bare
  · obtain ⟨o, es, ep, ho, r⟩ := hm
    exact ⟨o, es, ep, k _ o (fun z => (hf _ z).2.1 rfl) ho, r⟩
  · cases q : H b with
    | none => exact new b u q e
    | some w =>
      rw [sm _ _ q] at e
      have ew := Option.some.inj e
      subst ew
      refine (I.hok b w q).stay (fun c v hc z => k c v ?_ z) (fun c z => sm _ _ z) fun c xs z => sm _ _ z
      rcases hc with z | z
      · rw [z]; exact nit b w q
      · exact nit c _ z
end
section
variable {prog : Program} {w : World} {A : Around} {E : Value → Shared → Prop} {s : Shared} {it pl : Addr} {n N : Nat}
/-- list(combinations(..)) -/
theorem list_c {Q : Value → Shared → Prop} (hh : A.handled = none) (c : CAt s.heap it pl 0 n 0) (h0 : pa n N = none) (h1 : ∀ i, i < N → ∃ p, pa n i = some p) (hN : N ≤ 1000000)
    (hQ : ∀ (h' : Heap) (tk : Nat) (acc : Array Value) (c : Nat), h'.get? s.heap.objs.size = some { cls := .type "list", dict := none, data := .seq acc c, slots := #[] } → Tups s.heap h' s.heap.objs.size it n acc N → (∀ b o, b ≠ it → s.heap.get? b = some o → h'.get? b = some o) → Q (.ref s.heap.objs.size) { s with heap := h', toks := tk }) :
    wpAny (model prog w) A (call (.type "list") [.ref it]) Q E s := by
  have lit : it < s.heap.objs.size := by
    obtain ⟨old, e⟩ := c.fld
    exact Heap.lt_size e
  have lpl : pl < s.heap.objs.size := by
    obtain ⟨us, ⟨m, q⟩, _⟩ := c.pool
    exact Heap.lt_size q
  have nI : s.heap.objs.size ≠ it := Nat.ne_of_gt lit
  have nP : s.heap.objs.size ≠ pl := Nat.ne_of_gt lpl
  refine callType_codes (Q₁ := fun obj s₁ => obj = .ref s.heap.objs.size ∧ s₁ = { s with heap := s.heap.push { cls := .type "list", data := .seq #[] } }) F.called_list (F.typeCall_list_1 _) F.entry_list_init
    (code_list_new _ ⟨rfl, rfl⟩) fun obj s₁ h₁ => ?_
  obtain ⟨rfl, rfl⟩ := h₁
  have hS : (s.heap.push { cls := .type "list", data := .seq #[] }).get? s.heap.objs.size = some { cls := .type "list", data := .seq #[] } := Heap.get?_push_size _ rfl
  refine ⟨⟨_, hS, rfl⟩, F.args_list_init_2 _ _, ?_⟩
  show wpAny _ A.in1.in1 (Builtin.List.listItems (.ref s.heap.objs.size) >>= fun old => Builtin.List.listUpdate (.ref s.heap.objs.size) (fun _ => #[]) >>= fun _ => letGo old.toList.reverse >>= fun _ => Builtin.List.listExtendWith (.ref s.heap.objs.size) (.ref it) .none) _ _ _
  refine wpAny_bind ?_
  unfold Builtin.List.listItems
  refine wpAny_bind (wpAny_seqItems hS rfl (wpAny_pure ?_))
  show wpAny _ _ (updateSeq s.heap.objs.size (fun _ => #[]) >>= _) _ _ _
  refine wpAny_bind (wpAny_updateSeq hS rfl ?_)
  have hS2 := Heap.get?_update_self (Obj.mapSeq (fun _ => (#[] : Array Value))) hS rfl
  refine wpAny_bind (wpAny_letGo ?_)
  have k1 : ∀ b o, s.heap.get? b = some o → (s.heap.push { cls := .type "list", data := .seq #[] }).get? b = some o := fun b o e => Heap.get?_push_of_some _ e
  have up : ∀ (h : Heap) (f : Obj → Obj), (∀ b o, s.heap.get? b = some o → h.get? b = some o) → ∀ b o, s.heap.get? b = some o → (h.update s.heap.objs.size f).get? b = some o := fun h f q b o e =>
    (Heap.get?_update_other _ _ (Ne.symm (Nat.ne_of_lt (Heap.lt_size e)))).trans (q b o e)
  have k2 := up _ (Obj.mapSeq (fun _ => (#[] : Array Value))) k1
  have at_ : ∀ h : Heap, (∀ b o, s.heap.get? b = some o → h.get? b = some o) → CAt h it pl 0 n 0 := fun h k => c.keep fun b _ o e => k b o e
  have ty : ∀ h : Heap, (∀ b o, s.heap.get? b = some o → h.get? b = some o) → ({ s with heap := h } : Shared).TypeIs (.ref it) "itertools.combinations" := fun h k => by
    obtain ⟨old, e⟩ := (at_ h k).fld
    exact ⟨_, e, rfl⟩
  unfold Builtin.List.listExtendWith
  refine wpAny_bind (wpAny_typeOf (ty _ k2) ?_)
  have g1 : Builtin.List.listSameRef (.ref s.heap.objs.size) (.ref it) = false := by simp [Builtin.List.listSameRef, nI]
  have g2 : (Value.type "itertools.combinations" == Value.type "list") = false := by decide
  have g3 : (Value.type "itertools.combinations" == Value.type "tuple") = false := by decide
  simp only [g1, g2, g3, Bool.or_false, Bool.false_eq_true, if_false]
  refine wpAny_bind (iter_self (s := { s with heap := _ }) (at_ _ k2) ?_)
  refine wpAny_bind (wpAny_holding ?_)
  unfold Builtin.List.listLengthHint
  refine wpAny_bind (wpAny_specialOf (ty _ k2) nolen_c ?_)
  show wpAny _ _ (specialOf (Value.ref it) (Str.ofString "__length_hint__") >>= _) _ _ _
  refine wpAny_bind (wpAny_specialOf (ty _ k2) nohint_c ?_)
  refine wpAny_pure ?_
  show wpAny _ _ (rule "list.extend.makes-room" >>= fun _ => Builtin.List.listTouch (.ref s.heap.objs.size) >>= fun _ => again (.builtin "list.extend.loop" ⟨[.ref s.heap.objs.size, .ref it, .none], []⟩)) _ _ _
  refine wpAny_bind (wpAny_rule ?_)
  refine wpAny_bind ?_
  show wpAny _ _ (updateSeq s.heap.objs.size (·.push .none) >>= fun _ => updateSeq s.heap.objs.size (·.pop)) _ _ _
  refine wpAny_bind (wpAny_updateSeq hS2 rfl ?_)
  have hS3 := Heap.get?_update_self (Obj.mapSeq (·.push Value.none)) hS2 rfl
  refine wpAny_updateSeq (hz := by seq_fits) hS3 rfl ?_
  have hS4 := Heap.get?_update_self (Obj.mapSeq (·.pop)) hS3 rfl
  have k4 := up _ (Obj.mapSeq (·.pop)) (up _ (Obj.mapSeq (·.push Value.none)) k2)
  refine wpAny_pure ⟨plainId_quiet F.plain_extend_loop _, ?_⟩
  refine drain_c (A := A.in1) hh nI nP .none h0 h1 hN s.heap (fun h' tk acc c' e ht k => ⟨rfl, hQ h' tk acc c' e ht fun b o b2 q => k b o (Nat.ne_of_lt (Heap.lt_size q)) b2 q⟩) N 0 _ s.toks #[] _ (by omega) (Nat.zero_le _) (at_ _ k4) hS4 ⟨rfl, fun j a b hj => absurd hj (Nat.not_lt_zero _)⟩ ?_ fun b o _ _ q => k4 b o q
  rw [Heap.size_after_update, Heap.size_after_update, Heap.size_after_update]
  exact Nat.le_of_lt (Heap.lt_size hS)
end
/-- the pairs at their places -/
def layH (H : Hp) (n : Nat) (acc : Array Value) : Nat → Hp
  | 0 => H
  | i + 1 => match acc[i]?, pa n i with
    | some (.ref T), some (a, b) => upd (layH H n acc i) T (.tup [.int (a : Int), .int (b : Int)])
    | _, _ => layH H n acc i
theorem layH_succ {H : Hp} {n : Nat} {acc : Array Value} {i : Nat} {T : Addr} {a b : Nat} (h1 : acc[i]? = some (.ref T)) (h2 : pa n i = some (a, b)) : layH H n acc (i + 1) = upd (layH H n acc i) T (.tup [.int (a : Int), .int (b : Int)]) := by
  show (match acc[i]?, pa n i with
    | some (.ref T), some (a, b) => upd (layH H n acc i) T (.tup [.int (a : Int), .int (b : Int)])
    | _, _ => layH H n acc i) = _
  rw [h1, h2]
section
variable {H : Hp} {g0 h : Heap} {S it : Addr} {n N : Nat} {acc : Array Value}
theorem layH_ok (ht : Tups g0 h S it n acc N) (h1 : ∀ i, i < N → ∃ p, pa n i = some p) (fr : ∀ b, g0.objs.size ≤ b → H b = none) : ∀ i, i ≤ N → Same H (layH H n acc i) ∧ (∀ b, b < g0.objs.size → layH H n acc i b = H b) ∧ (layH H n acc i S = H S) ∧
    (∀ b u, H b = none → layH H n acc i b = some u → ∃ (x y : Nat) (t v : Tok), u = .tup [.int (x : Int), .int (y : Int)] ∧ h.get? b = some { cls := .type "tuple", data := .seq #[.int (x : Int) t, .int (y : Int) v] }) ∧
    ∀ j x y, j < i → pa n j = some (x, y) → ∃ T, acc[j]? = some (.ref T) ∧ layH H n acc i T = some (.tup [.int (x : Int), .int (y : Int)]) := by
  intro i
  induction i with
  | zero => exact fun _ => ⟨fun _ _ e => e, fun _ _ => rfl, rfl, (fun b u e1 e2 => by rw [show layH H n acc 0 b = H b from rfl, e1] at e2; cases e2), fun _ _ _ hj => absurd hj (Nat.not_lt_zero _)⟩
  | succ i ih =>
    intro hi
    obtain ⟨q1, q2, q3, q4, q5⟩ := ih (by omega)
    obtain ⟨⟨a, b⟩, hp⟩ := h1 i (by omega)
    obtain ⟨T, t, u, e1, e2, e3, e4, e5⟩ := ht.2 i a b (by omega) hp
    rw [layH_succ e1 hp]
    have hT : H T = none := fr T e2
    refine ⟨fun c o e => ?_, fun c hc => ?_, ?_, fun c v e f => ?_, fun j x y hj hxy => ?_⟩
    · rw [upd_ne (ne_of_none e hT)]
      exact q1 _ _ e
    · rw [upd_ne (Nat.ne_of_lt (Nat.lt_of_lt_of_le hc e2))]
      exact q2 c hc
    · rw [upd_ne (Ne.symm e3)]
      exact q3
    · by_cases z : c = T
      · rw [z, upd_same] at f
        rw [z]
        exact ⟨a, b, t, u, (Option.some.inj f).symm, e5⟩
      · rw [upd_ne z] at f
        exact q4 c v e f
    · by_cases z : j < i
      · obtain ⟨T2, f1, f2⟩ := q5 j x y z hxy
        refine ⟨T2, f1, ?_⟩
        by_cases w : T2 = T
        · obtain ⟨T3, t3, u3, k1, k2, k3, k4, k5⟩ := ht.2 j x y (by omega) hxy
          rw [f1] at k1
          have e : T2 = T3 := Value.ref.inj (Option.some.inj k1)
          rw [← e, w, e5] at k5
          have e6 := congrArg Obj.data (Option.some.inj k5)
          simp only [Data.seq.injEq, Array.mk.injEq, List.cons.injEq, Value.int.injEq] at e6
          obtain ⟨⟨⟨e7, _⟩, ⟨e8, _⟩, _⟩, _⟩ := e6
          rw [w, upd_same, e7, e8]
        · rw [upd_ne w]
          exact f2
      · have e : j = i := by omega
        subst e
        rw [hp] at hxy
        cases hxy
        exact ⟨T, e1, upd_same⟩
end
def adV : Value → V
  | .ref T => .ref T
  | _ => .non
def tLstCmb (te : L2.St → Hp → (Int → Int → Hp → Prop) → Prop) : TE := fun σ H Q => te σ H fun a b H1 => ∃ f n : Nat, a = (f : Int) ∧ b = ((f + n : Nat) : Int) ∧ f ≤ 1000 ∧ n ≤ 1000 ∧ f = 0 ∧
  ∀ (p : Addr) (rs : List V) (H' : Hp), H1 p = none → Same H1 H' → H' p = some (.lst rs) → rs.length ≤ n * n → Ly.Prs n n rs H' → Q (.ref p) H'
theorem pe_listCmb {X : Cx} {e : Expr} {te : L2.St → Hp → (Int → Int → Hp → Prop) → Prop} {p pos kp lp lpos : Pos} {kk : Nat} (hc : X.calm = true) (hgl : Gl X "list") (hml : X.mg "list" = none) (hg : Gl X "combinations") (hm : X.mg "combinations" = some (.type "itertools.combinations")) (he : PRg X e te)
    (na : starEach [e, .Constant (.int 2) kk kp] X.env = (false, eval e X.env) :: starEach [.Constant (.int 2) kk kp] X.env := by rfl) (nb : starEach [.Constant (.int 2) kk kp] X.env = (false, eval (.Constant (.int 2) kk kp) X.env) :: starEach [] X.env := by rfl)
    (hp : (backTo pos (starEach [.Constant (.int 2) kk kp] X.env)).any (·.1) = false := by rfl)
    (nc : starEach [.Call (.Name "combinations" p) [e, .Constant (.int 2) kk kp] [] pos] X.env = (false, eval (.Call (.Name "combinations" p) [e, .Constant (.int 2) kk kp] [] pos) X.env) :: starEach [] X.env := by rfl) :
    PE X (.Call (.Name "list" lp) [.Call (.Name "combinations" p) [e, .Constant (.int 2) kk kp] [] pos] [] lpos) (tLstCmb te) := by
  refine ⟨fun pins s σ H Q I h => ?_⟩
  refine Call_ (ld_blt I hgl hml boot_list (PyProof.Rows.callWith_type1 (args_cons (thn (made_c hg hm hc he na nb hp pins s σ H (fun f n H1 => f = 0 ∧ ∀ (p : Addr) (rs : List V) (H' : Hp), H1 p = none → Same H1 H' → H' p = some (.lst rs) → rs.length ≤ n * n → Ly.Prs n n rs H' → Q (.ref p) H') I ?_) fun v s1 hv => args_nil ?_) nc) nc))
  · exact h
  obtain ⟨it, pl, f, n, H1, rfl, c, I1, hf, hn0, rfl, q⟩ := hv
  obtain ⟨N, hN, h0, h1⟩ := pa_many n
  have hn : N ≤ 1000000 := Nat.le_trans hN (Nat.mul_le_mul hn0 hn0)
  refine list_c (I1.ok.hd hc) c h0 h1 hn fun h' tk acc c' hS ht k => ?_
  have fr : ∀ b, s1.heap.objs.size ≤ b → H1 b = none := fun b hb => I1.hok.fresh hb
  obtain ⟨l1, l2, l3, l4, l5⟩ := layH_ok ht h1 fr N (Nat.le_refl _)
  have hSn : H1 s1.heap.objs.size = none := fr _ (Nat.le_refl _)
  have lS : layH H1 n acc N s1.heap.objs.size = none := l3.trans hSn
  have len : acc.toList.length = N := by
    rw [Array.length_toList]
    exact ht.1
  have lz : (acc.toList.map adV).length ≤ sizeLine := by
    rw [List.length_map, len, sizeLine_eq]
    omega
  have rv : Vals (acc.toList.map adV) acc.toList := by
    refine vals_of_at (by rw [List.length_map]) fun j x u hx hu => ?_
    rw [List.getElem?_map, hu] at hx
    have ex := Option.some.inj hx
    have hj : j < N := by
      have := (List.getElem?_eq_some_iff.mp hu).1
      omega
    obtain ⟨⟨a, b⟩, hp⟩ := h1 j hj
    obtain ⟨T, t, w, e1, _⟩ := ht.2 j a b hj hp
    rw [Array.getElem?_toList] at hu
    rw [hu] at e1
    have eu := Option.some.inj e1
    subst eu
    rw [← ex]
    rfl
  have sm : Same H1 (upd (layH H1 n acc N) s1.heap.objs.size (.lst (acc.toList.map adV))) := fun b o e => by
    rw [upd_ne (ne_of_none e hSn)]
    exact l1 _ _ e
  have I2 := turnedMany (t' := tk) (ch := [it]) (h' := h') (H' := upd (layH H1 n acc N) s1.heap.objs.size (.lst (acc.toList.map adV))) I1 (fun b o hb e => k b o (by simpa using hb) e) (fun b hb => hf b (by rw [List.mem_singleton.mp hb]; exact List.mem_cons_self)) sm
    (fun b hb => by rw [upd_ne (Nat.ne_of_lt hb)]; exact l2 b hb) fun b u e f => by
      by_cases z : b = s1.heap.objs.size
      · rw [z, upd_same] at f
        have ef := Option.some.inj f
        subst ef
        rw [z]
        exact ⟨lz, acc.toList, c', rv, by rw [Array.toArray_toList]; exact hS⟩
      · rw [upd_ne z] at f
        obtain ⟨x, y, t, v, rfl, hx⟩ := l4 b u e f
        exact ⟨by show 2 ≤ sizeLine; decide, [.int (x : Int) t, .int (y : Int) v], .cons ⟨t, rfl⟩ (.cons ⟨v, rfl⟩ .nil), ⟨_, hx, rfl, _, rfl⟩⟩
  refine ⟨.ref s1.heap.objs.size, _, I2, rfl, q _ (acc.toList.map adV) _ hSn sm upd_same (by rw [List.length_map, len]; exact hN) ?_⟩
  have pr : ∀ j a b, j < N → pa n j = some (a, b) → ∃ x, (acc.toList.map adV)[j]? = some x ∧ Ly.PrAt (upd (layH H1 n acc N) s1.heap.objs.size (.lst (acc.toList.map adV))) x a b := fun j a b hj hp => by
    obtain ⟨T, e1, e2⟩ := l5 j a b hj hp
    refine ⟨.ref T, ?_, T, rfl, ?_⟩
    · rw [List.getElem?_map, Array.getElem?_toList, e1]
      rfl
    · rw [upd_ne (ne_of_none e2 lS)]
      exact e2
  refine ⟨fun x hx => ?_, fun a b hab hb _ => ?_⟩
  · obtain ⟨j, hj, ej⟩ := List.mem_iff_getElem.mp hx
    rw [List.length_map, len] at hj
    obtain ⟨⟨a, b⟩, hp⟩ := h1 j hj
    obtain ⟨y, ey, py⟩ := pr j a b hj hp
    have lt := pa_lt hp
    rw [List.getElem?_eq_getElem (by rw [List.length_map, len]; exact hj), ej] at ey
    rw [Option.some.inj ey]
    exact ⟨a, b, lt.1, lt.2, by omega, py⟩
  · obtain ⟨j, hp⟩ := pa_all a b hab hb
    have hj : j < N := by
      by_cases z : j < N
      · exact z
      · have e := pa_stay h0 (j - N)
        rw [show N + (j - N) = j by omega, hp] at e
        cases e
    obtain ⟨x, ex, px⟩ := pr j a b hj hp
    exact ⟨x, List.mem_of_getElem? ex, px⟩
end Cmb

/-! ### the head's facts and one more -/
namespace Ly
open PySem PySem.Spec PyProof.Rows L2
abbrev AlM : Type := He.AlD × Bool
def obsM (n : Nat) (fa : List He.Fa) (fn : List He.DefD) (ex : PySem.W.Frag → Bool) (g : Addr → Option Obj) : AlM := (He.obsDG n fa fn g, ex (He.frG g (He.asD g n)))
def hookM (n : Nat) (fa : List He.Fa) (fn : List He.DefD) (ex : PySem.W.Frag → Bool) : PySem.W.Hook where
  α := AlM
  obs := fun s => obsM n fa fn ex s.heap.get?
  val := fun _ => (He.valD fn, true)
  says := fun _ h => ∃ K : PySem.W.Frag, K.In h ∧ He.SaysD fa fn K ∧ ex K = true
  of := fun _ _ e => ⟨_, He.frG_in, congrArg (fun z : AlM => z.1) e, congrArg (fun z : AlM => z.2) e⟩
  keeps := fun _ _ _ ⟨K, hK, c⟩ k => ⟨K, PySem.W.Frag.In.keeps hK k, c⟩
theorem obsM_eq {n : Nat} {fa : List He.Fa} {fn : List He.DefD} {ex : PySem.W.Frag → Bool} {g : Addr → Option Obj} {s : Shared} (h : ∀ a, g a = s.heap.get? a) : obsM n fa fn ex g = (hookM n fa fn ex).obs s := by
  have e : g = s.heap.get? := funext h
  rw [e] <;> rfl
/-! ### a star in a display; a tuple's count -/
def tStarQ (K : PySem.W.Frag) (te : TE) (t : TA) : TA := fun σ H Q => te σ H fun x H1 => ∃ p xs, x = V.ref p ∧ (SqT K H1 p xs ∨ SqL K H1 p xs) ∧ t σ H1 fun ys H2 => Q (xs ++ ys) H2
theorem kz_star {X : Cx} {K : PySem.W.Frag} {e : Expr} {es : List Expr} {te : TE} {t : TA} {p : Pos} (he : PE X e te) (hr : PA X es t) (hK : X.K = K := by rfl) (hs : starEach (.Starred e p :: es) X.env = (true, eval e X.env) :: starEach es X.env := by rfl) : PA X (.Starred e p :: es) (tStarQ K te t) := hK ▸ StX.pa_star he hr hs
def rCntT (K : PySem.W.Frag) : V → List V → Hp → VK → Prop := fun x xs H Q => ∃ (p : Addr) (ns : List Int) (k : Int), x = .ref p ∧ xs = [.int k] ∧ SqT K H p (ns.map V.int) ∧ Q (.int (ns.count k : Nat)) H
theorem mt_tcount {X : Cx} : MtR X "tuple.count" (rCntT X.K) := by
  intro pins s σ H x xs v us Q I rx rxs h
  obtain ⟨p, ns, k, rfl, rfl, hs, q⟩ := h
  cases rx
  obtain ⟨u, rfl, ru⟩ := rxs.one
  obtain ⟨t, rfl⟩ := ru
  obtain ⟨its, rv, ⟨⟨cls, dd, data, sl⟩, ho, hc, n, hd⟩, hlen⟩ := I.tuple hs
  simp only at hc hd
  subst hc hd
  have hi := ints_of_vals rv
  refine call_meets PySem.F.slot_tuple_count ⟨_, ho, rfl⟩ PySem.F.entry_tuple_count (PySem.F.args_tuple_count_2 _ _) (SeqAt.tuple_countAt p its.toArray n dd sl (.int k t) (eqk k)) ⟨ho, fun y hy => (eqk_gives hi y (by simpa using hy)).at _ _, ?_⟩
  have ec : its.toArray.toList.countP (eqk k) = ns.count k := eqk_count hi
  refine ⟨.int (ns.count k : Nat), H, I.tok _, ⟨s.toks, ?_⟩, q⟩
  rw [ec]
end Ly
/-! ### a comprehension with two for -/
namespace Ly
open PySem PySem.Spec PyProof.Rows L2
/-- the inner for of a comprehension: what it asks -/
def InnerLc (D : Addr) (g1 : TG) (tt1 : TT) (te : TE) (vs1 : List Nat) (σ2 : L2.St) (Nx : Hp → Prop) : It → Hp → Prop := fun J1 H4 => ∃ W1 : Nat → Nat → Hp → Prop, (∃ m, W1 0 m H4) ∧ ∀ j k H, W1 j k H →
  (J1.stop j H ∧ Nx H) ∨ (J1.go j H ∧ ∃ Nx1 : Hp → Prop, (∀ H', Nx1 H' → ∃ k', k' < k ∧ W1 (j + 1) k' H') ∧ ∀ x H', J1.yld j H x H' → g1 x (wipe σ2 vs1) H' fun σ3 H5 => wipe σ3 vs1 = wipe σ2 vs1 ∧ tt1 σ3 H5 fun b H6 =>
    if b = true then te σ3 H6 fun y H7 => ∃ acc, H7 D = some (.lst acc) ∧ acc.length < sizeLine ∧ Nx1 (upd H7 D (.lst (acc ++ [y]))) else Nx1 H6)
section
variable {J : It} {n : Nat} {G : Hp → Prop} {Y : Nat → Hp → V → Hp → Prop} {g g1 : TG} {tt tt1 : TT} {wi1 : TI} {te : TE} {vs vs1 : List Nat} {σ σ2 : L2.St} {H1 H4 : Hp} {D : Addr} {Qd Nx : Hp → Prop}
theorem lc_two (w : Walk J n G Y) (Pv : Nat → Hp → Prop) (h0 : Pv 0 (upd H1 D (.lst []))) (hG : ∀ i H, i ≤ n → Pv i H → G H)
    (hs : ∀ i x H H', i < n → Pv i H → Y i H x H' → g x (wipe σ vs) H' fun σ2 H2 => wipe σ2 vs = wipe σ vs ∧ tt σ2 H2 fun b H3 => if b = true then wi1 σ2 H3 (InnerLc D g1 tt1 te vs1 σ2 (Pv (i + 1))) else Pv (i + 1) H3) (hd : ∀ H, Pv n H → Qd H) :
    ∃ W : Nat → Nat → Hp → Prop, (∃ m, W 0 m (upd H1 D (.lst []))) ∧ ∀ i m H, W i m H →
      (J.stop i H ∧ Qd H) ∨ (J.go i H ∧ ∃ Nx : Hp → Prop, (∀ H', Nx H' → ∃ m', m' < m ∧ W (i + 1) m' H') ∧ ∀ x H', J.yld i H x H' → g x (wipe σ vs) H' fun σ2 H2 => wipe σ2 vs = wipe σ vs ∧ tt σ2 H2 fun b H3 =>
        if b = true then wi1 σ2 H3 (InnerLc D g1 tt1 te vs1 σ2 Nx) else Nx H3) := by
  refine ⟨fun i m H => m = n - i ∧ i ≤ n ∧ Pv i H, ⟨n, by simp, Nat.zero_le _, h0⟩, ?_⟩
  rintro i m H ⟨rfl, hi, p⟩
  by_cases hlt : i < n
  · exact .inr ⟨w.goes i H hlt (hG i H hi p), Pv (i + 1), fun H' p' => ⟨n - (i + 1), by omega, rfl, hlt, p'⟩, fun x H' y => hs i x H H' hlt p (w.yields i H x H' hlt (hG i H hi p) y)⟩
  · have e : i = n := by omega
    rw [e] at p ⊢
    exact .inl ⟨w.stops H (hG n H (Nat.le_refl _) p), hd H p⟩
theorem lc_in (w : Walk J n G Y) (Pv : Nat → Hp → Prop) (h0 : Pv 0 H4) (hG : ∀ i H, i ≤ n → Pv i H → G H)
    (hs : ∀ i x H H', i < n → Pv i H → Y i H x H' → g1 x (wipe σ2 vs1) H' fun σ3 H5 => wipe σ3 vs1 = wipe σ2 vs1 ∧ tt1 σ3 H5 fun b H6 => if b = true then te σ3 H6 fun y H7 => ∃ acc, H7 D = some (.lst acc) ∧ acc.length < sizeLine ∧ Pv (i + 1) (upd H7 D (.lst (acc ++ [y]))) else Pv (i + 1) H6)
    (hd : ∀ H, Pv n H → Nx H) : InnerLc D g1 tt1 te vs1 σ2 Nx J H4 := by
  refine ⟨fun i m H => m = n - i ∧ i ≤ n ∧ Pv i H, ⟨n, by simp, Nat.zero_le _, h0⟩, ?_⟩
  rintro i m H ⟨rfl, hi, p⟩
  by_cases hlt : i < n
  · exact .inr ⟨w.goes i H hlt (hG i H hi p), Pv (i + 1), fun H' p' => ⟨n - (i + 1), by omega, rfl, hlt, p'⟩, fun x H' y => hs i x H H' hlt p (w.yields i H x H' hlt (hG i H hi p) y)⟩
  · have e : i = n := by omega
    rw [e] at p ⊢
    exact .inl ⟨w.stops H (hG n H (Nat.le_refl _) p), hd H p⟩
end
end Ly
/-! ### a tuple times one, and more -/
namespace Ly
open PySem PySem.Spec PyProof.Rows L2
theorem tup_once (l : Addr) (items : Array Value) (n : Nat) (dd : Option Addr) (sl : Array (Option Value)) (u : Tok) :
    Meets (Builtin.«tuple.__mul__» ⟨[.ref l, .int 1 u], []⟩) (fun _ R s => s.heap.get? l = some { cls := .type "tuple", dict := dd, data := .seq items n, slots := sl } ∧ R (.ok (.ret (.ref l))) s) :=
  .of_wp fun prog w A R s h => by
    obtain ⟨hp, g, d, tk, os⟩ := s
    obtain ⟨hl, h⟩ := h
    have f1 := AutoSeq1.idx_int
    have c1 : (items.isEmpty || (1 : Int) == 1) = true := by simp
    have c2 : ((Value.type "tuple") == (Value.type "tuple")) = true := by decide
    wp_walk using wpAny_loadPart' hl
    exact ⟨_, rfl, h⟩
/-- a tuple, not empty, so many times: itself, or a new one -/
def rRepA (K : PySem.W.Frag) : R2 := fun x y H Q => ∃ l k xs, x = .ref l ∧ y = .int k ∧ SqT K H l xs ∧ xs ≠ [] ∧ 1 ≤ k ∧ k ≤ 1000 ∧ xs.length ≤ 1000 ∧ (k = 1 → Q (.ref l) H) ∧ (2 ≤ k → ∀ p, H p = none → Q (.ref p) (upd H p (.tup (List.replicate k.toNat xs).flatten)))
theorem kz_repT {X : Cx} {K : PySem.W.Frag} (hK : X.K = K := by rfl) : OpR X (binaryOp .Mult) (rRepA K) := by
  subst hK
  intro pins s σ H x y v u Q I rx ry h
  obtain ⟨l, k, xs, rfl, rfl, hT, hne, h1, h2, hz, q1, q2⟩ := h
  by_cases c : 2 ≤ k
  · exact op_repT pins s σ H _ _ v u Q I rx ry ⟨l, k, xs, rfl, rfl, hT, hne, c, h2, hz, q2 c⟩
  · have e : k = 1 := by omega
    subst e
    cases rx
    obtain ⟨t, rfl⟩ := ry
    obtain ⟨its, r, ⟨⟨cls, dd, data, sl⟩, ho, hc, n, hd⟩, hs⟩ := I.tuple hT
    simp only at hc hd
    subst hc hd
    refine wpAny_binaryOp_repeat_ref (T := "tuple") (U := "int") (by decide) ⟨_, ho, rfl⟩ (fun s' => typeIs_int s' 1 t) noFill_tuple_mul F.fills_int_mul F.slot_int_rmul repeat_tuple F.slot_int_index.lookup
      (call_meets F.slot_int_rmul (typeIs_int s 1 t) F.entry_int_rmul (F.args_int_rmul_2 _ _) (int_rmul_tuple 1 t l its.toArray n dd sl) ⟨ho, rfl, ⟨_, ho, rfl⟩, call_meets F.slot_tuple_mul ⟨_, ho, rfl⟩ F.entry_tuple_mul (F.args_tuple_mul_2 _ _) (tup_once l its.toArray n dd sl t) ⟨ho, ?_⟩⟩)
    exact ⟨.ref l, H, I, rfl, q1 rfl⟩
end Ly
/-! ### a word between a statement and the rest -/
namespace Ly
open PySem PySem.Spec PyProof.Rows L2
def tCutC (t u : TS) : TS := fun D σ H => ∃ Mid : L2.St → Hp → Prop, t { D with nx := Mid } σ H ∧ ∀ σ' H', Mid σ' H' → u D σ' H'
theorem pss_cutC {X : Cx} {st : Stmt} {rest : List Stmt} {t u : TS} (h1 : PS X st t) (h2 : PSs X rest u) : PSs X (st :: rest) (tCutC t u) := C8.pss_cut h1 h2
end Ly
/-! ### the first of a tuple; a tuple so many times; two hands, either way -/
namespace Ly
open PySem PySem.Spec PyProof.Rows L2
theorem slT_to {K : PySem.W.Frag} {H : Hp} {a : Addr} {xs : List V} {j : Nat} {Q : VK} (h : SqT K H a xs) (q : ∀ p H', Same H H' → SqT K H' p (xs.take j) → Q (.ref p) H') : rSlA K (.ref a) none (some (j : Int)) H Q := by
  refine ⟨a, xs, rfl, h, fun e => ?_, fun _ p np => ?_⟩
  · refine q a H (L2.Same.refl _) ?_
    have e2 : min j xs.length = xs.length := e.2
    rw [List.take_of_length_le (by omega)]
    exact h
  · rw [cut_to]
    exact q p _ (same_new np) (.inl (.inl upd_same))
theorem repT_ {K : PySem.W.Frag} {H : Hp} {l : Addr} {xs : List V} {k : Int} {Q : VK} (h : SqT K H l xs) (hne : xs ≠ []) (k1 : 1 ≤ k) (k2 : k ≤ 1000) (hl : xs.length ≤ 1000) (q : ∀ p H', Same H H' → SqT K H' p (List.replicate k.toNat xs).flatten → Q (.ref p) H') : rRepA K (.ref l) (.int k) H Q := by
  refine ⟨l, k, xs, rfl, rfl, h, hne, k1, k2, hl, fun e => ?_, fun _ p np => q p _ (same_new np) (.inl (.inl upd_same))⟩
  refine q l H (L2.Same.refl _) ?_
  rw [e]
  show SqT K H l (xs ++ [])
  rw [List.append_nil]
  exact h
theorem REv.two {m : Nat} {row : List Int} {k : Nat} (h : REv (m : Int) row k) {a b : Int} (ha : 0 ≤ a ∧ a < (m : Int)) (hb : 0 ≤ b ∧ b < (m : Int)) (hab : a ≠ b) : Lz row.length (sg row a b) k := by
  obtain ⟨x, rfl⟩ : ∃ x : Nat, a = (x : Int) := ⟨a.toNat, by omega⟩
  obtain ⟨y, rfl⟩ : ∃ y : Nat, b = (y : Int) := ⟨b.toNat, by omega⟩
  by_cases c : x < y
  · exact h x y c (by omega)
  · have z := h y x (by omega) (by omega)
    rw [sg_turn row (a := (y : Int)) (b := (x : Int)) (by omega)]
    exact Lz_neg z
end Ly
/-! ### two lists that grow -/
namespace Ly
open PySem PySem.Spec PyProof.Rows L2
theorem Scr.mv {K : PySem.W.Frag} {H H' : Hp} {b a : Addr} {ns : List Int} (h : Scr K H b a ns) (k : SqL K H' a (ns.map V.int)) : Scr K H' b a ns := ⟨h.1, h.2.elim (fun x => .inl x) (fun x => .inr ⟨k, x.2⟩)⟩
theorem Scr.upd2 {K : PySem.W.Frag} {H : Hp} {b D a : Addr} {ns : List Int} {o : HO} (h : Scr K H b a ns) (d : Scr K H D a ns) : Scr K (upd H D o) b a ns := h.mv (d.but But.at).sq
theorem Town.upd {b D : Addr} {n : Nat} {H : Hp} {o : HO} (h : Town b n H) (ne : D ≠ b) : Town b n (upd H D o) := by
  obtain ⟨xs, e, l⟩ := h
  exact ⟨xs, by rw [upd_ne (Ne.symm ne)]; exact e, l⟩
theorem butT_lst {K : PySem.W.Frag} {D : Addr} {H : Hp} {o : HO} {a : Addr} {xs ys : List V} (hD : H D = some (.lst ys)) (h : SqT K H a xs) : SqT K (upd H D o) a xs := butT_town But.at (⟨ys, hD, Nat.le_refl _⟩ : Town D ys.length H) h
theorem tup_upd {D u : Addr} {H : Hp} {o : HO} {xs ys : List V} (hD : H D = some (.lst ys)) (h : H u = some (.tup xs)) : (upd H D o) u = some (.tup xs) := by
  rw [upd_ne (fun z => by rw [z, hD] at h; cases h)]
  exact h
end Ly
/-! ### sorted(t), t.index(i): a tuple of whole numbers -/
namespace Ly
open PySem PySem.Spec PyProof.Rows L2
theorem bt_sorted : bootBuiltins "sorted" = some (.builtin "sorted") := by decide +kernel
def rSortT (K : PySem.W.Frag) : List V → Hp → VK → Prop := fun vs H Q => ∃ (a : Addr) (ns : List Int), vs = [V.ref a] ∧ SqT K H a (ns.map V.int) ∧ ns.length < 64 ∧
  ∀ (ns' : List Int) (p : Addr), ns'.Perm ns → ns'.Pairwise (· ≤ ·) → H p = none → Q (.ref p) (upd H p (.lst (ns'.map V.int)))
theorem kz_sortedT {X : Cx} {K : PySem.W.Frag} (hK : X.K = K := by rfl) : CallR X (.builtin "sorted") (rSortT K) := by
  subst hK
  intro pins s σ H vs us Q I r h
  obtain ⟨a, ns, rfl, hs, hl, q⟩ := h
  obtain ⟨its, rv, ⟨o, ho, hc, n, hd⟩, hz⟩ := I.tuple hs
  rw [Vals.ref1 r]
  have hi := rv.ints
  have len : its.length = ns.length := by rw [← rv.length, List.length_map]
  have hL : its.length ≤ sizeLine := by rw [sizeLine_eq]; omega
  refine Calls.call_function_entry kind_sorted plain_sorted entry_sorted (args_sorted1 _) ?_
  unfold Builtin.«sorted»
  refine wpAny_bind (m := checkCount "sorted" 1 1 _) (wpAny_pure ?_)
  refine wpAny_bind (wpAny_collect_seq a (.inr rfl) ho hc hd (fun h' k => ?_) (by rw [List.size_toArray]; exact hL))
  rw [List.toList_toArray]
  refine wpAny_bind (wpAny_newList ?_ hL)
  have I1 : Inv X pins σ H { s with heap := h' } := I.kept (t' := s.toks) k
  have hoL : (h'.push (seqObj "list" its.toArray 0)).get? h'.objs.size = some (seqObj "list" its.toArray 0) := Heap.get?_push_size _ rfl
  refine wpAny_bind (wpAny_holding (wpAny_call_entry slot_list_sort ⟨_, hoL, rfl⟩ entry_list_sort (list_sort_tree hoL hi (by rw [len]; exact hl) fun out ns' h1 h2 h3 => ⟨_, rfl, ?_⟩) (args_list_sort _)))
  refine wpAny_pure ⟨_, rfl, ?_⟩
  obtain ⟨ep, he'⟩ := sortedHeap_at (out := out) hoL
  have hlen : (ns'.map V.int).length ≤ sizeLine := by
    rw [List.length_map, h2.length_eq, sizeLine_eq]
    omega
  have old : ∀ b ob, h'.get? b = some ob → (sortedHeap (h'.push (seqObj "list" its.toArray 0)) h'.objs.size its out).get? b = some ob := fun b ob e => by
    have lt := Heap.lt_size e
    rw [sortedHeap_old (Nat.ne_of_lt lt) (Nat.lt_trans lt (Heap.lt_size hoL))]
    exact Heap.get?_push_of_some _ e
  exact ⟨.ref _, upd H h'.objs.size (.lst (ns'.map V.int)), I1.laid (t' := s.toks) old (Nat.le_refl _) ⟨hlen, out.toList, ep, vals_of_ints h1, he'⟩, rfl, q ns' _ h2 h3 (I1.hok.fresh (Nat.le_refl _))⟩
def rIdxT (K : PySem.W.Frag) : V → List V → Hp → VK → Prop := fun x xs H Q => ∃ (p : Addr) (ns : List Int) (z : Int) (j : Nat), x = .ref p ∧ xs = [.int z] ∧ SqT K H p (ns.map V.int) ∧ ns[j]? = some z ∧ (∀ m, m < j → ns[m]? ≠ some z) ∧ Q (.int (j : Int)) H
theorem mt_tindex {X : Cx} : MtR X "tuple.index" (rIdxT X.K) := by
  intro pins s σ H x xs v us Q I rx rs h
  obtain ⟨p, ns, z, j, rfl, rfl, hq, hy, hno, q⟩ := h
  cases rx
  obtain ⟨u, rfl, t, rfl⟩ := vals1 rs
  obtain ⟨its, r, pl, hz⟩ := I.tuple hq
  obtain ⟨⟨cls, dd, dt, sl⟩, ho, hc, n, hd⟩ := pl
  simp only at hc hd
  subst hc
  subst hd
  have hl : its.toArray.size = ns.length := by rw [List.size_toArray, ← r.length, List.length_map]
  have hj : j < its.toArray.size := by rw [hl]; exact (List.getElem?_eq_some_iff.mp hy).1
  have hi := ints_of_vals r
  have at' : ∀ (m : Nat) (hm : m < its.toArray.size), ∃ y t', ns[m]? = some y ∧ its.toArray[m] = Value.int y t' := fun m hm => by
    have hm' : m < ns.length := by rw [← hl]; exact hm
    obtain ⟨w, hw, t', hw'⟩ := r.get (i := m) (x := .int ns[m]) (by simp [hm'])
    refine ⟨ns[m], t', List.getElem?_eq_getElem hm', ?_⟩
    have e := (List.getElem?_eq_some_iff.mp hw).2
    rw [← hw', ← e]
    simp
  refine call_meets PySem.F.slot_tuple_index ⟨_, ho, rfl⟩ PySem.F.entry_tuple_index (PySem.F.args_tuple_index_2 _ _) (TI.tuple_indexAt p its.toArray n dd sl (.int z t) (eqk z) j hj ?_ ?_)
    ⟨ho, fun w hw => (eqk_gives hi w (by simpa using hw)).at _ _, ⟨.int (j : Int), H, I.tok _, ⟨_, rfl⟩, q⟩⟩
  · obtain ⟨y, t', h1, h2⟩ := at' j hj
    rw [hy] at h1
    cases h1
    rw [h2]
    exact beq_self_eq_true z
  · intro m hm hmj
    obtain ⟨y, t', h1, h2⟩ := at' m hm
    rw [h2]
    refine beq_eq_false_iff_ne.mpr fun e => hno m hmj ?_
    rw [h1, e]
end Ly
namespace Ly
open PySem PySem.Spec PyProof.Rows L2
theorem nums_rising (m : Nat) : (nums m).Pairwise (· ≤ ·) := List.Pairwise.map _ (fun x y h => Int.ofNat_le.mpr (Nat.le_of_lt h)) List.pairwise_lt_range
theorem rising_one : ∀ {xs ys : List Int}, xs.Perm ys → xs.Pairwise (· ≤ ·) → ys.Pairwise (· ≤ ·) → xs = ys
  | [], ys, p, _, _ => (List.Perm.nil_eq p)
  | x :: xs, [], p, _, _ => absurd p.length_eq (by simp)
  | x :: xs, y :: ys, p, h1, h2 => by
    have a1 := List.pairwise_cons.mp h1
    have a2 := List.pairwise_cons.mp h2
    have xy : x = y := by
      have m1 : x ∈ y :: ys := p.mem_iff.mp List.mem_cons_self
      have m2 : y ∈ x :: xs := p.mem_iff.mpr List.mem_cons_self
      rcases List.mem_cons.mp m1 with e | e
      · exact e
      · rcases List.mem_cons.mp m2 with f | f
        · exact f.symm
        · have g1 := a2.1 x e
          have g2 := a1.1 y f
          omega
    subst xy
    rw [rising_one ((List.perm_cons x).mp p) a1.2 a2.2]
theorem rgV_nums (m : Nat) : rgV 0 (m : Int) = (nums m).map V.int := by
  unfold rgV nums
  rw [List.map_map, show ((m : Int) - 0).toNat = m by omega]
  refine List.map_congr_left fun i _ => ?_
  show V.int (0 + (i : Int)) = _
  rw [Int.zero_add]
  rfl
end Ly
/-! ### tuples whose very object is told: made, asked by a method -/
namespace Ly
open PySem PySem.Spec PyProof.Rows L2
theorem kz_tindex {X : Cx} {K : PySem.W.Frag} (hK : X.K = K := by rfl) : MtR X "tuple.index" (rIdxT K) := hK ▸ mt_tindex
theorem kz_tcount {X : Cx} {K : PySem.W.Frag} (hK : X.K = K := by rfl) : MtR X "tuple.count" (rCntT K) := hK ▸ mt_tcount
/-- a tuple's object, no more than that -/
def PlT (o : Obj) : Prop := o.cls = .type "tuple" ∧ o.dict = none
def FzT (H : Hp) (p : Addr) (xs : List V) : Prop := ∃ o, PlT o ∧ H p = some (.frz o (.tup xs))
theorem FzT.sq {K : PySem.W.Frag} {H : Hp} {p : Addr} {xs : List V} (h : FzT H p xs) : SqT K H p xs := by
  obtain ⟨o, _, e⟩ := h
  exact .inl (.inr ⟨o, e⟩)
theorem FzT.same {H H' : Hp} {p : Addr} {xs : List V} (s : Same H H') (h : FzT H p xs) : FzT H' p xs := by
  obtain ⟨o, c, e⟩ := h
  exact ⟨o, c, s _ _ e⟩
theorem FzT.new {H : Hp} {p : Addr} {xs : List V} {o : Obj} (c : PlT o) : FzT (upd H p (.frz o (.tup xs))) p xs := ⟨o, c, upd_same⟩
def rTupF (K : PySem.W.Frag) : List V → Hp → VK → Prop := fun vs H Q => ∃ p xs, vs = [.ref p] ∧ SqL K H p xs ∧ ∀ q o, H q = none → PlT o → Q (.ref q) (upd H q (.frz o (.tup xs)))
theorem kz_tupleF {X : Cx} {K : PySem.W.Frag} (hK : X.K = K := by rfl) : CallR X (.type "tuple") (rTupF K) := by
  subst hK
  intro pins s σ H vs us Q I r h
  obtain ⟨p, xs, rfl, hs, q⟩ := h
  rw [Vals.ref1 r]
  obtain ⟨its, rv, pl, hz⟩ := I.list hs
  refine call_tuple_list pl.isList (fun h' hk => ?_) (by rw [List.size_toArray, ← rv.length]; exact hz)
  have I1 : Inv X pins σ H { s with heap := h' } := I.kept (t' := s.toks) hk
  have e : (h'.push { cls := .type "tuple", data := .seq its.toArray }).get? h'.objs.size = some { cls := .type "tuple", data := .seq its.toArray } := Heap.get?_push_size _ rfl
  have I2 : Inv X pins σ (upd H h'.objs.size (.frz { cls := .type "tuple", data := .seq its.toArray } (.tup xs))) { s with heap := h'.push { cls := .type "tuple", data := .seq its.toArray } } :=
    I1.laid (t' := s.toks) (fun b o e => Heap.get?_push_of_some _ e) (Nat.le_refl _) ⟨e, hz, its, rv, IsTup.new _ _⟩
  exact ⟨.ref h'.objs.size, _, I2, rfl, q _ _ (I1.hok.fresh (Nat.le_refl _)) ⟨rfl, rfl⟩⟩
def tTupF (t : TA) : TE := fun σ H Q => t σ H fun xs H1 => xs.length ≤ sizeLine ∧ ∀ p o, H1 p = none → PlT o → Q (.ref p) (upd H1 p (.frz o (.tup xs)))
theorem pe_tupF {X : Cx} {es : List Expr} {t : TA} {x1} {pos : Pos} (h : PA X es t) : PE X (.Tuple es x1 pos) (tTupF t) := by
  refine ⟨fun pins s σ H Q I hq => ?_⟩
  refine wpAny_Tuple_spliced (thn (h.run pos pins s σ H _ I hq) fun us s1 ⟨xs, H1, I1, r, z, q⟩ => ⟨by rw [← r.length]; exact z, ?_⟩)
  have e : (s1.heap.push { cls := .type "tuple", data := .seq us.toArray }).get? s1.heap.objs.size = some { cls := .type "tuple", data := .seq us.toArray } := Heap.get?_push_size _ rfl
  exact ⟨.ref s1.heap.objs.size, _, I1.laid (t' := s1.toks) (o := .frz { cls := .type "tuple", data := .seq us.toArray } (.tup xs)) (fun b u e => Heap.get?_push_of_some _ e) (Nat.le_refl _) ⟨e, z, us, r, ⟨_, e, rfl, _, rfl⟩⟩, rfl, q _ _ (I1.hok.fresh (Nat.le_refl _)) ⟨rfl, rfl⟩⟩
def tBMF (r : V → List V → Hp → VK → Prop) (to : TE) (t : TA) : TE := fun σ H Q => to σ H fun x H1 => (∃ p xs, x = .ref p ∧ FzT H1 p xs) ∧ t σ H1 fun xs H2 => r x xs H2 Q
section
variable {X : Cx} {o e : Expr} {es : List Expr} {to : TE} {t : TA} {name : Str} {apos cpos : Pos} {id : String} {r : V → List V → Hp → VK → Prop}
theorem pe_bmF (pa : PlainAttrs "tuple") (slot : Slot "tuple" name id) (hty : typeOf (.builtin id) = pure (.type "method_descriptor")) (hm : MtR X id r) (ho : PE X o to) (ha : PA X (e :: es) t)
    (hbase : attributeBase o name X.env (eval o X.env) = eval o X.env := by rfl)
    (hfew : ((backTo cpos (starEach (e :: es) X.env)).all (fun x => !x.1) && (backToKw cpos (keywordEach [] X.env)).all (fun x => x.1.isSome) && decide ((e :: es).length + ([] : List Keyword).length + (if ([] : List Keyword).isEmpty then 0 else 1) < 30)) = true := by rfl)
    (hline : (apos.endLine == cpos.line) = true := by rfl) (hs : starEach (e :: es) X.env = (false, eval e X.env) :: starEach es X.env := by rfl) (hplain : (backTo cpos (starEach es X.env)).any (·.1) = false := by rfl) :
    PE X (.Call (.Attribute o name apos) (e :: es) [] cpos) (tBMF r to t) := by
  refine ⟨fun pins s σ H Q I h => ?_⟩
  refine wpAny_Call_method_late hbase hfew hline rfl (thn (ho.run pins s σ H _ I h) fun v s1 ⟨x, H1, I1, r1, ty, q1⟩ => ?_)
  obtain ⟨p, xs, rfl, ob, ⟨oc, od⟩, eF⟩ := ty
  cases r1
  have ok : ObjOk X.prog X.w H1 s1.heap p (.frz ob (.tup xs)) := I1.hok p _ eF
  have at_ : s1.heap.get? p = some ob := ok.1
  refine ⟨"tuple", id, pa, slot, hty, ⟨ob, at_, oc⟩, fun a e2 => ?_, ?_⟩
  · cases e2
    exact ⟨ob, at_, od⟩
  have hA := ha.run cpos pins s1 σ H1 _ I1 q1
  rw [hs] at hA ⊢
  refine Calls.callWith_builtin (by show (false || (backTo cpos (starEach es X.env)).any (·.1)) = false; rw [hplain] <;> rfl) (Calls.evalArgs_plain ?_)
  exact thn hA fun us s2 ⟨vs, H2, I2, r2, q2⟩ => hm pins s2 σ H2 (.ref p) vs (.ref p) us Q I2 rfl r2 q2
end
end Ly
namespace Ly
open PySem PySem.Spec PyProof.Rows L2 RZ
/-- a method of a built-in type, K said outright -/
theorem pe_bmK {X : Cx} {K : PySem.W.Frag} {T id : String} {name : Str} {r : V → List V → Hp → VK → Prop} {o e : Expr} {es : List Expr} {to : TE} {t : TA} {apos cpos : Pos} (pa : PlainAttrs T) (slot : Slot T name id) (hty : typeOf (.builtin id) = pure (.type "method_descriptor")) (hm : MtR X id r) (ho : PE X o to) (ha : PA X (e :: es) t)
    (hK : X.K = K := by rfl) (hbase : attributeBase o name X.env (eval o X.env) = eval o X.env := by rfl)
    (hfew : ((backTo cpos (starEach (e :: es) X.env)).all (fun x => !x.1) && (backToKw cpos (keywordEach [] X.env)).all (fun x => x.1.isSome) && decide ((e :: es).length + ([] : List Keyword).length + (if ([] : List Keyword).isEmpty then 0 else 1) < 30)) = true := by rfl)
    (hline : (apos.endLine == cpos.line) = true := by rfl) (hs : starEach (e :: es) X.env = (false, eval e X.env) :: starEach es X.env := by rfl) (hplain : (backTo cpos (starEach es X.env)).any (·.1) = false := by rfl) :
    PE X (.Call (.Attribute o name apos) (e :: es) [] cpos) (tBM K T r to t) := by
  subst hK
  exact pe_bm pa slot hty hm ho ha hbase hfew hline hs hplain
end Ly

/-! ### the least of a list of rows of whole numbers -/
namespace Ly
open PySem PySem.Spec PyProof.Rows L2
theorem minD_low {c : PyData → Int} : ∀ (xs : List PyData) (x : PyData), (∀ d ∈ x :: xs, ∀ e ∈ x :: xs, PySem.W.dataLt d e = decide (c d < c e)) →
    PySem.W.minD x xs ∈ x :: xs ∧ ∀ d ∈ x :: xs, c (PySem.W.minD x xs) ≤ c d
  | [], x, _ => ⟨List.mem_cons_self, fun d hd => by rw [List.mem_singleton.mp hd]; exact Int.le_refl _⟩
  | y :: ys, x, h => by
    have e : PySem.W.minD x (y :: ys) = PySem.W.minD (if PySem.W.dataLt y x = true then y else x) ys := rfl
    have hz : (if PySem.W.dataLt y x = true then y else x) ∈ x :: y :: ys := by
      split
      · exact List.mem_cons_of_mem _ List.mem_cons_self
      · exact List.mem_cons_self
    have sub : ∀ d ∈ (if PySem.W.dataLt y x = true then y else x) :: ys, d ∈ x :: y :: ys := fun d hd => by
      rcases List.mem_cons.mp hd with g | g
      · rw [g]
        exact hz
      · exact List.mem_cons_of_mem _ (List.mem_cons_of_mem _ g)
    have lo : c (if PySem.W.dataLt y x = true then y else x) ≤ c x ∧ c (if PySem.W.dataLt y x = true then y else x) ≤ c y := by
      have t := h y (List.mem_cons_of_mem _ List.mem_cons_self) x List.mem_cons_self
      by_cases g : c y < c x
      · rw [decide_eq_true g] at t
        rw [if_pos t]
        omega
      · rw [decide_eq_false g] at t
        rw [if_neg (by rw [t]; exact Bool.false_ne_true)]
        omega
    obtain ⟨p, q⟩ := minD_low ys (if PySem.W.dataLt y x = true then y else x) fun d hd f hf => h d (sub d hd) f (sub f hf)
    rw [e]
    have q0 := q _ List.mem_cons_self
    refine ⟨sub _ p, fun d hd => ?_⟩
    rcases List.mem_cons.mp hd with g | g
    · rw [g]
      omega
    · rcases List.mem_cons.mp g with g | g
      · rw [g]
        omega
      · exact q d (List.mem_cons_of_mem _ g)
theorem readsAll_get {h : Heap} : ∀ {vs : List Value} {ds : List PyData} {as : List Addr}, ReadsAll h vs ds as → ∀ (i : Nat) (v : Value), vs[i]? = some v → ∃ d bs, ds[i]? = some d ∧ Reads h v d bs
  | _, _, _, .nil, _, _, z => by simp at z
  | _, _, _, .cons r _, 0, v, z => by
    cases (show some _ = some v from z)
    exact ⟨_, _, rfl, r⟩
  | _, _, _, .cons _ r, i + 1, v, z => by
    obtain ⟨d, bs, e, g⟩ := readsAll_get r i v (by simpa using z)
    exact ⟨d, bs, by simpa using e, g⟩
def rMinD (K : PySem.W.Frag) : List V → Hp → VK → Prop := fun vs H Q => ∃ (a : Addr) (xs : List V) (ds : List PyData) (c : PyData → Int), vs = [V.ref a] ∧ SqL K H a xs ∧ xs ≠ [] ∧ DpAll K H xs ds ∧ PySem.W.AlikeAll ds ∧ PyData.depthAll ds ≤ 9 ∧
  (∀ d ∈ ds, ∀ e ∈ ds, PySem.W.dataLt d e = decide (c d < c e)) ∧ ∀ (i : Nat) (x : V) (d : PyData), xs[i]? = some x → ds[i]? = some d → (∀ e ∈ ds, c d ≤ c e) → Q x H
theorem kz_minD {X : Cx} {K : PySem.W.Frag} (hu : X.A.units + 64 < cLine) (hc : X.calm = true) (hK : X.K = K := by rfl) : CallR X (.builtin "min") (rMinD K) := by
  subst hK
  intro pins s σ H vs us Q I r h
  obtain ⟨a, xs, ds, c, rfl, hs, hne, hd, al, dp, hlt, q⟩ := h
  obtain ⟨its, rv, hl, _⟩ := I.list hs
  rw [Vals.ref1 r]
  obtain ⟨as, hr⟩ := Dp.readsAll I ds _ _ hd rv
  cases hd with
  | nil => exact absurd rfl hne
  | @cons x0 xs0 d0 ds0 h0 h1 =>
  obtain ⟨p, lo⟩ := minD_low (c := c) ds0 d0 hlt
  refine PySem.W.min_list_data (I.ok.hd hc) hl.isList (x := d0) (xs := ds0) (as := as) hr al (by omega) fun i v h' tk bs hv rd hk => ?_
  have hv' : its[i]? = some v := by simpa using hv
  obtain ⟨d, bs', hdi, rdi⟩ := readsAll_get hr i v hv'
  have e : d = PySem.W.minD d0 ds0 := (reads_det (fun b o _ _ => by assumption) rd (Reads.keeps hk rdi)).1
  have li : i < its.length := (List.getElem?_eq_some_iff.mp hv').1
  have li2 : i < (x0 :: xs0).length := by rw [rv.length]; exact li
  obtain ⟨u, hu2, rel⟩ := rv.get (List.getElem?_eq_getElem li2)
  rw [hv'] at hu2
  cases hu2
  exact ⟨_, H, I.kept hk, rel, q i _ d (List.getElem?_eq_getElem li2) hdi fun f hf => by rw [e]; exact lo f hf⟩
/-! ### exchanges of two places -/
def swp (row : List Int) (i j : Nat) : List Int := (row.set i (row.getD j 0)).set j (row.getD i 0)
theorem swp_len (row : List Int) (i j : Nat) : (swp row i j).length = row.length := by rw [swp, List.length_set, List.length_set]
theorem swp_ok {h : Int} {row : List Int} (ok : RowOk h row) {i j : Nat} (hi : i < row.length) (hj : j < row.length) : RowOk h (swp row i j) := by
  obtain ⟨a, b, c, d, e⟩ := ok
  have g : ∀ k : Nat, k < row.length → 0 ≤ row.getD k 0 ∧ row.getD k 0 < h := fun k hk => by
    rw [List.getD_eq_getElem?_getD, List.getElem?_eq_getElem hk]
    exact e _ (List.getElem_mem hk)
  refine ⟨a, b, fun z => ?_, by rw [swp_len]; exact d, fun z hz => ?_⟩
  · have := congrArg List.length z
    rw [swp_len, List.length_nil] at this
    omega
  · rcases List.mem_or_eq_of_mem_set hz with y | y
    · rcases List.mem_or_eq_of_mem_set y with x | x
      · exact e z x
      · rw [x]
        exact g j hj
    · rw [y]
      exact g i hi
def cd (t : Int × Nat × Nat) : Int := t.1 * 4096 + (t.2.1 : Int) * 64 + (t.2.2 : Int)
/-- an exchange of unlike hands behind which there is a greatest lead: that, and both places -/
def Cand (m : Nat) (row : List Int) (k : Nat) (t : Int × Nat × Nat) : Prop := t.2.1 < t.2.2 ∧ t.2.2 < row.length ∧ row.getD t.2.1 0 ≠ row.getD t.2.2 0 ∧ REv (m : Int) (swp row t.2.1 t.2.2) k ∧ GrtIs (m : Int) (swp row t.2.1 t.2.2) k t.1
def Low (m : Nat) (row : List Int) (k : Nat) (t : Int × Nat × Nat) : Prop := Cand m row k t ∧ ∀ M, REv (m : Int) row k → GrtIs (m : Int) row k M → t.1 < M
def Best (m : Nat) (row : List Int) (k : Nat) (t : Int × Nat × Nat) : Prop := Low m row k t ∧ ∀ s, Low m row k s → cd t ≤ cd s
theorem cd_one {s t : Int × Nat × Nat} (h1 : s.2.1 < 64) (h2 : s.2.2 < 64) (h3 : t.2.1 < 64) (h4 : t.2.2 < 64) (e : cd s = cd t) : s = t := by
  obtain ⟨a, b, c⟩ := s
  obtain ⟨d, f, g⟩ := t
  simp only [cd] at h1 h2 h3 h4 e
  have e1 : a = d := by omega
  have e2 : b = f := by omega
  have e3 : c = g := by omega
  rw [e1, e2, e3]
theorem Best.one {m k : Nat} {row : List Int} {s t : Int × Nat × Nat} (l : row.length ≤ 64) (h : Best m row k s) (g : Best m row k t) : s = t := by
  have h1 := h.1.1
  have g1 := g.1.1
  unfold Cand at h1 g1
  exact cd_one (by omega) (by omega) (by omega) (by omega) (by have := h.2 _ g.1; have := g.2 _ h.1; omega)
theorem cd_lead {s t : Int × Nat × Nat} (h3 : t.2.1 < 64) (h4 : t.2.2 < 64) (e : cd s ≤ cd t) : s.1 ≤ t.1 := by
  obtain ⟨a, b, c⟩ := s
  obtain ⟨d, f, g⟩ := t
  simp only [cd] at h3 h4 e
  show a ≤ d
  omega
/-- the least of all is the best one, or none is -/
theorem best_of {m k : Nat} {row : List Int} {t : Int × Nat × Nat} (l : row.length ≤ 64) (h : Cand m row k t) (lo : ∀ s, Cand m row k s → cd t ≤ cd s) (b : ∀ M, REv (m : Int) row k → GrtIs (m : Int) row k M → t.1 < M) : Best m row k t := ⟨⟨h, b⟩, fun s hs => lo s hs.1⟩
theorem no_low {m k : Nat} {row : List Int} {t : Int × Nat × Nat} {M : Int} (l : row.length ≤ 64) (lo : ∀ s, Cand m row k s → cd t ≤ cd s) (r : REv (m : Int) row k) (g : GrtIs (m : Int) row k M) (b : M ≤ t.1) : ∀ s, ¬ Low m row k s := fun s hs => by
  have h1 := hs.1
  have h2 := cd_lead (s := t) (t := s) (by unfold Cand at h1; omega) (by unfold Cand at h1; omega) (lo s h1)
  have h3 := hs.2 M r g
  omega
/-! ### lists of three numbers -/
def triV (t : Int × Nat × Nat) : List V := [.int t.1, .int (t.2.1 : Int), .int (t.2.2 : Int)]
def Trs (H : Hp) (rs : List V) (ts : List (Int × Nat × Nat)) : Prop := rs.length = ts.length ∧ ∀ (i : Nat) t, ts[i]? = some t → ∃ u, rs[i]? = some (.ref u) ∧ H u = some (.tup (triV t))
theorem Trs.nil (H : Hp) : Trs H [] [] := ⟨rfl, fun i t h => by simp at h⟩
theorem Trs.keep {H H' : Hp} {rs : List V} {ts : List (Int × Nat × Nat)} (h : Trs H rs ts) (k : ∀ u xs, H u = some (.tup xs) → H' u = some (.tup xs)) : Trs H' rs ts := ⟨h.1, fun i t e => by
  obtain ⟨u, a, b⟩ := h.2 i t e
  exact ⟨u, a, k _ _ b⟩⟩
theorem Trs.next {H : Hp} {rs : List V} {ts : List (Int × Nat × Nat)} {u : Addr} {t : Int × Nat × Nat} (h : Trs H rs ts) (g : H u = some (.tup (triV t))) : Trs H (rs ++ [.ref u]) (ts ++ [t]) := by
  refine ⟨by rw [List.length_append, List.length_append, h.1]; rfl, fun i s e => ?_⟩
  by_cases c : i < ts.length
  · rw [List.getElem?_append_left c] at e
    obtain ⟨v, a, b⟩ := h.2 i s e
    exact ⟨v, by rw [List.getElem?_append_left (by rw [h.1]; exact c)]; exact a, b⟩
  · rw [List.getElem?_append_right (by omega)] at e
    have z : i - ts.length = 0 := by
      have := (List.getElem?_eq_some_iff.mp e).1
      rw [List.length_singleton] at this
      omega
    rw [z] at e
    cases (show some t = some s from e)
    exact ⟨u, by rw [List.getElem?_append_right (by rw [h.1]; omega), h.1, z]; rfl, g⟩
def dat (t : Int × Nat × Nat) : PyData := .tuple ([t.1, (t.2.1 : Int), (t.2.2 : Int)].map .int)
def cdP : PyData → Int
  | .tuple [.int a, .int b, .int c] => a * 4096 + b * 64 + c
  | _ => 0
theorem dat_lt {s t : Int × Nat × Nat} (h1 : s.2.1 < 64) (h2 : s.2.2 < 64) (h3 : t.2.1 < 64) (h4 : t.2.2 < 64) : PySem.W.dataLt (dat s) (dat t) = decide (cdP (dat s) < cdP (dat t)) := by
  obtain ⟨a, b, c⟩ := s
  obtain ⟨d, f, g⟩ := t
  have e : PySem.W.dataLt (dat (a, b, c)) (dat (d, f, g)) = decide ([a, (b : Int), (c : Int)] < [d, (f : Int), (g : Int)]) := (PySem.W.dataLt_tuple _ _).trans (PySem.W.dataLt_ints [a, (b : Int), (c : Int)] [d, (f : Int), (g : Int)])
  rw [e]
  refine decide_eq_decide.mpr ?_
  show _ ↔ a * 4096 + (b : Int) * 64 + (c : Int) < d * 4096 + (f : Int) * 64 + (g : Int)
  simp only [List.cons_lt_cons_iff, List.not_lt_nil, and_false, or_false] at h1 h2 h3 h4 ⊢
  omega
theorem trs_dp {K : PySem.W.Frag} {H : Hp} : ∀ {ts : List (Int × Nat × Nat)} {rs : List V}, Trs H rs ts → DpAll K H rs (ts.map dat)
  | [], [], _ => .nil
  | [], x :: rs, h => by
    have := h.1
    simp at this
  | t :: ts, [], h => by
    have := h.1
    simp at this
  | t :: ts, x :: rs, h => by
    obtain ⟨u, e, g⟩ := h.2 0 t rfl
    cases (show some x = some (.ref u) from e)
    refine .cons (.tup (.inl (.inl g)) (.cons (.int _) (.cons (.int _) (.cons (.int _) .nil)))) (trs_dp ⟨?_, fun i s z => ?_⟩)
    · have := h.1
      simpa using this
    · obtain ⟨v, p, q⟩ := h.2 (i + 1) s (by simpa using z)
      exact ⟨v, by simpa using p, q⟩
theorem dat_depth : ∀ ts : List (Int × Nat × Nat), PyData.depthAll (ts.map dat) ≤ 9
  | [] => by decide
  | t :: ts => Nat.max_le.mpr ⟨by simp [dat, PyData.depth, PyData.depthAll], dat_depth ts⟩
theorem min_trs {K : PySem.W.Frag} {H : Hp} {D : Addr} {rs : List V} {ts : List (Int × Nat × Nat)} {Q : VK} (hD : H D = some (.lst rs)) (h : Trs H rs ts) (hne : ts ≠ []) (hb : ∀ t ∈ ts, t.2.1 < 64 ∧ t.2.2 < 64)
    (q : ∀ t u, t ∈ ts → (∀ s ∈ ts, cd t ≤ cd s) → H u = some (.tup (triV t)) → Q (.ref u) H) : rMinD K [.ref D] H Q := by
  refine ⟨D, rs, ts.map dat, cdP, rfl, .inl (.inl hD), fun z => hne (List.length_eq_zero_iff.mp (by rw [← h.1, z]; rfl)), trs_dp h, ⟨?_, ?_⟩, dat_depth ts, ?_, ?_⟩
  · intro x hx y hy
    obtain ⟨s, _, rfl⟩ := List.mem_map.mp hx
    obtain ⟨t, _, rfl⟩ := List.mem_map.mp hy
    simp [dat, PySem.W.alike, PySem.W.alikeAll]
  · intro x hx
    obtain ⟨s, _, rfl⟩ := List.mem_map.mp hx
    exact fun z => PyData.noConfusion z
  · intro x hx y hy
    obtain ⟨s, hs, rfl⟩ := List.mem_map.mp hx
    obtain ⟨t, ht, rfl⟩ := List.mem_map.mp hy
    exact dat_lt (hb s hs).1 (hb s hs).2 (hb t ht).1 (hb t ht).2
  · intro i x d hx hd lo
    rw [List.getElem?_map] at hd
    cases e : ts[i]? with
    | none =>
      rw [e] at hd
      cases hd
    | some t =>
      rw [e] at hd
      cases (show some (dat t) = some d from hd)
      obtain ⟨u, p, g⟩ := h.2 i t e
      rw [p] at hx
      cases hx
      refine q t u (List.mem_of_getElem? e) (fun s hs => ?_) g
      exact lo _ (List.mem_map.mpr ⟨s, hs, rfl⟩)
/-! ### how great a lead can be -/
theorem sumTo_box {n : Nat} {f : Nat → Int} {B : Nat} (h : ∀ i, i < n → -(B : Int) ≤ f i ∧ f i ≤ (B : Int)) : -((n * B : Nat) : Int) ≤ sumTo n f ∧ sumTo n f ≤ ((n * B : Nat) : Int) := by
  induction n with
  | zero => exact ⟨by simp [sumTo], by simp [sumTo]⟩
  | succ n ih =>
    have a := ih fun i hi => h i (by omega)
    have b := h n (Nat.lt_succ_self n)
    rw [Nat.succ_mul]
    show -((n * B + B : Nat) : Int) ≤ sumTo n f + f n ∧ sumTo n f + f n ≤ ((n * B + B : Nat) : Int)
    generalize n * B = c at a ⊢
    omega
theorem sn_box {n : Nat} {s : Nat → Int} (h : ∀ i, i < n → -1 ≤ s i ∧ s i ≤ 1) : ∀ k i : Nat, i < n → -((n ^ k : Nat) : Int) ≤ SN k s i ∧ SN k s i ≤ ((n ^ k : Nat) : Int)
  | 0, i, hi => h i hi
  | k + 1, i, hi => by
    have a := sumTo_box (n := i + 1) (f := SN k s) (B := n ^ k) fun j hj => sn_box h k j (by omega)
    have b : (i + 1) * n ^ k ≤ n ^ (k + 1) := by
      rw [Nat.pow_succ, Nat.mul_comm (n ^ k)]
      exact Nat.mul_le_mul_right _ hi
    show -((n ^ (k + 1) : Nat) : Int) ≤ sumTo (i + 1) (SN k s) ∧ sumTo (i + 1) (SN k s) ≤ ((n ^ (k + 1) : Nat) : Int)
    generalize (i + 1) * n ^ k = c at a b
    generalize n ^ (k + 1) = d at b ⊢
    omega
theorem amt_box {n k : Nat} {s : Nat → Int} (h : ∀ i, i < n → -1 ≤ s i ∧ s i ≤ 1) : 0 ≤ Amt n k s ∧ Amt n k s ≤ ((n * n ^ k : Nat) : Int) := by
  refine ⟨?_, (sumTo_box (n := n) (f := fun i => absI (SN k s i)) (B := n ^ k) fun i hi => ?_).2⟩
  · have z := sumTo_le (n := n) (f := fun _ => 0) (g := fun i => absI (SN k s i)) fun i _ => absI_pos _
    rw [sumTo_zero fun _ _ => rfl] at z
    exact z
  · have b := sn_box h k i hi
    exact ⟨by have := absI_pos (SN k s i); show -((n ^ k : Nat) : Int) ≤ absI (SN k s i); omega, absI_le b.1 b.2⟩
theorem grt_box {m k : Nat} {row : List Int} {M : Int} (hl : row.length ≤ 16) (hk : k ≤ 3) (g : GrtIs (m : Int) row k M) : 0 ≤ M ∧ M ≤ 65536 := by
  obtain ⟨a, b, _, _, rfl⟩ := g.2
  have z := amt_box (n := row.length) (k := k) (s := sg row a b) fun i _ => by
    have := signOf_small (row.getD i 0) a b
    show -1 ≤ signOf (row.getD i 0) a b ∧ signOf (row.getD i 0) a b ≤ 1
    omega
  have y : row.length * row.length ^ k ≤ 16 * 16 ^ 3 := Nat.mul_le_mul hl (Nat.le_trans (Nat.pow_le_pow_left hl k) (Nat.pow_le_pow_right (by decide) hk))
  generalize row.length * row.length ^ k = c at z y
  omega
/-! ### exchanges one behind the other -/
def exs (row : List Int) (ts : List (Int × Nat × Nat)) : List Int := ts.foldl (fun r t => swp r t.2.1 t.2.2) row
theorem exs_snoc (row : List Int) (ts : List (Int × Nat × Nat)) (t : Int × Nat × Nat) : exs row (ts ++ [t]) = swp (exs row ts) t.2.1 t.2.2 := by
  unfold exs
  rw [List.foldl_append]
  rfl
def Chain (m k : Nat) (row : List Int) (ts : List (Int × Nat × Nat)) : Prop := ∀ i t, ts[i]? = some t → Best m (exs row (ts.take i)) k t
theorem Chain.nil (m k : Nat) (row : List Int) : Chain m k row [] := fun i t h => by simp at h
theorem Chain.snoc {m k : Nat} {row : List Int} {ts : List (Int × Nat × Nat)} {t : Int × Nat × Nat} (h : Chain m k row ts) (b : Best m (exs row ts) k t) : Chain m k row (ts ++ [t]) := fun i s e => by
  by_cases c : i < ts.length
  · rw [List.getElem?_append_left c] at e
    rw [List.take_append_of_le_length (by omega)]
    exact h i s e
  · rw [List.getElem?_append_right (by omega)] at e
    have z : i - ts.length = 0 := by
      have := (List.getElem?_eq_some_iff.mp e).1
      rw [List.length_singleton] at this
      omega
    rw [z] at e
    cases (show some t = some s from e)
    rw [show i = ts.length by omega, List.take_left]
    exact b
def mndV (t : Int × Nat × Nat) : List V := [.int (t.2.1 : Int), .int (t.2.2 : Int), .int t.1]
def Mds (H : Hp) (rs : List V) (ts : List (Int × Nat × Nat)) : Prop := rs.length = ts.length ∧ ∀ (i : Nat) t, ts[i]? = some t → ∃ u, rs[i]? = some (.ref u) ∧ H u = some (.tup (mndV t))
theorem Mds.nil (H : Hp) : Mds H [] [] := ⟨rfl, fun i t h => by simp at h⟩
theorem Mds.keep {H H' : Hp} {rs : List V} {ts : List (Int × Nat × Nat)} (h : Mds H rs ts) (k : ∀ u xs, H u = some (.tup xs) → H' u = some (.tup xs)) : Mds H' rs ts := ⟨h.1, fun i t e => by
  obtain ⟨u, a, b⟩ := h.2 i t e
  exact ⟨u, a, k _ _ b⟩⟩
theorem Mds.next {H : Hp} {rs : List V} {ts : List (Int × Nat × Nat)} {u : Addr} {t : Int × Nat × Nat} (h : Mds H rs ts) (g : H u = some (.tup (mndV t))) : Mds H (rs ++ [.ref u]) (ts ++ [t]) := by
  refine ⟨by rw [List.length_append, List.length_append, h.1]; rfl, fun i s e => ?_⟩
  by_cases c : i < ts.length
  · rw [List.getElem?_append_left c] at e
    obtain ⟨v, a, b⟩ := h.2 i s e
    exact ⟨v, by rw [List.getElem?_append_left (by rw [h.1]; exact c)]; exact a, b⟩
  · rw [List.getElem?_append_right (by omega)] at e
    have z : i - ts.length = 0 := by
      have := (List.getElem?_eq_some_iff.mp e).1
      rw [List.length_singleton] at this
      omega
    rw [z] at e
    cases (show some t = some s from e)
    exact ⟨u, by rw [List.getElem?_append_right (by rw [h.1]; omega), h.1, z]; rfl, g⟩
theorem dat_flat {ts : List (Int × Nat × Nat)} : ∀ d ∈ ts.map dat, Flat d := fun d hd => by
  obtain ⟨t, _, rfl⟩ := List.mem_map.mp hd
  exact ⟨_, .inr rfl⟩
theorem trs_ne {K : PySem.W.Frag} {H : Hp} {D b : Addr} {rs : List V} {ts : List (Int × Nat × Nat)} {Q : VK} (hD : SqL K H D rs) (h : Trs H rs ts) (hb : H b = some (.lst [])) (q : Q (.bl (!decide (ts = []))) H) : rNeD K (.ref D) (.ref b) H Q := by
  refine ⟨_, _, .lst hD (trs_dp h), .lst (.inl (.inl hb)) .nil, shaped_flat dat_flat, shaped_nil, ?_⟩
  rw [eqv_nil]
  have e : decide (ts.map dat = []) = decide (ts = []) := decide_eq_decide.mpr List.map_eq_nil_iff
  rw [e]
  exact q
theorem ne_nn {K : PySem.W.Frag} {H : Hp} {Q : VK} (q : Q (.bl false) H) : rNeD K .non .non H Q := ⟨_, _, .non, .non, by decide, by decide, q⟩
theorem mnd_ne {K : PySem.W.Frag} {H : Hp} {a b : Addr} {t : Int × Nat × Nat} {Q : VK} (h1 : H a = some (.tup (mndV t))) (h2 : H b = some (.tup (mndV t))) (q : Q (.bl false) H) : rNeD K (.ref a) (.ref b) H Q := by
  have e : mndV t = [(t.2.1 : Int), (t.2.2 : Int), t.1].map V.int := rfl
  rw [e] at h1 h2
  refine neT (.inl (.inl h1)) (.inl (.inl h2)) ?_
  rw [decide_eq_true rfl]
  exact q
end Ly

/-! ### rows in which all hands have as many turns -/
namespace Ly
open PySem PySem.Spec PyProof.Rows L2
def more1 (share : Nat) (row : List Int) (j : Nat) : List (List Int) := ((nums j).filter fun h => decide (row.count h < share)).map fun h => row ++ [h]
def grow (m share : Nat) (rows : List (List Int)) : List (List Int) := rows.flatMap fun row => more1 share row m
def balN (m share : Nat) : Nat → List (List Int)
  | 0 => [[]]
  | n + 1 => grow m share (balN m share n)
def bal (m n : Nat) : List (List Int) := if n / m * m = n then balN m (n / m) n else []
theorem more1_len (share : Nat) (row : List Int) (j : Nat) : (more1 share row j).length ≤ j := by
  unfold more1
  rw [List.length_map]
  exact Nat.le_trans (List.length_filter_le _ _) (Nat.le_of_eq (nums_len j))
theorem more1_next (share : Nat) (row : List Int) (j : Nat) : more1 share row (j + 1) = more1 share row j ++ if row.count (j : Int) < share then [row ++ [(j : Int)]] else [] := by
  unfold more1 nums
  rw [List.range_succ, List.map_append, List.filter_append, List.map_append]
  congr 1
  by_cases c : row.count (j : Int) < share
  · rw [if_pos c]
    simp [c]
  · rw [if_neg c]
    simp [c]
theorem grow_len (m share : Nat) : ∀ rows : List (List Int), (grow m share rows).length ≤ rows.length * m
  | [] => Nat.zero_le _
  | r :: rs => by
    have e : grow m share (r :: rs) = more1 share r m ++ grow m share rs := rfl
    rw [e, List.length_append, List.length_cons, Nat.succ_mul]
    have := more1_len share r m
    have := grow_len m share rs
    omega
theorem grow_take {m share : Nat} {rows : List (List Int)} {i : Nat} {row : List Int} (h : rows[i]? = some row) : grow m share (rows.take (i + 1)) = grow m share (rows.take i) ++ more1 share row m := by
  unfold grow
  rw [List.take_add_one, h, List.flatMap_append]
  simp
theorem balN_len (m share : Nat) : ∀ n : Nat, (balN m share n).length ≤ m ^ n
  | 0 => Nat.le_refl 1
  | n + 1 => by
    rw [Nat.pow_succ]
    exact Nat.le_trans (grow_len m share _) (Nat.mul_le_mul_right _ (balN_len m share n))
theorem bal_len (m n : Nat) : (bal m n).length ≤ m ^ n := by
  unfold bal
  split
  · exact balN_len _ _ _
  · exact Nat.zero_le _
theorem balN_mem {m share : Nat} : ∀ {n : Nat} {row : List Int}, row ∈ balN m share n ↔ row.length = n ∧ (∀ z ∈ row, 0 ≤ z ∧ z < (m : Int)) ∧ ∀ z, row.count z ≤ share
  | 0, row => by
    constructor
    · intro h
      have e : row = [] := List.mem_singleton.mp h
      subst e
      exact ⟨rfl, fun _ h => (nomatch h), fun _ => Nat.zero_le _⟩
    · rintro ⟨h, _⟩
      rw [List.length_eq_zero_iff.mp h]
      exact List.mem_singleton.mpr rfl
  | n + 1, row => by
    constructor
    · intro h
      obtain ⟨r, hr, h2⟩ := List.mem_flatMap.mp (show row ∈ (balN m share n).flatMap _ from h)
      obtain ⟨z, hz, rfl⟩ := List.mem_map.mp h2
      obtain ⟨zm, zc⟩ := List.mem_filter.mp hz
      have zc' := of_decide_eq_true zc
      have zb := nums_mem.mp zm
      obtain ⟨l, b, c⟩ := balN_mem.mp hr
      refine ⟨by rw [List.length_append, l]; rfl, fun y hy => ?_, fun y => ?_⟩
      · rcases List.mem_append.mp hy with g | g
        · exact b y g
        · rw [List.mem_singleton.mp g]
          exact zb
      · rw [List.count_append, List.count_singleton]
        by_cases e : z = y
        · rw [← e]
          simp
          omega
        · have := c y
          simp [e]
          omega
    · rintro ⟨l, b, c⟩
      have ne : row ≠ [] := fun e => by rw [e] at l; cases l
      have e := List.dropLast_concat_getLast ne
      have cn : ∀ y, row.dropLast.count y + [row.getLast ne].count y ≤ share := fun y => by
        rw [← List.count_append, e]
        exact c y
      refine List.mem_flatMap.mpr ⟨row.dropLast, balN_mem.mpr ⟨by rw [List.length_dropLast, l]; rfl, fun z hz => b z (by rw [← e]; exact List.mem_append.mpr (.inl hz)), fun y => by have := cn y; omega⟩, List.mem_map.mpr ⟨row.getLast ne, List.mem_filter.mpr ⟨nums_mem.mpr (b _ (List.getLast_mem ne)), ?_⟩, e⟩⟩
      have := cn (row.getLast ne)
      rw [List.count_singleton] at this
      simp at this
      exact decide_eq_true (by omega)
def Rws (H : Hp) (rs : List V) (rows : List (List Int)) : Prop := rs.length = rows.length ∧ ∀ (i : Nat) row, rows[i]? = some row → ∃ u, rs[i]? = some (.ref u) ∧ FzT H u (row.map V.int)
theorem Rws.nil (H : Hp) : Rws H [] [] := ⟨rfl, fun i t h => by simp at h⟩
theorem Rws.keep {H H' : Hp} {rs : List V} {ts : List (List Int)} (h : Rws H rs ts) (k : ∀ u xs, FzT H u xs → FzT H' u xs) : Rws H' rs ts := ⟨h.1, fun i t e => by
  obtain ⟨u, a, b⟩ := h.2 i t e
  exact ⟨u, a, k _ _ b⟩⟩
theorem Rws.next {H : Hp} {rs : List V} {ts : List (List Int)} {u : Addr} {t : List Int} (h : Rws H rs ts) (g : FzT H u (t.map V.int)) : Rws H (rs ++ [.ref u]) (ts ++ [t]) := by
  refine ⟨by rw [List.length_append, List.length_append, h.1]; rfl, fun i s e => ?_⟩
  by_cases c : i < ts.length
  · rw [List.getElem?_append_left c] at e
    obtain ⟨v, a, b⟩ := h.2 i s e
    exact ⟨v, by rw [List.getElem?_append_left (by rw [h.1]; exact c)]; exact a, b⟩
  · rw [List.getElem?_append_right (by omega)] at e
    have z : i - ts.length = 0 := by
      have := (List.getElem?_eq_some_iff.mp e).1
      rw [List.length_singleton] at this
      omega
    rw [z] at e
    cases (show some t = some s from e)
    exact ⟨u, by rw [List.getElem?_append_right (by rw [h.1]; omega), h.1, z]; rfl, g⟩
theorem fzT_upd {D u : Addr} {H : Hp} {o : HO} {xs ys : List V} (hD : H D = some (.lst ys)) (h : FzT H u xs) : FzT (upd H D o) u xs := by
  obtain ⟨b, p, e⟩ := h
  exact ⟨b, p, by rw [upd_ne (fun z => by rw [z, hD] at e; cases e)]; exact e⟩
end Ly
namespace Ly
open PySem PySem.Spec PyProof.Rows L2
open Classical in
noncomputable def evens (m n d : Nat) : List (List Int) := (bal m n).filter fun row => decide (REv (m : Int) row (d + 1))
theorem bal_mem {m n : Nat} {row : List Int} (h : row ∈ bal m n) : n / m * m = n ∧ row.length = n ∧ (∀ z ∈ row, 0 ≤ z ∧ z < (m : Int)) ∧ ∀ z, row.count z ≤ n / m := by
  unfold bal at h
  split at h
  · next c => exact ⟨c, balN_mem.mp h⟩
  · cases h
open Classical in
theorem evens_mem {m n d : Nat} {row : List Int} (h : row ∈ evens m n d) : row ∈ bal m n ∧ REv (m : Int) row (d + 1) := by
  obtain ⟨a, b⟩ := List.mem_filter.mp h
  exact ⟨a, of_decide_eq_true b⟩
end Ly
namespace Ly
def unl (A B : List Int) : Nat := ((A.zip B).filter fun p => decide (p.1 ≠ p.2)).length
end Ly
/-! ### all rows -/
namespace Ly
open PySem PySem.Spec PyProof.Rows L2
def ends (row : List Int) (j : Nat) : List (List Int) := (nums j).map fun h => row ++ [h]
def grwA (m : Nat) (rows : List (List Int)) : List (List Int) := rows.flatMap fun row => ends row m
def allN (m : Nat) : Nat → List (List Int)
  | 0 => [[]]
  | n + 1 => grwA m (allN m n)
theorem ends_len (row : List Int) (j : Nat) : (ends row j).length = j := by rw [ends, List.length_map, nums_len]
theorem ends_next (row : List Int) (j : Nat) : ends row (j + 1) = ends row j ++ [row ++ [(j : Int)]] := by
  unfold ends nums
  rw [List.range_succ, List.map_append, List.map_append]
  rfl
theorem grwA_len (m : Nat) : ∀ rows : List (List Int), (grwA m rows).length = rows.length * m
  | [] => by rw [List.length_nil, Nat.zero_mul]; rfl
  | r :: rs => by
    have e : grwA m (r :: rs) = ends r m ++ grwA m rs := rfl
    rw [e, List.length_append, List.length_cons, Nat.succ_mul, ends_len, grwA_len m rs, Nat.add_comm]
theorem grwA_take {m : Nat} {rows : List (List Int)} {i : Nat} {row : List Int} (h : rows[i]? = some row) : grwA m (rows.take (i + 1)) = grwA m (rows.take i) ++ ends row m := by
  unfold grwA
  rw [List.take_add_one, h, List.flatMap_append]
  simp
theorem allN_len (m : Nat) : ∀ n : Nat, (allN m n).length = m ^ n
  | 0 => rfl
  | n + 1 => by
    rw [Nat.pow_succ, ← allN_len m n]
    exact grwA_len m _
theorem allN_mem {m : Nat} : ∀ {n : Nat} {row : List Int}, row ∈ allN m n ↔ row.length = n ∧ ∀ z ∈ row, 0 ≤ z ∧ z < (m : Int)
  | 0, row => by
    constructor
    · intro h
      have e : row = [] := List.mem_singleton.mp h
      subst e
      exact ⟨rfl, fun _ h => (nomatch h)⟩
    · rintro ⟨h, _⟩
      rw [List.length_eq_zero_iff.mp h]
      exact List.mem_singleton.mpr rfl
  | n + 1, row => by
    constructor
    · intro h
      obtain ⟨r, hr, h2⟩ := List.mem_flatMap.mp (show row ∈ (allN m n).flatMap _ from h)
      obtain ⟨z, zm, rfl⟩ := List.mem_map.mp h2
      have zb := nums_mem.mp zm
      obtain ⟨l, b⟩ := allN_mem.mp hr
      refine ⟨by rw [List.length_append, l]; rfl, fun y hy => ?_⟩
      rcases List.mem_append.mp hy with g | g
      · exact b y g
      · rw [List.mem_singleton.mp g]
        exact zb
    · rintro ⟨l, b⟩
      have ne : row ≠ [] := fun e => by rw [e] at l; cases l
      have e := List.dropLast_concat_getLast ne
      exact List.mem_flatMap.mpr ⟨row.dropLast, allN_mem.mpr ⟨by rw [List.length_dropLast, l]; rfl, fun z hz => b z (by rw [← e]; exact List.mem_append.mpr (.inl hz))⟩, List.mem_map.mpr ⟨row.getLast ne, nums_mem.mpr (b _ (List.getLast_mem ne)), e⟩⟩
def RwK (K : PySem.W.Frag) (H : Hp) (rs : List V) (rows : List (List Int)) : Prop := rs.length = rows.length ∧ ∀ (i : Nat) row, rows[i]? = some row → ∃ u, rs[i]? = some (.ref u) ∧ SqT K H u (row.map V.int)
theorem RwK.nil (K : PySem.W.Frag) (H : Hp) : RwK K H [] [] := ⟨rfl, fun i t h => by simp at h⟩
theorem RwK.keep {K : PySem.W.Frag} {H H' : Hp} {rs : List V} {ts : List (List Int)} (h : RwK K H rs ts) (k : ∀ u xs, SqT K H u xs → SqT K H' u xs) : RwK K H' rs ts := ⟨h.1, fun i t e => by
  obtain ⟨u, a, b⟩ := h.2 i t e
  exact ⟨u, a, k _ _ b⟩⟩
theorem RwK.cat {K : PySem.W.Frag} {H : Hp} {rs qs : List V} {ts us : List (List Int)} (h : RwK K H rs ts) (g : RwK K H qs us) : RwK K H (rs ++ qs) (ts ++ us) := by
  refine ⟨by rw [List.length_append, List.length_append, h.1, g.1], fun i s e => ?_⟩
  by_cases c : i < ts.length
  · rw [List.getElem?_append_left c] at e
    obtain ⟨v, a, b⟩ := h.2 i s e
    exact ⟨v, by rw [List.getElem?_append_left (by rw [h.1]; exact c)]; exact a, b⟩
  · rw [List.getElem?_append_right (by omega)] at e
    obtain ⟨v, a, b⟩ := g.2 _ s e
    exact ⟨v, by rw [List.getElem?_append_right (by rw [h.1]; omega), h.1]; exact a, b⟩
theorem RwK.one {K : PySem.W.Frag} {H : Hp} {u : Addr} {t : List Int} (g : SqT K H u (t.map V.int)) : RwK K H [.ref u] [t] := ⟨rfl, fun i s e => by
  match i, e with
  | 0, e => cases e; exact ⟨u, rfl, g⟩
  | i + 1, e => simp at e⟩
end Ly

/-! ### d[k], of a dict of the top whose keys are whole numbers -/
namespace Ly
open PySem PySem.Spec PyProof.Rows L2
def KeysInt : List DictEntry → Prop
  | [] => True
  | e :: r => (∃ z t, e.key = .int z t ∧ e.hash = hashInt z) ∧ KeysInt r
theorem KeysInt.all : ∀ {l : List DictEntry}, KeysInt l → ∀ e ∈ l, ∃ z t, e.key = .int z t ∧ e.hash = hashInt z
  | _ :: _, ⟨h, _⟩, _, .head _ => h
  | _ :: _, ⟨_, r⟩, _, .tail _ m => r.all _ m
def KDcI (K : PySem.W.Frag) (a : Addr) (k : Int) (v : V) : Prop := ∃ es n u, K.lookup a = some ⟨.type "dict", none, .dict es n, #[]⟩ ∧ KeysInt es.toList ∧ findBy Value.isInt es k = some u ∧ RelV v u
def rIxI (K : PySem.W.Frag) : R2 := fun x y H Q => ∃ p z v, x = .ref p ∧ y = .int z ∧ KDcI K p z v ∧ Q v H
theorem kz_ixI {X : Cx} {K : PySem.W.Frag} (hK : X.K = K := by rfl) : IxR X (rIxI K) := by
  subst hK
  intro value slice pins s σ H x y v u Q I rx ry h hs
  obtain ⟨p, z, r, rfl, rfl, ⟨es, n, u0, hl, hk, e, ru⟩, q⟩ := h
  obtain rfl : v = Value.ref p := rx
  obtain ⟨t, rfl⟩ := ry
  have hm : s.heap.MapOf (PySem.intKind X.prog X.w) p (fun k => findBy Value.isInt es k) := ⟨_, es, n, I.kIn _ _ hl, ⟨rfl, rfl, rfl⟩, rfl, fun e he => by
    obtain ⟨x, t, e1, e2⟩ := hk.all e (Array.mem_toList_iff.mpr he)
    exact ⟨x, by rw [e1]; simp [PySem.intKind, Value.isInt], e2⟩, fun _ => rfl⟩
  exact tail_any hm.typeIs slot_dict_getitem.lookup (wpAny_getItem_of (knd := intKind X.prog X.w) (k := z) (by simp [PySem.intKind, Value.isInt]) hm e ⟨r, H, I.tok _, ru, q⟩) hs
def keyI (e : DictEntry) : Bool := match e.key with
  | .int z _ => decide (e.hash = hashInt z)
  | _ => false
theorem keysI_ok : ∀ {l : List DictEntry}, l.all keyI = true → KeysInt l
  | [], _ => trivial
  | e :: r, h => by
    rw [List.all_cons, Bool.and_eq_true] at h
    refine ⟨?_, keysI_ok h.2⟩
    have k := h.1
    unfold keyI at k
    split at k
    · next z t eq => exact ⟨z, t, eq, of_decide_eq_true k⟩
    · cases k
def valI (es : Array DictEntry) (q : Int × Int) : Bool := match findBy Value.isInt es q.1 with
  | some (.int v _) => decide (v = q.2)
  | _ => false
def esOf (o : Obj) : Option (Array DictEntry × Nat) := match o.data with
  | .dict es n => if decide (o.cls = .type "dict") && (o.dict.isNone && o.slots.isEmpty) then some (es, n) else none
  | _ => none
theorem esOf_ok {o : Obj} {es : Array DictEntry} {n : Nat} (h : esOf o = some (es, n)) : o = ⟨.type "dict", none, .dict es n, #[]⟩ := by
  obtain ⟨c, d, dt, sl⟩ := o
  unfold esOf at h
  split at h
  · next es' n' eq =>
    split at h
    · next g =>
      rw [Bool.and_eq_true, Bool.and_eq_true] at g
      cases h
      have g1 : c = .type "dict" := of_decide_eq_true g.1
      have g2 : d = none := Option.isNone_iff_eq_none.mp g.2.1
      have g3 : sl = #[] := Array.isEmpty_iff.mp g.2.2
      have g4 : dt = .dict es n := eq
      rw [g1, g2, g3, g4]
    · cases h
  · cases h
def dicOk (K : PySem.W.Frag) (x : Str) (kvs : List (Int × Int)) : Bool := He.eqO (PySem.W.nsIn K mainGlobals x) (some (some (.ref (He.ga K x)))) && match (K.lookup (He.ga K x)).bind esOf with
  | some (es, _) => es.toList.all keyI && kvs.all (valI es)
  | none => false
def DicAt (K : PySem.W.Frag) (a : Addr) (kvs : List (Int × Int)) : Prop := ∀ q ∈ kvs, KDcI K a q.1 (.int q.2)
theorem dic_ok {K : PySem.W.Frag} {h : Heap} {mg : Str → Option Value} {x : Str} {kvs : List (Int × Int)} (X : K.In h) (G : h.Ns mainGlobals mg) (e : dicOk K x kvs = true) : mg x = some (.ref (He.ga K x)) ∧ DicAt K (He.ga K x) kvs := by
  unfold dicOk at e
  rw [Bool.and_eq_true] at e
  refine ⟨PySem.W.mg_of X G (He.eqO_ok e.1), fun q hq => ?_⟩
  have e2 := e.2
  split at e2
  · next es n hl0 =>
    obtain ⟨o, ho, eo⟩ := Option.bind_eq_some_iff.mp hl0
    rw [esOf_ok eo] at ho
    rw [Bool.and_eq_true] at e2
    have hl := ho
    have v := (List.all_eq_true.mp e2.2) q hq
    unfold valI at v
    split at v
    · next z t eq =>
      have ez := of_decide_eq_true v
      rw [ez] at eq
      exact ⟨es, n, _, hl, keysI_ok e2.1, eq, ⟨t, rfl⟩⟩
    · cases v
  · cases e2
end Ly

/-! ### there are even rows of so many places -/
namespace Ly
open PySem PySem.Spec PyProof.Rows L2
/-- the degrees at which rows are looked for -/
def DegOk (m d : Nat) : Prop := (m = 2 ∧ d ≤ 3) ∨ ((m = 3 ∨ m = 4) ∧ d ≤ 1)
/-- in so many blocks there is one for sure -/
def blocks (m d : Nat) : Nat := if m = 2 then 2 ^ d else d + 1
def sure (m d : Nat) : List Int := if m = 2 then built 2 (List.replicate (d + 1) (nums 2)) else if d = 0 then nums m else nums m ++ (nums m).reverse
theorem sure_rev {m d : Nat} (h : DegOk m d) : REv (m : Int) (sure m d) (d + 1) := by
  have self : ∀ k : Nat, ∀ zs ∈ [nums k], zs.Perm (nums k) := fun k zs hz => by rw [List.mem_singleton.mp hz]
  have one : ∀ k : Nat, 2 ≤ k ∧ k ≤ 4 → REv (k : Int) (nums k) 1 := fun k hk => by
    have := built_rev hk (self k)
    rw [built_one (self k _ (List.mem_singleton.mpr rfl))] at this
    exact this
  rcases h with ⟨rfl, hd⟩ | ⟨hm, hd⟩
  · unfold sure
    rw [if_pos rfl]
    have := built_rev (m := 2) (zss := List.replicate (d + 1) (nums 2)) (by decide) fun zs hz => by rw [(List.mem_replicate.mp hz).2]
    rw [List.length_replicate] at this
    exact this
  · have hm24 : 2 ≤ m ∧ m ≤ 4 := by omega
    unfold sure
    rw [if_neg (by omega)]
    by_cases c : d = 0
    · rw [if_pos c, c]
      exact one m hm24
    · rw [if_neg c, show d = 1 by omega]
      exact twice_rev (by omega) (one m hm24)
theorem count_le {row : List Int} {s : Nat} (h : (row.all fun z => decide (row.count z ≤ s)) = true) (z : Int) : row.count z ≤ s := by
  by_cases c : z ∈ row
  · exact of_decide_eq_true (List.all_eq_true.mp h z c)
  · rw [List.count_eq_zero_of_not_mem c]
    exact Nat.zero_le _
def sureB (m d : Nat) : Bool := decide ((sure m d).length = blocks m d * m) && ((sure m d).all (fun z => decide (0 ≤ z ∧ z < (m : Int))) && (sure m d).all fun z => decide ((sure m d).count z ≤ blocks m d))
theorem sureB_ok {m d : Nat} (h : DegOk m d) : sureB m d = true := by
  rcases h with ⟨rfl, hd⟩ | ⟨rfl | rfl, hd⟩
  · have e : ∀ k : Nat, k ≤ 3 → sureB 2 k = true := by decide +kernel
    exact e d hd
  · have e : ∀ k : Nat, k ≤ 1 → sureB 3 k = true := by decide +kernel
    exact e d hd
  · have e : ∀ k : Nat, k ≤ 1 → sureB 4 k = true := by decide +kernel
    exact e d hd
theorem bal_of {m c : Nat} (hm : 0 < m) {row : List Int} (l : row.length = c * m) (b : ∀ z ∈ row, 0 ≤ z ∧ z < (m : Int)) (k : ∀ z, row.count z ≤ c) : row ∈ bal m (c * m) := by
  have e : c * m / m = c := Nat.mul_div_cancel c hm
  unfold bal
  rw [e, if_pos rfl]
  exact balN_mem.mpr ⟨l, b, k⟩
open Classical in
theorem sure_in {m d : Nat} (h : DegOk m d) : sure m d ∈ evens m (blocks m d * m) d := by
  have z := sureB_ok h
  unfold sureB at z
  rw [Bool.and_eq_true, Bool.and_eq_true] at z
  refine List.mem_filter.mpr ⟨bal_of (by unfold DegOk at h; omega) (of_decide_eq_true z.1) (fun y hy => of_decide_eq_true (List.all_eq_true.mp z.2.1 y hy)) (count_le z.2.2), decide_eq_true (sure_rev h)⟩
end Ly
namespace Ly
theorem deg_pow {m d c : Nat} (h : DegOk m d) (hc : c ≤ blocks m d) : m ^ (c * m) ≤ 70000 ∧ c * m ≤ 64 := by
  rcases h with ⟨rfl, hd⟩ | ⟨rfl | rfl, hd⟩
  · have b : blocks 2 d ≤ 8 := Nat.pow_le_pow_right (n := 2) (by decide) hd
    exact ⟨Nat.le_trans (Nat.pow_le_pow_right (by decide) (show c * 2 ≤ 16 by omega)) (by decide), by omega⟩
  · have b : blocks 3 d = d + 1 := rfl
    exact ⟨Nat.le_trans (Nat.pow_le_pow_right (by decide) (show c * 3 ≤ 6 by omega)) (by decide), by omega⟩
  · have b : blocks 4 d = d + 1 := rfl
    exact ⟨Nat.le_trans (Nat.pow_le_pow_right (by decide) (show c * 4 ≤ 8 by omega)) (by decide), by omega⟩
def mostDeg (m : Nat) : Nat := if m = 2 then 3 else 1
theorem mostDeg_mem {m d : Nat} (h : DegOk m d) : ((m : Int), (mostDeg m : Int)) ∈ [((2 : Int), (3 : Int)), ((3 : Int), (1 : Int)), ((4 : Int), (1 : Int))] := by
  rcases h with ⟨rfl, hd⟩ | ⟨rfl | rfl, hd⟩ <;> decide
theorem mostDeg_le {m d : Nat} (h : DegOk m d) : d ≤ mostDeg m := by
  unfold DegOk at h
  unfold mostDeg
  split <;> omega
end Ly

/-! ### rows rising -/
namespace Ly
open PySem PySem.Spec PyProof.Rows L2
theorem ris_eq {α : Type} {c : α → Int} : ∀ {A B : List α}, A.Pairwise (fun x y => c x < c y) → B.Pairwise (fun x y => c x < c y) → (∀ x, x ∈ A ↔ x ∈ B) → A = B
  | [], [], _, _, _ => rfl
  | [], b :: B, _, _, h => absurd ((h b).mpr List.mem_cons_self) (List.not_mem_nil)
  | a :: A, [], _, _, h => absurd ((h a).mp List.mem_cons_self) (List.not_mem_nil)
  | a :: A, b :: B, hA, hB, h => by
    obtain ⟨a1, a2⟩ := List.pairwise_cons.mp hA
    obtain ⟨b1, b2⟩ := List.pairwise_cons.mp hB
    have e : a = b := by
      rcases List.mem_cons.mp ((h a).mp List.mem_cons_self) with g | g
      · exact g
      · rcases List.mem_cons.mp ((h b).mpr List.mem_cons_self) with k | k
        · exact k.symm
        · have := a1 b k
          have := b1 a g
          omega
    subst e
    refine congrArg (a :: ·) (ris_eq a2 b2 fun x => ⟨fun hx => ?_, fun hx => ?_⟩)
    · rcases List.mem_cons.mp ((h x).mp (List.mem_cons_of_mem _ hx)) with g | g
      · have := a1 x hx
        rw [g] at this
        omega
      · exact g
    · rcases List.mem_cons.mp ((h x).mpr (List.mem_cons_of_mem _ hx)) with g | g
      · have := b1 x hx
        rw [g] at this
        omega
      · exact g
/-- a row as a number, by which it rises as tuples do -/
def cod (row : List Int) : Int := row.foldl (fun a z => 4 * a + z) 0
theorem cod_snoc (row : List Int) (h : Int) : cod (row ++ [h]) = 4 * cod row + h := by
  unfold cod
  rw [List.foldl_append]
  rfl
theorem cod_from : ∀ (row : List Int) (a : Int), row.foldl (fun a z => 4 * a + z) a = 4 ^ row.length * a + cod row
  | [], a => by
    show a = 4 ^ 0 * a + 0
    rw [Int.pow_zero]
    omega
  | z :: r, a => by
    show r.foldl (fun a z => 4 * a + z) (4 * a + z) = 4 ^ (r.length + 1) * a + r.foldl (fun a z => 4 * a + z) (4 * 0 + z)
    rw [cod_from r, cod_from r (4 * 0 + z), Int.pow_succ, Int.mul_add, Int.mul_add, Int.mul_assoc]
    rw [show (4 : Int) * 0 = 0 from rfl, Int.mul_zero, Int.zero_add]
    omega
theorem cod_cons (z : Int) (r : List Int) : cod (z :: r) = 4 ^ r.length * z + cod r := by
  show r.foldl (fun a z => 4 * a + z) (4 * 0 + z) = _
  rw [cod_from, show (4 : Int) * 0 + z = z by omega]
theorem cod_range : ∀ {row : List Int}, (∀ z ∈ row, 0 ≤ z ∧ z < 4) → 0 ≤ cod row ∧ cod row < 4 ^ row.length
  | [], _ => ⟨Int.le_refl _, by decide⟩
  | z :: r, h => by
    obtain ⟨a, b⟩ := cod_range (row := r) fun y hy => h y (List.mem_cons_of_mem _ hy)
    obtain ⟨z0, z1⟩ := h z List.mem_cons_self
    rw [cod_cons, List.length_cons, Int.pow_succ]
    have p : (0 : Int) < 4 ^ r.length := by omega
    have d : z = 0 ∨ z = 1 ∨ z = 2 ∨ z = 3 := by omega
    rcases d with rfl | rfl | rfl | rfl <;> omega
theorem nums_ris (j : Nat) : (nums j).Pairwise fun x y => x < y := by
  unfold nums
  exact List.pairwise_map.mpr (List.pairwise_lt_range.imp fun h => by omega)
def Ris (rows : List (List Int)) : Prop := rows.Pairwise fun x y => cod x < cod y
theorem nums_lt {j : Nat} {z : Int} (h : z ∈ nums j) (hj : j ≤ 4) : 0 ≤ z ∧ z < 4 := by
  have := nums_mem.mp h
  omega
theorem balN_ris {m share : Nat} (hm : m ≤ 4) : ∀ n : Nat, Ris (balN m share n)
  | 0 => List.pairwise_singleton _ _
  | n + 1 => by
    show ((balN m share n).flatMap fun row => more1 share row m).Pairwise _
    refine List.pairwise_flatMap.mpr ⟨fun row _ => ?_, (balN_ris hm n).imp fun {r s} h x hx y hy => ?_⟩
    · unfold more1
      refine List.pairwise_map.mpr (((nums_ris m).filter _).imp fun h => ?_)
      rw [cod_snoc, cod_snoc]
      omega
    · obtain ⟨a, ha, rfl⟩ := List.mem_map.mp hx
      obtain ⟨b, hb, rfl⟩ := List.mem_map.mp hy
      have := nums_lt (List.mem_filter.mp ha).1 hm
      have := nums_lt (List.mem_filter.mp hb).1 hm
      rw [cod_snoc, cod_snoc]
      omega
theorem bal_ris {m : Nat} (hm : m ≤ 4) (n : Nat) : Ris (bal m n) := by
  unfold bal
  split
  · exact balN_ris hm n
  · exact List.Pairwise.nil
theorem evens_ris {m : Nat} (hm : m ≤ 4) (n d : Nat) : Ris (evens m n d) := (bal_ris hm n).filter _
theorem allN_ris {m : Nat} (hm : m ≤ 4) : ∀ n : Nat, Ris (allN m n)
  | 0 => List.pairwise_singleton _ _
  | n + 1 => by
    show ((allN m n).flatMap fun row => ends row m).Pairwise _
    refine List.pairwise_flatMap.mpr ⟨fun row _ => ?_, (allN_ris hm n).imp fun {r s} h x hx y hy => ?_⟩
    · unfold ends
      refine List.pairwise_map.mpr ((nums_ris m).imp fun h => ?_)
      rw [cod_snoc, cod_snoc]
      omega
    · obtain ⟨a, ha, rfl⟩ := List.mem_map.mp hx
      obtain ⟨b, hb, rfl⟩ := List.mem_map.mp hy
      have := nums_lt ha hm
      have := nums_lt hb hm
      rw [cod_snoc, cod_snoc]
      omega
/-! even rows have as many turns of each hand -/
theorem count_hs (h : Int) : ∀ row : List Int, hs row h (fun (_ : Nat) => 1) = (row.count h : Int)
  | [] => rfl
  | t :: r => by
    show (if t = h then (1 : Int) else 0) + hs r h (fun _ => 1) = _
    rw [count_hs h r, List.count_cons]
    by_cases c : t = h
    · rw [if_pos c, if_pos (by rw [c]; exact beq_self_eq_true h)]
      omega
    · rw [if_neg c, if_neg (by simpa using c)]
      omega
theorem mom_count (row : List Int) (h : Int) : mom row h 0 = (row.count h : Int) := by
  rw [← count_hs, hs_sumTo]
  exact sumTo_ext fun i _ => by rw [Int.pow_zero]
theorem sumTo_one {i : Nat} : ∀ {m : Nat}, sumTo m (fun j => if i = j then 1 else 0) = if i < m then 1 else 0
  | 0 => rfl
  | m + 1 => by
    show sumTo m _ + (if i = m then (1 : Int) else 0) = _
    rw [sumTo_one (m := m)]
    by_cases c : i < m
    · rw [if_pos c, if_neg (by omega), if_pos (by omega)]
      rfl
    · rw [if_neg c]
      by_cases e : i = m
      · rw [if_pos e, if_pos (by omega)]
        rfl
      · rw [if_neg e, if_neg (by omega)]
        rfl
theorem counts_sum {m : Nat} : ∀ {row : List Int}, (∀ z ∈ row, 0 ≤ z ∧ z < (m : Int)) → sumTo m (fun h => (row.count (h : Int) : Int)) = row.length
  | [], _ => sumTo_zero fun _ _ => rfl
  | t :: r, b => by
    have ih := counts_sum (row := r) fun z hz => b z (List.mem_cons_of_mem _ hz)
    have tb := b t List.mem_cons_self
    have e : sumTo m (fun h => ((t :: r).count (h : Int) : Int)) = sumTo m (fun h => (r.count (h : Int) : Int) + if t.toNat = h then 1 else 0) := sumTo_ext fun i _ => by
      rw [List.count_cons]
      by_cases c : t.toNat = i
      · rw [if_pos c, if_pos (by rw [show t = (i : Int) by omega]; exact beq_self_eq_true _)]
        rfl
      · rw [if_neg c, if_neg (by simp; omega)]
        rfl
    rw [e, sumTo_add, ih, sumTo_one, if_pos (by omega), List.length_cons]
    rfl
theorem sumTo_same (c : Int) : ∀ n : Nat, sumTo n (fun _ => c) = n * c
  | 0 => (Int.zero_mul c).symm
  | n + 1 => by
    show sumTo n _ + c = _
    rw [sumTo_same c n, Int.natCast_succ, Int.add_mul, Int.one_mul]
theorem even_bal {m n : Nat} (hm : 0 < m) {row : List Int} (l : row.length = n) (b : ∀ z ∈ row, 0 ≤ z ∧ z < (m : Int)) (r : REv (m : Int) row 1) : row ∈ bal m n := by
  have c : ∀ h : Nat, h < m → row.count (h : Int) = row.count 0 := fun h hh => by
    have := (rev_mom (by omega)).mp r h (by omega) 0 (by omega)
    rw [mom_count, mom_count] at this
    omega
  have s := counts_sum b
  rw [sumTo_ext (g := fun _ => (row.count 0 : Int)) fun i hi => by rw [c i hi], sumTo_same] at s
  have e : n = row.count 0 * m := by
    have : ((m * row.count 0 : Nat) : Int) = (row.length : Int) := by rw [Int.natCast_mul]; exact s
    rw [Nat.mul_comm]
    omega
  rw [e]
  refine bal_of hm (by rw [l]; exact e) b fun z => ?_
  by_cases k : z ∈ row
  · have zb := b z k
    rw [show z = (z.toNat : Int) by omega, c z.toNat (by omega)]
    exact Nat.le_refl _
  · rw [List.count_eq_zero_of_not_mem k]
    exact Nat.zero_le _
open Classical in
theorem evens_all {m n d : Nat} (hm : 0 < m) (hm4 : m ≤ 4) : evens m n d = (allN m n).filter fun row => decide (REv (m : Int) row (d + 1)) := by
  refine ris_eq (evens_ris hm4 n d) ((allN_ris hm4 n).filter _) fun row => ?_
  rw [List.mem_filter]
  constructor
  · intro h
    obtain ⟨a, b⟩ := evens_mem h
    obtain ⟨_, c, d, _⟩ := bal_mem a
    exact ⟨allN_mem.mpr ⟨c, d⟩, decide_eq_true b⟩
  · rintro ⟨a, b⟩
    obtain ⟨c, d⟩ := allN_mem.mp a
    have b' := of_decide_eq_true b
    exact List.mem_filter.mpr ⟨even_bal hm c d (b'.le (by omega)), decide_eq_true b'⟩
/-! ### even rows, to be counted -/
def evB (m d : Nat) (row : List Int) : Bool := (List.range m).all fun h => (List.range (d + 1)).all fun k => decide (mom row (h : Int) k = mom row 0 k)
theorem evB_iff {m d : Nat} (hm : 0 < m) {row : List Int} : evB m d row = true ↔ REv (m : Int) row (d + 1) := by
  rw [rev_mom (by omega)]
  unfold evB
  rw [List.all_eq_true]
  constructor
  · intro z h hh k hk
    have := List.all_eq_true.mp (z h (List.mem_range.mpr (by omega))) k (List.mem_range.mpr hk)
    exact of_decide_eq_true this
  · intro z h hh
    refine List.all_eq_true.mpr fun k hk => decide_eq_true ?_
    exact z h (by have := List.mem_range.mp hh; omega) k (List.mem_range.mp hk)
open Classical in
theorem evens_B {m n d : Nat} (hm : 0 < m) : evens m n d = (bal m n).filter (evB m d) := by
  unfold evens
  refine List.filter_congr fun row _ => ?_
  by_cases c : REv (m : Int) row (d + 1)
  · rw [decide_eq_true c, evB_iff hm |>.mpr c]
  · rw [decide_eq_false c]
    cases e : evB m d row with
    | false => rfl
    | true => exact absurd ((evB_iff hm).mp e) c
open Classical in
theorem evens_allB {m n d : Nat} (hm : 0 < m) (hm4 : m ≤ 4) : evens m n d = (allN m n).filter (evB m d) := by
  rw [evens_all hm hm4]
  refine List.filter_congr fun row _ => ?_
  by_cases c : REv (m : Int) row (d + 1)
  · rw [decide_eq_true c, evB_iff hm |>.mpr c]
  · rw [decide_eq_false c]
    cases e : evB m d row with
    | false => rfl
    | true => exact absurd ((evB_iff hm).mp e) c
end Ly

/-! ### tails of signs, worths gone on -/
namespace Ly
open PySem PySem.Spec PyProof.Rows L2
def Tl (n : Nat) (s : Nat → Int) : Nat → Int := fun i => sumTo n s - sumTo i s
def TN (n : Nat) : Nat → (Nat → Int) → Nat → Int
  | 0, s => s
  | k + 1, s => Tl n (TN n k s)
theorem TN_succ (n : Nat) : ∀ (k : Nat) (s : Nat → Int), TN n (k + 1) s = TN n k (Tl n s)
  | 0, _ => rfl
  | k + 1, s => congrArg (Tl n) (TN_succ n k s)
def tails (l : List Int) : List Int := (List.range l.length).map fun i => (l.drop i).sum
def tailsN : Nat → List Int → List Int
  | 0, l => l
  | k + 1, l => tails (tailsN k l)
theorem tails_len (l : List Int) : (tails l).length = l.length := by rw [tails, List.length_map, List.length_range]
theorem tailsN_len (l : List Int) : ∀ k : Nat, (tailsN k l).length = l.length
  | 0 => rfl
  | k + 1 => (tails_len _).trans (tailsN_len l k)
theorem drop_sum {s : Nat → Int} {n i : Nat} (h : i ≤ n) : ((line s n).drop i).sum = sumTo n s - sumTo i s := by
  have e := congrArg List.sum (List.take_append_drop i (line s n))
  rw [List.sum_append, line_take h, line_sum, line_sum] at e
  omega
theorem tails_line (s : Nat → Int) (n : Nat) : tails (line s n) = line (Tl n s) n := by
  refine line_ext (by rw [tails_len, line_len]) fun i hi => ?_
  unfold tails
  rw [List.getElem?_map, line_len, List.getElem?_range hi]
  show some ((line s n).drop i).sum = _
  rw [drop_sum (by omega)]
  rfl
theorem tailsN_line (s : Nat → Int) (n : Nat) : ∀ k : Nat, tailsN k (line s n) = line (TN n k s) n
  | 0 => rfl
  | k + 1 => by
    show tails (tailsN k (line s n)) = _
    rw [tailsN_line s n k, tails_line]
    rfl
theorem line_back (s : Nat → Int) (n : Nat) : (line s n).reverse = line (fun i => s (n - 1 - i)) n := by
  refine line_ext (by rw [List.length_reverse, line_len]) fun i hi => ?_
  rw [List.getElem?_reverse (by rw [line_len]; exact hi), line_len, line_at (by omega)]
theorem back_sum {n : Nat} (g : Nat → Int) : ∀ i : Nat, i < n → sumTo (i + 1) (fun j => g (n - 1 - j)) = sumTo n g - sumTo (n - 1 - i) g
  | 0, h => by
    obtain ⟨m, rfl⟩ : ∃ m, n = m + 1 := ⟨n - 1, by omega⟩
    show (0 : Int) + g (m + 1 - 1 - 0) = (sumTo m g + g m) - sumTo (m + 1 - 1 - 0) g
    rw [show m + 1 - 1 - 0 = m by omega]
    omega
  | i + 1, h => by
    show sumTo (i + 1) (fun j => g (n - 1 - j)) + g (n - 1 - (i + 1)) = _
    rw [back_sum g i (by omega)]
    have e : n - 1 - i = (n - 1 - (i + 1)) + 1 := by omega
    rw [e]
    show sumTo n g - (sumTo (n - 1 - (i + 1)) g + g (n - 1 - (i + 1))) + _ = _
    omega
theorem sn_back {n : Nat} {s t : Nat → Int} (h : ∀ i, i < n → t i = s (n - 1 - i)) : ∀ k i : Nat, i < n → SN k t i = TN n k s (n - 1 - i)
  | 0, i, hi => h i hi
  | k + 1, i, hi => by
    show sumTo (i + 1) (SN k t) = sumTo n (TN n k s) - sumTo (n - 1 - i) (TN n k s)
    rw [← back_sum _ i hi]
    exact sumTo_ext fun j hj => sn_back h k j (by omega)
theorem tails_of_eq (k : Nat) (s : Nat → Int) (n : Nat) : (psumsN k (line s n).reverse).reverse = line (TN n k s) n := by
  rw [line_back, psumsN_line, line_back]
  refine line_ext (line_len _ _) fun i hi => ?_
  rw [line_at hi, sn_back (fun _ _ => rfl) k _ (by omega), show n - 1 - (n - 1 - i) = i by omega]
def bk (h : Nat → Int) : Nat → Int
  | 0 => h 0
  | j + 1 => Df h j
theorem bk_sum (h : Nat → Int) : ∀ n : Nat, sumTo (n + 1) (bk h) = h n
  | 0 => Int.zero_add _
  | n + 1 => by
    show sumTo (n + 1) (bk h) + (h (n + 1) - h n) = _
    rw [bk_sum h n]
    omega
theorem tl_parts (s h : Nat → Int) : ∀ n : Nat, sumTo n (fun j => s j * h j) = sumTo n (fun j => Tl n s j * bk h j)
  | 0 => rfl
  | n + 1 => by
    have e : sumTo (n + 1) (fun j => Tl (n + 1) s j * bk h j) = sumTo (n + 1) (fun j => Tl n s j * bk h j + s n * bk h j) := sumTo_ext fun j _ => by
      show (sumTo n s + s n - sumTo j s) * bk h j = (sumTo n s - sumTo j s) * bk h j + s n * bk h j
      rw [← Int.add_mul]
      congr 1
      omega
    rw [e, sumTo_add, sumTo_mul, bk_sum]
    show _ = sumTo n (fun j => Tl n s j * bk h j) + (sumTo n s - sumTo n s) * bk h n + s n * h n
    rw [← tl_parts s h n, Int.sub_self, Int.zero_mul, Int.add_zero]
    rfl
def bkN : Nat → (Nat → Int) → Nat → Int
  | 0, h => h
  | k + 1, h => bkN k (bk h)
theorem tn_parts (n : Nat) : ∀ (k : Nat) (s h : Nat → Int), sumTo n (fun j => s j * h j) = sumTo n (fun j => TN n k s j * bkN k h j)
  | 0, _, _ => rfl
  | k + 1, s, h => by
    rw [tl_parts, tn_parts n k, TN_succ]
    rfl
theorem bk_low {n0 : Nat} {h : Nat → Int} (z : ∀ j, j < n0 → h j = 0) : ∀ j, j < n0 → bk h j = 0
  | 0, hj => z 0 hj
  | j + 1, hj => by
    show h (j + 1) - h j = 0
    rw [z _ hj, z _ (by omega)]
    rfl
theorem bkN_low {n0 : Nat} : ∀ (k : Nat) {h : Nat → Int}, (∀ j, j < n0 → h j = 0) → ∀ j, j < n0 → bkN k h j = 0
  | 0, _, z => z
  | k + 1, _, z => bkN_low k (bk_low z)
theorem bkN_dn : ∀ (k : Nat) (h : Nat → Int) (j : Nat), k ≤ j → bkN k h j = DN k h (j - k)
  | 0, _, _, _ => rfl
  | k + 1, h, j, l => by
    show bkN k (bk h) j = _
    rw [bkN_dn k (bk h) j (by omega), DN_succ, show j - k = (j - (k + 1)) + 1 by omega, ← dn_shift]
    rfl
/-- worths told, gone on straight -/
def Gone (n k : Nat) (ws : List Int) (st : Nat → Int) : Prop := (∀ i, i < ws.length → ws[i]? = some (st i)) ∧ ∀ i, ws.length ≤ i + k → i + k < n → DN k st i = 0
theorem Gone.one {n k : Nat} {ws : List Int} {f g : Nat → Int} (hk : k ≤ ws.length) (hf : Gone n k ws f) (hg : Gone n k ws g) : ∀ i, i < n → f i = g i := by
  have a : ∀ i, i < ws.length → f i = g i := fun i hi => by
    have := hf.1 i hi
    rw [hg.1 i hi] at this
    exact (Option.some.inj this).symm
  refine dn_one k (fun i hi => a i (by omega)) fun i hi => ?_
  by_cases c : ws.length ≤ i + k
  · rw [hf.2 i c hi, hg.2 i c hi]
  · exact dn_agree k i fun j hj => a j (by omega)
def Far (n n0 k : Nat) (s : Nat → Int) : Int := sumTo (n - n0) fun i => absI (TN n k s (n0 + i))
theorem gone_diff {n n0 k : Nat} (hk : k ≤ n0) (hn : n0 ≤ n) {s st g : Nat → Int} (e : ∀ i, i < n0 → g i = st i) (z : ∀ i, n0 ≤ i + k → i + k < n → DN k st i = 0) :
    sumTo n (fun i => s i * g i) = sumTo n (fun i => s i * st i) + sumTo (n - n0) fun i => TN n k s (n0 + i) * DN k g (n0 + i - k) := by
  have e1 : sumTo n (fun i => s i * g i) = sumTo n (fun i => s i * st i + s i * (g i + (-1) * st i)) := sumTo_ext fun i _ => by
    rw [← Int.mul_add]
    congr 1
    omega
  rw [e1, sumTo_add, tn_parts n k s fun i => g i + (-1) * st i]
  congr 1
  have hs : n = n0 + (n - n0) := by omega
  have e2 : sumTo n (fun j => TN n k s j * bkN k (fun i => g i + (-1) * st i) j) = sumTo (n0 + (n - n0)) (fun j => TN n k s j * bkN k (fun i => g i + (-1) * st i) j) := by rw [← hs]
  rw [e2, sumTo_cat, sumTo_zero (n := n0) fun i hi => by rw [bkN_low k (n0 := n0) (fun j hj => by rw [e j hj]; omega) i hi, Int.mul_zero], Int.zero_add]
  refine sumTo_ext fun i hi => ?_
  rw [bkN_dn k _ _ (by omega), DN_add, DN_mul]
  show _ * (DN k g _ + (-1) * DN k st _) = _
  rw [z (n0 + i - k) (by omega) (by omega), Int.mul_zero, Int.add_zero]
theorem gone_within {n n0 k : Nat} (hk : k ≤ n0) (hn : n0 ≤ n) {s st g : Nat → Int} (e : ∀ i, i < n0 → g i = st i) (z : ∀ i, n0 ≤ i + k → i + k < n → DN k st i = 0) {M : Int} (hM : ∀ i, n0 ≤ i + k → i + k < n → -M ≤ DN k g i ∧ DN k g i ≤ M) :
    sumTo n (fun i => s i * st i) - M * Far n n0 k s ≤ sumTo n (fun i => s i * g i) ∧ sumTo n (fun i => s i * g i) ≤ sumTo n (fun i => s i * st i) + M * Far n n0 k s := by
  rw [gone_diff hk hn (s := s) e z]
  have up : sumTo (n - n0) (fun i => TN n k s (n0 + i) * DN k g (n0 + i - k)) ≤ M * Far n n0 k s := by
    unfold Far
    rw [← sumTo_mul]
    refine sumTo_le fun i hi => ?_
    obtain ⟨a, b⟩ := hM (n0 + i - k) (by omega) (by omega)
    exact mul_le_abs a b
  have dn : -(sumTo (n - n0) (fun i => TN n k s (n0 + i) * DN k g (n0 + i - k))) ≤ M * Far n n0 k s := by
    have e1 : -(sumTo (n - n0) (fun i => TN n k s (n0 + i) * DN k g (n0 + i - k))) = sumTo (n - n0) (fun i => (-1) * (TN n k s (n0 + i) * DN k g (n0 + i - k))) := by
      rw [sumTo_mul]
      omega
    rw [e1]
    unfold Far
    rw [← sumTo_mul]
    refine sumTo_le fun i hi => ?_
    obtain ⟨a, b⟩ := hM (n0 + i - k) (by omega) (by omega)
    have := mul_le_abs (a := TN n k s (n0 + i)) (x := - DN k g (n0 + i - k)) (M := M) (by omega) (by omega)
    rw [Int.mul_neg] at this
    omega
  omega
/-- the difference that goes with a tail -/
def turnT (t M : Int) : Int := if t = 0 then 0 else if t > 0 then M else 0 - M
theorem turn_abs (t M : Int) : t * turnT t M = M * absI t := by
  unfold turnT absI
  by_cases c : t = 0
  · rw [if_pos c, c, if_neg (by omega), Int.zero_mul, Int.mul_zero]
  · rw [if_neg c]
    by_cases d : t > 0
    · rw [if_pos d, if_neg (by omega), Int.mul_comm]
    · rw [if_neg d, if_pos (by omega), Int.zero_sub, Int.mul_neg, Int.mul_neg, Int.mul_comm]
theorem gone_met {n n0 k : Nat} (hk : k ≤ n0) (hn : n0 ≤ n) {s st g : Nat → Int} (e : ∀ i, i < n0 → g i = st i) (z : ∀ i, n0 ≤ i + k → i + k < n → DN k st i = 0) {M c : Int} (hM : ∀ j, n0 ≤ j → j < n → DN k g (j - k) = c * turnT (TN n k s j) M) :
    sumTo n (fun i => s i * g i) = sumTo n (fun i => s i * st i) + c * (M * Far n n0 k s) := by
  rw [gone_diff hk hn (s := s) e z]
  congr 1
  unfold Far
  rw [← sumTo_mul, ← sumTo_mul]
  refine sumTo_ext fun i hi => ?_
  rw [hM (n0 + i) (by omega) (by omega), ← Int.mul_assoc, Int.mul_comm _ c, Int.mul_assoc, turn_abs]
theorem Tl_neg (n : Nat) (s : Nat → Int) : Tl n (fun i => - s i) = fun i => - Tl n s i := funext fun i => by
  have e : ∀ m : Nat, sumTo m (fun i => - s i) = - sumTo m s := fun m => by
    have := sumTo_mul m (-1) s
    rw [sumTo_ext (g := fun i => (-1) * s i) fun i _ => by omega, this]
    omega
  show sumTo n _ - sumTo i _ = -(sumTo n s - sumTo i s)
  rw [e, e]
  omega
theorem TN_neg (n : Nat) (s : Nat → Int) : ∀ k : Nat, TN n k (fun i => - s i) = fun i => - TN n k s i
  | 0 => rfl
  | k + 1 => by
    show Tl n (TN n k fun i => - s i) = _
    rw [TN_neg n s k, Tl_neg]
    rfl
theorem Far_swap {n n0 k : Nat} (row : List Int) {a b : Int} (h : a ≠ b) : Far n n0 k (sg row b a) = Far n n0 k (sg row a b) := by
  rw [sg_turn row h]
  unfold Far
  rw [TN_neg]
  exact sumTo_ext fun i _ => absI_neg _
theorem Far_list {n n0 k : Nat} {s : Nat → Int} (h : n0 ≤ n) : (((line (TN n k s) n).drop n0).map absI).sum = Far n n0 k s := by
  have e : ((line (TN n k s) n).drop n0).map absI = line (fun i => absI (TN n k s (n0 + i))) (n - n0) := by
    refine line_ext (by rw [List.length_map, List.length_drop, line_len]) fun i hi => ?_
    rw [List.getElem?_map, List.getElem?_drop, line_at (by omega)]
    rfl
  rw [e, line_sum]
  rfl
/-- one worth more, straight on -/
theorem gone_more {n k : Nat} (hk : k ≤ n) {f : Nat → Int} {v c : Int} (h : v = sumTo k (fun u => DN u f (n - 1 - u)) + c) : DN k (fun i => if i < n then f i else v) (n - k) = c := by
  have g : (if n < n then f n else v) = _ := gone_on (fun i => if i < n then f i else v) n k hk
  rw [if_neg (Nat.lt_irrefl n)] at g
  rw [sumTo_ext (g := fun u => DN u f (n - 1 - u)) fun u hu => dn_agree u (n - 1 - u) fun j hj => if_pos (by omega)] at g
  omega
theorem ends_more {n k : Nat} (hk : k ≤ n) {f : Nat → Int} {v : Int} (hv : v = sumTo k fun u => DN u f (n - 1 - u)) : ∀ s, s ≤ k →
    Tl k (fun u => DN u f (n - 1 - u)) s = DN s (fun i => if i < n then f i else v) (n - s)
  | 0, _ => by
    show sumTo k _ - 0 = (if n < n then f n else v)
    rw [if_neg (Nat.lt_irrefl n), hv]
    omega
  | s + 1, hs => by
    have ih := ends_more hk hv s (by omega)
    have e : DN (s + 1) (fun i => if i < n then f i else v) (n - (s + 1)) = DN s (fun i => if i < n then f i else v) (n - (s + 1) + 1) - DN s (fun i => if i < n then f i else v) (n - (s + 1)) := rfl
    rw [e, show n - (s + 1) + 1 = n - s by omega, ← ih, dn_agree s (n - (s + 1)) (f := fun i => if i < n then f i else v) (g := f) fun j hj => if_pos (by omega), show n - (s + 1) = n - 1 - s by omega]
    show sumTo k _ - (sumTo s _ + DN s f (n - 1 - s)) = sumTo k _ - sumTo s _ - _
    omega
theorem cut_from (xs : List V) (j : Nat) : cutV xs (some (j : Int)) none = xs.drop j := by
  rw [cutV, show HT.sIx xs.length 0 (some (j : Int)) = min j xs.length from HT.sIx_nat _ 0 _, HT.sIx_none]
  by_cases h : j ≤ xs.length
  · rw [Nat.min_eq_left h, List.take_of_length_le (by rw [List.length_drop]; omega)]
  · rw [Nat.min_eq_right (by omega), List.drop_of_length_le (Nat.le_refl _), List.drop_of_length_le (by omega), List.take_nil]
end Ly

/-! ### what calms the leads foreseen -/
namespace Ly
open PySem PySem.Spec PyProof.Rows L2
theorem gone_ex {k : Nat} {ws : List Int} (hk : k ≤ ws.length) : ∀ d : Nat, ∃ st, Gone (ws.length + d) k ws st
  | 0 => ⟨fun i => ws.getD i 0, fun i hi => by
    show _ = some (ws.getD i 0)
    rw [List.getD_eq_getElem?_getD, List.getElem?_eq_getElem hi]
    rfl, fun i a b => by omega⟩
  | d + 1 => by
    obtain ⟨st, g1, g2⟩ := gone_ex hk d
    refine ⟨fun i => if i < ws.length + d then st i else sumTo k fun u => DN u st (ws.length + d - 1 - u), fun i hi => ?_, fun i a b => ?_⟩
    · rw [g1 i hi]
      exact congrArg some (if_pos (by omega)).symm
    · by_cases c : i + k < ws.length + d
      · rw [dn_agree k i (f := fun i => if i < ws.length + d then st i else sumTo k fun u => DN u st (ws.length + d - 1 - u)) (g := st) fun j hj => if_pos (by omega)]
        exact g2 i a c
      · rw [show i = ws.length + d - k by omega]
        exact gone_more (by omega) (by omega)
/-- the greatest lead foreseen of one hand of another one -/
def LF (row : List Int) (k n0 : Nat) (M : Int) (st : Nat → Int) (a b : Int) : Int := sumTo row.length (fun i => sg row a b i * st i) + M * Far row.length n0 k (sg row a b)
/-- .. of any hand of any other one -/
def MF (m k : Nat) (M : Int) (ws row : List Int) (X : Int) : Prop := ∃ st, Gone row.length k ws st ∧ (∀ a b : Nat, a < m → b < m → a ≠ b → LF row k ws.length M st a b ≤ X) ∧ ∃ a b : Nat, a < m ∧ b < m ∧ a ≠ b ∧ LF row k ws.length M st a b = X
theorem LF.one {row : List Int} {k : Nat} {M : Int} {ws : List Int} (hk : k ≤ ws.length) {f g : Nat → Int} (hf : Gone row.length k ws f) (hg : Gone row.length k ws g) (a b : Int) : LF row k ws.length M f a b = LF row k ws.length M g a b := by
  unfold LF
  rw [sumTo_ext fun i hi => by rw [hf.one hk hg i hi]]
theorem MF.one {m k : Nat} {M : Int} {ws row : List Int} {X Y : Int} (hk : k ≤ ws.length) (h : MF m k M ws row X) (g : MF m k M ws row Y) : X = Y := by
  obtain ⟨f, hf, u1, a, b, ha, hb, ab, e1⟩ := h
  obtain ⟨f2, hf2, u2, c, d, hc, hd, cd, e2⟩ := g
  have l1 := u2 a b ha hb ab
  have l2 := u1 c d hc hd cd
  rw [← LF.one hk hf hf2] at l1
  rw [LF.one hk hf hf2] at l2
  omega
def CandF (m k : Nat) (M : Int) (ws row : List Int) (t : Int × Nat × Nat) : Prop := ws.length ≤ t.2.1 ∧ t.2.1 < t.2.2 ∧ t.2.2 < row.length ∧ row.getD t.2.1 0 ≠ row.getD t.2.2 0 ∧ MF m k M ws (swp row t.2.1 t.2.2) t.1
def LowF (m k : Nat) (M : Int) (ws row : List Int) (t : Int × Nat × Nat) : Prop := CandF m k M ws row t ∧ ∀ N, MF m k M ws row N → t.1 < N
def BestF (m k : Nat) (M : Int) (ws row : List Int) (t : Int × Nat × Nat) : Prop := LowF m k M ws row t ∧ ∀ s, LowF m k M ws row s → cd t ≤ cd s
theorem BestF.one {m k : Nat} {M : Int} {ws row : List Int} {s t : Int × Nat × Nat} (l : row.length ≤ 64) (h : BestF m k M ws row s) (g : BestF m k M ws row t) : s = t := by
  have h1 := h.1.1
  have g1 := g.1.1
  unfold CandF at h1 g1
  have a := h.2 t g.1
  have b := g.2 s h.1
  exact cd_one (by omega) (by omega) (by omega) (by omega) (by omega)
end Ly

/-! ### all rows with so many turns of each hand -/
namespace Ly
open PySem PySem.Spec PyProof.Rows L2
def less (left : List Int) (h : Nat) : List Int := left.set h (left.getD h 0 - 1)
def shd (m : Nat) : Nat → List Int → List (List Int)
  | 0, _ => [[]]
  | n + 1, left => (List.range m).flatMap fun h => if left.getD h 0 > 0 then (shd m n (less left h)).map fun r => (h : Int) :: r else []
def shdTo (m n : Nat) (left : List Int) (i : Nat) : List (List Int) := (List.range i).flatMap fun h => if left.getD h 0 > 0 then (shd m n (less left h)).map fun r => (h : Int) :: r else []
theorem shdTo_next (m n : Nat) (left : List Int) (i : Nat) : shdTo m n left (i + 1) = shdTo m n left i ++ if left.getD i 0 > 0 then (shd m n (less left i)).map fun r => (i : Int) :: r else [] := by
  unfold shdTo
  rw [List.range_succ, List.flatMap_append]
  simp
theorem less_len (left : List Int) (h : Nat) : (less left h).length = left.length := List.length_set
theorem less_at (left : List Int) (h : Nat) (hh : h < left.length) (j : Nat) : (less left h).getD j 0 = if h = j then left.getD h 0 - 1 else left.getD j 0 := by
  unfold less
  rw [List.getD_eq_getElem?_getD, List.getElem?_set]
  by_cases c : h = j
  · rw [if_pos c, if_pos c, if_pos hh]
    rfl
  · rw [if_neg c, if_neg c, ← List.getD_eq_getElem?_getD]
theorem getD_nn {left : List Int} (h : ∀ z ∈ left, 0 ≤ z) (j : Nat) : 0 ≤ left.getD j 0 := by
  rw [List.getD_eq_getElem?_getD]
  cases e : left[j]? with
  | none => exact Int.le_refl _
  | some z => exact h z (List.mem_of_getElem? e)
theorem less_nn {left : List Int} (h : ∀ z ∈ left, 0 ≤ z) {j : Nat} (p : left.getD j 0 > 0) : ∀ z ∈ less left j, 0 ≤ z := fun z hz => by
  rcases List.mem_or_eq_of_mem_set hz with g | g
  · exact h z g
  · omega
theorem less_sum : ∀ {left : List Int} {j : Nat}, j < left.length → (less left j).sum = left.sum - 1
  | [], _, h => absurd h (Nat.not_lt_zero _)
  | a :: r, 0, _ => by
    show (a - 1 + r.sum) = a + r.sum - 1
    omega
  | a :: r, j + 1, h => by
    have ih := less_sum (left := r) (j := j) (Nat.lt_of_succ_lt_succ h)
    show a + (less r j).sum = a + r.sum - 1
    omega
theorem shd_len {m : Nat} : ∀ (n : Nat) (left : List Int), (shd m n left).length ≤ m ^ n
  | 0, _ => Nat.le_refl 1
  | n + 1, left => by
    have g : ∀ i : Nat, (shdTo m n left i).length ≤ i * m ^ n := fun i => by
      induction i with
      | zero => exact Nat.zero_le _
      | succ i ih =>
        rw [shdTo_next, List.length_append, Nat.succ_mul]
        have : (if left.getD i 0 > 0 then (shd m n (less left i)).map fun r => (i : Int) :: r else []).length ≤ m ^ n := by
          split
          · rw [List.length_map]
            exact shd_len n _
          · exact Nat.zero_le _
        omega
    rw [Nat.pow_succ, Nat.mul_comm]
    exact g m
theorem shdTo_len {m n : Nat} {left : List Int} {i : Nat} (h : i ≤ m) : (shdTo m n left i).length ≤ m ^ (n + 1) := by
  have g : ∀ i : Nat, (shdTo m n left i).length ≤ i * m ^ n := fun i => by
    induction i with
    | zero => exact Nat.zero_le _
    | succ i ih =>
      rw [shdTo_next, List.length_append, Nat.succ_mul]
      have : (if left.getD i 0 > 0 then (shd m n (less left i)).map fun r => (i : Int) :: r else []).length ≤ m ^ n := by
        split
        · rw [List.length_map]
          exact shd_len n _
        · exact Nat.zero_le _
      omega
  rw [Nat.pow_succ, Nat.mul_comm]
  exact Nat.le_trans (g i) (Nat.mul_le_mul_right _ h)
theorem shd_mem {m : Nat} : ∀ {n : Nat} {left row : List Int}, left.length = m → (∀ z ∈ left, 0 ≤ z) → left.sum = n → (row ∈ shd m n left ↔ row.length = n ∧ (∀ z ∈ row, 0 ≤ z ∧ z < (m : Int)) ∧ ∀ h : Nat, h < m → (row.count (h : Int) : Int) = left.getD h 0)
  | 0, left, row, hl, h0, hs => by
    have z : ∀ l : List Int, (∀ z ∈ l, 0 ≤ z) → l.sum = 0 → ∀ z ∈ l, z = 0 := fun l => by
      induction l with
      | nil => exact fun _ _ _ h => (nomatch h)
      | cons a r ih =>
        intro hn hs z hz
        rw [List.sum_cons] at hs
        have a0 := hn a List.mem_cons_self
        have rn : 0 ≤ r.sum := by
          have g : ∀ l : List Int, (∀ z ∈ l, 0 ≤ z) → 0 ≤ l.sum := fun l => by
            induction l with
            | nil => exact fun _ => Int.le_refl _
            | cons b t ih =>
              intro h
              rw [List.sum_cons]
              have := ih fun z hz => h z (List.mem_cons_of_mem _ hz)
              have := h b List.mem_cons_self
              omega
          exact g r fun z hz => hn z (List.mem_cons_of_mem _ hz)
        rcases List.mem_cons.mp hz with e | e
        · rw [e]
          omega
        · exact ih (fun z hz => hn z (List.mem_cons_of_mem _ hz)) (by omega) z e
    constructor
    · intro h
      have e : row = [] := List.mem_singleton.mp h
      subst e
      refine ⟨rfl, fun _ h => (nomatch h), fun h hh => ?_⟩
      show (0 : Int) = _
      rw [List.getD_eq_getElem?_getD, List.getElem?_eq_getElem (by omega)]
      exact (z left h0 hs _ (List.getElem_mem _)).symm
    · rintro ⟨h, _⟩
      rw [List.length_eq_zero_iff.mp h]
      exact List.mem_singleton.mpr rfl
  | n + 1, left, row, hl, h0, hs => by
    constructor
    · intro h
      obtain ⟨a, ha, h2⟩ := List.mem_flatMap.mp (show row ∈ (List.range m).flatMap _ from h)
      have am := List.mem_range.mp ha
      split at h2
      · next c =>
        obtain ⟨r, hr, rfl⟩ := List.mem_map.mp h2
        obtain ⟨l, b, k⟩ := (shd_mem (by rw [less_len]; exact hl) (less_nn h0 c) (by rw [less_sum (by omega)]; omega)).mp hr
        refine ⟨by rw [List.length_cons, l], fun z hz => ?_, fun h hh => ?_⟩
        · rcases List.mem_cons.mp hz with e | e
          · rw [e]
            omega
          · exact b z e
        · have := k h hh
          rw [less_at _ _ (by omega)] at this
          rw [List.count_cons]
          by_cases e : a = h
          · rw [if_pos e] at this
            rw [if_pos (by rw [e]; exact beq_self_eq_true _), ← e]
            rw [← e] at this
            omega
          · rw [if_neg e] at this
            rw [if_neg (by simp; omega)]
            omega
      · cases h2
    · rintro ⟨l, b, k⟩
      match row, l with
      | a :: r, l =>
        have ab := b a List.mem_cons_self
        have ea : ((a.toNat : Nat) : Int) = a := by omega
        have ka := k a.toNat (by omega)
        rw [ea, List.count_cons, if_pos (beq_self_eq_true _)] at ka
        have c : left.getD a.toNat 0 > 0 := by omega
        refine List.mem_flatMap.mpr ⟨a.toNat, List.mem_range.mpr (by omega), ?_⟩
        rw [if_pos c]
        refine List.mem_map.mpr ⟨r, (shd_mem (by rw [less_len]; exact hl) (less_nn h0 c) (by rw [less_sum (by omega)]; omega)).mpr ⟨Nat.succ.inj l, fun z hz => b z (List.mem_cons_of_mem _ hz), fun h hh => ?_⟩, by rw [ea]⟩
        have kh := k h hh
        rw [List.count_cons] at kh
        rw [less_at _ _ (by omega)]
        by_cases e : a.toNat = h
        · rw [if_pos e]
          rw [if_pos (by rw [show a = (h : Int) by omega]; exact beq_self_eq_true _)] at kh
          rw [e]
          omega
        · rw [if_neg e]
          rw [if_neg (by simp; omega)] at kh
          omega
theorem shd_ris {m : Nat} (hm : m ≤ 4) : ∀ {n : Nat} {left : List Int}, left.length = m → (∀ z ∈ left, 0 ≤ z) → left.sum = n → Ris (shd m n left)
  | 0, _, _, _, _ => List.pairwise_singleton _ _
  | n + 1, left, hl, h0, hs => by
    have inn : ∀ a : Nat, a < m → left.getD a 0 > 0 → Ris (shd m n (less left a)) ∧ ∀ r ∈ shd m n (less left a), r.length = n ∧ 0 ≤ cod r ∧ cod r < 4 ^ n := fun a am c => by
      have e1 : (less left a).length = m := by rw [less_len]; exact hl
      have e2 := less_nn h0 c
      have e3 : (less left a).sum = n := by rw [less_sum (by omega)]; omega
      refine ⟨shd_ris hm e1 e2 e3, fun r hr => ?_⟩
      obtain ⟨l, b, _⟩ := (shd_mem e1 e2 e3).mp hr
      have := cod_range (row := r) fun z hz => by have := b z hz; omega
      rw [l] at this
      exact ⟨l, this⟩
    show ((List.range m).flatMap _).Pairwise _
    refine List.pairwise_flatMap.mpr ⟨fun a ha => ?_, List.pairwise_lt_range.imp_of_mem fun {a b} ha hb lt x hx y hy => ?_⟩
    · have am := List.mem_range.mp ha
      split
      · next c =>
        obtain ⟨r1, r2⟩ := inn a am c
        refine List.pairwise_map.mpr (r1.imp_of_mem fun {x y} hx hy h => ?_)
        rw [cod_cons, cod_cons, (r2 x hx).1, (r2 y hy).1]
        omega
      · exact List.Pairwise.nil
    · have am := List.mem_range.mp ha
      have bm := List.mem_range.mp hb
      split at hx
      · next c =>
        split at hy
        · next d =>
          obtain ⟨r, hr, rfl⟩ := List.mem_map.mp hx
          obtain ⟨s, hs, rfl⟩ := List.mem_map.mp hy
          obtain ⟨l1, p1, q1⟩ := (inn a am c).2 r hr
          obtain ⟨l2, p2, q2⟩ := (inn b bm d).2 s hs
          rw [cod_cons, cod_cons, l1, l2]
          have e : (4 : Int) ^ n * (b : Int) = 4 ^ n * (a : Int) + 4 ^ n * ((b : Int) - (a : Int)) := by
            rw [← Int.mul_add]
            congr 1
            omega
          have f : (4 : Int) ^ n * 1 ≤ 4 ^ n * ((b : Int) - (a : Int)) := Int.mul_le_mul_of_nonneg_left (by omega) (by omega)
          rw [Int.mul_one] at f
          omega
        · cases hy
      · cases hx
theorem shd_bal {m n : Nat} (hm : 2 ≤ m ∧ m ≤ 4) (e : n / m * m = n) : shd m n (List.replicate m ((n / m : Nat) : Int)) = bal m n := by
  obtain ⟨sh, hsh⟩ : ∃ sh, n / m = sh := ⟨_, rfl⟩
  rw [hsh] at e ⊢
  have hl : (List.replicate m (sh : Int)).length = m := List.length_replicate
  have h0 : ∀ z ∈ List.replicate m (sh : Int), 0 ≤ z := fun z hz => by
    rw [(List.mem_replicate.mp hz).2]
    omega
  have hs : (List.replicate m (sh : Int)).sum = n := by
    have g : ∀ (k : Nat) (c : Int), (List.replicate k c).sum = k * c := fun k c => by
      induction k with
      | zero => exact (Int.zero_mul c).symm
      | succ k ih =>
        rw [List.replicate_succ, List.sum_cons, ih, Int.natCast_succ, Int.add_mul, Int.one_mul, Int.add_comm]
    rw [g, ← Int.natCast_mul, Nat.mul_comm]
    omega
  have gd : ∀ h : Nat, h < m → (List.replicate m (sh : Int)).getD h 0 = (sh : Int) := fun h hh => by
    rw [List.getD_eq_getElem?_getD, List.getElem?_replicate, if_pos hh]
    rfl
  refine ris_eq (shd_ris hm.2 hl h0 hs) (bal_ris hm.2 n) fun row => ?_
  rw [shd_mem hl h0 hs]
  constructor
  · rintro ⟨l, b, k⟩
    have := bal_of (m := m) (c := sh) (by omega) (row := row) (by omega) b fun z => by
      by_cases c : z ∈ row
      · have zb := b z c
        have := k z.toNat (by omega)
        rw [gd _ (by omega), show ((z.toNat : Nat) : Int) = z by omega] at this
        omega
      · rw [List.count_eq_zero_of_not_mem c]
        exact Nat.zero_le _
    rw [e] at this
    exact this
  · intro h
    obtain ⟨_, l, b, k⟩ := bal_mem h
    rw [hsh] at k
    refine ⟨l, b, fun h hh => ?_⟩
    rw [gd h hh]
    -- all counts are at most the share, and together they are all places
    have s := counts_sum b
    have g : ∀ j : Nat, j ≤ m → sumTo j (fun h => (row.count (h : Int) : Int)) ≤ j * (sh : Int) := fun j => by
      induction j with
      | zero => exact fun _ => by rw [show ((0 : Nat) : Int) * _ = 0 from Int.zero_mul _]; exact Int.le_refl _
      | succ j ih =>
        intro hj
        have := ih (by omega)
        have := k (j : Int)
        show sumTo j _ + (row.count (j : Int) : Int) ≤ _
        rw [Int.natCast_succ, Int.add_mul, Int.one_mul]
        omega
    have up : ∀ j : Nat, h < j → j ≤ m → sumTo j (fun h => (row.count (h : Int) : Int)) ≤ j * (sh : Int) - (sh : Int) + (row.count (h : Int) : Int) := fun j => by
      induction j with
      | zero => exact fun h _ => absurd h (Nat.not_lt_zero _)
      | succ j ih =>
        intro h1 h2
        show sumTo j _ + (row.count (j : Int) : Int) ≤ _
        rw [Int.natCast_succ, Int.add_mul, Int.one_mul]
        by_cases c : h = j
        · subst c
          have := g h (by omega)
          omega
        · have := ih (by omega) (by omega)
          have := k (j : Int)
          omega
    have u := up m hh (Nat.le_refl _)
    have kh := k (h : Int)
    have em : (m : Int) * (sh : Int) = (n : Int) := by
      rw [← Int.natCast_mul, Nat.mul_comm]
      omega
    rw [s, em, l] at u
    omega
end Ly

/-! ### the first even row -/
namespace Ly
open PySem PySem.Spec PyProof.Rows L2
theorem head_first {α : Type} {P : α → Bool} : ∀ (l : List α) {x : α}, (l.filter P).head? = some x → ∀ (j : Nat) (y : α), l[j]? = some y → P y = true → ∃ i, i ≤ j ∧ l[i]? = some x
  | [], _, h, _, _, _, _ => by cases h
  | a :: r, x, h, j, y, hj, hy => by
    by_cases c : P a = true
    · rw [List.filter_cons_of_pos c] at h
      have e : a = x := Option.some.inj h
      exact ⟨0, Nat.zero_le _, by rw [e]; rfl⟩
    · rw [List.filter_cons_of_neg c] at h
      match j, hj with
      | 0, hj =>
        rw [show a = y from Option.some.inj hj] at c
        exact absurd hy c
      | j + 1, hj =>
        obtain ⟨i, l, e⟩ := head_first r h j y (by simpa using hj) hy
        exact ⟨i + 1, by omega, by simpa using e⟩
theorem head_mem {α : Type} : ∀ {l : List α} {x : α}, l.head? = some x → x ∈ l
  | a :: r, x, h => by
    cases h
    exact List.mem_cons_self
theorem short_facts {m n d : Nat} (hm : 0 < m) (hm4 : m ≤ 4) (hn : 0 < n) {row : List Int} (h : (evens m n d).head? = some row) : row ≠ [] ∧ row.length = n ∧ (∀ z ∈ row, 0 ≤ z ∧ z < (m : Int)) ∧ REv (m : Int) row (d + 1) ∧ row ∈ bal m n := by
  have mem := head_mem h
  obtain ⟨b, e⟩ := evens_mem mem
  obtain ⟨_, l, r, _⟩ := bal_mem b
  refine ⟨fun z => ?_, l, r, e, b⟩
  rw [z] at l
  simp only [List.length_nil] at l
  omega
def swapN (a z : Int) : Int := if z = 0 then a else if z = a then 0 else z
theorem swapN_naming {m : Nat} {a : Int} (h : 0 ≤ a ∧ a < (m : Int)) : Naming m (swapN a) := by
  have tw : ∀ z : Int, swapN a (swapN a z) = z := fun z => by
    unfold swapN
    by_cases c : z = 0
    · rw [if_pos c]
      by_cases d : a = 0
      · rw [if_pos d, c, d]
      · rw [if_neg d, if_pos rfl, c]
    · rw [if_neg c]
      by_cases d : z = a
      · rw [if_pos d, if_pos rfl, d]
      · rw [if_neg d, if_neg c, if_neg d]
  have lo : ∀ z : Int, 0 ≤ z → z < m → 0 ≤ swapN a z ∧ swapN a z < m := fun z h0 h1 => by
    unfold swapN
    split
    · exact h
    · split
      · omega
      · exact ⟨h0, h1⟩
  exact ⟨fun x y _ _ _ _ e => by rw [← tw x, e, tw], fun b h0 h1 => ⟨swapN a b, (lo b h0 h1).1, (lo b h0 h1).2, tw b⟩, fun z h0 h1 => lo z h0 h1⟩
theorem evens_iff {m n d : Nat} (hm : 0 < m) (hm4 : m ≤ 4) {row : List Int} : row ∈ evens m n d ↔ row.length = n ∧ (∀ z ∈ row, 0 ≤ z ∧ z < (m : Int)) ∧ REv (m : Int) row (d + 1) := by
  rw [evens_allB hm hm4, List.mem_filter, allN_mem, evB_iff hm]
  exact ⟨fun h => ⟨h.1.1, h.1.2, h.2⟩, fun h => ⟨⟨h.1, h.2.1⟩, h.2.2⟩⟩
theorem first_nought {m n d : Nat} (hm : 0 < m) (hm4 : m ≤ 4) {a : Int} {r : List Int} (h : (evens m n d).head? = some (a :: r)) : a = 0 := by
  have rs := evens_ris hm4 n d
  cases e : evens m n d with
  | nil =>
    rw [e] at h
    cases h
  | cons x more =>
    rw [e] at h rs
    have ex : x = a :: r := Option.some.inj h
    subst ex
    obtain ⟨l, b, ev⟩ := (evens_iff hm hm4 (n := n) (d := d) (row := a :: r)).mp (by rw [e]; exact List.mem_cons_self)
    have ab := b a List.mem_cons_self
    have N := swapN_naming (m := m) ab
    by_cases c : a = 0
    · exact c
    exfalso
    have sw : (a :: r).map (swapN a) = 0 :: r.map (swapN a) := by
      rw [List.map_cons]
      congr 1
      unfold swapN
      rw [if_neg c, if_pos rfl]
    have mem : (a :: r).map (swapN a) ∈ evens m n d := (evens_iff hm hm4).mpr ⟨by rw [List.length_map]; exact l, fun z hz => by
      obtain ⟨y, hy, e⟩ := List.mem_map.mp hz
      rw [← e]
      exact N.low y (b y hy).1 (b y hy).2, (N.rev b _).mpr ev⟩
    rw [e, sw] at mem
    have b4 : ∀ z ∈ r, 0 ≤ z ∧ z < 4 := fun z hz => by have := b z (List.mem_cons_of_mem _ hz); omega
    have b4' : ∀ z ∈ r.map (swapN a), 0 ≤ z ∧ z < 4 := fun z hz => by
      obtain ⟨y, hy, e⟩ := List.mem_map.mp hz
      have := b y (List.mem_cons_of_mem _ hy)
      have := N.low y this.1 this.2
      omega
    rcases List.mem_cons.mp mem with g | g
    · injection g with g1 _
      exact c g1.symm
    · have lt := (List.pairwise_cons.mp rs).1 _ g
      rw [cod_cons, cod_cons, List.length_map] at lt
      have r1 := cod_range b4
      have r2 := cod_range b4'
      rw [List.length_map] at r2
      have f : (4 : Int) ^ r.length * 1 ≤ 4 ^ r.length * a := Int.mul_le_mul_of_nonneg_left (by omega) (by omega)
      rw [Int.mul_zero, Int.mul_one] at *
      omega
theorem first_at {m n d : Nat} (hm : 0 < m) (hm4 : m ≤ 4) {row : List Int} (h : (evens m n d).head? = some row) : row.getD 0 0 = 0 := by
  match row, h with
  | [], _ => rfl
  | a :: r, h => exact first_nought hm hm4 h
/-! how long the shortest ones are -/
theorem none21 : evens 2 2 1 = [] := by
  rw [evens_B (by decide)]
  decide +kernel
theorem none31 : evens 3 3 1 = [] := by
  rw [evens_B (by decide)]
  decide +kernel
theorem none41 : evens 4 4 1 = [] := by
  rw [evens_B (by decide)]
  decide +kernel
theorem none222 : evens 2 2 2 = [] := by
  rw [evens_B (by decide)]
  decide +kernel
theorem none242 : evens 2 4 2 = [] := by
  rw [evens_B (by decide)]
  decide +kernel
theorem none262 : evens 2 6 2 = [] := by
  rw [evens_B (by decide)]
  decide +kernel
def shortLen (m d : Nat) : Nat := if d = 0 then m else if d = 1 then 2 * m else 8
theorem short_len {m d c : Nat} (hd : (m = 2 ∧ d ≤ 2) ∨ ((m = 3 ∨ m = 4) ∧ d ≤ 1)) (c1 : 1 ≤ c) (cb : c ≤ blocks m d) {row : List Int} (h : (evens m (c * m) d).head? = some row) : c * m = shortLen m d := by
  have ne : evens m (c * m) d ≠ [] := fun z => by
    rw [z] at h
    cases h
  rcases hd with ⟨rfl, hd⟩ | ⟨rfl | rfl, hd⟩
  · match d, hd with
    | 0, _ =>
      have : blocks 2 0 = 1 := rfl
      rw [show c = 1 by omega]
      rfl
    | 1, _ =>
      have : blocks 2 1 = 2 := rfl
      by_cases e : c = 1
      · rw [e] at ne
        exact absurd none21 ne
      · rw [show c = 2 by omega]
        rfl
    | 2, _ =>
      have : blocks 2 2 = 4 := rfl
      by_cases e : c = 1
      · rw [e] at ne
        exact absurd none222 ne
      by_cases e : c = 2
      · rw [e] at ne
        exact absurd none242 ne
      by_cases e : c = 3
      · rw [e] at ne
        exact absurd none262 ne
      rw [show c = 4 by omega]
      rfl
  · match d, hd with
    | 0, _ =>
      have : blocks 3 0 = 1 := rfl
      rw [show c = 1 by omega]
      rfl
    | 1, _ =>
      have : blocks 3 1 = 2 := rfl
      by_cases e : c = 1
      · rw [e] at ne
        exact absurd none31 ne
      · rw [show c = 2 by omega]
        rfl
  · match d, hd with
    | 0, _ =>
      have : blocks 4 0 = 1 := rfl
      rw [show c = 1 by omega]
      rfl
    | 1, _ =>
      have : blocks 4 1 = 2 := rfl
      by_cases e : c = 1
      · rw [e] at ne
        exact absurd none41 ne
      · rw [show c = 2 by omega]
        rfl
end Ly

/-! ### exceptions of the program's own classes: defs that raise, a def that is told a caught one -/
namespace Ly
open PySem PySem.Spec PyProof.Rows L2
/-- the refusals, in the order in which they are asked -/
def errs : List Str := ["NoHands", "NoRow", "NoHand", "NoWorths", "NoOrder", "NoBound", "NotEven", "TooLong", "NoDegree", "NoPlaces", "NoText", "Done", "Nothing"]
/-- the class of the name x, at C -/
structure ExcAt (K : PySem.W.Frag) (mg : Str → Option Value) (x : Str) (C : Addr) : Prop where
  gC : mg x = some (.ref C)
  ex : PySem.W.excIn K C PySem.HandSPX.veTail "ValueError.__new__" = true
  kC : PySem.W.keepIn K (.ref C) = true
  bP : PySem.W.subIn K (.ref C) (.type "BaseException") = some true
  tP : PySem.W.typeIn K (.ref C) = some (.type "type")
  ec : ExcC K C
def excB (K : PySem.W.Frag) (x : Str) : Bool := He.eqO (PySem.W.nsIn K mainGlobals x) (some (some (.ref (He.ga K x)))) && (PySem.W.excIn K (He.ga K x) PySem.HandSPX.veTail "ValueError.__new__" && (PySem.W.keepIn K (.ref (He.ga K x)) &&
  (decide (PySem.W.subIn K (.ref (He.ga K x)) (.type "BaseException") = some true) && ((PySem.W.typeIn K (.ref (He.ga K x)) == some (.type "type")) && ((PySem.W.findIn K (.ref (He.ga K x)) "__getattribute__" == some (some (.builtin "BaseException.__getattribute__"))) &&
  ((PySem.W.findIn K (.ref (He.ga K x)) "__getattr__" == some none) && (PySem.W.hasDictIn K (He.ga K x) && ((PySem.W.findIn K (.ref (He.ga K x)) "__class__" == some (some (.builtin "object.__class__"))) &&
  ((PySem.W.specialIn K (.builtin "object.__class__") "__get__" == some (some (.builtin "getset_descriptor.__get__"))) && (decide (PySem.W.takesIn K (.builtin "object.__class__") = some true) && decide (PySem.W.mroIn K (He.ga K x) (.type "object") = some true)))))))))))
theorem excB_ok {K : PySem.W.Frag} {h : Heap} {mg : Str → Option Value} {x : Str} (X : K.In h) (G : h.Ns mainGlobals mg) (e : excB K x = true) : ExcAt K mg x (He.ga K x) := by
  unfold excB at e
  simp only [Bool.and_eq_true, decide_eq_true_eq, beq_iff_eq] at e
  obtain ⟨e1, e2, e3, e4, e5, e6, e7, e8, e9, e10, e11, e12⟩ := e
  exact ⟨PySem.W.mg_of X G (He.eqO_ok e1), e2, e3, e4, e5, ⟨e6, e7, e4, e8, e9, e10, e11, e12⟩⟩
/-- what the head says of all refusals: each class, what isinstance tells of two of them, TurnError over all -/
structure Excs (K : PySem.W.Frag) (mg : Str → Option Value) : Prop where
  cls : ∀ x ∈ errs, ExcAt K mg x (He.ga K x)
  two : ∀ x ∈ errs, ∀ y ∈ errs, PySem.W.kitOne K (.ref (He.ga K x)) (.ref (He.ga K y)) = some (decide (x = y))
  val : ∀ x ∈ errs, PySem.W.kitOne K (.ref (He.ga K x)) (.type "ValueError") = some true
  top : ExcAt K mg "TurnError" (He.ga K "TurnError")
  tops : ∀ x ∈ errs, PySem.W.exmOne K (.ref (He.ga K x)) (.ref (He.ga K "TurnError")) = some true
def excsB (K : PySem.W.Frag) : Bool := (errs.all fun x => excB K x) && ((errs.all fun x => errs.all fun y => decide (PySem.W.kitOne K (.ref (He.ga K x)) (.ref (He.ga K y)) = some (decide (x = y)))) && ((errs.all fun x => decide (PySem.W.kitOne K (.ref (He.ga K x)) (.type "ValueError") = some true)) &&
  (excB K "TurnError" && (errs.all fun x => decide (PySem.W.subIn K (.ref (He.ga K x)) (.ref (He.ga K "TurnError")) = some true)))))
theorem excs_ok {K : PySem.W.Frag} {h : Heap} {mg : Str → Option Value} (X : K.In h) (G : h.Ns mainGlobals mg) (e : excsB K = true) : Excs K mg := by
  unfold excsB at e
  simp only [Bool.and_eq_true, List.all_eq_true, decide_eq_true_eq] at e
  obtain ⟨e1, e2, e3, e4, e5⟩ := e
  have t := excB_ok X G e4
  exact ⟨fun x hx => excB_ok X G (e1 x hx), e2, e3, t, fun x hx => PySem.W.exm_ref t.bP t.ec.hd t.tP (e5 x hx)⟩
/-! a def that is called within the suite of an except clause, and told the exception: a, its class and dict -/
structure FnE (P : Program) (w : World) (K : PySem.W.Frag) (mg : Str → Option Value) (base : Heap) (k : Nat) (f : Addr) (fd : FuncData) (ps : List Str) (sp : Addr → Value → Option Addr → Sp) : Prop where
  len : ∀ a c d vs H Q E, sp a c d vs H Q E → vs.length = ps.length
  run : ∀ (A : Around) (outer : List Env) (s : Shared) (H : Hp) (args : Args) (us : List Value) (vs : List V) (Q : VK) (E : XK) (p : Addr × Obj) (c : Value) (d : Option Addr), L2H.RoomH k A → L2H.Hot1 A p → L2N.Zn c d p.2 → L2H.PinOk outer H s p → Env0 P w K mg base A outer s H →
    BindsTo s fd args (ps.zip us) → Vals vs us → sp p.1 c d vs H Q E → codeAny (model P w) A (.call (.ref f) args) (CR CX0 outer P w H s Q E) s
section
variable {P : Program} {w : World} {K : PySem.W.Frag} {mg : Str → Option Value} {base : Heap} {x qual : Str} {params : Arguments} {body : List Stmt} {scope : Scope} {dvs : List V} {kws : List (Str × V)} {f : Addr} {fd : FuncData}
theorem FunD.okE {N ps : List Str} {k : Nat} {sp : Addr → Value → Option Addr → Sp} (F : FunD K x qual params body scope dvs kws f fd) (S : FnScope N ps scope) (len : ∀ a c d vs H Q E, sp a c d vs H Q E → vs.length = ps.length)
    (hbody : ∀ (cdv : Value) (A : Around) (outer : List Env) (s : Shared) (H : Hp) (vs : List V) (Q : VK) (E : XK) (p : Addr × Obj) (c : Value) (d : Option Addr), L2H.Hot1 A p → L2N.Zn c d p.2 → L2H.RoomH k (A.deeper (envOfC qual scope s.heap.objs.size f cdv)) → sp p.1 c d vs H Q E →
      ∃ t, PSs (L2H.cxH CX0 P w K mg base N qual scope f cdv A outer s H E p) body t ∧ t { nx := fun _ H' => Q .non H', rt := Q } (L2.start N vs) H) : FnE P w K mg base (k + 1) f fd ps sp := by
  obtain ⟨oc, od, dV, kV, doc, pm, an, cdv, ct, osl, rfl, lk, hcd, _, _⟩ := F.ex
  refine ⟨len, fun A outer s H args us vs Q E p c d hr hot hz hpin e0 hb r hsp => ?_⟩
  have hl := len _ _ _ _ _ _ _ hsp
  have KX : K.In s.heap := e0.mod.kin.keeps fun b o z => (e0.bs b o z).1
  have lim : s.heap.NoLimit := e0.mod.nolimit.keeps fun b o z => (e0.bs b o z).1
  have kinds : ∀ y ∈ ps.zip us, scope.names.lookup y.1 = some .local ∨ (scope.names.lookup y.1 = some .cell ∧ ((cellsFrom (s.heap.objs.size + 1) scope.names []).lookup y.1).isSome = true) := fun y hy => by
    obtain ⟨n, v⟩ := y
    rcases S.par n (List.of_mem_zip hy).1 with z | z
    · exact .inl z
    · exact .inr ⟨z, PySem.W.cellsFrom_some _ _ _ (.inl z)⟩
  refine codeAny_call_function hr.depth (KX _ _ lk) rfl S.co S.gen rfl (PySem.W.codeRec_of KX hcd) (hb _ _ _ _ (wpAny_newFunctionEnv_cells S.kind kinds fun env he s1 y => ?_))
  subst he
  refine ⟨lim.keeps y.toInCall.keep, codeAny_func ?_⟩
  obtain ⟨t, ht, hq⟩ := hbody cdv A outer s H vs Q E p c d hot hz (hr.deeper _) hsp
  have I : Inv (L2H.cxH CX0 P w K mg base N qual scope f cdv A outer s H E p) [] (L2.start N vs) H s1 := L2H.inv_startH S hpin e0 hl r y
  refine wpAny_mono (ht.run [] s1 (L2.start N vs) H _ I hq) (fun fl s' hs => ?_) fun _ _ z => z
  have fin : ∀ {σ' : L2.St} {H' : Hp} {v : V} {u : Value}, Inv (L2H.cxH CX0 P w K mg base N qual scope f cdv A outer s H E p) [] σ' H' s' → RelV v u → Q v H' → CE outer P w H s Q u s' := fun J rv q => ⟨_, _, J.os, J.bare, J.base, J.hok, rv, q⟩
  cases fl with
  | ret u => obtain ⟨v, σ', H', J, rv, q⟩ := hs; exact fin J rv q
  | next => obtain ⟨σ', H', J, q⟩ := hs; exact fin (v := V.non) (u := Value.none) J rfl q
  | brk => obtain ⟨_, _, _, q⟩ := hs; exact False.elim q
  | cont => obtain ⟨_, _, _, q⟩ := hs; exact False.elim q
end
section
variable {X : Cx} {k : Nat} {f : Addr} {fd : FuncData} {ps : List Str} {sp : Addr → Value → Option Addr → Sp} {x : Str} {q pos : Pos} {e : Expr} {es : List Expr} {t : TA} {a : Addr} {oe : Obj} {c : Value} {d : Option Addr}
theorem pe_callE (F : FnE X.prog X.w X.K X.mg X.base k f fd ps sp) (hr : L2H.RoomH k X.A) (hot : L2H.Hot1 X.A (a, oe)) (hz : L2N.Zn c d oe) (hp : (a, oe) ∈ X.pn) (hg : Gl X x) (hm : X.mg x = some (.ref f)) (hk : PySem.W.keepIn X.K (.ref f) = true) (hb : Binds X.K fd ps [])
    (ha : PA X (e :: es) t) (hdb : (x == ("__debug__" : Str)) = false := by decide) (he : starEach (e :: es) X.env = (false, eval e X.env) :: starEach es X.env := by rfl) (hpl : (backTo pos (starEach es X.env)).any (·.1) = false := by rfl) :
    PE X (.Call (.Name x q) (e :: es) [] pos) (tCallS (sp a c d) (fun _ => E0) t) := by
  refine ⟨fun pins s σ H Q I h => wpAny_Call_Name_kw (ld_glob I hg hm ?_ hdb)⟩
  refine PySem.W.callWith_K (h₀ := X.base) I.ok.mod.kin hk (thn (ha.run pos pins s σ H _ I h) fun us s1 ⟨vs, H1, I1, r, q⟩ => ⟨I1.kIn, ?_⟩) he hpl
  have hl : us.length = ps.length := by rw [← r.length]; exact F.len _ _ _ _ _ _ _ q
  have b := hb s1 us I1.kIn (by rw [List.append_nil]; exact hl)
  rw [List.append_nil] at b
  obtain ⟨g1, g2, g3, g4, g5⟩ := I1.pin (a, oe) (List.mem_append_left _ hp)
  refine wpAny_call (codeAny_mono (F.run X.A X.stack s1 H1 ⟨us, []⟩ us vs Q E0 (a, oe) c d hr hot hz ⟨g1, g2, fun hm => (List.mem_cons.mp (I1.stkSub a hm)).elim g3 g4, g5⟩ I1.env0 b r q) fun r s' hq => ?_)
  cases r with
  | error e => exact (show False from hq).elim
  | ok fl =>
    cases fl with
    | ret u => exact I1.after hq
    | next => exact False.elim hq
    | brk => exact False.elim hq
    | cont => exact False.elim hq
/-- isinstance(e, c), e an exception that is pinned -/
theorem call_isP {D : Addr} (hp : (a, oe) ∈ X.pn) (C : ExcC X.K D) (hz : Zc (.ref D) none oe) (hf : ∃ vs, oe.data = .fields vs) : CallR X (.builtin "isinstance") (rIsE X.K D a) := by
  intro pins s σ H xs us Q I r h
  obtain ⟨y, cv, b, rfl, hcv, e, q⟩ := h
  cases r with
  | cons rx rr =>
    cases rr with
    | cons rt rr =>
      cases rr; cases rx
      obtain rfl := hcv _ rt
      obtain ⟨vs, hv⟩ := hf
      have J : PySem.W.InstAt s.heap a oe D none := by
        have g := (I.pin (a, oe) (List.mem_append_left _ hp)).1
        obtain ⟨oc, od, oda, osl⟩ := oe
        obtain ⟨h1, h2⟩ := hz
        dsimp only at h1 h2 hv
        subst h1 h2 hv
        exact ⟨g, rfl, rfl, trivial⟩
      refine PySem.W.kia_one (PySem.W.handS_kitx_exc C.hg C.hk C.hs C.hd C.ha C.hn C.ht C.hm) I.kIn J e (fun z => nomatch z) fun tk => ?_
      exact ⟨.bl b, H, I.kept (t' := tk) fun _ _ z => z, rfl, q⟩
end
/-- nothing is let out -/
theorem takesN0 {X : Cx} : L2N.Takes X.nox (fun _ _ _ _ => False) := fun u s' ⟨_, _, _, _, _, _, _, _, _, _, _, _, _, _, _, _, w⟩ => w.elim
theorem hot_suite {A : Around} {a : Addr} {oe : Obj} {c : Value} {d : Option Addr} (hz : L2N.Zn c d oe) (hf : ∃ vs, oe.data = .fields vs) : L2H.Hot1 (A.mark (some (.ref a))) (a, oe) := by
  obtain ⟨vs, e⟩ := hf
  exact ⟨rfl, vs, e, hz.2.2 vs e⟩
/-! a def that may raise -/
theorem ps_nox {X : Cx} {st : Stmt} {t : TS} (h : PS X.nox st t) : PS X st t := ⟨fun pins s σ H D I hw => wpAny_mono (h.run pins s σ H D (I.wish _) hw) (fun _ _ q => q.unwish) fun _ _ z => False.elim z⟩
structure CalX (P : Program) (w : World) (K : PySem.W.Frag) (mg : Str → Option Value) (base : Heap) (k : Nat) (x : Str) (ps : List Str) (sp : Sp) : Prop where
  ex : ∃ f fd, FnOk P w K mg base (L2N.CX P w) k f fd ps sp ∧ mg x = some (.ref f) ∧ PySem.W.keepIn K (.ref f) = true ∧ Binds K fd ps []
structure CalDX (P : Program) (w : World) (K : PySem.W.Frag) (mg : Str → Option Value) (base : Heap) (k : Nat) (x : Str) (ps : List Str) (sp : Sp) (dv : V) : Prop where
  ex : ∃ f fd ds, FnOk P w K mg base (L2N.CX P w) k f fd ps sp ∧ mg x = some (.ref f) ∧ PySem.W.keepIn K (.ref f) = true ∧ Binds K fd ps ds ∧ Vals [dv] ds
def tCallSD (sp : Sp) (dvs : List V) (E : L2.St → XK) (t : TA) : TE := fun σ H Q => t σ H fun vs H1 => sp (vs ++ dvs) H1 Q (E σ)
section
variable {X : Cx} {CX : CXT} {j k : Nat} {f : Addr} {fd : FuncData} {x : Str} {ps : List Str} {sp : Sp} {p pos : Pos} {e : Expr} {es : List Expr} {t : TA} {W : WX} {E : L2.St → XK} {ds : List Value} {dvs : List V} {dv : V}
theorem pe_callSD (F : FnOk X.prog X.w X.K X.mg X.base CX k f fd ps sp) (hr : Room k X.A) (hg : Gl X x) (hm : X.mg x = some (.ref f)) (hk : PySem.W.keepIn X.K (.ref f) = true) (hb : Binds X.K fd ps ds) (rd : Vals dvs ds) (hx : ∀ σ, PassesAt CX X σ (E σ)) (ha : PA X (e :: es) t)
    (hdb : (x == ("__debug__" : Str)) = false := by decide) (he : starEach (e :: es) X.env = (false, eval e X.env) :: starEach es X.env := by rfl) (hpl : (backTo pos (starEach es X.env)).any (·.1) = false := by rfl) : PE X (.Call (.Name x p) (e :: es) [] pos) (tCallSD sp dvs E t) := by
  refine ⟨fun pins s σ H Q I h => wpAny_Call_Name_kw (ld_glob I hg hm ?_ hdb)⟩
  refine PySem.W.callWith_K (h₀ := X.base) I.ok.mod.kin hk (thn (ha.run pos pins s σ H _ I h) fun us s1 ⟨vs, H1, I1, r, q⟩ => ⟨I1.kIn, ?_⟩) he hpl
  have r2 : Vals (vs ++ dvs) (us ++ ds) := r.append rd
  have hl : (us ++ ds).length = ps.length := by rw [← r2.length]; exact F.len _ _ _ _ q
  refine wpAny_call (codeAny_mono (F.run X.A X.stack s1 H1 ⟨us, []⟩ (us ++ ds) (vs ++ dvs) Q (E σ) hr I1.env0 (hb s1 us I1.kIn hl) r2 q) fun r s' hq => ?_)
  cases r with
  | error e => exact hx σ pins H1 s1 e s' I1 hq
  | ok fl =>
    cases fl with
    | ret u => exact I1.after hq
    | next => exact False.elim hq
    | brk => exact False.elim hq
    | cont => exact False.elim hq
theorem pe_calX (C : CalX X.prog X.w X.K X.mg X.base j x ps sp) (hr : Room k X.A) (hj : j ≤ k) (tk : L2N.Takes X W) (ha : PA X (e :: es) t) (hg : Gl X x := by rfl) (hdb : (x == ("__debug__" : Str)) = false := by decide)
    (he : starEach (e :: es) X.env = (false, eval e X.env) :: starEach es X.env := by rfl) (hpl : (backTo pos (starEach es X.env)).any (·.1) = false := by rfl) : PE X (.Call (.Name x p) (e :: es) [] pos) (tCallSD sp [] (WE W) t) := by
  obtain ⟨f, fd, F, m, kp, b⟩ := C.ex
  exact pe_callSD F (hr.mono hj) hg m kp b .nil (fun σ => L2N.passAt tk σ) ha hdb he hpl
theorem pe_calDX (C : CalDX X.prog X.w X.K X.mg X.base j x ps sp dv) (hr : Room k X.A) (hj : j ≤ k) (tk : L2N.Takes X W) (ha : PA X (e :: es) t) (hg : Gl X x := by rfl) (hdb : (x == ("__debug__" : Str)) = false := by decide)
    (he : starEach (e :: es) X.env = (false, eval e X.env) :: starEach es X.env := by rfl) (hpl : (backTo pos (starEach es X.env)).any (·.1) = false := by rfl) : PE X (.Call (.Name x p) (e :: es) [] pos) (tCallSD sp [dv] (WE W) t) := by
  obtain ⟨f, fd, ds, F, m, kp, b, r⟩ := C.ex
  exact pe_callSD F (hr.mono hj) hg m kp b r (fun σ => L2N.passAt tk σ) ha hdb he hpl
/-- raise X('..') -/
theorem pmk_at {C : Addr} {m : Str} {i : Nat} {p2 : Pos} (T : ExcAt X.K X.mg x C) (hg : Gl X x := by rfl) (hdb : (x == ("__debug__" : Str)) = false := by decide) : L2N.PMk X (.Call (.Name x p) [.Constant (.str m) i p2] [] pos) (fun _ H Q => Q (.ref C) none H) :=
  L2N.pmk_own PySem.F.excBase_ValueError T.ex T.gC T.kC (raises_own T.bP T.tP) hg hdb
theorem roomM {h : Option Value} (hr : Room k X.A) (hj : j ≤ k) : L2H.RoomH j (X.A.mark h) := ⟨(hr.mono hj).dp, (hr.mono hj).un⟩
end
section
variable {P : Program} {w : World} {K : PySem.W.Frag} {mg : Str → Option Value} {base : Heap} {x : Str} {st : Stmt} {N ps : List Str} {k : Nat} {sp : Sp} {kws : List (Str × V)}
theorem At.fnX (F : At K mg x st kws) (S : FnScope N ps (defScope st)) (len : ∀ vs H Q E, sp vs H Q E → vs.length = ps.length)
    (hbody : ∀ (cdv : Value) (A : Around) (outer : List Env) (s : Shared) (H : Hp) (vs : List V) (Q : VK) (E : XK) (f : Addr), Room k (A.deeper (envOfC x (defScope st) s.heap.objs.size f cdv)) → sp vs H Q E →
      ∃ t, PSs (cxOf (L2N.CX P w) P w K mg base N x (defScope st) f cdv A outer s H E) (defBody st) t ∧ t { nx := fun _ H' => Q .non H', rt := Q } (L2.start N vs) H) :
    ∃ f fd, FunD K x x (defArgs st) (defBody st) (defScope st) [] kws f fd ∧ mg x = some (.ref f) ∧ FnOk P w K mg base (L2N.CX P w) (k + 1) f fd ps sp := by
  obtain ⟨f, fd, G, m⟩ := F.ex
  exact ⟨f, fd, G, m, G.ok (CX := L2N.CX P w) S len fun cdv A outer s H vs Q E hr h => hbody cdv A outer s H vs Q E f hr h⟩
theorem At.calX (F : At K mg x st []) (S : FnScope N ps (defScope st))
    (hb : ∀ (kV doc pm : Value) (an : Option Addr) (cdv ct : Value) (us : List Value), us.length = ps.length → bindArgs (PySem.W.fnOf x x (defArgs st) (defBody st) (defScope st) .none kV doc pm an cdv ct) ⟨us, []⟩ = pure (ps.zip us))
    (len : ∀ vs H Q E, sp vs H Q E → vs.length = ps.length)
    (hbody : ∀ (cdv : Value) (A : Around) (outer : List Env) (s : Shared) (H : Hp) (vs : List V) (Q : VK) (E : XK) (f : Addr), Room k (A.deeper (envOfC x (defScope st) s.heap.objs.size f cdv)) → sp vs H Q E →
      ∃ t, PSs (cxOf (L2N.CX P w) P w K mg base N x (defScope st) f cdv A outer s H E) (defBody st) t ∧ t { nx := fun _ H' => Q .non H', rt := Q } (L2.start N vs) H) : CalX P w K mg base (k + 1) x ps sp := by
  obtain ⟨f, fd, G, m, B⟩ := F.fnX S len hbody
  exact ⟨f, fd, B, m, G.kp, G.bindsN hb⟩
/-- the def that is told a caught exception -/
theorem At.calE {sp : Addr → Value → Option Addr → Sp} (F : At K mg x st []) (S : FnScope N ps (defScope st))
    (hb : ∀ (kV doc pm : Value) (an : Option Addr) (cdv ct : Value) (us : List Value), us.length = ps.length → bindArgs (PySem.W.fnOf x x (defArgs st) (defBody st) (defScope st) .none kV doc pm an cdv ct) ⟨us, []⟩ = pure (ps.zip us))
    (len : ∀ a c d vs H Q E, sp a c d vs H Q E → vs.length = ps.length)
    (hbody : ∀ (cdv : Value) (A : Around) (outer : List Env) (s : Shared) (H : Hp) (vs : List V) (Q : VK) (E : XK) (f : Addr) (p : Addr × Obj) (c : Value) (d : Option Addr), L2H.Hot1 A p → L2N.Zn c d p.2 → L2H.RoomH k (A.deeper (envOfC x (defScope st) s.heap.objs.size f cdv)) → sp p.1 c d vs H Q E →
      ∃ t, PSs (L2H.cxH CX0 P w K mg base N x (defScope st) f cdv A outer s H E p) (defBody st) t ∧ t { nx := fun _ H' => Q .non H', rt := Q } (L2.start N vs) H) :
    ∃ f fd, FnE P w K mg base (k + 1) f fd ps sp ∧ mg x = some (.ref f) ∧ PySem.W.keepIn K (.ref f) = true ∧ Binds K fd ps [] := by
  obtain ⟨f, fd, G, m⟩ := F.ex
  exact ⟨f, fd, FunD.okE G S len fun cdv A outer s H vs Q E p c d hot hz hr h => hbody cdv A outer s H vs Q E f p c d hot hz hr h, m, G.kp, G.bindsN hb⟩
end
/-! list.count of flat values -/
theorem countP_flat {y : V} (fy : flatV y = true) {uy : Value} (ry : RelV y uy) : ∀ {ys : List V} {us : List Value}, Vals ys us → ys.all flatV = true → us.countP (eqU y) = ys.countP fun z => eqV z y
  | _, _, .nil, _ => rfl
  | _, _, .cons r rs, h => by
    rw [List.all_cons, Bool.and_eq_true] at h
    rw [List.countP_cons, List.countP_cons, countP_flat fy ry rs h.2, eqU_of r h.1]
def rCntF (K : PySem.W.Frag) : V → List V → Hp → VK → Prop := fun x xs H Q => ∃ (a : Addr) (ys : List V) (y : V), x = V.ref a ∧ xs = [y] ∧ SqL K H a ys ∧ flatV y = true ∧ ys.all flatV = true ∧ Q (.int (ys.countP fun z => eqV z y : Nat)) H
theorem kz_countF {X : Cx} {K : PySem.W.Frag} (hK : X.K = K := by rfl) : MtR X "list.count" (rCntF K) := by
  subst hK
  intro pins s σ H x xs v us Q I rx rxs h
  obtain ⟨a, ys, y, rfl, rfl, hs, fy, fys, q⟩ := h
  cases rx
  cases rxs with
  | cons ry rt =>
    rename_i uy ut
    cases rt
    obtain ⟨its, rv, ⟨⟨cls, dd, data, sl⟩, n, ho, hc, hdn, hd⟩, hlen⟩ := I.list hs
    simp only at hc hd
    subst hc hd
    refine call_meets PySem.F.slot_list_count ⟨_, ho, rfl⟩ PySem.F.entry_list_count (PySem.F.args_list_count_2 _ _) (SeqAt.list_countAt a its.toArray n dd sl uy (eqU y)) ⟨ho, fun u' hu' => mem_eqAt ry fy rv fys u' (by simpa using hu'), ?_⟩
    refine ⟨.int (ys.countP fun z => eqV z y : Nat), H, I.tok _, ⟨s.toks, ?_⟩, q⟩
    show Value.int ((its.toArray.toList.countP (eqU y) : Nat) : Int) s.toks = _
    rw [show its.toArray.toList.countP (eqU y) = ys.countP (fun z => eqV z y) from countP_flat fy ry rv fys]
theorem bt_ValueError : bootBuiltins "ValueError" = some (.type "ValueError") := by decide +kernel
end Ly

/-! # Objects: a class's defs that are called, the Table's places -/
namespace Ly
open PySem PySem.Spec PyProof.Rows L2 RZ
/-- a class's method, where it stands -/
structure AtM (K : PySem.W.Frag) (C : Addr) (m q : Str) (st : Stmt) (kws : List (Str × V)) : Prop where
  ex : ∃ f fd, FunD K m q (defArgs st) (defBody st) (defScope st) [] kws f fd ∧ Meth K C m f
/-- a class's way of making -/
structure AtI (K : PySem.W.Frag) (C : Addr) (q : Str) (st : Stmt) : Prop where
  ex : ∃ f fd, FunD K "__init__" q (defArgs st) (defBody st) (defScope st) [] [] f fd ∧ Mk K C f
/-- the method can be called, and keeps the promise sp -/
structure CalM (P : Program) (w : World) (K : PySem.W.Frag) (mg : Str → Option Value) (base : Heap) (k : Nat) (C : Addr) (m : Str) (ps : List Str) (sp : Sp) : Prop where
  ex : ∃ f fd, FnOk P w K mg base CX0 k f fd ps sp ∧ Meth K C m f ∧ Binds K fd ps []
/-- the class can be made from -/
structure CalI (P : Program) (w : World) (K : PySem.W.Frag) (mg : Str → Option Value) (base : Heap) (k : Nat) (C : Addr) (ps : List Str) (sp : Sp) : Prop where
  ex : ∃ f fd, FnOk P w K mg base CX0 k f fd ps sp ∧ Mk K C f ∧ Binds K fd ps []
section
variable {P : Program} {w : World} {K : PySem.W.Frag} {mg : Str → Option Value} {base : Heap} {C : Addr} {m q : Str} {st : Stmt} {N ps : List Str} {k : Nat} {sp : Sp}
theorem AtM.cal (F : AtM K C m q st []) (S : FnScope N ps (defScope st))
    (hb : ∀ (kV doc pm : Value) (an : Option Addr) (cdv ct : Value) (us : List Value), us.length = ps.length → bindArgs (PySem.W.fnOf m q (defArgs st) (defBody st) (defScope st) .none kV doc pm an cdv ct) ⟨us, []⟩ = pure (ps.zip us))
    (len : ∀ vs H Q E, sp vs H Q E → vs.length = ps.length)
    (hbody : ∀ (cdv : Value) (A : Around) (outer : List Env) (s : Shared) (H : Hp) (vs : List V) (Q : VK) (E : XK) (f : Addr), Room k (A.deeper (envOfC q (defScope st) s.heap.objs.size f cdv)) → sp vs H Q E →
      ∃ t, PSs (cxOf CX0 P w K mg base N q (defScope st) f cdv A outer s H E).nox (defBody st) t ∧ t { nx := fun _ H' => Q .non H', rt := Q } (start N vs) H) : CalM P w K mg base (k + 1) C m ps sp := by
  obtain ⟨f, fd, F, m⟩ := F.ex
  exact ⟨f, fd, F.ok (CX := CX0) S len fun cdv A outer s H vs Q E hr h => by
    obtain ⟨t, h1, h2⟩ := hbody cdv A outer s H vs Q E f hr h
    exact ⟨t, PSs.nox h1, h2⟩, m, F.bindsN hb⟩
theorem AtI.cal (F : AtI K C q st) (S : FnScope N ps (defScope st))
    (hb : ∀ (kV doc pm : Value) (an : Option Addr) (cdv ct : Value) (us : List Value), us.length = ps.length → bindArgs (PySem.W.fnOf "__init__" q (defArgs st) (defBody st) (defScope st) .none kV doc pm an cdv ct) ⟨us, []⟩ = pure (ps.zip us))
    (len : ∀ vs H Q E, sp vs H Q E → vs.length = ps.length)
    (hbody : ∀ (cdv : Value) (A : Around) (outer : List Env) (s : Shared) (H : Hp) (vs : List V) (Q : VK) (E : XK) (f : Addr), Room k (A.deeper (envOfC q (defScope st) s.heap.objs.size f cdv)) → sp vs H Q E →
      ∃ t, PSs (cxOf CX0 P w K mg base N q (defScope st) f cdv A outer s H E).nox (defBody st) t ∧ t { nx := fun _ H' => Q .non H', rt := Q } (start N vs) H) : CalI P w K mg base (k + 1) C ps sp := by
  obtain ⟨f, fd, F, m⟩ := F.ex
  exact ⟨f, fd, F.ok (CX := CX0) S len fun cdv A outer s H vs Q E hr h => by
    obtain ⟨t, h1, h2⟩ := hbody cdv A outer s H vs Q E f hr h
    exact ⟨t, PSs.nox h1, h2⟩, m, F.bindsN hb⟩
theorem atm_of {fa : List He.Fa} {fn : List He.DefD} {x : Str} {d : He.DefD} (c : He.SaysD fa fn K) (i j : Nat) (hd : fn[i]? = some d) (hf : fa[j]? = some (.meth x m)) (e : d = ⟨(x, some m), m, q, defArgs st, defBody st, defScope st, [], d.kwd⟩) : AtM K (He.ga K x) m q st (d.kws K) := by
  obtain ⟨fd, F⟩ := c.def_ i (d := d) hd
  rw [e] at F
  exact ⟨_, fd, F, He.meth_ok (c.fact j (f := .meth x m) hf)⟩
theorem ati_of {fa : List He.Fa} {fn : List He.DefD} {x : Str} {d : He.DefD} (c : He.SaysD fa fn K) (i j : Nat) (hd : fn[i]? = some d) (hf : fa[j]? = some (.mkr x)) (e : d = ⟨(x, some "__init__"), "__init__", q, defArgs st, defBody st, defScope st, [], []⟩) : AtI K (He.ga K x) q st := by
  obtain ⟨fd, F⟩ := c.def_ i (d := d) hd
  rw [e] at F
  exact ⟨_, fd, F, He.mkr_ok (c.fact j (f := .mkr x) hf)⟩
end
section
variable {X : Cx} {j k : Nat} {C : Addr} {m x : Str} {ps : List Str} {sp : Sp} {p pos : Pos} {apos : Pos} {o e : Expr} {es : List Expr} {t : TA} {ta : TE}
theorem pe_mth {pl : Sem Bool} (he : PE X o ta) (c : Cls X.K C) (F : CalM X.prog X.w X.K X.mg X.base j C m ps sp) (hr : Room k X.A) (hj : j ≤ k) (ha : PA X (e :: es) t)
    (hst : starEach (e :: es) X.env = (false, eval e X.env) :: starEach es X.env := by rfl) (hpl : (backTo pos (starEach es X.env)).any (·.1) = false := by rfl)
    (ht : eval (.Call (.Attribute o m apos) (e :: es) [] pos) X.env = (do
      let ov ← eval o X.env
      standAt apos.atName
      let (f, first) ← holding [ov] (getMethod ov m pl)
      callWith pos f first (backTo pos (starEach (e :: es) X.env)) (backToKw pos (keywordEach [] X.env))) := by rfl) :
    PE X (.Call (.Attribute o m apos) (e :: es) [] pos) (tMeth C m sp [] E0 ta t) := by
  obtain ⟨f, fd, G, hm, b⟩ := F.ex
  exact pe_meth he c hm G (hr.mono hj) b .nil pass0 ha hst hpl ht
theorem pe_mth0 {pl : Sem Bool} (he : PE X o ta) (c : Cls X.K C) (F : CalM X.prog X.w X.K X.mg X.base j C m ps sp) (hr : Room k X.A) (hj : j ≤ k)
    (ht : eval (.Call (.Attribute o m apos) [] [] pos) X.env = (do
      let ov ← eval o X.env
      standAt apos.atName
      let (f, first) ← holding [ov] (getMethod ov m pl)
      callWith pos f first (backTo pos (starEach [] X.env)) (backToKw pos (keywordEach [] X.env))) := by rfl) :
    PE X (.Call (.Attribute o m apos) [] [] pos) (tMeth C m sp [] E0 ta tNil) := by
  obtain ⟨f, fd, G, hm, b⟩ := F.ex
  exact pe_meth0 he c hm G (hr.mono hj) b .nil pass0 ht
theorem pe_mke (F : CalI X.prog X.w X.K X.mg X.base j C ps sp) (hr : Room k X.A) (hj : j + 1 ≤ k) (hm : X.mg x = some (.ref C)) (ha : PA X (e :: es) t) (hg : Gl X x := by rfl) (hdb : (x == ("__debug__" : Str)) = false := by decide)
    (he : starEach (e :: es) X.env = (false, eval e X.env) :: starEach es X.env := by rfl) (hpl : (backTo pos (starEach es X.env)).any (·.1) = false := by rfl) :
    PE X (.Call (.Name x p) (e :: es) [] pos) (tMake C sp [] E0 t) := by
  obtain ⟨f, fd, G, M, b⟩ := F.ex
  exact pe_make M G (hr.mono hj) hg hm b .nil pass0 ha hdb he hpl
end
/-- a method with its one keyword-only name written, behind n others (the object counted) -/
structure CalMK (P : Program) (w : World) (K : PySem.W.Frag) (mg : Str → Option Value) (base : Heap) (k : Nat) (C : Addr) (m : Str) (ps : List Str) (sp : Sp) (n : Nat) (kw : Str) : Prop where
  ex : ∃ f fd, FnOk P w K mg base CX0 k f fd ps sp ∧ Meth K C m f ∧ KBn K fd ps n [kw] (fun us ws => us ++ ws) (fun vs zs => vs ++ zs)
theorem AtM.calK {P : Program} {w : World} {K : PySem.W.Frag} {mg : Str → Option Value} {base : Heap} {C : Addr} {m q kw : Str} {st : Stmt} {N ps : List Str} {k n : Nat} {sp : Sp} {kws : List (Str × V)} (F : AtM K C m q st kws) (S : FnScope N ps (defScope st))
    (hb : ∀ (kV doc pm : Value) (an : Option Addr) (cdv ct : Value) (us ws : List Value), us.length = n → ws.length = 1 → bindArgs (PySem.W.fnOf m q (defArgs st) (defBody st) (defScope st) .none kV doc pm an cdv ct) ⟨us, [kw].zip ws⟩ = pure (ps.zip (us ++ ws)))
    (len : ∀ vs H Q E, sp vs H Q E → vs.length = ps.length)
    (hbody : ∀ (cdv : Value) (A : Around) (outer : List Env) (s : Shared) (H : Hp) (vs : List V) (Q : VK) (E : XK) (f : Addr), Room k (A.deeper (envOfC q (defScope st) s.heap.objs.size f cdv)) → sp vs H Q E →
      ∃ t, PSs (cxOf CX0 P w K mg base N q (defScope st) f cdv A outer s H E).nox (defBody st) t ∧ t { nx := fun _ H' => Q .non H', rt := Q } (start N vs) H) : CalMK P w K mg base (k + 1) C m ps sp n kw := by
  obtain ⟨f, fd, F, mm⟩ := F.ex
  refine ⟨f, fd, F.ok (CX := CX0) S len fun cdv A outer s H vs Q E hr h => ?_, mm, ⟨fun s us ws _ hl hw => ?_, fun r1 r2 => r1.append r2⟩⟩
  · obtain ⟨t, h1, h2⟩ := hbody cdv A outer s H vs Q E f hr h
    exact ⟨t, PSs.nox h1, h2⟩
  · obtain ⟨oc, od, dV, kV, doc, pm, an, cdv, ct, osl, rfl, lk, hcd, hD, hK⟩ := F.ex
    rcases hD with ⟨_, rfl⟩ | ⟨e, _⟩
    · exact .of_eq (hb kV doc pm an cdv ct us ws hl hw)
    · exact absurd rfl e
def tMethN (C : Addr) (m : Str) (n : Nat) (sp : Sp) (E : XK) (ta : TE) (t tk : TA) : TE := fun σ H Q => ta σ H fun x H1 => ∃ a dx fs, x = .ref a ∧ H1 a = some (.ins C dx fs) ∧ fs.lookup m = none ∧
  t σ H1 fun vs H2 => tk σ H2 fun zs H3 => (x :: vs).length = n ∧ zs.length = 1 ∧ sp ((x :: vs) ++ zs) H3 Q E
section
variable {X : Cx} {j k n : Nat} {C : Addr} {m kw : Str} {ps : List Str} {sp : Sp} {p pos : Pos} {apos : Pos} {o e : Expr} {es : List Expr} {t tk : TA} {ta : TE} {kws : List Keyword}
theorem pe_mthK {pl : Sem Bool} (he : PE X o ta) (c : Cls X.K C) (F : CalMK X.prog X.w X.K X.mg X.base j C m ps sp n kw) (hr : Room k X.A) (hj : j ≤ k) (ha : PA X (e :: es) t) (hkw : PK X kws tk)
    (hall : (backToKw pos (keywordEach kws X.env)).all (·.1.isSome) = true := by rfl) (hks : (backToKw pos (keywordEach kws X.env)).filterMap (·.1) = [kw] := by rfl)
    (hst : starEach (e :: es) X.env = (false, eval e X.env) :: starEach es X.env := by rfl)
    (hpl : ((backTo pos (starEach (e :: es) X.env)).any (·.1) || (backToKw pos (keywordEach kws X.env)).any (·.1.isNone)) = false := by rfl)
    (ht : eval (.Call (.Attribute o m apos) (e :: es) kws pos) X.env = (do
      let ov ← eval o X.env
      standAt apos.atName
      let (f, first) ← holding [ov] (getMethod ov m pl)
      callWith pos f first (backTo pos (starEach (e :: es) X.env)) (backToKw pos (keywordEach kws X.env))) := by rfl) :
    PE X (.Call (.Attribute o m apos) (e :: es) kws pos) (tMethN C m n sp E0 ta t tk) := ⟨fun pins s σ H Q I h => by
  obtain ⟨f, fd, G, hm, b⟩ := F.ex
  refine PySem.W.methodCall_KW (pl := pl) (thn (he.run pins s σ H _ I h) fun u s1 g => ?_) ht
  obtain ⟨x, H1, I1, rx, a, dx, fs, rfl, ea, l, q⟩ := g
  obtain rfl : u = Value.ref a := rx
  refine getmeth_ok I1 ea c hm l (PySem.W.callWith_KW (first := [.ref a]) (h₀ := X.base) I.ok.mod.kin hm.kp hall (thn (ha.run pos pins s1 σ H1 _ I1 q) fun us s2 g => ?_) hpl hst)
  obtain ⟨vs, H2, I2, r, q2⟩ := g
  refine thn (hkw.run pos pins s2 σ H2 _ I2 q2) fun ws s3 g => ?_
  obtain ⟨zs, H3, I3, rz, l1, l2, q3⟩ := g
  refine ⟨I3.kIn, ?_⟩
  rw [hks]
  exact run_fnN (us := .ref a :: us) (vs := .ref a :: vs) G (hr.mono hj) b pass0 I3 (.cons rfl r) rz l1 l2 q3⟩
end
/-! ### a Table -/
abbrev tbC (K : PySem.W.Frag) : Addr := He.ga K "Table"
structure TabK (K : PySem.W.Frag) (mg : Str → Option Value) : Prop where
  cl : Cls K (tbC K)
  nH : NoAttr K (tbC K) "_hands"
  nT : NoAttr K (tbC K) "_turns"
  nW : NoAttr K (tbC K) "_told"
  nC : NoAttr K (tbC K) "_calls"
  gl : mg "Table" = some (.ref (tbC K))
/-- the places of a table, in the order in which they are first stored -/
def flds (m : Int) (T W L : Addr) : List (Str × V) := [("_hands", .int m), ("_turns", .ref T), ("_told", .ref W), ("_calls", .ref L)]
theorem f_ht : ¬ (("_hands" : Str) = "_turns") := by decide +kernel
theorem f_hw : ¬ (("_hands" : Str) = "_told") := by decide +kernel
theorem f_hc : ¬ (("_hands" : Str) = "_calls") := by decide +kernel
theorem f_tw : ¬ (("_turns" : Str) = "_told") := by decide +kernel
theorem f_tc : ¬ (("_turns" : Str) = "_calls") := by decide +kernel
theorem f_wc : ¬ (("_told" : Str) = "_calls") := by decide +kernel
theorem putF_ne {f g : Str} {v x : V} {r : List (Str × V)} (h : ¬ g = f) : putF f v ((g, x) :: r) = (g, x) :: putF f v r := if_neg h
theorem putF_eq {f : Str} {v x : V} {r : List (Str × V)} : putF f v ((f, x) :: r) = (f, v) :: r := if_pos rfl
def flds1 (m : Int) : List (Str × V) := [("_hands", .int m)]
def flds2 (m : Int) (T : Addr) : List (Str × V) := [("_hands", .int m), ("_turns", .ref T)]
def flds3 (m : Int) (T W : Addr) : List (Str × V) := [("_hands", .int m), ("_turns", .ref T), ("_told", .ref W)]
theorem put1 (m : Int) : putF "_hands" (.int m) [] = flds1 m := rfl
theorem put2 (m : Int) (T : Addr) : putF "_turns" (.ref T) (flds1 m) = flds2 m T := by
  unfold flds1
  rw [putF_ne f_ht]
  rfl
theorem put3 (m : Int) (T W : Addr) : putF "_told" (.ref W) (flds2 m T) = flds3 m T W := by
  unfold flds2
  rw [putF_ne f_hw, putF_ne f_tw]
  rfl
theorem put4 (m : Int) (T W L : Addr) : putF "_calls" (.ref L) (flds3 m T W) = flds m T W L := by
  unfold flds3
  rw [putF_ne f_hc, putF_ne f_tc, putF_ne f_wc]
  rfl
theorem But.free0 {b T : Addr} {H H' : Hp} {o : HO} (s : But b H H') (hb : H' b = some o) (n : H' T = none) : H T = none := by
  cases e : H T with
  | none => rfl
  | some o =>
    have h := s T o (fun z => by rw [z, hb] at n; cases n) e
    rw [n] at h
    cases h
theorem But.new {b l : Addr} {H H' : Hp} {o o' : HO} (s : But b H H') (hb : H' b = some o) (n : H' l = none) : But b H (upd H' l o') := fun c x nc e => by
  rw [upd_ne (ne_of_none e (s.free0 hb n))]
  exact s c x nc e
theorem But.own {b : Addr} {H H' : Hp} {o : HO} (s : But b H H') : But b H (upd H' b o) := fun c x nc e => by
  rw [upd_ne nc]
  exact s c x nc e
theorem flds_turns (m : Int) (T T' W L : Addr) : putF "_turns" (.ref T') (flds m T W L) = flds m T' W L := by
  unfold flds
  rw [putF_ne f_ht, putF_eq]
theorem flds_told (m : Int) (T W W' L : Addr) : putF "_told" (.ref W') (flds m T W L) = flds m T W' L := by
  unfold flds
  rw [putF_ne f_hw, putF_ne f_tw, putF_eq]
theorem look_ne {f g : Str} {x : V} {r : List (Str × V)} (h : ¬ g = f) : ((g, x) :: r).lookup f = r.lookup f := by
  have hb : (f == g) = false := by
    rw [beq_eq_false_iff_ne]
    exact fun e => h e.symm
  rw [List.lookup_cons, hb]
theorem look_eq {f : Str} {x : V} {r : List (Str × V)} : ((f, x) :: r).lookup f = some x := by
  rw [List.lookup_cons, beq_self_eq_true]
theorem fl_hands (m : Int) (T W L : Addr) : (flds m T W L).lookup ("_hands" : Str) = some (.int m) := look_eq
theorem fl_turns (m : Int) (T W L : Addr) : (flds m T W L).lookup ("_turns" : Str) = some (.ref T) := by
  unfold flds
  rw [look_ne f_ht, look_eq]
theorem fl_told (m : Int) (T W L : Addr) : (flds m T W L).lookup ("_told" : Str) = some (.ref W) := by
  unfold flds
  rw [look_ne f_hw, look_ne f_tw, look_eq]
theorem fl_calls (m : Int) (T W L : Addr) : (flds m T W L).lookup ("_calls" : Str) = some (.ref L) := by
  unfold flds
  rw [look_ne f_hc, look_ne f_tc, look_ne f_wc, look_eq]
theorem fl_no (m : Int) (T W L : Addr) {x : Str} (h1 : ¬ "_hands" = x) (h2 : ¬ "_turns" = x) (h3 : ¬ "_told" = x) (h4 : ¬ "_calls" = x) : (flds m T W L).lookup x = none := by
  unfold flds
  rw [look_ne h1, look_ne h2, look_ne h3, look_ne h4]
  rfl
/-- a table stands at p: its hands, its turns at T, the worths told at W, the calls at L -/
structure TblAt (K : PySem.W.Frag) (H : Hp) (p T W L : Addr) (m : Int) (turns told : List Int) (calls : List V) : Prop where
  ob : ∃ dx, H p = some (.ins (tbC K) dx (flds m T W L))
  tn : H T = some (.lst (turns.map V.int))
  td : H W = some (.lst (told.map V.int))
  cl : H L = some (.lst calls)
  tw : T ≠ W
  tl : T ≠ L
  wl : W ≠ L
theorem TblAt.same {K : PySem.W.Frag} {H H' : Hp} {p T W L : Addr} {m : Int} {turns told : List Int} {calls : List V} (D : TblAt K H p T W L m turns told calls) (s : Same H H') : TblAt K H' p T W L m turns told calls := by
  obtain ⟨dx, e⟩ := D.ob
  exact ⟨⟨dx, s _ _ e⟩, s _ _ D.tn, s _ _ D.td, s _ _ D.cl, D.tw, D.tl, D.wl⟩
/-- a list that is none of the table's own may change -/
theorem TblAt.but {K : PySem.W.Frag} {H H' : Hp} {b p T W L : Addr} {m : Int} {turns told : List Int} {calls : List V} (D : TblAt K H p T W L m turns told calls) (s : But b H H') (nb : b ≠ T ∧ b ≠ W ∧ b ≠ L) {xs : List V} (hb : H b = some (.lst xs)) : TblAt K H' p T W L m turns told calls := by
  obtain ⟨dx, e⟩ := D.ob
  exact ⟨⟨dx, s _ _ (fun z => by rw [z, hb] at e; cases e) e⟩, s _ _ (Ne.symm nb.1) D.tn, s _ _ (Ne.symm nb.2.1) D.td, s _ _ (Ne.symm nb.2.2) D.cl, D.tw, D.tl, D.wl⟩
section
variable {K : PySem.W.Frag} {mg : Str → Option Value} {H : Hp} {p T W L : Addr} {m : Int} {turns told : List Int} {calls : List V} {R : V → Prop}
theorem fld_hands (D : TblAt K H p T W L m turns told calls) (G : TabK K mg) (q : R (.int m)) : ∃ a C dx fs v, V.ref p = .ref a ∧ H a = some (.ins C dx fs) ∧ Cls K C ∧ NoAttr K C "_hands" ∧ fs.lookup ("_hands" : Str) = some v ∧ R v :=
  let ⟨dx, e⟩ := D.ob
  ⟨p, _, dx, _, _, rfl, e, G.cl, G.nH, fl_hands _ _ _ _, q⟩
theorem fld_turns (D : TblAt K H p T W L m turns told calls) (G : TabK K mg) (q : R (.ref T)) : ∃ a C dx fs v, V.ref p = .ref a ∧ H a = some (.ins C dx fs) ∧ Cls K C ∧ NoAttr K C "_turns" ∧ fs.lookup ("_turns" : Str) = some v ∧ R v :=
  let ⟨dx, e⟩ := D.ob
  ⟨p, _, dx, _, _, rfl, e, G.cl, G.nT, fl_turns _ _ _ _, q⟩
theorem fld_told (D : TblAt K H p T W L m turns told calls) (G : TabK K mg) (q : R (.ref W)) : ∃ a C dx fs v, V.ref p = .ref a ∧ H a = some (.ins C dx fs) ∧ Cls K C ∧ NoAttr K C "_told" ∧ fs.lookup ("_told" : Str) = some v ∧ R v :=
  let ⟨dx, e⟩ := D.ob
  ⟨p, _, dx, _, _, rfl, e, G.cl, G.nW, fl_told _ _ _ _, q⟩
theorem fld_calls (D : TblAt K H p T W L m turns told calls) (G : TabK K mg) (q : R (.ref L)) : ∃ a C dx fs v, V.ref p = .ref a ∧ H a = some (.ins C dx fs) ∧ Cls K C ∧ NoAttr K C "_calls" ∧ fs.lookup ("_calls" : Str) = some v ∧ R v :=
  let ⟨dx, e⟩ := D.ob
  ⟨p, _, dx, _, _, rfl, e, G.cl, G.nC, fl_calls _ _ _ _, q⟩
end
end Ly

/-! ### methods that may raise -/
namespace Ly
open PySem PySem.Spec PyProof.Rows L2
structure CalMX (P : Program) (w : World) (K : PySem.W.Frag) (mg : Str → Option Value) (base : Heap) (k : Nat) (C : Addr) (m : Str) (ps : List Str) (sp : Sp) : Prop where
  ex : ∃ f fd, FnOk P w K mg base (L2N.CX P w) k f fd ps sp ∧ Meth K C m f ∧ Binds K fd ps []
def tMethS (C : Addr) (m : Str) (sp : Sp) (E : L2.St → XK) (ta : TE) (t : TA) : TE := fun σ H Q => ta σ H fun x H1 => ∃ a dx fs, x = .ref a ∧ H1 a = some (.ins C dx fs) ∧ fs.lookup m = none ∧ t σ H1 fun vs H2 => sp (x :: (vs ++ [])) H2 Q (E σ)
section
variable {X : Cx} {CX : CXT} {j k : Nat} {f C : Addr} {fd : FuncData} {m : Str} {ps : List Str} {sp : Sp} {pos apos : Pos} {o e : Expr} {es : List Expr} {t : TA} {ta : TE} {W : WX} {E : L2.St → XK}
theorem run_fnS {pins : List (Addr × Obj)} {σ : L2.St} {H : Hp} {s : Shared} {Q : VK} {us : List Value} {vs : List V} (F : FnOk X.prog X.w X.K X.mg X.base CX k f fd ps sp) (hr : Room k X.A) (hb : Binds X.K fd ps []) (hx : ∀ σ, PassesAt CX X σ (E σ)) (I : Inv X pins σ H s) (r : Vals vs us) (q : sp vs H Q (E σ)) :
    wpAny (model X.prog X.w) X.A (call (.ref f) us) (EP X pins σ Q) X.xe s := by
  have hl : (us ++ []).length = ps.length := by rw [List.append_nil, ← r.length]; exact F.len _ _ _ _ q
  have bd := hb s us I.kIn hl
  rw [List.append_nil] at bd
  refine wpAny_call (codeAny_mono (F.run X.A X.stack s H ⟨us, []⟩ us vs Q (E σ) hr I.env0 bd r q) fun r2 s' g => ?_)
  match r2, g with
  | .error x, g => exact hx σ pins H s x s' I g
  | .ok (.ret u), g => exact I.after g
theorem pe_mthX {pl : Sem Bool} (he : PE X o ta) (c : Cls X.K C) (F : CalMX X.prog X.w X.K X.mg X.base j C m ps sp) (hr : Room k X.A) (hj : j ≤ k) (tk : L2N.Takes X W) (ha : PA X (e :: es) t)
    (hst : starEach (e :: es) X.env = (false, eval e X.env) :: starEach es X.env := by rfl) (hpl : (backTo pos (starEach es X.env)).any (·.1) = false := by rfl)
    (ht : eval (.Call (.Attribute o m apos) (e :: es) [] pos) X.env = (do
      let ov ← eval o X.env
      standAt apos.atName
      let (f, first) ← holding [ov] (getMethod ov m pl)
      callWith pos f first (backTo pos (starEach (e :: es) X.env)) (backToKw pos (keywordEach [] X.env))) := by rfl) :
    PE X (.Call (.Attribute o m apos) (e :: es) [] pos) (tMethS C m sp (WE W) ta t) := ⟨fun pins s σ H Q I h => by
  obtain ⟨f, fd, G, hm, b⟩ := F.ex
  refine PySem.W.methodCall_KW (pl := pl) (thn (he.run pins s σ H _ I h) fun u s1 g => ?_) ht
  obtain ⟨x, H1, I1, rx, a, dx, fs, rfl, ea, l, q⟩ := g
  obtain rfl : u = Value.ref a := rx
  refine getmeth_ok I1 ea c hm l (PySem.W.callWith_K (first := [.ref a]) (h₀ := X.base) I.ok.mod.kin hm.kp (thn (ha.run pos pins s1 σ H1 _ I1 q) fun us s2 g => ?_) hst hpl)
  obtain ⟨vs, H2, I2, r, q2⟩ := g
  rw [List.append_nil] at q2
  exact ⟨I2.kIn, run_fnS (us := .ref a :: us) (vs := .ref a :: vs) G (hr.mono hj) b (fun σ => L2N.passAt tk σ) I2 (.cons rfl r) q2⟩⟩
theorem pe_mthX0 {pl : Sem Bool} (he : PE X o ta) (c : Cls X.K C) (F : CalMX X.prog X.w X.K X.mg X.base j C m ps sp) (hr : Room k X.A) (hj : j ≤ k) (tk : L2N.Takes X W)
    (ht : eval (.Call (.Attribute o m apos) [] [] pos) X.env = (do
      let ov ← eval o X.env
      standAt apos.atName
      let (f, first) ← holding [ov] (getMethod ov m pl)
      callWith pos f first (backTo pos (starEach [] X.env)) (backToKw pos (keywordEach [] X.env))) := by rfl) :
    PE X (.Call (.Attribute o m apos) [] [] pos) (tMethS C m sp (WE W) ta tNil) := ⟨fun pins s σ H Q I h => by
  obtain ⟨f, fd, G, hm, b⟩ := F.ex
  refine PySem.W.methodCall_KW (pl := pl) (thn (he.run pins s σ H _ I h) fun u s1 g => ?_) ht
  obtain ⟨x, H1, I1, rx, a, dx, fs, rfl, ea, l, q⟩ := g
  obtain rfl : u = Value.ref a := rx
  exact getmeth_ok I1 ea c hm l (PySem.W.callWith_K0 (first := [.ref a]) I1.kIn hm.kp (run_fnS (us := [.ref a]) (vs := [.ref a]) G (hr.mono hj) b (fun σ => L2N.passAt tk σ) I1 (.cons rfl .nil) q))⟩
end
theorem AtM.calX {P : Program} {w : World} {K : PySem.W.Frag} {mg : Str → Option Value} {base : Heap} {C : Addr} {m q : Str} {st : Stmt} {N ps : List Str} {k : Nat} {sp : Sp} (F : AtM K C m q st []) (S : FnScope N ps (defScope st))
    (hb : ∀ (kV doc pm : Value) (an : Option Addr) (cdv ct : Value) (us : List Value), us.length = ps.length → bindArgs (PySem.W.fnOf m q (defArgs st) (defBody st) (defScope st) .none kV doc pm an cdv ct) ⟨us, []⟩ = pure (ps.zip us))
    (len : ∀ vs H Q E, sp vs H Q E → vs.length = ps.length)
    (hbody : ∀ (cdv : Value) (A : Around) (outer : List Env) (s : Shared) (H : Hp) (vs : List V) (Q : VK) (E : XK) (f : Addr), Room k (A.deeper (envOfC q (defScope st) s.heap.objs.size f cdv)) → sp vs H Q E →
      ∃ t, PSs (cxOf (L2N.CX P w) P w K mg base N q (defScope st) f cdv A outer s H E) (defBody st) t ∧ t { nx := fun _ H' => Q .non H', rt := Q } (L2.start N vs) H) : CalMX P w K mg base (k + 1) C m ps sp := by
  obtain ⟨f, fd, G, mm⟩ := F.ex
  exact ⟨f, fd, G.ok (CX := L2N.CX P w) S len fun cdv A outer s H vs Q E hr h => hbody cdv A outer s H vs Q E f hr h, mm, G.bindsN hb⟩
end Ly

/-! ### own len and str; letters of hands -/
namespace Ly
open PySem PySem.Spec PyProof.Rows L2 RZ
section
variable {X : Cx} {j k : Nat} {f C : Addr} {fd : FuncData} {ps : List Str} {sp : Sp}
/-- a method of the class, called by a built-in one at A1 -/
theorem run_in {A1 : Around} {pins : List (Addr × Obj)} {σ : L2.St} {H : Hp} {s : Shared} {a : Addr} {Q : VK} (F : FnOk X.prog X.w X.K X.mg X.base CX0 j f fd ps sp) (rm : Room j A1) (fr : A1.frames = X.A.frames) (b : Binds X.K fd ps []) (I : Inv X pins σ H s)
    (h : sp [.ref a] H Q E0) : wpAny (model X.prog X.w) A1 (call (.ref f) [.ref a]) (EP X pins σ Q) X.xe s := by
  have e0 : Env0 X.prog X.w X.K X.mg X.base A1 X.stack s H := by
    have e := I.env0
    exact ⟨by rw [fr]; exact e.frames, e.mod, e.bs, e.bsz, e.funs, e.frf, e.hok, e.bare⟩
  have hl := F.len _ _ _ _ h
  refine wpAny_call (codeAny_mono (F.run A1 X.stack s H ⟨[.ref a], []⟩ [.ref a] [.ref a] Q E0 rm e0 (by
    have := b s [.ref a] I.kIn (by simpa using hl)
    simpa using this) (.cons rfl .nil) h) fun r s' hq => ?_)
  match r, hq with
  | .error x, g => exact g.elim
  | .ok (.ret u), g => exact I.after g
/-- len(o) by the class's own __len__ -/
theorem call_lenO (F : CalM X.prog X.w X.K X.mg X.base j C "__len__" ps sp) (hr : Room k X.A) (hj : j + 1 ≤ k) :
    CallR X (.builtin "len") (fun xs H Q => ∃ a dx fs, xs = [.ref a] ∧ H a = some (.ins C dx fs) ∧ sp [.ref a] H (fun v H' => ∃ n : Nat, v = .int (n : Int) ∧ n < 1000 ∧ Q v H') E0) := by
  intro pins s σ H xs us Q I r h
  obtain ⟨a, dx, fs, rfl, ha, h⟩ := h
  obtain ⟨f, fd, G, hm, b⟩ := F.ex
  obtain ⟨u, rfl, ru⟩ := vals1 r
  obtain rfl : u = Value.ref a := ru
  obtain ⟨mA, J, _⟩ := ins_get I.hok ha
  obtain ⟨od, J, _⟩ := J.look
  obtain ⟨m, hF⟩ := I.fr
  refine PySem.W.len_K hF I.ok.mod.kin J hm.at_ hm.fn (wpAny_mono (run_in G (hr.mono hj).in1 rfl b I h) (fun u s' g => ?_) fun _ _ z => z)
  obtain ⟨v, H', I', rv, n, rfl, hn, q⟩ := g
  obtain ⟨t, rfl⟩ := rv
  exact ⟨⟨by omega, by omega⟩, .int n, H', I'.tok _, ⟨_, rfl⟩, q⟩
/-- str(o) by the class's own __str__ -/
theorem call_strO (F : CalM X.prog X.w X.K X.mg X.base j C "__str__" ps sp) (hr : Room k X.A) (hj : j + 2 ≤ k) :
    CallR X (.type "str") (fun xs H Q => ∃ a dx fs, xs = [.ref a] ∧ H a = some (.ins C dx fs) ∧ sp [.ref a] H (fun v H' => (∃ y : Str, v = .str y) ∧ Q v H') E0) := by
  intro pins s σ H xs us Q I r h
  obtain ⟨a, dx, fs, rfl, ha, h⟩ := h
  obtain ⟨f, fd, G, hm, b⟩ := F.ex
  obtain ⟨u, rfl, ru⟩ := vals1 r
  obtain rfl : u = Value.ref a := ru
  obtain ⟨mA, J, _⟩ := ins_get I.hok ha
  obtain ⟨od, J, _⟩ := J.look
  have rm : Room j X.A.in1.in1 := Room.in1 (Room.in1 (hr.mono hj))
  refine PySem.W.kso_call rm.units0 I.kIn J hm.at_ hm.fn (wpAny_mono (run_in G rm rfl b I h) (fun u s' g => ?_) fun _ _ z => z)
  obtain ⟨v, H', I', rv, ⟨y, rfl⟩, q⟩ := g
  obtain ⟨t, rfl⟩ := rv
  exact ⟨.str y, H', I', ⟨t, rfl⟩, q⟩
/-- str of a text -/
theorem kz_strS : CallR X (.type "str") (fun xs H Q => ∃ a, xs = [.str a] ∧ Q (.str a) H) := by
  intro pins s σ H xs us Q I r h
  obtain ⟨a, rfl, q⟩ := h
  obtain ⟨u, rfl, t, rfl⟩ := vals1 r
  exact PySem.P.str_of_str ⟨.str a, H, I, ⟨t, rfl⟩, q⟩
/-- a text of the top -/
theorem pe_konS {y z : Str} {q : Pos} (h : ∃ t, X.mg y = some (.str z t)) (hg : Gl X y := by rfl) (hd : (y == ("__debug__" : Str)) = false := by decide) : PE X (.Name y q) (tC (.str z)) := by
  obtain ⟨u, m⟩ := h
  exact pe_glob hg m ⟨u, rfl⟩ hd
end
/-- for over a list or a tuple -/
def iSeqX (K : PySem.W.Frag) (tl : TE) : TI := fun σ H R => tl σ H fun x H1 => ∃ a, x = .ref a ∧ ((∃ xs, SqT K H1 a xs) ∧ R (Itt K a) H1 ∨ (∃ xs, SqL K H1 a xs) ∧ R (Itl K a) H1)
theorem pi_seqX {X : Cx} {tg l : Expr} {tl : TE} (hl : PE X l tl) : PI X tg l (iSeqX X.K tl) := ⟨fun pins s σ H R I h => thn (hl.run pins s σ H _ I h) fun v s1 w => by
  obtain ⟨x, H1, I1, r1, a, rfl, q1⟩ := w
  cases r1
  have fp : ∀ c ∈ [s1.heap.objs.size], FpOk X pins H1 c := fun c hc => by
    rw [List.mem_singleton.mp hc]
    exact I1.fpOk (Nat.le_refl _) (I1.hok.fresh (Nat.le_refl _))
  rcases q1 with ⟨⟨xs, hq⟩, q⟩ | ⟨⟨xs, hq⟩, q⟩
  · obtain ⟨its, rv, pt, hz⟩ := I1.tuple hq
    exact wpAny_pyIter_tuple (show s1.heap.IsTuple a its.toArray from pt) ⟨_, [s1.heap.objs.size], _, _, H1, rfl, I1.kept (t' := s1.toks) fun b o e => Heap.get?_push_of_some _ e, turn_tuple a _, ⟨_, Heap.get?_push_size _ rfl, rfl, rfl⟩, fp, q⟩
  · obtain ⟨its, rv, pt, hz⟩ := I1.list hq
    exact wpAny_pyIter_list pt.isList ⟨_, [s1.heap.objs.size], _, _, H1, rfl, I1.kept (t' := s1.toks) fun b o e => Heap.get?_push_of_some _ e, turn_list a _, ⟨_, Heap.get?_push_size _ rfl, rfl, rfl⟩, fp, q⟩⟩
theorem kz_piX {X : Cx} {K : PySem.W.Frag} {tg l : Expr} {tl : TE} (hl : PE X l tl) (hK : X.K = K := by rfl) : PI X tg l (iSeqX K tl) := hK ▸ pi_seqX hl
/-- the letter of a hand, the text of a row -/
def ltr (z : Int) : Str := ⟨#[97 + z.toNat]⟩
def rowTx (row : List Int) : Str := Txt.join (Str.ofString "") (row.map ltr)
theorem ltrs_at {z : Int} (h0 : 0 ≤ z) (h4 : z < 4) : ∃ c, atI (Str.ofString "abcd").cps.toList z = some c ∧ (⟨#[c]⟩ : Str) = ltr z := by
  have h : z = 0 ∨ z = 1 ∨ z = 2 ∨ z = 3 := by omega
  rcases h with rfl | rfl | rfl | rfl
  · exact ⟨97, by decide +kernel, rfl⟩
  · exact ⟨98, by decide +kernel, rfl⟩
  · exact ⟨99, by decide +kernel, rfl⟩
  · exact ⟨100, by decide +kernel, rfl⟩
theorem abcd_len : (Str.ofString "abcd").length ≤ sizeLine := by
  have h : (Str.ofString "abcd").length = 4 := by decide +kernel
  have := sizeLine_eq
  omega
theorem ltr_sum (row : List Int) : ((row.map ltr).map (·.length)).sum = row.length := by
  induction row with
  | nil => rfl
  | cons x r ih =>
    rw [List.map_cons, List.map_cons, List.sum_cons, ih, List.length_cons]
    show 1 + r.length = _
    omega
theorem ltrs_len {row : List Int} (hl : row.length ≤ 1000) (i : Nat) : (((row.map ltr).map V.str).take i).length < 1000000 := by
  rw [List.length_take, List.length_map, List.length_map]
  omega
theorem ltrs_stp {row : List Int} (i : Nat) {z : Int} (hz : row[i]? = some z) : ((row.map ltr).map V.str).take (i + 1) = ((row.map ltr).map V.str).take i ++ [V.str (ltr z)] := by
  rw [List.take_add_one, List.getElem?_map, List.getElem?_map, hz]
  rfl
theorem ltrs_all (row : List Int) : ((row.map ltr).map V.str).take row.length = (row.map ltr).map V.str :=
  List.take_of_length_le (by rw [List.length_map, List.length_map]; exact Nat.le_refl _)
theorem ltrs_sum {row : List Int} (hl : row.length ≤ 1000) : ((row.map ltr).map (·.length)).sum + (row.map ltr).length * (("" : Str).length) ≤ 16777216 := by
  rw [ltr_sum, show (("" : Str).length) = 0 from by decide +kernel]
  omega
end Ly

/-! ### a table that goes on, beside the town and a list -/
namespace Ly
open PySem PySem.Spec PyProof.Rows L2 RZ
/-- all but the things P is as it was -/
def Kp (P : Addr → Prop) (H H' : Hp) : Prop := ∀ c o, ¬ P c → H c = some o → H' c = some o
/-- the script is read, and is none of the things P -/
def ScrD (K : PySem.W.Frag) (H : Hp) (P : Addr → Prop) (a : Addr) (ns : List Int) : Prop := ns.length ≤ 63 ∧ ((∀ H', SqL K H' a (ns.map V.int)) ∨ (SqL K H a (ns.map V.int) ∧ ¬ P a))
theorem keepL {K : PySem.W.Frag} {P : Addr → Prop} {H H' : Hp} {a : Addr} {xs : List V} (s : Kp P H H') (n : ¬ P a) (h : SqL K H a xs) : SqL K H' a xs := by
  rcases h with (h | ⟨o, h⟩) | h
  · exact .inl (.inl (s _ _ n h))
  · exact .inl (.inr ⟨o, s _ _ n h⟩)
  · exact .inr h
theorem Kp.mono {P Q : Addr → Prop} {H H' : Hp} (h : ∀ c, P c → Q c) (s : Kp P H H') : Kp Q H H' := fun c o n => s c o (fun z => n (h c z))
theorem Kp.same {P : Addr → Prop} {H H' : Hp} (s : Same H H') : Kp P H H' := fun c o _ => s c o
theorem Kp.but {b : Addr} {P : Addr → Prop} {H H' : Hp} (s : But b H H') (h : P b) : Kp P H H' := fun c o n => s c o (fun z => n (z ▸ h))
theorem ScrD.keep {K : PySem.W.Frag} {P : Addr → Prop} {H H' : Hp} {a : Addr} {ns : List Int} (h : ScrD K H P a ns) (s : Kp P H H') : ScrD K H' P a ns :=
  ⟨h.1, h.2.elim .inl fun k => .inr ⟨keepL s k.2 k.1, k.2⟩⟩
theorem ScrD.scr {K : PySem.W.Frag} {P : Addr → Prop} {H : Hp} {a b : Addr} {ns : List Int} (h : ScrD K H P a ns) (hb : P b) : Scr K H b a ns :=
  ⟨h.1, h.2.elim .inl fun k => .inr ⟨k.1, fun e => k.2 (e ▸ hb)⟩⟩
theorem ScrD.add {K : PySem.W.Frag} {P Q : Addr → Prop} {H : Hp} {a : Addr} {ns : List Int} (h : ScrD K H P a ns) (n : ∀ d, Q d → P d ∨ H d = none) : ScrD K H Q a ns := by
  refine ⟨h.1, h.2.elim .inl fun k => ?_⟩
  rcases k.1 with (e | ⟨o, e⟩) | e
  · exact .inr ⟨k.1, fun q => (n a q).elim k.2 fun z => by rw [z] at e; cases e⟩
  · exact .inr ⟨k.1, fun q => (n a q).elim k.2 fun z => by rw [z] at e; cases e⟩
  · exact .inl fun _ => .inr e
theorem Scr.toD {K : PySem.W.Frag} {H : Hp} {a b : Addr} {ns : List Int} (h : Scr K H b a ns) : ScrD K H (· = b) a ns := h
/-- the script, the town at b, a table at p, a tuple at r, a list at w -/
structure TbS (K : PySem.W.Frag) (a : Addr) (ns : List Int) (b p w : Addr) (m : Int) (H : Hp) (T W L r : Addr) (turns told row tl : List Int) (calls : List V) (k : Nat) : Prop where
  scr : ScrD K H (fun d => d = b ∨ d = p ∨ d = W ∨ d = L ∨ d = w) a ns
  tw : Town b k H
  D : TblAt K H p T W L m turns told calls
  hr : H r = some (.tup (row.map V.int))
  hw : H w = some (.lst (tl.map V.int))
  bT : b ≠ T
  bW : b ≠ W
  bL : b ≠ L
  wT : w ≠ T
  wW : w ≠ W
  wL : w ≠ L
  wb : w ≠ b
section
variable {K : PySem.W.Frag} {a : Addr} {ns : List Int} {b p w : Addr} {m : Int} {H H' : Hp} {T W L r : Addr} {turns told row tl : List Int} {calls : List V} {k : Nat}
theorem TbS.same (h : TbS K a ns b p w m H T W L r turns told row tl calls k) (s : Same H H') : TbS K a ns b p w m H' T W L r turns told row tl calls k :=
  ⟨h.scr.keep (.same s), h.tw.same s, h.D.same s, s _ _ h.hr, s _ _ h.hw, h.bT, h.bW, h.bL, h.wT, h.wW, h.wL, h.wb⟩
theorem TbS.lex {j : Nat} (h : TbS K a ns b p w m H T W L r turns told row tl calls k) (l : k ≤ j) : TbS K a ns b p w m H T W L r turns told row tl calls j :=
  ⟨h.scr, h.tw.le l, h.D, h.hr, h.hw, h.bT, h.bW, h.bL, h.wT, h.wW, h.wL, h.wb⟩
theorem TbS.pb (h : TbS K a ns b p w m H T W L r turns told row tl calls k) : p ≠ b := fun z => by
  obtain ⟨dx, e⟩ := h.D.ob
  obtain ⟨xs, g, _⟩ := h.tw
  rw [z, g] at e
  cases e
theorem TbS.rb (h : TbS K a ns b p w m H T W L r turns told row tl calls k) : r ≠ b := fun z => by
  have e := h.hr
  obtain ⟨xs, g, _⟩ := h.tw
  rw [z, g] at e
  cases e
theorem TbS.draw {j : Nat} (h : TbS K a ns b p w m H T W L r turns told row tl calls k) (s : But b H H') (t : Town b j H') : TbS K a ns b p w m H' T W L r turns told row tl calls j := by
  refine ⟨h.scr.keep (.but s (.inl rfl)), t, ?_, s _ _ h.rb h.hr, s _ _ h.wb h.hw, h.bT, h.bW, h.bL, h.wT, h.wW, h.wL, h.wb⟩
  obtain ⟨dx, e⟩ := h.D.ob
  exact ⟨⟨dx, s _ _ h.pb e⟩, s _ _ h.bT.symm h.D.tn, s _ _ h.bW.symm h.D.td, s _ _ h.bL.symm h.D.cl, h.D.tw, h.D.tl, h.D.wl⟩
theorem TbS.tld {told' : List Int} {calls' : List V} (h : TbS K a ns b p w m H T W L r turns told row tl calls k) (s : ∀ c o, c ≠ W → c ≠ L → H c = some o → H' c = some o) (D' : TblAt K H' p T W L m turns told' calls') : TbS K a ns b p w m H' T W L r turns told' row tl calls' k := by
  obtain ⟨xs, g, l⟩ := h.tw
  refine ⟨h.scr.keep fun c o n => s c o (fun z => n (.inr (.inr (.inl z)))) (fun z => n (.inr (.inr (.inr (.inl z))))), ⟨xs, s _ _ h.bW h.bL g, l⟩, D', s _ _ (fun z => ?_) (fun z => ?_) h.hr, s _ _ h.wW h.wL h.hw, h.bT, h.bW, h.bL, h.wT, h.wW, h.wL, h.wb⟩
  · have e := h.hr
    rw [z, h.D.td] at e
    cases e
  · have e := h.hr
    rw [z, h.D.cl] at e
    cases e
theorem TbS.exch {T2 : Addr} {turns' : List Int} {calls' : List V} (h : TbS K a ns b p w m H T W L r turns told row tl calls k) (s : ∀ c o, c ≠ p → c ≠ L → H c = some o → H' c = some o) (nT : H T2 = none) (D' : TblAt K H' p T2 W L m turns' told calls') : TbS K a ns b p w m H' T2 W L r turns' told row tl calls' k := by
  obtain ⟨xs, g, l⟩ := h.tw
  obtain ⟨dx, e⟩ := h.D.ob
  refine ⟨h.scr.keep fun c o n => s c o (fun z => n (.inr (.inl z))) (fun z => n (.inr (.inr (.inr (.inl z))))), ⟨xs, s _ _ h.pb.symm h.bL g, l⟩, D', s _ _ (fun z => ?_) (fun z => ?_) h.hr, s _ _ (fun z => ?_) h.wL h.hw, fun z => ?_, h.bW, h.bL, fun z => ?_, h.wW, h.wL, h.wb⟩
  · have e2 := h.hr
    rw [z, e] at e2
    cases e2
  · have e2 := h.hr
    rw [z, h.D.cl] at e2
    cases e2
  · have e2 := h.hw
    rw [z, e] at e2
    cases e2
  · rw [z, nT] at g
    cases g
  · have e2 := h.hw
    rw [z, nT] at e2
    cases e2
theorem TbS.put {z : Int} (h : TbS K a ns b p w m H T W L r turns told row tl calls k) : TbS K a ns b p w m (upd H w (.lst ((tl ++ [z]).map V.int))) T W L r turns told row (tl ++ [z]) calls k := by
  have s : But w H (upd H w (.lst ((tl ++ [z]).map V.int))) := But.at
  obtain ⟨dx, e⟩ := h.D.ob
  obtain ⟨xs, g, l⟩ := h.tw
  refine ⟨h.scr.keep (.but s (.inr (.inr (.inr (.inr rfl))))), ⟨xs, s _ _ h.wb.symm g, l⟩, ⟨⟨dx, s _ _ (fun z => ?_) e⟩, s _ _ h.wT.symm h.D.tn, s _ _ h.wW.symm h.D.td, s _ _ h.wL.symm h.D.cl, h.D.tw, h.D.tl, h.D.wl⟩, s _ _ (fun z => ?_) h.hr, upd_same, h.bT, h.bW, h.bL, h.wT, h.wW, h.wL, h.wb⟩
  · rw [z, h.hw] at e
    cases e
  · have e2 := h.hr
    rw [z, h.hw] at e2
    cases e2
theorem TbS.rw {r' : Addr} {row' : List Int} (h : TbS K a ns b p w m H T W L r turns told row tl calls k) (hr : H r' = some (.tup (row'.map V.int))) : TbS K a ns b p w m H T W L r' turns told row' tl calls k :=
  ⟨h.scr, h.tw, h.D, hr, h.hw, h.bT, h.bW, h.bL, h.wT, h.wW, h.wL, h.wb⟩
end
/-- two refusals of the same kind -/
theorem shaped_rfd (n : Int) : SeqAt.shaped (.tuple [.str "refused", .int n]) = true := by
  have h : PyData.strOk "refused" = true := by decide +kernel
  simp [SeqAt.shaped, PyData.canLay0, PyData.depth, PyData.canLayAll0, PyData.depthAll, h]
theorem rfd_ne {K : PySem.W.Frag} {H : Hp} {p q : Addr} {n : Int} {Q : VK} (hp : H p = some (.tup [.str "refused", .int n])) (hq : H q = some (.tup [.str "refused", .int n])) (k : Q (.bl false) H) : rNeD K (.ref p) (.ref q) H Q := by
  refine ⟨_, _, .tup (.inl (.inl hp)) (.cons (.str _) (.cons (.int _) .nil)), .tup (.inl (.inl hq)) (.cons (.str _) (.cons (.int _) .nil)), shaped_rfd n, shaped_rfd n, ?_⟩
  rw [show PyData.eqv (.tuple [.str "refused", .int n]) (.tuple [.str "refused", .int n]) = true from by simp [PyData.eqv, PyData.eqvAll]]
  exact k
theorem int_ne {K : PySem.W.Frag} {H : Hp} {x y : Int} {Q : VK} (k : Q (.bl (!decide (x = y))) H) : rNeD K (.int x) (.int y) H Q := by
  refine ⟨_, _, .int x, .int y, by simp [SeqAt.shaped, PyData.canLay0, PyData.depth], by simp [SeqAt.shaped, PyData.canLay0, PyData.depth], ?_⟩
  rw [show PyData.eqv (.int x) (.int y) = decide (x = y) from by simp [PyData.eqv]; by_cases h : x = y <;> simp [h]]
  exact k
end Ly

/-! ### tables compared; what is and is no table -/
namespace Ly
open PySem PySem.Spec PyProof.Rows L2 RZ
structure TabQ (K : PySem.W.Frag) : Prop where
  ha : PySem.W.findIn K (.ref (tbC K)) "__class__" = some (some (.builtin "object.__class__"))
  hn : PySem.W.specialIn K (.builtin "object.__class__") "__get__" = some (some (.builtin "getset_descriptor.__get__"))
  htk : PySem.W.takesIn K (.builtin "object.__class__") = some true
  hm : PySem.W.mroIn K (tbC K) (.type "object") = some true
  me : PySem.W.kitOne K (.ref (tbC K)) (.ref (tbC K)) = some true
  str : PySem.W.kitOne K (.type "str") (.ref (tbC K)) = some false
def tabQB (K : PySem.W.Frag) : Bool := (PySem.W.findIn K (.ref (tbC K)) "__class__" == some (some (.builtin "object.__class__"))) && ((PySem.W.specialIn K (.builtin "object.__class__") "__get__" == some (some (.builtin "getset_descriptor.__get__"))) &&
  (decide (PySem.W.takesIn K (.builtin "object.__class__") = some true) && (decide (PySem.W.mroIn K (tbC K) (.type "object") = some true) && (decide (PySem.W.kitOne K (.ref (tbC K)) (.ref (tbC K)) = some true) && decide (PySem.W.kitOne K (.type "str") (.ref (tbC K)) = some false)))))
theorem tabQ_ok {K : PySem.W.Frag} (e : tabQB K = true) : TabQ K := by
  unfold tabQB at e
  simp only [Bool.and_eq_true, decide_eq_true_eq, beq_iff_eq] at e
  obtain ⟨e1, e2, e3, e4, e5, e6⟩ := e
  exact ⟨e1, e2, e3, e4, e5, e6⟩
/-- the refusals that the text has -/
structure ExcsOf (es : List Str) (K : PySem.W.Frag) (mg : Str → Option Value) : Prop where
  cls : ∀ x ∈ es, ExcAt K mg x (He.ga K x)
  top : ExcAt K mg "TurnError" (He.ga K "TurnError")
  tops : ∀ x ∈ es, PySem.W.exmOne K (.ref (He.ga K x)) (.ref (He.ga K "TurnError")) = some true
def excsOfB (es : List Str) (K : PySem.W.Frag) : Bool := (es.all fun x => excB K x) && (excB K "TurnError" && (es.all fun x => decide (PySem.W.subIn K (.ref (He.ga K x)) (.ref (He.ga K "TurnError")) = some true)))
theorem excsOf_ok {es : List Str} {K : PySem.W.Frag} {h : Heap} {mg : Str → Option Value} (X : K.In h) (G : h.Ns mainGlobals mg) (e : excsOfB es K = true) : ExcsOf es K mg := by
  unfold excsOfB at e
  simp only [Bool.and_eq_true, List.all_eq_true, decide_eq_true_eq] at e
  obtain ⟨e1, e4, e5⟩ := e
  have t := excB_ok X G e4
  exact ⟨fun x hx => excB_ok X G (e1 x hx), t, fun x hx => PySem.W.exm_ref t.bP t.ec.hd t.tP (e5 x hx)⟩
theorem exm_self {K : PySem.W.Frag} {mg : Str → Option Value} {x : Str} {C : Addr} (t : ExcAt K mg x C) (e : PySem.W.subIn K (.ref C) (.ref C) = some true) : PySem.W.exmOne K (.ref C) (.ref C) = some true := PySem.W.exm_ref t.bP t.ec.hd t.tP e
section
variable {X : Cx} {j k : Nat} {f C : Addr} {fd : FuncData} {ps : List Str} {sp : Sp}
theorem run_inA {A1 : Around} {pins : List (Addr × Obj)} {σ : L2.St} {H : Hp} {s : Shared} {vs : List V} {us : List Value} {Q : VK} (F : FnOk X.prog X.w X.K X.mg X.base CX0 j f fd ps sp) (rm : Room j A1) (fr : A1.frames = X.A.frames) (b : Binds X.K fd ps []) (I : Inv X pins σ H s) (r : Vals vs us)
    (h : sp vs H Q E0) : wpAny (model X.prog X.w) A1 (call (.ref f) us) (EP X pins σ Q) X.xe s := by
  have e0 : Env0 X.prog X.w X.K X.mg X.base A1 X.stack s H := by
    have e := I.env0
    exact ⟨by rw [fr]; exact e.frames, e.mod, e.bs, e.bsz, e.funs, e.frf, e.hok, e.bare⟩
  have hl : (us ++ []).length = ps.length := by rw [List.append_nil, ← r.length]; exact F.len _ _ _ _ h
  have bd := b s us I.kIn hl
  rw [List.append_nil] at bd
  refine wpAny_call (codeAny_mono (F.run A1 X.stack s H ⟨us, []⟩ us vs Q E0 rm e0 bd r h) fun r s' hq => ?_)
  match r, hq with
  | .error x, g => exact g.elim
  | .ok (.ret u), g => exact I.after g
/-- o == y by the class's own __eq__; y is one of them, or a text -/
theorem op_eqO (F : CalM X.prog X.w X.K X.mg X.base j C "__eq__" ps sp) (hr : Room k X.A) (hj : j ≤ k) :
    OpR X (compareOp .Eq) (fun x y H Q => ∃ a dx fs, x = .ref a ∧ H a = some (.ins C dx fs) ∧ ((∃ b dy gs, y = .ref b ∧ H b = some (.ins C dy gs)) ∨ ∃ z, y = .str z) ∧ sp [.ref a, y] H (fun v H' => (∃ k, v = .bl k) ∧ Q v H') E0) := by
  intro pins s σ H x y v u Q I rx ry h
  obtain ⟨a, dx, fs, rfl, ha, hy, h⟩ := h
  obtain ⟨f, fd, G, hm, b⟩ := F.ex
  obtain rfl : v = Value.ref a := rx
  obtain ⟨mA, J, _⟩ := ins_get I.hok ha
  obtain ⟨od, J, _⟩ := J.look
  obtain ⟨m, hF⟩ := I.fr
  have rm := hr.mono hj
  show wpAny (model X.prog X.w) X.A (richCompare .Eq (.ref a) u) (EP X pins σ Q) X.xe s
  have go : wpAny (model X.prog X.w) X.A (call (.ref f) [.ref a, u]) (PySem.W.CmpBack (EP X pins σ Q)) X.xe s := by
    refine wpAny_mono (run_inA (vs := [.ref a, y]) (us := [.ref a, u]) G rm rfl b I (.cons rfl (.cons ry .nil)) h) (fun u s' g => ?_) fun _ _ z => z
    obtain ⟨v, H', I', rv, ⟨k, rfl⟩, q⟩ := g
    obtain rfl : u = Value.bool k := rv
    exact ⟨.bl k, H', I', rfl, q⟩
  rcases hy with ⟨b2, dy, gs, rfl, hb⟩ | ⟨z, rfl⟩
  · obtain rfl : u = Value.ref b2 := ry
    obtain ⟨mB, J', _⟩ := ins_get I.hok hb
    obtain ⟨od', J', _⟩ := J'.look
    exact PySem.W.cmp_K (op := .Eq) (tb := .ref C) rm.units0 hF I.ok.mod.kin J J'.type (by simp [PySem.W.notFirst]) hm.at_ hm.fn go
  · obtain ⟨t, rfl⟩ := ry
    exact PySem.W.cmp_K (op := .Eq) (tb := .type "str") rm.units0 hF I.ok.mod.kin J (.of_pure rfl) (by rfl) hm.at_ hm.fn go
end
end Ly

/-! ### tables whose calls are taken back -/
namespace Ly
open PySem PySem.Spec PyProof.Rows L2 RZ
/-- a call: a worth told, two places exchanged -/
inductive Stp
  | tl (z : Int)
  | ex (i j : Nat)
def Stp.ap (t : List Int × List Int) : Stp → List Int × List Int
  | .tl z => (t.1, t.2 ++ [z])
  | .ex i j => (swp t.1 i j, t.2)
/-- the call is not refused -/
def Stp.ok (t : List Int × List Int) : Stp → Prop
  | .tl _ => t.2.length < t.1.length
  | .ex i j => i ≠ j ∧ t.2.length ≤ i ∧ t.2.length ≤ j
/-- its places are places of the row -/
def Stp.inR (n : Nat) : Stp → Prop
  | .tl _ => True
  | .ex i j => i < n ∧ j < n
def Stp.nm : Stp → Str
  | .tl _ => "tell"
  | .ex _ _ => "exchange"
/-- the call as the law writes it -/
def Stp.tup : Stp → List V
  | .tl z => [.str "tell", .int z]
  | .ex i j => [.str "exchange", .int (i : Int), .int (j : Int)]
/-- the call as the table keeps it -/
def Stp.at (H : Hp) (u : Addr) : Stp → Prop
  | .tl _ => ∃ e, H u = some (.tup [.str "tell", .ref e])
  | .ex i j => ∃ e, H u = some (.tup [.str "exchange", .ref e]) ∧ H e = some (.tup [.int (i : Int), .int (j : Int)])
theorem swp_twice {row : List Int} {i j : Nat} (hi : i < row.length) (hj : j < row.length) (ne : i ≠ j) : swp (swp row i j) i j = row := by
  unfold swp
  refine List.ext_getElem? fun k => ?_
  simp only [List.getElem?_set, List.length_set, List.getD_eq_getElem?_getD]
  by_cases h1 : j = k
  · subst h1
    simp [hi, hj, ne, Ne.symm ne]
  · by_cases h2 : i = k
    · subst h2
      simp [hi, hj, ne, Ne.symm ne, h1]
    · simp [h1, h2]
theorem Stp.back_ex {t : List Int × List Int} {i j : Nat} (ok : (Stp.ex i j).ok t) (r : (Stp.ex i j).inR t.1.length) : swp ((Stp.ex i j).ap t).1 i j = t.1 := swp_twice r.1 r.2 ok.1
theorem Stp.back_tl {t : List Int × List Int} {z : Int} : ((Stp.tl z).ap t).2.dropLast = t.2 := List.dropLast_concat
/-- the state behind so many calls -/
def runS (row : List Int) (ss : List Stp) : List Int × List Int := ss.foldl Stp.ap (row, [])
theorem runS_snoc (row : List Int) (ss : List Stp) (s : Stp) : runS row (ss ++ [s]) = s.ap (runS row ss) := by
  unfold runS
  rw [List.foldl_append]
  rfl
theorem ap_len (t : List Int × List Int) (s : Stp) : (s.ap t).1.length = t.1.length := by
  cases s with
  | tl z => rfl
  | ex i j => exact swp_len _ _ _
/-- none of the calls was refused -/
def OkR (row : List Int) (ss : List Stp) : Prop := ∀ (k : Nat) (s : Stp), ss[k]? = some s → s.ok (runS row (ss.take k)) ∧ s.inR row.length
theorem OkR.nil (row : List Int) : OkR row [] := fun k s e => by simp at e
theorem OkR.snoc {row : List Int} {ss : List Stp} {s : Stp} (h : OkR row ss) (o : s.ok (runS row ss)) (r : s.inR row.length) : OkR row (ss ++ [s]) := fun k s' e => by
  by_cases hk : k < ss.length
  · rw [List.getElem?_append_left hk] at e
    rw [List.take_append_of_le_length (by omega)]
    exact h k s' e
  · have hk2 : k = ss.length := by
      have := (List.getElem?_eq_some_iff.mp e).1
      rw [List.length_append, List.length_singleton] at this
      omega
    subst hk2
    rw [List.getElem?_append_right (Nat.le_refl _), Nat.sub_self] at e
    cases e
    rw [List.take_left]
    exact ⟨o, r⟩
theorem OkR.init {row : List Int} {ss : List Stp} {s : Stp} (h : OkR row (ss ++ [s])) : OkR row ss ∧ s.ok (runS row ss) ∧ s.inR row.length := by
  refine ⟨fun k s' e => ?_, ?_⟩
  · have hk := (List.getElem?_eq_some_iff.mp e).1
    have g := h k s' (by rw [List.getElem?_append_left hk]; exact e)
    rw [List.take_append_of_le_length (by omega)] at g
    exact g
  · have g := h ss.length s (by rw [List.getElem?_append_right (Nat.le_refl _), Nat.sub_self]; rfl)
    rw [List.take_left] at g
    exact g
theorem OkR.take {row : List Int} {ss : List Stp} (h : OkR row ss) (n : Nat) : OkR row (ss.take n) := fun k s e => by
  have hk := (List.getElem?_eq_some_iff.mp e).1
  rw [List.length_take] at hk
  rw [List.getElem?_take_of_lt (by omega)] at e
  rw [List.take_take, Nat.min_eq_left (by omega)]
  exact h k s e
theorem runS_ok {m : Int} {row : List Int} (ok : RowOk m row) : ∀ (n : Nat) (ss : List Stp), ss.length = n → OkR row ss → RowOk m (runS row ss).1 ∧ (runS row ss).1.length = row.length ∧ (runS row ss).2.length ≤ row.length := by
  intro n
  induction n with
  | zero =>
    intro ss e _
    rw [List.length_eq_zero_iff.mp e]
    exact ⟨ok, rfl, Nat.zero_le _⟩
  | succ n ih =>
    intro ss e h
    have hne : ss ≠ [] := fun z => by rw [z] at e; cases e
    have es := List.dropLast_concat_getLast hne
    generalize ss.getLast hne = s at es
    rw [← es] at h ⊢
    obtain ⟨h1, h2, h3⟩ := h.init
    obtain ⟨o1, o2, o3⟩ := ih ss.dropLast (by rw [List.length_dropLast]; omega) h1
    rw [runS_snoc]
    cases s with
    | tl z =>
      have h4 : (runS row ss.dropLast).2.length < (runS row ss.dropLast).1.length := h2
      refine ⟨o1, o2, ?_⟩
      show ((runS row ss.dropLast).2 ++ [z]).length ≤ _
      rw [List.length_append, List.length_singleton]
      omega
    | ex i j =>
      refine ⟨swp_ok o1 (by rw [o2]; exact h3.1) (by rw [o2]; exact h3.2), ?_, o3⟩
      rw [ap_len]
      exact o2
/-- the greatest lead now -/
def MostIs (m : Int) (turns told : List Int) (v : Int) : Prop := ∃ hi lo, v = hi - lo ∧ (∃ a : Nat, (a : Int) < m ∧ hi = tot turns told a) ∧ (∃ a : Nat, (a : Int) < m ∧ lo = tot turns told a) ∧ ∀ a : Nat, (a : Int) < m → lo ≤ tot turns told a ∧ tot turns told a ≤ hi
theorem MostIs.one {m v w : Int} {turns told : List Int} (h : MostIs m turns told v) (g : MostIs m turns told w) : v = w := by
  obtain ⟨hi, lo, rfl, ⟨a, ha, ea⟩, ⟨b, hb, eb⟩, h3⟩ := h
  obtain ⟨hi2, lo2, rfl, ⟨c, hc, ec⟩, ⟨d, hd, ed⟩, g3⟩ := g
  have x1 := (h3 c hc).2
  have x2 := (g3 a ha).2
  have x3 := (h3 d hd).1
  have x4 := (g3 b hb).1
  rw [← ec] at x1
  rw [← ea] at x2
  rw [← ed] at x3
  rw [← eb] at x4
  omega
/-- a look at a table: what it tells, none of it among P -/
def LookAt (P : Addr → Prop) (H : Hp) (q : Addr) (m : Int) (turns told : List Int) : Prop := ∃ (r w t : Addr) (v : Int), H q = some (.tup [.ref r, .ref w, .ref t, if told.length < turns.length then .int (turns.getD told.length 0) else .non, .int v, .int (told.length : Int), .str (rowTx turns)]) ∧
  H r = some (.tup (turns.map V.int)) ∧ H w = some (.lst (told.map V.int)) ∧ H t = some (.lst ((totsOf m turns told).map V.int)) ∧ MostIs m turns told v ∧ ¬ P q ∧ ¬ P r ∧ ¬ P w ∧ ¬ P t
theorem LookAt.keep {P : Addr → Prop} {H H' : Hp} {q : Addr} {m : Int} {turns told : List Int} (h : LookAt P H q m turns told) (s : Kp P H H') : LookAt P H' q m turns told := by
  obtain ⟨r, w, t, v, h1, h2, h3, h4, h5, n1, n2, n3, n4⟩ := h
  exact ⟨r, w, t, v, s _ _ n1 h1, s _ _ n2 h2, s _ _ n3 h3, s _ _ n4 h4, h5, n1, n2, n3, n4⟩
theorem LookAt.any {P Q : Addr → Prop} {H : Hp} {q : Addr} {m : Int} {turns told : List Int} (h : LookAt P H q m turns told) (n : ∀ d, Q d → P d) : LookAt Q H q m turns told := by
  obtain ⟨r, w, t, v, h1, h2, h3, h4, h5, n1, n2, n3, n4⟩ := h
  exact ⟨r, w, t, v, h1, h2, h3, h4, h5, fun z => n1 (n _ z), fun z => n2 (n _ z), fun z => n3 (n _ z), fun z => n4 (n _ z)⟩
theorem rowTx_cps : ∀ row : List Int, (rowTx row).cps.toList = row.map fun z => 97 + z.toNat := by
  intro row
  unfold rowTx
  rw [TL.join_eq]
  have go : ∀ row : List Int, (Str.join (Str.ofString "") (row.map ltr)).cps.toList = row.map fun z => 97 + z.toNat := by
    intro row
    induction row with
    | nil => rfl
    | cons x r ih =>
      cases r with
      | nil => rfl
      | cons y r =>
        show ((ltr x ++ Str.ofString "" ++ Str.join (Str.ofString "") ((y :: r).map ltr)).cps.toList) = _
        have e : (Str.ofString "").cps = #[] := by decide +kernel
        show ((#[97 + x.toNat] ++ (Str.ofString "").cps ++ (Str.join (Str.ofString "") ((y :: r).map ltr)).cps).toList) = _
        rw [e, Array.toList_append, ih]
        simp
  exact go row
theorem rowTx_ok {row : List Int} (hz : ∀ z ∈ row, 0 ≤ z ∧ z < 4) : PyData.strOk (rowTx row) = true := by
  unfold PyData.strOk
  rw [← Array.all_toList, rowTx_cps, List.all_eq_true]
  intro c hc
  obtain ⟨z, hz2, rfl⟩ := List.mem_map.mp hc
  have := hz z hz2
  exact decide_eq_true (by omega)
section
variable {K : PySem.W.Frag} {H : Hp} {p q : Addr} {P Q : Addr → Prop} {m : Int} {turns told : List Int} {k : VK}
/-- the data of a look -/
def lookD (m v : Int) (turns told : List Int) : PyData := .tuple [.tuple (turns.map PyData.int), .list (told.map PyData.int), .list ((totsOf m turns told).map PyData.int), if told.length < turns.length then .int (turns.getD told.length 0) else .none, .int v, .int (told.length : Int), .str (rowTx turns)]
theorem LookAt.dp (h : LookAt P H p m turns told) : ∃ v, MostIs m turns told v ∧ Dp K H (.ref p) (lookD m v turns told) := by
  obtain ⟨r, w, t, v, h1, h2, h3, h4, h5, _⟩ := h
  refine ⟨v, h5, .tup (.inl (.inl h1)) (.cons (.tup (.inl (.inl h2)) (dp_ints _)) (.cons (.lst (.inl (.inl h3)) (dp_ints _)) (.cons (.lst (.inl (.inl h4)) (dp_ints _)) (.cons ?_ (.cons (.int _) (.cons (.int _) (.cons (.str _) .nil)))))))⟩
  split
  · exact .int _
  · exact .non
theorem shaped_look (m v : Int) (turns told : List Int) (hz : ∀ z ∈ turns, 0 ≤ z ∧ z < 4) : SeqAt.shaped (lookD m v turns told) = true := by
  have h := rowTx_ok hz
  unfold lookD
  split <;> simp [SeqAt.shaped, PyData.canLay0, PyData.depth, PyData.canLayAll0, PyData.depthAll, PySem.W.ke_canLayAll0, PySem.W.ke_depthAll, h]
theorem lookS_ne (h1 : LookAt P H p m turns told) (h2 : LookAt Q H q m turns told) (hz : ∀ z ∈ turns, 0 ≤ z ∧ z < 4) (g : k (.bl false) H) : rNeD K (.ref p) (.ref q) H k := by
  obtain ⟨v, e1, d1⟩ := h1.dp (K := K)
  obtain ⟨w, e2, d2⟩ := h2.dp (K := K)
  rw [← e1.one e2] at d2
  refine ⟨_, _, d1, d2, shaped_look _ _ _ _ hz, shaped_look _ _ _ _ hz, ?_⟩
  rw [SeqAt.eqv_refl _ (SeqAt.canLay_of_shaped (shaped_look _ _ _ _ hz))]
  exact g
theorem lookS_eq (h1 : LookAt P H p m turns told) (h2 : LookAt Q H q m turns told) (hz : ∀ z ∈ turns, 0 ≤ z ∧ z < 4) (g : k (.bl true) H) : rEqD K (.ref p) (.ref q) H k := by
  obtain ⟨v, e1, d1⟩ := h1.dp (K := K)
  obtain ⟨w, e2, d2⟩ := h2.dp (K := K)
  rw [← e1.one e2] at d2
  refine ⟨_, _, d1, d2, shaped_look _ _ _ _ hz, shaped_look _ _ _ _ hz, ?_⟩
  rw [SeqAt.eqv_refl _ (SeqAt.canLay_of_shaped (shaped_look _ _ _ _ hz))]
  exact g
end
section
variable {K : PySem.W.Frag} {H : Hp} {p T W L dx : Addr} {m : Int} {turns told : List Int} {calls : List V}
theorem TblAt.ne_p (D : TblAt K H p T W L m turns told calls) {b : Addr} {xs : List V} (h : H b = some (.lst xs)) : p ≠ b := fun z => by
  obtain ⟨dx, e⟩ := D.ob
  rw [z, h] at e
  cases e
theorem TblAt.putL (D : TblAt K H p T W L m turns told calls) (cs : List V) : TblAt K (upd H L (.lst cs)) p T W L m turns told cs := by
  obtain ⟨dx, e⟩ := id D.ob
  refine ⟨⟨dx, ?_⟩, ?_, ?_, upd_same, D.tw, D.tl, D.wl⟩
  · rw [upd_ne (D.ne_p D.cl)]
    exact e
  · rw [upd_ne D.tl]
    exact D.tn
  · rw [upd_ne D.wl]
    exact D.td
theorem TblAt.putW (D : TblAt K H p T W L m turns told calls) (ws : List Int) : TblAt K (upd H W (.lst (ws.map V.int))) p T W L m turns ws calls := by
  obtain ⟨dx, e⟩ := id D.ob
  refine ⟨⟨dx, ?_⟩, ?_, upd_same, ?_, D.tw, D.tl, D.wl⟩
  · rw [upd_ne (D.ne_p D.td)]
    exact e
  · rw [upd_ne D.tw]
    exact D.tn
  · rw [upd_ne D.wl.symm]
    exact D.cl
theorem TblAt.putT (D : TblAt K H p T W L m turns told calls) {T2 : Addr} {ts : List Int} (h : H T2 = some (.lst (ts.map V.int))) (nW : T2 ≠ W) (nL : T2 ≠ L) : TblAt K (upd H p (.ins (tbC K) dx (flds m T2 W L))) p T2 W L m ts told calls := by
  refine ⟨⟨dx, upd_same⟩, ?_, ?_, ?_, nW, nL, D.wl⟩
  · rw [upd_ne (D.ne_p h).symm]
    exact h
  · rw [upd_ne (D.ne_p D.td).symm]
    exact D.td
  · rw [upd_ne (D.ne_p D.cl).symm]
    exact D.cl
theorem TblAt.putN (D : TblAt K H p T W L m turns told calls) {W2 : Addr} {ws : List Int} (h : H W2 = some (.lst (ws.map V.int))) (nT : T ≠ W2) (nL : W2 ≠ L) : TblAt K (upd H p (.ins (tbC K) dx (flds m T W2 L))) p T W2 L m turns ws calls := by
  refine ⟨⟨dx, upd_same⟩, ?_, ?_, ?_, nT, D.tl, nL⟩
  · rw [upd_ne (D.ne_p D.tn).symm]
    exact D.tn
  · rw [upd_ne (D.ne_p h).symm]
    exact h
  · rw [upd_ne (D.ne_p D.cl).symm]
    exact D.cl
end
theorem Kp.refl {P : Addr → Prop} {H : Hp} : Kp P H H := fun _ _ _ e => e
theorem Kp.trans {P : Addr → Prop} {H H1 H2 : Hp} (h : Kp P H H1) (g : Kp P H1 H2) : Kp P H H2 := fun c o n e => g c o n (h c o n e)
theorem Kp.put {P : Addr → Prop} {H : Hp} {d : Addr} {o : HO} (h : P d) : Kp P H (upd H d o) := fun c o n e => by
  rw [upd_ne (fun z => n (by rw [z]; exact h))]
  exact e
/-- the things that are changed -/
def P24 (b p W L D1 D2 : Addr) : Addr → Prop := fun d => d = b ∨ d = p ∨ d = W ∨ d = L ∨ d = D1 ∨ d = D2
structure Dis (b W L D1 D2 : Addr) : Prop where
  bW : b ≠ W
  bL : b ≠ L
  b1 : b ≠ D1
  b2 : b ≠ D2
  W1 : W ≠ D1
  W2 : W ≠ D2
  L1 : L ≠ D1
  L2 : L ≠ D2
  d12 : D1 ≠ D2
/-- all tuples stand -/
def KT (H H' : Hp) : Prop := ∀ c xs, H c = some (.tup xs) → H' c = some (.tup xs)
/-- the script, the town, the table, the row, two lists -/
structure C24 (K : PySem.W.Frag) (a : Addr) (ns : List Int) (b p W L D1 D2 r : Addr) (m : Int) (row : List Int) (H : Hp) (T : Addr) (turns told : List Int) (ic lk cs : List V) (k : Nat) : Prop where
  scr : ScrD K H (P24 b p W L D1 D2) a ns
  tw : Town b k H
  D : TblAt K H p T W L m turns told ic
  nT : ¬ P24 b p W L D1 D2 T
  hr : H r = some (.tup (row.map V.int))
  h1 : H D1 = some (.lst lk)
  h2 : H D2 = some (.lst cs)
  di : Dis b W L D1 D2
section
variable {K : PySem.W.Frag} {a : Addr} {ns : List Int} {b p W L D1 D2 r : Addr} {m : Int} {row : List Int} {H H' : Hp} {T T2 : Addr} {turns told turns2 told2 : List Int} {ic lk cs ic2 : List V} {k j : Nat}
theorem C24.pl (h : C24 K a ns b p W L D1 D2 r m row H T turns told ic lk cs k) : ∀ d, P24 b p W L D1 D2 d → (∃ xs, H d = some (.lst xs)) ∨ ∃ C dx fs, H d = some (.ins C dx fs) := fun d q => by
  obtain ⟨xs, e, _⟩ := h.tw
  obtain ⟨dx, o⟩ := h.D.ob
  rcases q with rfl | rfl | rfl | rfl | rfl | rfl
  · exact .inl ⟨_, e⟩
  · exact .inr ⟨_, _, _, o⟩
  · exact .inl ⟨_, h.D.td⟩
  · exact .inl ⟨_, h.D.cl⟩
  · exact .inl ⟨_, h.h1⟩
  · exact .inl ⟨_, h.h2⟩
theorem C24.al (h : C24 K a ns b p W L D1 D2 r m row H T turns told ic lk cs k) : ∀ d, P24 b p W L D1 D2 d → H d ≠ none := fun d q e => by
  rcases h.pl d q with ⟨xs, g⟩ | ⟨C, dx, fs, g⟩
  · rw [e] at g
    cases g
  · rw [e] at g
    cases g
theorem C24.nt (h : C24 K a ns b p W L D1 D2 r m row H T turns told ic lk cs k) {c : Addr} {xs : List V} (e : H c = some (.tup xs)) : ¬ P24 b p W L D1 D2 c := fun q => by
  rcases h.pl c q with ⟨ys, g⟩ | ⟨C, dx, fs, g⟩
  · rw [e] at g
    cases g
  · rw [e] at g
    cases g
theorem C24.kt (h : C24 K a ns b p W L D1 D2 r m row H T turns told ic lk cs k) (s : Kp (P24 b p W L D1 D2) H H') : KT H H' := fun c xs e => s c _ (h.nt e) e
theorem C24.lex (h : C24 K a ns b p W L D1 D2 r m row H T turns told ic lk cs k) (l : k ≤ j) : C24 K a ns b p W L D1 D2 r m row H T turns told ic lk cs j :=
  ⟨h.scr, h.tw.le l, h.D, h.nT, h.hr, h.h1, h.h2, h.di⟩
theorem C24.same (h : C24 K a ns b p W L D1 D2 r m row H T turns told ic lk cs k) (s : Same H H') : C24 K a ns b p W L D1 D2 r m row H' T turns told ic lk cs k :=
  ⟨h.scr.keep (.same s), h.tw.same s, h.D.same s, h.nT, s _ _ h.hr, s _ _ h.h1, s _ _ h.h2, h.di⟩
theorem TblAt.keepP {P : Addr → Prop} (D : TblAt K H p T W L m turns told ic) (s : Kp P H H') (np : ¬ P p) (nT : ¬ P T) (nW : ¬ P W) (nL : ¬ P L) : TblAt K H' p T W L m turns told ic := by
  obtain ⟨dx, e⟩ := D.ob
  exact ⟨⟨dx, s _ _ np e⟩, s _ _ nT D.tn, s _ _ nW D.td, s _ _ nL D.cl, D.tw, D.tl, D.wl⟩
theorem C24.draw (h : C24 K a ns b p W L D1 D2 r m row H T turns told ic lk cs k) (s : But b H H') (t : Town b j H') : C24 K a ns b p W L D1 D2 r m row H' T turns told ic lk cs j := by
  have k1 : Kp (P24 b p W L D1 D2) H H' := .but s (.inl rfl)
  obtain ⟨xs, e, _⟩ := h.tw
  have pb : p ≠ b := h.D.ne_p e
  obtain ⟨dx, o⟩ := h.D.ob
  exact ⟨h.scr.keep k1, t, ⟨⟨dx, s _ _ pb o⟩, s _ _ (fun z => h.nT (.inl z)) h.D.tn, s _ _ h.di.bW.symm h.D.td, s _ _ h.di.bL.symm h.D.cl, h.D.tw, h.D.tl, h.D.wl⟩, h.nT, s _ _ (fun z => h.nt h.hr (.inl z)) h.hr, s _ _ h.di.b1.symm h.h1, s _ _ h.di.b2.symm h.h2, h.di⟩
theorem C24.kp3 (h : C24 K a ns b p W L D1 D2 r m row H T turns told ic lk cs k) (s : Kp (fun d => d = p ∨ d = W ∨ d = L) H H') : Kp (P24 b p W L D1 D2) H H' :=
  s.mono fun c q => q.elim (fun z => .inr (.inl z)) fun q => q.elim (fun z => .inr (.inr (.inl z))) fun z => .inr (.inr (.inr (.inl z)))
theorem C24.call (h : C24 K a ns b p W L D1 D2 r m row H T turns told ic lk cs k) (s : Kp (fun d => d = p ∨ d = W ∨ d = L) H H') (nT2 : T2 = T ∨ H T2 = none) (D' : TblAt K H' p T2 W L m turns2 told2 ic2) : C24 K a ns b p W L D1 D2 r m row H' T2 turns2 told2 ic2 lk cs k := by
  obtain ⟨xs, e, l⟩ := h.tw
  have n : ∀ {d : Addr} {ys : List V}, H d = some (.lst ys) → d ≠ W → d ≠ L → H' d = some (.lst ys) := fun {d ys} g nw nl => s _ _ (fun z => z.elim (fun z => h.D.ne_p g z.symm) fun z => z.elim nw nl) g
  refine ⟨h.scr.keep (h.kp3 s), ⟨xs, n e h.di.bW h.di.bL, l⟩, D', ?_, (h.kt (h.kp3 s)) _ _ h.hr, n h.h1 h.di.W1.symm h.di.L1.symm, n h.h2 h.di.W2.symm h.di.L2.symm, h.di⟩
  rcases nT2 with rfl | g
  · exact h.nT
  · exact fun z => h.al _ z g
theorem C24.put1 (h : C24 K a ns b p W L D1 D2 r m row H T turns told ic lk cs k) (lk2 : List V) : C24 K a ns b p W L D1 D2 r m row (upd H D1 (.lst lk2)) T turns told ic lk2 cs k := by
  have k1 : Kp (P24 b p W L D1 D2) H (upd H D1 (.lst lk2)) := .put (.inr (.inr (.inr (.inr (.inl rfl)))))
  obtain ⟨xs, e, l⟩ := h.tw
  obtain ⟨dx, o⟩ := h.D.ob
  have s : But D1 H (upd H D1 (.lst lk2)) := But.at
  exact ⟨h.scr.keep k1, ⟨xs, s _ _ h.di.b1 e, l⟩, ⟨⟨dx, s _ _ (h.D.ne_p h.h1) o⟩, s _ _ (fun z => h.nT (.inr (.inr (.inr (.inr (.inl z)))))) h.D.tn, s _ _ h.di.W1 h.D.td, s _ _ h.di.L1 h.D.cl, h.D.tw, h.D.tl, h.D.wl⟩, h.nT, h.kt k1 _ _ h.hr, upd_same, s _ _ h.di.d12.symm h.h2, h.di⟩
theorem C24.put2 (h : C24 K a ns b p W L D1 D2 r m row H T turns told ic lk cs k) (cs2 : List V) : C24 K a ns b p W L D1 D2 r m row (upd H D2 (.lst cs2)) T turns told ic lk cs2 k := by
  have k1 : Kp (P24 b p W L D1 D2) H (upd H D2 (.lst cs2)) := .put (.inr (.inr (.inr (.inr (.inr rfl)))))
  obtain ⟨xs, e, l⟩ := h.tw
  obtain ⟨dx, o⟩ := h.D.ob
  have s : But D2 H (upd H D2 (.lst cs2)) := But.at
  exact ⟨h.scr.keep k1, ⟨xs, s _ _ h.di.b2 e, l⟩, ⟨⟨dx, s _ _ (h.D.ne_p h.h2) o⟩, s _ _ (fun z => h.nT (.inr (.inr (.inr (.inr (.inr z)))))) h.D.tn, s _ _ h.di.W2 h.D.td, s _ _ h.di.L2 h.D.cl, h.D.tw, h.D.tl, h.D.wl⟩, h.nT, h.kt k1 _ _ h.hr, s _ _ h.di.d12 h.h1, upd_same, h.di⟩
theorem C24.kp1 (h : C24 K a ns b p W L D1 D2 r m row H T turns told ic lk cs k) {o : HO} : Kp (P24 b p W L D1 D2) H (upd H D1 o) := .put (.inr (.inr (.inr (.inr (.inl rfl)))))
theorem C24.kp2 (h : C24 K a ns b p W L D1 D2 r m row H T turns told ic lk cs k) {o : HO} : Kp (P24 b p W L D1 D2) H (upd H D2 o) := .put (.inr (.inr (.inr (.inr (.inr rfl)))))
end
theorem Stp.at_kt {H H' : Hp} {u : Addr} {s : Stp} (h : s.at H u) (k : KT H H') : s.at H' u := by
  cases s with
  | tl z =>
    obtain ⟨e, h⟩ := h
    exact ⟨e, k _ _ h⟩
  | ex i j =>
    obtain ⟨e, h, g⟩ := h
    exact ⟨e, k _ _ h, k _ _ g⟩
/-- what the calls were, and what was told ahead of each -/
structure Hi24 (P : Addr → Prop) (H : Hp) (m : Int) (row : List Int) (ss : List Stp) (lk cs ic : List V) : Prop where
  ok : OkR row ss
  l1 : lk.length = ss.length
  l2 : cs.length = ss.length
  l3 : ic.length = ss.length
  hi : ∀ (k : Nat) (s : Stp), ss[k]? = some s → ∃ q g u, lk[k]? = some (.ref q) ∧ cs[k]? = some (.ref g) ∧ ic[k]? = some (.ref u) ∧ LookAt P H q m (runS row (ss.take k)).1 (runS row (ss.take k)).2 ∧ H g = some (.tup s.tup) ∧ s.at H u
theorem Hi24.nil (P : Addr → Prop) (H : Hp) (m : Int) (row : List Int) : Hi24 P H m row [] [] [] [] := ⟨OkR.nil _, rfl, rfl, rfl, fun k s e => by simp at e⟩
theorem Hi24.keep {P : Addr → Prop} {H H' : Hp} {m : Int} {row : List Int} {ss : List Stp} {lk cs ic : List V} (h : Hi24 P H m row ss lk cs ic) (s : Kp P H H') (t : KT H H') : Hi24 P H' m row ss lk cs ic :=
  ⟨h.ok, h.l1, h.l2, h.l3, fun k st e => by
    obtain ⟨q, g, u, e1, e2, e3, h1, h2, h3⟩ := h.hi k st e
    exact ⟨q, g, u, e1, e2, e3, h1.keep s, t _ _ h2, Stp.at_kt h3 t⟩⟩
theorem Hi24.push {P : Addr → Prop} {H : Hp} {m : Int} {row : List Int} {ss : List Stp} {lk cs ic : List V} {s : Stp} {q g u : Addr} (h : Hi24 P H m row ss lk cs ic) (o : s.ok (runS row ss)) (r : s.inR row.length) (hq : LookAt P H q m (runS row ss).1 (runS row ss).2) (hg : H g = some (.tup s.tup)) (hu : s.at H u) :
    Hi24 P H m row (ss ++ [s]) (lk ++ [.ref q]) (cs ++ [.ref g]) (ic ++ [.ref u]) := by
  refine ⟨h.ok.snoc o r, by simp [h.l1], by simp [h.l2], by simp [h.l3], fun k st e => ?_⟩
  by_cases hk : k < ss.length
  · rw [List.getElem?_append_left hk] at e
    obtain ⟨q', g', u', e1, e2, e3, x1, x2, x3⟩ := h.hi k st e
    rw [List.take_append_of_le_length (by omega)]
    exact ⟨q', g', u', by rw [List.getElem?_append_left (by rw [h.l1]; exact hk)]; exact e1, by rw [List.getElem?_append_left (by rw [h.l2]; exact hk)]; exact e2, by rw [List.getElem?_append_left (by rw [h.l3]; exact hk)]; exact e3, x1, x2, x3⟩
  · have hk2 : k = ss.length := by
      have := (List.getElem?_eq_some_iff.mp e).1
      rw [List.length_append, List.length_singleton] at this
      omega
    subst hk2
    rw [List.getElem?_append_right (Nat.le_refl _), Nat.sub_self] at e
    cases e
    rw [List.take_left]
    refine ⟨q, g, u, ?_, ?_, ?_, hq, hg, hu⟩
    · rw [← h.l1, List.getElem?_append_right (Nat.le_refl _), Nat.sub_self]
      rfl
    · rw [← h.l2, List.getElem?_append_right (Nat.le_refl _), Nat.sub_self]
      rfl
    · rw [← h.l3, List.getElem?_append_right (Nat.le_refl _), Nat.sub_self]
      rfl
/-- the last of the calls -/
theorem Hi24.pull {P : Addr → Prop} {H : Hp} {m : Int} {row : List Int} {ss : List Stp} {lk cs ic : List V} (h : Hi24 P H m row ss lk cs ic) (ne : ss ≠ []) : ∃ (ss0 : List Stp) (s : Stp) (lk0 cs0 ic0 : List V) (q g u : Addr), ss = ss0 ++ [s] ∧ lk = lk0 ++ [.ref q] ∧ cs = cs0 ++ [.ref g] ∧ ic = ic0 ++ [.ref u] ∧ Hi24 P H m row ss0 lk0 cs0 ic0 ∧
    s.ok (runS row ss0) ∧ s.inR row.length ∧ LookAt P H q m (runS row ss0).1 (runS row ss0).2 ∧ H g = some (.tup s.tup) ∧ s.at H u := by
  have es := List.dropLast_concat_getLast ne
  generalize ss.getLast ne = s at es
  generalize ss.dropLast = ss0 at es
  subst es
  have last : ∀ {xs : List V} {v : V}, xs.length = (ss0 ++ [s]).length → xs[ss0.length]? = some v → xs = xs.dropLast ++ [v] ∧ xs.dropLast.length = ss0.length := fun {xs v} l e => by
    rw [List.length_append, List.length_singleton] at l
    have ne : xs ≠ [] := fun z => by rw [z] at l; simp at l
    have e2 := List.dropLast_concat_getLast ne
    have e3 : xs.getLast ne = v := by
      rw [List.getLast_eq_getElem]
      have := (List.getElem?_eq_some_iff.mp e).2
      rw [← this]
      congr 1
      omega
    rw [e3] at e2
    exact ⟨e2.symm, by rw [List.length_dropLast]; omega⟩
  obtain ⟨ok0, o, r⟩ := h.ok.init
  obtain ⟨q, g, u, e1, e2, e3, x1, x2, x3⟩ := h.hi ss0.length s (by rw [List.getElem?_append_right (Nat.le_refl _), Nat.sub_self]; rfl)
  rw [List.take_left] at x1
  obtain ⟨f1, g1⟩ := last h.l1 e1
  obtain ⟨f2, g2⟩ := last h.l2 e2
  obtain ⟨f3, g3⟩ := last h.l3 e3
  refine ⟨ss0, s, _, _, _, q, g, u, rfl, f1, f2, f3, ⟨ok0, g1, g2, g3, fun k st e => ?_⟩, o, r, x1, x2, x3⟩
  have hk := (List.getElem?_eq_some_iff.mp e).1
  obtain ⟨q', g', u', d1, d2, d3, y1, y2, y3⟩ := h.hi k st (by rw [List.getElem?_append_left hk]; exact e)
  rw [List.take_append_of_le_length (by omega)] at y1
  rw [f1, List.getElem?_append_left (by omega)] at d1
  rw [f2, List.getElem?_append_left (by omega)] at d2
  rw [f3, List.getElem?_append_left (by omega)] at d3
  exact ⟨q', g', u', d1, d2, d3, y1, y2, y3⟩
/-- the data of a call as the law writes it -/
def Stp.dat : Stp → PyData
  | .tl z => .tuple [.str "tell", .int z]
  | .ex i j => .tuple [.str "exchange", .int (i : Int), .int (j : Int)]
theorem strOk_tell : PyData.strOk "tell" = true := by decide +kernel
theorem strOk_exch : PyData.strOk "exchange" = true := by decide +kernel
theorem stp_lay : ∀ ss : List Stp, PyData.canLayAll0 (ss.map Stp.dat) = true ∧ PyData.depthAll (ss.map Stp.dat) ≤ 1
  | [] => by simp [PyData.canLayAll0, PyData.depthAll]
  | s :: r => by
    obtain ⟨h1, h2⟩ := stp_lay r
    have t1 := strOk_tell
    have t2 := strOk_exch
    cases s with
    | tl z =>
      simp [Stp.dat, PyData.canLayAll0, PyData.depthAll, PyData.canLay0, PyData.depth, h1, t1]
      omega
    | ex i j =>
      simp [Stp.dat, PyData.canLayAll0, PyData.depthAll, PyData.canLay0, PyData.depth, h1, t2]
      omega
theorem shaped_stps (ss : List Stp) : SeqAt.shaped (.list (ss.map Stp.dat)) = true := by
  obtain ⟨h1, h2⟩ := stp_lay ss
  simp [SeqAt.shaped, PyData.canLay0, PyData.depth, h1]
  omega
theorem dpAll_of {K : PySem.W.Frag} {H : Hp} : ∀ {xs : List V} {ds : List PyData}, xs.length = ds.length → (∀ (k : Nat) x d, xs[k]? = some x → ds[k]? = some d → Dp K H x d) → DpAll K H xs ds
  | [], [], _, _ => .nil
  | x :: r, d :: t, l, h => .cons (h 0 x d rfl rfl) (dpAll_of (by simpa using l) fun k y e h1 h2 => h (k + 1) y e (by simpa using h1) (by simpa using h2))
theorem calls_ne {K : PySem.W.Frag} {P : Addr → Prop} {H : Hp} {m : Int} {row : List Int} {ss : List Stp} {lk cs ic : List V} {D2 F : Addr} {Q : VK} (h : Hi24 P H m row ss lk cs ic) (h2 : H D2 = some (.lst cs)) (hF : H F = some (.lst [])) (q : Q (.bl (!decide (ss = []))) H) : rNeD K (.ref D2) (.ref F) H Q := by
  refine ⟨_, _, .lst (.inl (.inl h2)) (dpAll_of (ds := ss.map Stp.dat) (by rw [List.length_map, h.l2]) fun k x d e1 e2 => ?_), .lst (.inl (.inl hF)) .nil, shaped_stps ss, shaped_nil, ?_⟩
  · rw [List.getElem?_map] at e2
    obtain ⟨s, es, rfl⟩ := Option.map_eq_some_iff.mp e2
    obtain ⟨q, g, u, _, f2, _, _, hg, _⟩ := h.hi k s es
    rw [e1] at f2
    cases f2
    cases s with
    | tl z => exact .tup (.inl (.inl hg)) (.cons (.str _) (.cons (.int _) .nil))
    | ex i j => exact .tup (.inl (.inl hg)) (.cons (.str _) (.cons (.int _) (.cons (.int _) .nil)))
  · rw [eqv_nil, show decide (ss.map Stp.dat = []) = decide (ss = []) from by rw [decide_eq_decide]; exact List.map_eq_nil_iff]
    exact q
theorem last_of {xs : List V} {v : V} : (xs ++ [v])[(xs ++ [v]).length - 1]? = some v := by
  rw [List.length_append, List.length_singleton, Nat.add_sub_cancel, List.getElem?_append_right (Nat.le_refl _), Nat.sub_self]
  rfl
theorem Stp.first (s : Stp) : atI s.tup 0 = some (.str s.nm) := by
  cases s <;> rfl
theorem LookAt.add {P Q : Addr → Prop} {H : Hp} {q : Addr} {m : Int} {turns told : List Int} (h : LookAt P H q m turns told) (n : ∀ d, Q d → P d ∨ H d = none) : LookAt Q H q m turns told := by
  obtain ⟨r, w, t, v, h1, h2, h3, h4, h5, n1, n2, n3, n4⟩ := h
  have g : ∀ {d : Addr} {o : HO}, H d = some o → ¬ P d → ¬ Q d := fun {d o} e np qd => (n d qd).elim np fun z => by rw [z] at e; cases e
  exact ⟨r, w, t, v, h1, h2, h3, h4, h5, g h1 n1, g h2 n2, g h3 n3, g h4 n4⟩
/-- the twin, the calls gone through again, the last look -/
structure Tw24 (K : PySem.W.Frag) (P : Addr → Prop) (m : Int) (row : List Int) (ss : List Stp) (p2 T2 W2 L2 D3 ql : Addr) (H : Hp) : Prop where
  D : TblAt K H p2 T2 W2 L2 m (runS row ss).1 (runS row ss).2 []
  np : ¬ P p2
  nT : ¬ P T2
  nW : ¬ P W2
  nL : ¬ P L2
  n3 : ¬ P D3
  d3 : ∃ cs, H D3 = some (.lst cs) ∧ cs.length = ss.length ∧ ∀ (k : Nat) (s : Stp), ss[k]? = some s → ∃ g, cs[k]? = some (.ref g) ∧ H g = some (.tup s.tup)
  ll : LookAt (fun d => P d ∨ d = p2 ∨ d = W2 ∨ d = L2) H ql m (runS row ss).1 (runS row ss).2
section
variable {K : PySem.W.Frag} {P : Addr → Prop} {m : Int} {row : List Int} {ss : List Stp} {p2 T2 W2 L2 D3 ql : Addr} {H H' : Hp}
theorem Tw24.keep (h : Tw24 K P m row ss p2 T2 W2 L2 D3 ql H) (s : Kp P H H') (t : KT H H') : Tw24 K P m row ss p2 T2 W2 L2 D3 ql H' := by
  obtain ⟨cs, e, l, g⟩ := h.d3
  refine ⟨h.D.keepP s h.np h.nT h.nW h.nL, h.np, h.nT, h.nW, h.nL, h.n3, ⟨cs, s _ _ h.n3 e, l, fun k st ek => ?_⟩, h.ll.keep (s.mono fun c z => .inl z)⟩
  obtain ⟨x, e1, e2⟩ := g k st ek
  exact ⟨x, e1, t _ _ e2⟩
theorem Tw24.same (h : Tw24 K P m row ss p2 T2 W2 L2 D3 ql H) (s : Same H H') : Tw24 K P m row ss p2 T2 W2 L2 D3 ql H' := h.keep (.same s) (fun c xs e => s _ _ e)
theorem Tw24.al (h : Tw24 K P m row ss p2 T2 W2 L2 D3 ql H) (a : ∀ d, P d → H d ≠ none) : ∀ d, (P d ∨ d = p2 ∨ d = W2 ∨ d = L2) → H d ≠ none := fun d q e => by
  rcases q with q | rfl | rfl | rfl
  · exact a d q e
  · obtain ⟨dx, o⟩ := h.D.ob
    rw [e] at o
    cases o
  · have o := h.D.td
    rw [e] at o
    cases o
  · have o := h.D.cl
    rw [e] at o
    cases o
end
end Ly

/-! ### a method that may raise, with its one keyword-only name written -/
namespace Ly
open PySem PySem.Spec PyProof.Rows L2 RZ
theorem takesF {X : Cx} : L2N.Takes X (fun _ _ _ _ => False) := fun _ _ ⟨_, _, _, _, _, _, _, _, _, _, _, _, _, _, _, _, w⟩ => w.elim
structure CalMKX (P : Program) (w : World) (K : PySem.W.Frag) (mg : Str → Option Value) (base : Heap) (k : Nat) (C : Addr) (m : Str) (ps : List Str) (sp : Sp) (n : Nat) (kw : Str) : Prop where
  ex : ∃ f fd, FnOk P w K mg base (L2N.CX P w) k f fd ps sp ∧ Meth K C m f ∧ KBn K fd ps n [kw] (fun us ws => us ++ ws) (fun vs zs => vs ++ zs)
theorem AtM.calKX {P : Program} {w : World} {K : PySem.W.Frag} {mg : Str → Option Value} {base : Heap} {C : Addr} {m q kw : Str} {st : Stmt} {N ps : List Str} {k n : Nat} {sp : Sp} {kws : List (Str × V)} (F : AtM K C m q st kws) (S : FnScope N ps (defScope st))
    (hb : ∀ (kV doc pm : Value) (an : Option Addr) (cdv ct : Value) (us ws : List Value), us.length = n → ws.length = 1 → bindArgs (PySem.W.fnOf m q (defArgs st) (defBody st) (defScope st) .none kV doc pm an cdv ct) ⟨us, [kw].zip ws⟩ = pure (ps.zip (us ++ ws)))
    (len : ∀ vs H Q E, sp vs H Q E → vs.length = ps.length)
    (hbody : ∀ (cdv : Value) (A : Around) (outer : List Env) (s : Shared) (H : Hp) (vs : List V) (Q : VK) (E : XK) (f : Addr), Room k (A.deeper (envOfC q (defScope st) s.heap.objs.size f cdv)) → sp vs H Q E →
      ∃ t, PSs (cxOf (L2N.CX P w) P w K mg base N q (defScope st) f cdv A outer s H E) (defBody st) t ∧ t { nx := fun _ H' => Q .non H', rt := Q } (L2.start N vs) H) : CalMKX P w K mg base (k + 1) C m ps sp n kw := by
  obtain ⟨f, fd, F, mm⟩ := F.ex
  refine ⟨f, fd, F.ok (CX := L2N.CX P w) S len fun cdv A outer s H vs Q E hr h => hbody cdv A outer s H vs Q E f hr h, mm, ⟨fun s us ws _ hl hw => ?_, fun r1 r2 => r1.append r2⟩⟩
  obtain ⟨oc, od, dV, kV, doc, pm, an, cdv, ct, osl, rfl, lk, hcd, hD, hK⟩ := F.ex
  rcases hD with ⟨_, rfl⟩ | ⟨e, _⟩
  · exact .of_eq (hb kV doc pm an cdv ct us ws hl hw)
  · exact absurd rfl e
def tMethNS (C : Addr) (m : Str) (n : Nat) (sp : Sp) (E : L2.St → XK) (ta : TE) (t tk : TA) : TE := fun σ H Q => ta σ H fun x H1 => ∃ a dx fs, x = .ref a ∧ H1 a = some (.ins C dx fs) ∧ fs.lookup m = none ∧
  t σ H1 fun vs H2 => tk σ H2 fun zs H3 => (x :: vs).length = n ∧ zs.length = 1 ∧ sp ((x :: vs) ++ zs) H3 Q (E σ)
section
variable {X : Cx} {j k n : Nat} {C : Addr} {m kw : Str} {ps : List Str} {sp : Sp} {pos apos : Pos} {o e : Expr} {es : List Expr} {t tk : TA} {ta : TE} {kws : List Keyword} {W : WX}
theorem run_fnNS {CX : CXT} {f : Addr} {fd : FuncData} {ks : List Str} {g : List Value → List Value → List Value} {gV : List V → List V → List V} {E : L2.St → XK} {pins : List (Addr × Obj)} {σ : L2.St} {H : Hp} {s : Shared} {Q : VK} {us ws : List Value} {vs zs : List V} (F : FnOk X.prog X.w X.K X.mg X.base CX k f fd ps sp) (hr : Room k X.A) (hb : KBn X.K fd ps n ks g gV) (hx : ∀ σ, PassesAt CX X σ (E σ))
    (I : Inv X pins σ H s) (r : Vals vs us) (rz : Vals zs ws) (l1 : vs.length = n) (l2 : zs.length = ks.length) (h : sp (gV vs zs) H Q (E σ)) : wpAny (model X.prog X.w) X.A (call (.ref f) us (ks.zip ws)) (EP X pins σ Q) X.xe s := by
  have r2 := hb.rel r rz
  refine wpAny_call (codeAny_mono (F.run X.A X.stack s H ⟨us, ks.zip ws⟩ (g us ws) (gV vs zs) Q (E σ) hr I.env0 (hb.to s us ws I.kIn (r.length.symm.trans l1) (rz.length.symm.trans l2)) r2 h) fun r s' hq => ?_)
  match r, hq with
  | .error x, g => exact hx σ pins H s x s' I g
  | .ok (.ret u), g => exact I.after g
theorem pe_mthKX {pl : Sem Bool} (he : PE X o ta) (c : Cls X.K C) (F : CalMKX X.prog X.w X.K X.mg X.base j C m ps sp n kw) (hr : Room k X.A) (hj : j ≤ k) (tkk : L2N.Takes X W) (ha : PA X (e :: es) t) (hkw : PK X kws tk)
    (hall : (backToKw pos (keywordEach kws X.env)).all (·.1.isSome) = true := by rfl) (hks : (backToKw pos (keywordEach kws X.env)).filterMap (·.1) = [kw] := by rfl)
    (hst : starEach (e :: es) X.env = (false, eval e X.env) :: starEach es X.env := by rfl)
    (hpl : ((backTo pos (starEach (e :: es) X.env)).any (·.1) || (backToKw pos (keywordEach kws X.env)).any (·.1.isNone)) = false := by rfl)
    (ht : eval (.Call (.Attribute o m apos) (e :: es) kws pos) X.env = (do
      let ov ← eval o X.env
      standAt apos.atName
      let (f, first) ← holding [ov] (getMethod ov m pl)
      callWith pos f first (backTo pos (starEach (e :: es) X.env)) (backToKw pos (keywordEach kws X.env))) := by rfl) :
    PE X (.Call (.Attribute o m apos) (e :: es) kws pos) (tMethNS C m n sp (WE W) ta t tk) := ⟨fun pins s σ H Q I h => by
  obtain ⟨f, fd, G, hm, b⟩ := F.ex
  refine PySem.W.methodCall_KW (pl := pl) (thn (he.run pins s σ H _ I h) fun u s1 g => ?_) ht
  obtain ⟨x, H1, I1, rx, a, dx, fs, rfl, ea, l, q⟩ := g
  obtain rfl : u = Value.ref a := rx
  refine getmeth_ok I1 ea c hm l (PySem.W.callWith_KW (first := [.ref a]) (h₀ := X.base) I.ok.mod.kin hm.kp hall (thn (ha.run pos pins s1 σ H1 _ I1 q) fun us s2 g => ?_) hpl hst)
  obtain ⟨vs, H2, I2, r, q2⟩ := g
  refine thn (hkw.run pos pins s2 σ H2 _ I2 q2) fun ws s3 g => ?_
  obtain ⟨zs, H3, I3, rz, l1, l2, q3⟩ := g
  refine ⟨I3.kIn, ?_⟩
  rw [hks]
  exact run_fnNS (us := .ref a :: us) (vs := .ref a :: vs) G (hr.mono hj) b (fun σ => L2N.passAt tkk σ) I3 (.cons rfl r) rz l1 l2 q3⟩
end
theorem kit_non_int : kitB "NoneType" "int" = some false := by decide +kernel
theorem kit_str_int : kitB "str" "int" = some false := by decide +kernel
theorem kit_lst_int : kitB "list" "int" = some false := by decide +kernel
theorem kit_tup_int : kitB "tuple" "int" = some false := by decide +kernel
theorem dpAll_rep {K : PySem.W.Frag} {H : Hp} {d : PyData} : ∀ {k : Nat} {xs : List V}, xs.length = k → (∀ x ∈ xs, Dp K H x d) → DpAll K H xs (List.replicate k d)
  | 0, [], _, _ => .nil
  | k + 1, x :: r, l, h => .cons (h x List.mem_cons_self) (dpAll_rep (by simpa using l) fun y hy => h y (List.mem_cons_of_mem _ hy))
section
variable {K : PySem.W.Frag} {H : Hp} {a b : Addr} {xs ys : List V}
theorem wh_non : Wh K H .non false := .no (.base .non) kit_non_int fun _ => V.noConfusion
theorem wh_str {z : Str} : Wh K H (.str z) false := .no (.base (.str z)) kit_str_int fun _ => V.noConfusion
theorem wh_lst (e : H a = some (.lst xs)) : Wh K H (.ref a) false := .no (.base (.lst e)) kit_lst_int fun _ => V.noConfusion
theorem wh_tup (e : H a = some (.tup xs)) : Wh K H (.ref a) false := .no (.base (.tup e)) kit_tup_int fun _ => V.noConfusion
/-- two lists of refusals of the same kind -/
theorem rfds_ne {n : Int} {k : Nat} {Q : VK} (ha : SqL K H a xs) (hb : SqL K H b ys) (lx : xs.length = k) (ly : ys.length = k) (hk : k ≤ 30) (hx : ∀ j, j < k → ∃ u, xs[j]? = some (.ref u) ∧ H u = some (.tup [.str "refused", .int n]))
    (hy : ∀ j, j < k → ∃ u, ys[j]? = some (.ref u) ∧ H u = some (.tup [.str "refused", .int n])) (q : Q (.bl false) H) : rNeD K (.ref a) (.ref b) H Q := by
  have dp : ∀ {xs : List V}, xs.length = k → (∀ j, j < k → ∃ u, xs[j]? = some (.ref u) ∧ H u = some (.tup [.str "refused", .int n])) → DpAll K H xs (List.replicate k (PyData.tuple [.str "refused", .int n])) := fun {xs} l h => by
    refine dpAll_rep l fun x hx => ?_
    obtain ⟨j, hj, e⟩ := List.getElem_of_mem hx
    obtain ⟨u, e1, e2⟩ := h j (by omega)
    rw [List.getElem?_eq_getElem hj, e] at e1
    cases e1
    exact .tup (.inl (.inl e2)) (.cons (.str _) (.cons (.int _) .nil))
  have sh : SeqAt.shaped (.list (List.replicate k (PyData.tuple [.str "refused", .int n]))) = true := by
    have h : PyData.strOk "refused" = true := by decide +kernel
    have lay : ∀ j : Nat, PyData.canLayAll0 (List.replicate j (PyData.tuple [.str "refused", .int n])) = true ∧ PyData.depthAll (List.replicate j (PyData.tuple [.str "refused", .int n])) ≤ 1 := fun j => by
      induction j with
      | zero => simp [PyData.canLayAll0, PyData.depthAll]
      | succ j ih =>
        rw [List.replicate_succ]
        simp [PyData.canLayAll0, PyData.depthAll, PyData.canLay0, PyData.depth, h, ih.1]
        have := ih.2
        omega
    obtain ⟨h1, h2⟩ := lay k
    simp [SeqAt.shaped, PyData.canLay0, PyData.depth, h1]
    omega
  refine ⟨_, _, .lst ha (dp lx hx), .lst hb (dp ly hy), sh, sh, ?_⟩
  rw [SeqAt.eqv_refl _ (SeqAt.canLay_of_shaped sh)]
  exact q
end
theorem newO {H : Hp} {p : Addr} (o : HO) (n : H p = none) : ∃ H', upd H p o = H' ∧ Same H H' ∧ H' p = some o := ⟨_, rfl, same_new n, upd_same⟩
section
variable {K : PySem.W.Frag} {H H' : Hp} {p T W L : Addr} {m : Int} {turns told : List Int} {calls : List V}
theorem TblAt.ktW (D : TblAt K H p T W L m turns told calls) (k : ∀ c o, c ≠ W → c ≠ L → H c = some o → H' c = some o) : KT H H' := fun c xs e =>
  k c _ (fun z => by rw [z, D.td] at e; cases e) (fun z => by rw [z, D.cl] at e; cases e) e
theorem TblAt.ktX (D : TblAt K H p T W L m turns told calls) (k : ∀ c o, c ≠ p → c ≠ L → H c = some o → H' c = some o) : KT H H' := fun c xs e =>
  k c _ (fun z => by obtain ⟨dx, o⟩ := D.ob; rw [z, o] at e; cases e) (fun z => by rw [z, D.cl] at e; cases e) e
theorem TblAt.ktP (D : TblAt K H p T W L m turns told calls) (k : Kp (fun d => d = p ∨ d = W ∨ d = L) H H') : KT H H' := fun c xs e =>
  k c _ (fun z => by
    rcases z with rfl | rfl | rfl
    · obtain ⟨dx, o⟩ := D.ob
      rw [o] at e
      cases e
    · rw [D.td] at e
      cases e
    · rw [D.cl] at e
      cases e) e
end
theorem KT.same {H H' : Hp} (s : Same H H') : KT H H' := fun c xs e => s _ _ e
theorem strs_lay : ∀ {ss : List Str}, (∀ z ∈ ss, PyData.strOk z = true) → PyData.canLayAll0 (ss.map PyData.str) = true ∧ PyData.depthAll (ss.map PyData.str) ≤ 1
  | [], _ => by simp [PyData.canLayAll0, PyData.depthAll]
  | z :: r, h => by
    obtain ⟨h1, h2⟩ := strs_lay (ss := r) fun y hy => h y (List.mem_cons_of_mem _ hy)
    have h0 := h z List.mem_cons_self
    simp [PyData.canLayAll0, PyData.depthAll, PyData.canLay0, PyData.depth, h1, h0]
    omega
theorem dp_strs {K : PySem.W.Frag} {H : Hp} : ∀ ss : List Str, DpAll K H (ss.map V.str) (ss.map PyData.str)
  | [] => .nil
  | z :: r => .cons (.str z) (dp_strs r)
theorem strs_eq {K : PySem.W.Frag} {H : Hp} {a b : Addr} {ss : List Str} {Q : VK} (ha : SqL K H a (ss.map V.str)) (hb : SqL K H b (ss.map V.str)) (ok : ∀ z ∈ ss, PyData.strOk z = true) (q : Q (.bl true) H) : rEqD K (.ref a) (.ref b) H Q := by
  have sh : SeqAt.shaped (.list (ss.map PyData.str)) = true := by
    obtain ⟨h1, h2⟩ := strs_lay ok
    simp [SeqAt.shaped, PyData.canLay0, PyData.depth, h1]
    omega
  refine ⟨_, _, .lst ha (dp_strs ss), .lst hb (dp_strs ss), sh, sh, ?_⟩
  rw [SeqAt.eqv_refl _ (SeqAt.canLay_of_shaped sh)]
  exact q
end Ly

/-! one answer of a reading; all that answer themselves -/
local macro_rules | `(tactic| walk_at "ar") => `(tactic| first | decide | omega | (simp only [List.length_map, List.length_append, List.length_cons, List.length_nil] <;> omega))
local macro_rules | `(tactic| walk_at "rd1") => `(tactic| first
  | (refine ⟨_, rfl, ?_⟩)
  | (refine ⟨_, _, rfl, rfl, ?_⟩)
  | (refine ⟨_, _, rfl, .inl (by assumption), ?_⟩)
  | (refine ⟨_, _, rfl, .inr (by assumption), ?_⟩)
  | (refine ⟨_, _, _, _, rfl, rfl, (by assumption), Ly.at_intI (by walk_at "ar") (by walk_at "ar"), ?_⟩)
  | (refine ⟨_, _, (rfl : [L2.V.int _, L2.V.int _] = [L2.V.int _, L2.V.int _]), ?_⟩)
  | (refine And.intro rfl ?_)
  | (refine And.intro (by walk_at "ar") ?_)
  | (refine And.intro (And.intro (by walk_at "ar") (by walk_at "ar")) ?_)
  | (refine And.intro (Or.inr (And.intro (by decide) (by decide))) ?_)
  | (refine And.intro (Or.inl (And.intro (by decide) (by decide))) ?_))
local macro_rules | `(tactic| walk_at "rd") => `(tactic| repeat (walk_at "rd1"))

namespace Ev
open PySem PySem.Spec PyProof.Rows L2 RZ Ly
def topS (i : Nat) : Stmt := PySem.Challenge.pw_evenrows_k25_tables_refused.main.body.getD i (.Pass ⟨0, 0, 0, 0⟩)
abbrev S_is_whole : Stmt := topS 22
theorem sc_is_whole : FnScope ["thing"] ["thing"] (defScope S_is_whole) := ⟨rfl, rfl, rfl, by decide +kernel, rfl, by decide +kernel, by decide +kernel⟩
abbrev S_is_from_to : Stmt := topS 23
theorem sc_is_from_to : FnScope ["thing", "least", "most"] ["thing", "least", "most"] (defScope S_is_from_to) := ⟨rfl, rfl, rfl, by decide +kernel, rfl, by decide +kernel, by decide +kernel⟩
abbrev S_check_hands : Stmt := topS 26
theorem sc_check_hands : FnScope ["hands"] ["hands"] (defScope S_check_hands) := ⟨rfl, rfl, rfl, by decide +kernel, rfl, by decide +kernel, by decide +kernel⟩
abbrev S_is_hand : Stmt := topS 24
theorem sc_is_hand : FnScope ["hands", "thing"] ["hands", "thing"] (defScope S_is_hand) := ⟨rfl, rfl, rfl, by decide +kernel, rfl, by decide +kernel, by decide +kernel⟩
abbrev S_fits_row : Stmt := topS 25
theorem sc_fits_row : FnScope ["hands", "thing", "turn"] ["hands", "thing"] (defScope S_fits_row) := ⟨rfl, rfl, rfl, by decide +kernel, rfl, by decide +kernel, by decide +kernel⟩
abbrev S_check_row : Stmt := topS 27
theorem sc_check_row : FnScope ["hands", "row"] ["hands", "row"] (defScope S_check_row) := ⟨rfl, rfl, rfl, by decide +kernel, rfl, by decide +kernel, by decide +kernel⟩
abbrev S_Table___init__ : Stmt := inClass (topS 53) 0
theorem sc_Table___init__ : FnScope ["self", "hands", "row"] ["self", "hands", "row"] (defScope S_Table___init__) := ⟨rfl, rfl, rfl, by decide +kernel, rfl, by decide +kernel, by decide +kernel⟩
abbrev S_Table_next : Stmt := inClass (topS 53) 6
theorem sc_Table_next : FnScope ["self"] ["self"] (defScope S_Table_next) := ⟨rfl, rfl, rfl, by decide +kernel, rfl, by decide +kernel, by decide +kernel⟩
abbrev S_check_worth : Stmt := topS 29
theorem sc_check_worth : FnScope ["worth"] ["worth"] (defScope S_check_worth) := ⟨rfl, rfl, rfl, by decide +kernel, rfl, by decide +kernel, by decide +kernel⟩
abbrev S_Table_tell : Stmt := inClass (topS 53) 1
theorem sc_Table_tell : FnScope ["self", "worth", "hand"] ["self", "worth"] (defScope S_Table_tell) := ⟨rfl, rfl, rfl, by decide +kernel, rfl, by decide +kernel, by decide +kernel⟩
abbrev S_exchange_of : Stmt := topS 42
theorem sc_exchange_of : FnScope ["row", "one", "other", "line"] ["row", "one", "other"] (defScope S_exchange_of) := ⟨rfl, rfl, rfl, by decide +kernel, rfl, by decide +kernel, by decide +kernel⟩
abbrev S_Table_back : Stmt := inClass (topS 53) 9
theorem sc_Table_back : FnScope ["self", "name", "places"] ["self"] (defScope S_Table_back) := ⟨rfl, rfl, rfl, by decide +kernel, rfl, by decide +kernel, by decide +kernel⟩
abbrev S_check_two_places : Stmt := topS 33
theorem sc_check_two_places : FnScope ["row", "one", "other", "last"] ["row", "one", "other"] (defScope S_check_two_places) := ⟨rfl, rfl, rfl, by decide +kernel, rfl, by decide +kernel, by decide +kernel⟩
abbrev S_Table_exchange : Stmt := inClass (topS 53) 2
theorem sc_Table_exchange : FnScope ["self", "one", "other"] ["self", "one", "other"] (defScope S_Table_exchange) := ⟨rfl, rfl, rfl, by decide +kernel, rfl, by decide +kernel, by decide +kernel⟩
abbrev S_check_bound : Stmt := topS 32
theorem sc_check_bound : FnScope ["bound"] ["bound"] (defScope S_check_bound) := ⟨rfl, rfl, rfl, by decide +kernel, rfl, by decide +kernel, by decide +kernel⟩
abbrev S_check_lead_order : Stmt := topS 30
theorem sc_check_lead_order : FnScope ["order"] ["order"] (defScope S_check_lead_order) := ⟨rfl, rfl, rfl, by decide +kernel, rfl, by decide +kernel, by decide +kernel⟩
abbrev S_check_order_of : Stmt := topS 31
theorem sc_check_order_of : FnScope ["told", "order"] ["told", "order"] (defScope S_check_order_of) := ⟨rfl, rfl, rfl, by decide +kernel, rfl, by decide +kernel, by decide +kernel⟩
abbrev S_check_two_hands : Stmt := topS 28
theorem sc_check_two_hands : FnScope ["hands", "one", "other"] ["hands", "one", "other"] (defScope S_check_two_hands) := ⟨rfl, rfl, rfl, by decide +kernel, rfl, by decide +kernel, by decide +kernel⟩
abbrev S_differences_of : Stmt := topS 44
theorem sc_differences_of : FnScope ["worths", "order", "line", "_", "before", "after"] ["worths", "order"] (defScope S_differences_of) := ⟨rfl, rfl, rfl, by decide +kernel, rfl, by decide +kernel, by decide +kernel⟩
abbrev S_gone_on : Stmt := topS 46
theorem sc_gone_on : FnScope ["worths", "places", "order", "line", "step", "ends"] ["worths", "places", "order"] (defScope S_gone_on) := ⟨rfl, rfl, rfl, by decide +kernel, rfl, by decide +kernel, by decide +kernel⟩
abbrev S_sign_of : Stmt := topS 36
theorem sc_sign_of : FnScope ["turn", "one", "other"] ["turn", "one", "other"] (defScope S_sign_of) := ⟨rfl, rfl, rfl, by decide +kernel, rfl, by decide +kernel, by decide +kernel⟩
abbrev S_signs_of : Stmt := topS 35
theorem sc_signs_of : FnScope ["row", "one", "other", "turn"] ["row", "one", "other"] (defScope S_signs_of) := ⟨rfl, rfl, rfl, by decide +kernel, rfl, by decide +kernel, by decide +kernel⟩
abbrev S_running_sums : Stmt := topS 40
theorem sc_running_sums : FnScope ["line", "total", "found", "number"] ["line"] (defScope S_running_sums) := ⟨rfl, rfl, rfl, by decide +kernel, rfl, by decide +kernel, by decide +kernel⟩
abbrev S_sums_of : Stmt := topS 39
theorem sc_sums_of : FnScope ["line", "order", "found", "_"] ["line", "order"] (defScope S_sums_of) := ⟨rfl, rfl, rfl, by decide +kernel, rfl, by decide +kernel, by decide +kernel⟩
abbrev S_tails_of : Stmt := topS 48
theorem sc_tails_of : FnScope ["line", "order"] ["line", "order"] (defScope S_tails_of) := ⟨rfl, rfl, rfl, by decide +kernel, rfl, by decide +kernel, by decide +kernel⟩
abbrev S_foreseen_of : Stmt := topS 47
theorem sc_foreseen_of : FnScope ["row", "told", "one", "other", "order", "bound", "line", "worths", "straight", "reach", "sign", "worth", "tail"] ["row", "told", "one", "other", "order", "bound"] (defScope S_foreseen_of) := ⟨rfl, rfl, rfl, by decide +kernel, rfl, by decide +kernel, by decide +kernel⟩
abbrev S_Table_foresee : Stmt := inClass (topS 53) 8
theorem sc_Table_foresee : FnScope ["self", "one", "other", "order", "bound"] ["self", "one", "other", "order", "bound"] (defScope S_Table_foresee) := ⟨rfl, rfl, rfl, by decide +kernel, rfl, by decide +kernel, by decide +kernel⟩
abbrev S__law_which : Stmt := topS 56
theorem sc__law_which : FnScope ["_law_e", "_law_own"] ["_law_e"] (defScope S__law_which) := ⟨rfl, rfl, rfl, by decide +kernel, rfl, by decide +kernel, by decide +kernel⟩
abbrev S__law_ask : Stmt := topS 57
theorem sc__law_ask : FnScope ["_law_what", "_law_table", "_law_one", "_law_two", "_law_three", "_law_four", "_law_e"] ["_law_what", "_law_table", "_law_one", "_law_two", "_law_three", "_law_four"] (defScope S__law_ask) := ⟨rfl, rfl, rfl, by decide +kernel, rfl, by decide +kernel, by decide +kernel⟩
abbrev S_Table___eq__ : Stmt := inClass (topS 53) 11
theorem sc_Table___eq__ : FnScope ["self", "other"] ["self", "other"] (defScope S_Table___eq__) := ⟨rfl, rfl, rfl, by decide +kernel, rfl, by decide +kernel, by decide +kernel⟩
abbrev S_Table_row : Stmt := inClass (topS 53) 5
theorem sc_Table_row : FnScope ["self"] ["self"] (defScope S_Table_row) := ⟨rfl, rfl, rfl, by decide +kernel, rfl, by decide +kernel, by decide +kernel⟩
abbrev S_Table_worths : Stmt := inClass (topS 53) 4
theorem sc_Table_worths : FnScope ["self"] ["self"] (defScope S_Table_worths) := ⟨rfl, rfl, rfl, by decide +kernel, rfl, by decide +kernel, by decide +kernel⟩
abbrev S__law_same_truth : Stmt := topS 55
theorem sc__law_same_truth : FnScope ["_law_got", "_law_due"] ["_law_got", "_law_due"] (defScope S__law_same_truth) := ⟨rfl, rfl, rfl, by decide +kernel, rfl, by decide +kernel, by decide +kernel⟩
abbrev S__law_through : Stmt := topS 58
theorem sc__law_through : FnScope ["_law_table", "_law_other", "_law_worth", "_law_one", "_law_again"] ["_law_table"] (defScope S__law_through) := ⟨rfl, rfl, rfl, by decide +kernel, rfl, by decide +kernel, by decide +kernel⟩
abbrev S_law : Stmt := topS 59
theorem sc_law : FnScope ["_law_script", "_law_town", "_law_table", "_law_off", "_law_one", "_law_other"] ["_law_script"] (defScope S_law) := ⟨rfl, rfl, rfl, by decide +kernel, rfl, by decide +kernel, by decide +kernel⟩
/-- what the top has left, by names -/
structure Txt (K : PySem.W.Frag) (mg : Str → Option Value) : Prop where
  f_is_whole : At K mg "is_whole" S_is_whole []
  f_is_from_to : At K mg "is_from_to" S_is_from_to []
  f_check_hands : At K mg "check_hands" S_check_hands []
  f_is_hand : At K mg "is_hand" S_is_hand []
  f_fits_row : At K mg "fits_row" S_fits_row []
  f_check_row : At K mg "check_row" S_check_row []
  f_Table___init__ : AtI K (He.ga K "Table") "Table.__init__" S_Table___init__
  f_Table_next : AtM K (He.ga K "Table") "next" "Table.next" S_Table_next []
  f_check_worth : At K mg "check_worth" S_check_worth []
  f_Table_tell : AtM K (He.ga K "Table") "tell" "Table.tell" S_Table_tell []
  f_exchange_of : At K mg "exchange_of" S_exchange_of []
  f_Table_back : AtM K (He.ga K "Table") "back" "Table.back" S_Table_back []
  f_check_two_places : At K mg "check_two_places" S_check_two_places []
  f_Table_exchange : AtM K (He.ga K "Table") "exchange" "Table.exchange" S_Table_exchange []
  f_check_bound : At K mg "check_bound" S_check_bound []
  f_check_lead_order : At K mg "check_lead_order" S_check_lead_order []
  f_check_order_of : At K mg "check_order_of" S_check_order_of []
  f_check_two_hands : At K mg "check_two_hands" S_check_two_hands []
  f_differences_of : At K mg "differences_of" S_differences_of []
  f_gone_on : At K mg "gone_on" S_gone_on []
  f_sign_of : At K mg "sign_of" S_sign_of []
  f_signs_of : At K mg "signs_of" S_signs_of []
  f_running_sums : At K mg "running_sums" S_running_sums []
  f_sums_of : At K mg "sums_of" S_sums_of []
  f_tails_of : At K mg "tails_of" S_tails_of []
  f_foreseen_of : At K mg "foreseen_of" S_foreseen_of []
  f_Table_foresee : AtM K (He.ga K "Table") "foresee" "Table.foresee" S_Table_foresee [("bound", .int 1)]
  f__law_which : At K mg "_law_which" S__law_which []
  f__law_ask : At K mg "_law_ask" S__law_ask []
  f_Table___eq__ : AtM K (He.ga K "Table") "__eq__" "Table.__eq__" S_Table___eq__ []
  f_Table_row : AtM K (He.ga K "Table") "row" "Table.row" S_Table_row []
  f_Table_worths : AtM K (He.ga K "Table") "worths" "Table.worths" S_Table_worths []
  f__law_same_truth : At K mg "_law_same_truth" S__law_same_truth []
  f__law_through : At K mg "_law_through" S__law_through []
  tab : TabK K mg
  b_ValueError : mg "ValueError" = none
  b_abs : mg "abs" = none
  b_all : mg "all" = none
  b_bool : mg "bool" = none
  b_int : mg "int" = none
  b_isinstance : mg "isinstance" = none
  b_len : mg "len" = none
  b_list : mg "list" = none
  b_min : mg "min" = none
  b_range : mg "range" = none
  b_sum : mg "sum" = none
  b_tuple : mg "tuple" = none
  b_zip : mg "zip" = none
  k_FEWEST_HANDS : ∃ t, mg "FEWEST_HANDS" = some (.int (2) t)
  k_MOST_BOUND : ∃ t, mg "MOST_BOUND" = some (.int (99) t)
  k_MOST_HANDS : ∃ t, mg "MOST_HANDS" = some (.int (4) t)
  k_MOST_LEAD_ORDER : ∃ t, mg "MOST_LEAD_ORDER" = some (.int (4) t)
  k_MOST_PLACES : ∃ t, mg "MOST_PLACES" = some (.int (64) t)
  excs : Excs K mg
  tabq : TabQ K
section
variable {P : Program} {w : World} {K : PySem.W.Frag} {mg : Str → Option Value} {base : Heap}

/-! is_whole -/
def sp_is_whole (K : PySem.W.Frag) : Sp := fun vs H Q _ => ∃ (v : V) (b : Bool), vs = [v] ∧ Wh K H v b ∧ Q (.bl b) H
theorem c_is_whole (T : Txt K mg) : Cal P w K mg base 1 "is_whole" ["thing"] (sp_is_whole K) := by
  refine T.f_is_whole.cal sc_is_whole (fun _ _ _ _ _ _ us hl => match us, hl with | [_], _ => rfl) (fun vs H Q E h => by first | (obtain ⟨_, rfl, _⟩ := h; rfl) | (obtain ⟨_, _, rfl, _⟩ := h; rfl) | (obtain ⟨_, _, _, rfl, _⟩ := h; rfl) | (obtain ⟨_, _, _, _, rfl, _⟩ := h; rfl) | (obtain ⟨_, _, _, _, _, rfl, _⟩ := h; rfl) | (obtain ⟨_, _, _, _, _, _, rfl, _⟩ := h; rfl) | (obtain ⟨_, _, _, _, _, _, _, rfl, _⟩ := h; rfl) | (obtain ⟨_, _, _, _, _, _, _, _, rfl, _⟩ := h; rfl) | (obtain ⟨_, _, _, _, _, _, _, _, _, rfl, _⟩ := h; rfl) | (obtain ⟨_, _, _, _, _, _, _, _, _, _, rfl, _⟩ := h; rfl) | (obtain ⟨_, _, _, _, _, _, _, _, _, _, _, rfl, _⟩ := h; rfl) | (obtain ⟨_, _, _, _, _, _, _, _, _, _, _, _, rfl, _⟩ := h; rfl) | (obtain ⟨_, _, _, _, _, _, _, _, _, _, _, _, _, rfl, _⟩ := h; rfl)) (fun cdv A outer s H vs Q E f hr h => ?_)
  obtain ⟨v, b, rfl, hw, q⟩ := h
  refine ⟨_, (pss_one (ps_ret (pe_and (pe_callB (kz_isi (K := K)) (by rfl) T.b_isinstance bt_isinstance (pa_cons (pv 0) (pa_cons (pe_ty (by rfl) T.b_int bt_int) pa_nil))) (pe_one (pe_not (pe_callB (kz_isi (K := K)) (by rfl) T.b_isinstance bt_isinstance (pa_cons (pv 0) (pa_cons (pe_ty (by rfl) T.b_bool bt_bool) pa_nil)))))))), ?_⟩
  walk_at "rd"
  cases hw with
  | int i =>
    refine ⟨_, _, _, _, _, rfl, .ty _, .base (.int i), kit_ty kit_int_int, _, rfl, iteT ?_⟩
    walk_at "rd"
    exact ⟨_, _, _, _, _, rfl, .ty _, .base (.int i), kit_ty kit_int_bool, _, rfl, q⟩
  | bl b =>
    refine ⟨_, _, _, _, _, rfl, .ty _, .base (.bl b), kit_ty kit_bool_int, _, rfl, iteT ?_⟩
    walk_at "rd"
    exact ⟨_, _, _, _, _, rfl, .ty _, .base (.bl b), kit_ty kit_bool_bool, _, rfl, q⟩
  | no h k nb => exact ⟨_, _, _, _, _, rfl, .ty _, h, kit_ty k, _, rfl, iteF q⟩

/-! is_from_to -/
def sp_is_from_to (K : PySem.W.Frag) : Sp := fun vs H Q _ => ∃ (v : V) (lo hi : Int) (b : Bool), vs = [v, .int lo, .int hi] ∧ Wh K H v b ∧ Q (.bl (whB v lo hi)) H
theorem c_is_from_to (T : Txt K mg) : Cal P w K mg base 2 "is_from_to" ["thing", "least", "most"] (sp_is_from_to K) := by
  refine T.f_is_from_to.cal sc_is_from_to (fun _ _ _ _ _ _ us hl => match us, hl with | [_, _, _], _ => rfl) (fun vs H Q E h => by first | (obtain ⟨_, rfl, _⟩ := h; rfl) | (obtain ⟨_, _, rfl, _⟩ := h; rfl) | (obtain ⟨_, _, _, rfl, _⟩ := h; rfl) | (obtain ⟨_, _, _, _, rfl, _⟩ := h; rfl) | (obtain ⟨_, _, _, _, _, rfl, _⟩ := h; rfl) | (obtain ⟨_, _, _, _, _, _, rfl, _⟩ := h; rfl) | (obtain ⟨_, _, _, _, _, _, _, rfl, _⟩ := h; rfl) | (obtain ⟨_, _, _, _, _, _, _, _, rfl, _⟩ := h; rfl) | (obtain ⟨_, _, _, _, _, _, _, _, _, rfl, _⟩ := h; rfl) | (obtain ⟨_, _, _, _, _, _, _, _, _, _, rfl, _⟩ := h; rfl) | (obtain ⟨_, _, _, _, _, _, _, _, _, _, _, rfl, _⟩ := h; rfl) | (obtain ⟨_, _, _, _, _, _, _, _, _, _, _, _, rfl, _⟩ := h; rfl) | (obtain ⟨_, _, _, _, _, _, _, _, _, _, _, _, _, rfl, _⟩ := h; rfl)) (fun cdv A outer s H vs Q E f hr h => ?_)
  obtain ⟨v, lo, hi, b, rfl, hw, q⟩ := h
  refine ⟨_, (pss_one (ps_ret (pe_and (pe_cal (c_is_whole T) hr (by decide) (pa_cons (pv 0) pa_nil)) (pe_one (pe_chain op_le op_le (pv 1) (pv 0) (pv 2)))))), ?_⟩
  walk_at "rd"
  refine ⟨v, b, rfl, hw, _, rfl, ?_⟩
  rcases hw.cases_ with ⟨i, rfl, rfl⟩ | ⟨hv, rfl⟩
  · refine iteT ?_
    walk_at "rd"
    have e : whB (.int i) lo hi = (decide (lo ≤ i) && decide (i ≤ hi)) := Bool.decide_and ..
    rw [e] at q
    by_cases c : lo ≤ i
    · rw [decide_eq_true c] at q ⊢
      refine iteT ?_
      walk_at "rd"
      exact q
    · rw [decide_eq_false c] at q ⊢
      exact iteF q
  · rw [whB_no hv] at q
    exact iteF q

/-! check_hands -/
def sp_check_hands (K : PySem.W.Frag) : Sp := fun vs H Q _ => ∃ hands : Int, vs = [.int hands] ∧ 2 ≤ hands ∧ hands ≤ 4 ∧ Q .non H
theorem c_check_hands (T : Txt K mg) : Cal P w K mg base 3 "check_hands" ["hands"] (sp_check_hands K) := by
  refine T.f_check_hands.cal sc_check_hands (fun _ _ _ _ _ _ us hl => match us, hl with | [_], _ => rfl) (fun vs H Q E h => by first | (obtain ⟨_, rfl, _⟩ := h; rfl) | (obtain ⟨_, _, rfl, _⟩ := h; rfl) | (obtain ⟨_, _, _, rfl, _⟩ := h; rfl) | (obtain ⟨_, _, _, _, rfl, _⟩ := h; rfl) | (obtain ⟨_, _, _, _, _, rfl, _⟩ := h; rfl) | (obtain ⟨_, _, _, _, _, _, rfl, _⟩ := h; rfl) | (obtain ⟨_, _, _, _, _, _, _, rfl, _⟩ := h; rfl) | (obtain ⟨_, _, _, _, _, _, _, _, rfl, _⟩ := h; rfl) | (obtain ⟨_, _, _, _, _, _, _, _, _, rfl, _⟩ := h; rfl) | (obtain ⟨_, _, _, _, _, _, _, _, _, _, rfl, _⟩ := h; rfl) | (obtain ⟨_, _, _, _, _, _, _, _, _, _, _, rfl, _⟩ := h; rfl) | (obtain ⟨_, _, _, _, _, _, _, _, _, _, _, _, rfl, _⟩ := h; rfl) | (obtain ⟨_, _, _, _, _, _, _, _, _, _, _, _, _, rfl, _⟩ := h; rfl)) (fun cdv A outer s H vs Q E f hr h => ?_)
  obtain ⟨hands, rfl, h1, h2, q⟩ := h
  refine ⟨_, (pss_one (ps_if (pt_not (pt_val (pe_cal (c_is_from_to T) hr (by decide) (pa_cons (pv 0) (pa_cons (pe_kon T.k_FEWEST_HANDS) (pa_cons (pe_kon T.k_MOST_HANDS) pa_nil)))))) (pss_one ps_never) pss_nil)), ?_⟩
  walk_at "rd"
  refine ⟨.int hands, 2, 4, true, rfl, .int _, _, rfl, ?_⟩
  have e : whB (.int hands) 2 4 = true := decide_eq_true ⟨h1, h2⟩
  rw [e]
  exact iteF q

/-! is_hand -/
def sp_is_hand (K : PySem.W.Frag) : Sp := fun vs H Q _ => ∃ (v : V) (hands : Int) (b : Bool), vs = [.int hands, v] ∧ Wh K H v b ∧ Q (.bl (whB v 0 (hands - 1))) H
theorem c_is_hand (T : Txt K mg) : Cal P w K mg base 3 "is_hand" ["hands", "thing"] (sp_is_hand K) := by
  refine T.f_is_hand.cal sc_is_hand (fun _ _ _ _ _ _ us hl => match us, hl with | [_, _], _ => rfl) (fun vs H Q E h => by first | (obtain ⟨_, rfl, _⟩ := h; rfl) | (obtain ⟨_, _, rfl, _⟩ := h; rfl) | (obtain ⟨_, _, _, rfl, _⟩ := h; rfl) | (obtain ⟨_, _, _, _, rfl, _⟩ := h; rfl) | (obtain ⟨_, _, _, _, _, rfl, _⟩ := h; rfl) | (obtain ⟨_, _, _, _, _, _, rfl, _⟩ := h; rfl) | (obtain ⟨_, _, _, _, _, _, _, rfl, _⟩ := h; rfl) | (obtain ⟨_, _, _, _, _, _, _, _, rfl, _⟩ := h; rfl) | (obtain ⟨_, _, _, _, _, _, _, _, _, rfl, _⟩ := h; rfl) | (obtain ⟨_, _, _, _, _, _, _, _, _, _, rfl, _⟩ := h; rfl) | (obtain ⟨_, _, _, _, _, _, _, _, _, _, _, rfl, _⟩ := h; rfl) | (obtain ⟨_, _, _, _, _, _, _, _, _, _, _, _, rfl, _⟩ := h; rfl) | (obtain ⟨_, _, _, _, _, _, _, _, _, _, _, _, _, rfl, _⟩ := h; rfl)) (fun cdv A outer s H vs Q E f hr h => ?_)
  obtain ⟨v, hands, b, rfl, hw, q⟩ := h
  refine ⟨_, (pss_one (ps_ret (pe_cal (c_is_from_to T) hr (by decide) (pa_cons (pv 1) (pa_cons pe_int (pa_cons (pe_op op_sub (pv 0) pe_int) pa_nil)))))), ?_⟩
  walk_at "rd"
  exact ⟨v, 0, hands - 1, b, rfl, hw, q⟩

/-! fits_row -/
def fitsB (hands : Int) (xs : List V) : Bool := decide (1 ≤ xs.length ∧ xs.length ≤ 64) && xs.all fun x => whB x 0 (hands - 1)
theorem fitsB_row {hands : Int} {row : List Int} (h1 : row ≠ []) (h2 : row.length ≤ 64) (h3 : ∀ z ∈ row, 0 ≤ z ∧ z < hands) : fitsB hands (row.map V.int) = true := by
  have h1' : 0 < row.length := List.length_pos_iff.mpr h1
  unfold fitsB
  rw [Bool.and_eq_true]
  refine ⟨decide_eq_true (by rw [List.length_map]; omega), List.all_eq_true.mpr fun x hx => ?_⟩
  obtain ⟨z, hz, rfl⟩ := List.mem_map.mp hx
  have := h3 z hz
  exact decide_eq_true (by omega)
def sp_fits_row (K : PySem.W.Frag) : Sp := fun vs H Q _ => ∃ (hands : Int) (v : V), vs = [.int hands, v] ∧
  ((∃ n : String, TyX K H v (.type n) ∧ kitB n "tuple" = some false ∧ Q (.bl false) H) ∨
   ∃ (r : Addr) (xs : List V), v = .ref r ∧ SqT K H r xs ∧ xs.length ≤ 100000 ∧ (∀ x ∈ xs, ∃ b, ∀ H', Same H H' → Wh K H' x b) ∧ ∀ H', Same H H' → Q (.bl (fitsB hands xs)) H')
theorem c_fits_row (T : Txt K mg) : Cal P w K mg base 4 "fits_row" ["hands", "thing"] (sp_fits_row K) := by
  refine T.f_fits_row.cal sc_fits_row (fun _ _ _ _ _ _ us hl => match us, hl with | [_, _], _ => rfl) (fun vs H Q E h => by first | (obtain ⟨_, rfl, _⟩ := h; rfl) | (obtain ⟨_, _, rfl, _⟩ := h; rfl) | (obtain ⟨_, _, _, rfl, _⟩ := h; rfl) | (obtain ⟨_, _, _, _, rfl, _⟩ := h; rfl) | (obtain ⟨_, _, _, _, _, rfl, _⟩ := h; rfl) | (obtain ⟨_, _, _, _, _, _, rfl, _⟩ := h; rfl) | (obtain ⟨_, _, _, _, _, _, _, rfl, _⟩ := h; rfl) | (obtain ⟨_, _, _, _, _, _, _, _, rfl, _⟩ := h; rfl) | (obtain ⟨_, _, _, _, _, _, _, _, _, rfl, _⟩ := h; rfl) | (obtain ⟨_, _, _, _, _, _, _, _, _, _, rfl, _⟩ := h; rfl) | (obtain ⟨_, _, _, _, _, _, _, _, _, _, _, rfl, _⟩ := h; rfl) | (obtain ⟨_, _, _, _, _, _, _, _, _, _, _, _, rfl, _⟩ := h; rfl) | (obtain ⟨_, _, _, _, _, _, _, _, _, _, _, _, _, rfl, _⟩ := h; rfl)) (fun cdv A outer s H vs Q E f hr h => ?_)
  obtain ⟨hands, v, rfl, ⟨n, ht, hk, q⟩ | ⟨r, xs, rfl, hS, hl, hw, q⟩⟩ := h
  · refine ⟨_, (pss_cons (ps_if (pt_not (pt_val (pe_callB (kz_isi (K := K)) (by rfl) T.b_isinstance bt_isinstance (pa_cons (pv 1) (pa_cons (pe_ty (by rfl) T.b_tuple bt_tuple) pa_nil))))) (pss_one (ps_ret pe_bl)) pss_nil)
    (pss_cons (ps_if (pt_not (pt_chain op_le op_le pe_int (pe_callB (kz_len (K := K)) (by rfl) T.b_len bt_len (pa_cons (pv 1) pa_nil)) (pe_kon T.k_MOST_PLACES))) (pss_one (ps_ret pe_bl)) pss_nil)
    (pss_one (ps_ret (pe_callB (kz_all (K := K) rfl) (by rfl) T.b_all bt_all (pa_cons (pe_lc (own := [("turn", 2)]) (g := (gName 2)) (tt := tYes) rfl sc_fits_row.nd (kz_piT (K := K) (pv 1)) (blkOk_by (own := [("turn", 2)]) (N := ["hands", "thing", "turn"]) (sc := defScope S_fits_row) (by decide +kernel)) (fun _ _ _ _ _ => (pg_name (i := 2) sc_fits_row.nd rfl (.inl rfl))) (fun _ _ _ _ _ => pts_nil) (fun _ _ _ _ _ => (pe_cal (c_is_hand T) hr (by decide) (pa_cons (pv 0) (pa_cons (pv 2) pa_nil))))) pa_nil)))))), ?_⟩
    walk_at "rd"
    exact ⟨_, _, _, _, _, rfl, .ty _, ht, kit_ty hk, _, rfl, iteT q⟩
  · refine ⟨_, (pss_cons (ps_if (pt_not (pt_val (pe_callB (kz_isi (K := K)) (by rfl) T.b_isinstance bt_isinstance (pa_cons (pv 1) (pa_cons (pe_ty (by rfl) T.b_tuple bt_tuple) pa_nil))))) (pss_one (ps_ret pe_bl)) pss_nil)
    (pss_cons (ps_if (pt_not (pt_chain op_le op_le pe_int (pe_callB (kz_len (K := K)) (by rfl) T.b_len bt_len (pa_cons (pv 1) pa_nil)) (pe_kon T.k_MOST_PLACES))) (pss_one (ps_ret pe_bl)) pss_nil)
    (pss_one (ps_ret (pe_callB (kz_all (K := K) rfl) (by rfl) T.b_all bt_all (pa_cons (pe_lc (own := [("turn", 2)]) (g := (gName 2)) (tt := tYes) rfl sc_fits_row.nd (kz_piT (K := K) (pv 1)) (blkOk_by (own := [("turn", 2)]) (N := ["hands", "thing", "turn"]) (sc := defScope S_fits_row) (by decide +kernel)) (fun _ _ _ _ _ => (pg_name (i := 2) sc_fits_row.nd rfl (.inl rfl))) (fun _ _ _ _ _ => pts_nil) (fun _ _ _ _ _ => (pe_cal (c_is_hand T) hr (by decide) (pa_cons (pv 0) (pa_cons (pv 2) pa_nil))))) pa_nil)))))), ?_⟩
    walk_at "rd"
    refine ⟨_, _, _, _, _, rfl, .ty _, ty_tup hS, kit_ty kit_tup_tup, _, rfl, iteF ?_⟩
    have out : ∀ i, ((xs.map fun x => V.bl (whB x 0 (hands - 1))).take i).length ≤ xs.length := fun i => by
      rw [List.length_take, List.length_map]
      exact Nat.min_le_right _ _
    walk_at "rd"
    have fin : 1 ≤ xs.length ∧ xs.length ≤ 64 → tRet (tCB (rAll K) (tCons (tLc (iTup K (tVar 1)) (gName 2) tYes (tCall (sp_is_hand K) [] E0 (tCons (tVar 0) (tCons (tVar 2) tNil))) [2]) tNil)) { nx := fun _ H' => Q .non H', rt := Q } [some (.int hands), some (.ref r), none] H := fun c => by
      refine ⟨_, rfl, _, rfl, ⟨_, hS⟩, fun D nD => ?_⟩
      refine lcp walk_tup nD (fun i => (xs.map fun x => V.bl (whB x 0 (hands - 1))).take i) rfl (fun i _ => Nat.lt_of_le_of_lt (out i) (by omega)) (fun H2 s2 => seqT s2 hS) ?_ ?_
      · rintro i x H2 H' R N hi s2 ⟨rfl, hx⟩ k _
        refine ⟨rfl, ?_⟩
        walk_at "rd"
        obtain ⟨b, hb⟩ := hw x (List.mem_of_getElem? hx)
        refine ⟨x, hands, b, rfl, hb _ s2, k _ _ (L2.Same.refl _) ?_⟩
        rw [List.take_add_one, List.getElem?_map, hx]
        rfl
      · intro H2 s2 hD
        rw [List.take_of_length_le (by rw [List.length_map]; exact Nat.le_refl _)] at hD
        refine ⟨D, xs.map fun x => whB x 0 (hands - 1), rfl, ?_, ?_⟩
        · rw [List.map_map]
          exact .inl (.inl hD)
        · have e : fitsB hands xs = (xs.map fun x => whB x 0 (hands - 1)).all id := by
            unfold fitsB
            rw [decide_eq_true c, Bool.true_and, List.all_map]
            rfl
          rw [← e]
          exact q _ s2
    by_cases c1 : (1 : Int) ≤ (xs.length : Int)
    · rw [decide_eq_true c1]
      refine iteT ?_
      walk_at "rd"
      by_cases c2 : (xs.length : Int) ≤ 64
      · rw [decide_eq_true c2]
        exact iteF (fin ⟨by omega, by omega⟩)
      · rw [decide_eq_false c2]
        refine iteT ?_
        have e : fitsB hands xs = false := by
          unfold fitsB
          rw [decide_eq_false (by omega), Bool.false_and]
        rw [e] at q
        exact q _ (L2.Same.refl _)
    · rw [decide_eq_false c1]
      refine iteF ?_
      walk_at "rd"
      refine iteT ?_
      have e : fitsB hands xs = false := by
        unfold fitsB
        rw [decide_eq_false (by omega), Bool.false_and]
      rw [e] at q
      exact q _ (L2.Same.refl _)

/-! check_row -/
def sp_check_row (K : PySem.W.Frag) : Sp := fun vs H Q _ => ∃ (hands : Int) (r : Addr) (row : List Int), vs = [.int hands, .ref r] ∧ RowOk hands row ∧ SqT K H r (row.map V.int) ∧ ∀ H', Same H H' → Q .non H'
theorem c_check_row (T : Txt K mg) : Cal P w K mg base 5 "check_row" ["hands", "row"] (sp_check_row K) := by
  refine T.f_check_row.cal sc_check_row (fun _ _ _ _ _ _ us hl => match us, hl with | [_, _], _ => rfl) (fun vs H Q E h => by first | (obtain ⟨_, rfl, _⟩ := h; rfl) | (obtain ⟨_, _, rfl, _⟩ := h; rfl) | (obtain ⟨_, _, _, rfl, _⟩ := h; rfl) | (obtain ⟨_, _, _, _, rfl, _⟩ := h; rfl) | (obtain ⟨_, _, _, _, _, rfl, _⟩ := h; rfl) | (obtain ⟨_, _, _, _, _, _, rfl, _⟩ := h; rfl) | (obtain ⟨_, _, _, _, _, _, _, rfl, _⟩ := h; rfl) | (obtain ⟨_, _, _, _, _, _, _, _, rfl, _⟩ := h; rfl) | (obtain ⟨_, _, _, _, _, _, _, _, _, rfl, _⟩ := h; rfl) | (obtain ⟨_, _, _, _, _, _, _, _, _, _, rfl, _⟩ := h; rfl) | (obtain ⟨_, _, _, _, _, _, _, _, _, _, _, rfl, _⟩ := h; rfl) | (obtain ⟨_, _, _, _, _, _, _, _, _, _, _, _, rfl, _⟩ := h; rfl) | (obtain ⟨_, _, _, _, _, _, _, _, _, _, _, _, _, rfl, _⟩ := h; rfl)) (fun cdv A outer s H vs Q E f hr h => ?_)
  obtain ⟨hands, r, row, rfl, ⟨h1, h2, h3, h4, h5⟩, hS, q⟩ := h
  refine ⟨_, (pss_cons (ps_expr (pe_cal (c_check_hands T) hr (by decide) (pa_cons (pv 0) pa_nil)))
    (pss_one (ps_if (pt_not (pt_val (pe_cal (c_fits_row T) hr (by decide) (pa_cons (pv 0) (pa_cons (pv 1) pa_nil))))) (pss_one ps_never) pss_nil))), ?_⟩
  walk_at "rd"
  refine ⟨hands, _, rfl, .inr ⟨r, _, rfl, hS, by rw [List.length_map]; omega, fun x hx => ?_, fun H' s2 => ⟨_, rfl, ?_⟩⟩⟩
  · obtain ⟨z, hz, rfl⟩ := List.mem_map.mp hx
    exact ⟨true, fun _ _ => .int z⟩
  · rw [fitsB_row h3 h4 h5]
    exact iteF (q H' s2)

/-! Table___init__ -/
/-- a table is made: its row, nothing told -/
def sp_Table___init__ (K : PySem.W.Frag) : Sp := fun vs H Q _ => ∃ (p dx r : Addr) (m : Int) (row : List Int), vs = [.ref p, .int m, .ref r] ∧ H p = some (.ins (tbC K) dx []) ∧ RowOk m row ∧ SqT K H r (row.map V.int) ∧
  ∀ (T W L : Addr) (H' : Hp), H T = none → H W = none → H L = none → TblAt K H' p T W L m row [] [] → But p H H' → Q .non H'
theorem c_Table___init__ (T : Txt K mg) : CalI P w K mg base 6 (He.ga K "Table") ["self", "hands", "row"] (sp_Table___init__ K) := by
  refine T.f_Table___init__.cal sc_Table___init__ (fun _ _ _ _ _ _ us hl => match us, hl with | [_, _, _], _ => rfl) (fun vs H Q E h => by first | (obtain ⟨_, rfl, _⟩ := h; rfl) | (obtain ⟨_, _, rfl, _⟩ := h; rfl) | (obtain ⟨_, _, _, rfl, _⟩ := h; rfl) | (obtain ⟨_, _, _, _, rfl, _⟩ := h; rfl) | (obtain ⟨_, _, _, _, _, rfl, _⟩ := h; rfl) | (obtain ⟨_, _, _, _, _, _, rfl, _⟩ := h; rfl) | (obtain ⟨_, _, _, _, _, _, _, rfl, _⟩ := h; rfl) | (obtain ⟨_, _, _, _, _, _, _, _, rfl, _⟩ := h; rfl) | (obtain ⟨_, _, _, _, _, _, _, _, _, rfl, _⟩ := h; rfl) | (obtain ⟨_, _, _, _, _, _, _, _, _, _, rfl, _⟩ := h; rfl) | (obtain ⟨_, _, _, _, _, _, _, _, _, _, _, rfl, _⟩ := h; rfl) | (obtain ⟨_, _, _, _, _, _, _, _, _, _, _, _, rfl, _⟩ := h; rfl) | (obtain ⟨_, _, _, _, _, _, _, _, _, _, _, _, _, rfl, _⟩ := h; rfl)) (fun cdv A outer s H vs Q E f hr h => ?_)
  obtain ⟨p, dx, r, m, row, rfl, hp, ok, hS, q⟩ := h
  refine ⟨_, (pss_cons (ps_expr (pe_cal (c_check_row T) hr (by decide) (pa_cons (pv 1) (pa_cons (pv 2) pa_nil))))
    (pss_cons (ps_fld (pv 0) (pv 1) rfl)
    (pss_cons (ps_fld (pv 0) (pe_callTy (kz_list (K := K)) (by rfl) T.b_list bt_list (pa_cons (pv 2) pa_nil)) rfl)
    (pss_cons (ps_fld (pv 0) (pe_lst pa_nil) rfl)
    (pss_one (ps_fld (pv 0) (pe_lst pa_nil) rfl)))))), ?_⟩
  walk_at "rd"
  refine ⟨m, r, row, rfl, ok, hS, fun H1 s1 => ?_⟩
  walk_at "rd"
  have p1 := s1 _ _ hp
  refine ⟨p, _, dx, _, rfl, p1, T.tab.cl, T.tab.nH, by decide, ?_⟩
  rw [put1]
  have b2 : But p H (upd H1 p (.ins (tbC K) dx (flds1 m))) := (But.of_same s1).own
  have p2 : (upd H1 p (.ins (tbC K) dx (flds1 m))) p = some (.ins (tbC K) dx (flds1 m)) := upd_same
  generalize upd H1 p (.ins (tbC K) dx (flds1 m)) = H2 at b2 p2 ⊢
  have hS2 : SqT K H2 r (row.map V.int) := by
    rcases hS with (h | ⟨o, h⟩) | h
    · exact .inl (.inl (b2 _ _ (fun z => by rw [z, hp] at h; cases h) h))
    · exact .inl (.inr ⟨o, b2 _ _ (fun z => by rw [z, hp] at h; cases h) h⟩)
    · exact .inr h
  change tSeq _ _ _ [some (.ref p), some (.int m), some (.ref r)] H2
  walk_at "rd"
  intro l nl
  have b3 : But p H (upd H2 l (.lst (row.map V.int))) := b2.new p2 nl
  have p3 : (upd H2 l (.lst (row.map V.int))) p = some (.ins (tbC K) dx (flds1 m)) := by
    rw [upd_ne (ne_of_none p2 nl)]
    exact p2
  walk_at "rd"
  refine ⟨p, _, dx, _, rfl, p3, T.tab.cl, T.tab.nT, by show 1 < 1000; decide, ?_⟩
  rw [put2]
  have t4 : (upd (upd H2 l (.lst (row.map V.int))) p (.ins (tbC K) dx (flds2 m l))) l = some (.lst (row.map V.int)) := by
    rw [upd_ne (Ne.symm (ne_of_none p2 nl)), upd_same]
  have n1 := b2.free0 p2 nl
  have b4 : But p H (upd (upd H2 l (.lst (row.map V.int))) p (.ins (tbC K) dx (flds2 m l))) := b3.own
  have p4 : (upd (upd H2 l (.lst (row.map V.int))) p (.ins (tbC K) dx (flds2 m l))) p = some (.ins (tbC K) dx (flds2 m l)) := upd_same
  generalize upd (upd H2 l (.lst (row.map V.int))) p (.ins (tbC K) dx (flds2 m l)) = H4 at b4 p4 t4 ⊢
  change tSeq _ _ _ [some (.ref p), some (.int m), some (.ref r)] H4
  refine ⟨by decide, fun w1 nw => ?_⟩
  have b5 : But p H (upd H4 w1 (.lst [])) := b4.new p4 nw
  have p5 : (upd H4 w1 (.lst [])) p = some (.ins (tbC K) dx (flds2 m l)) := by
    rw [upd_ne (ne_of_none p4 nw)]
    exact p4
  have t5 : (upd H4 w1 (.lst [])) l = some (.lst (row.map V.int)) := by
    rw [upd_ne (ne_of_none t4 nw)]
    exact t4
  walk_at "rd"
  refine ⟨p, _, dx, _, rfl, p5, T.tab.cl, T.tab.nW, by show 2 < 1000; decide, ?_⟩
  rw [put3]
  have n2 := b4.free0 p4 nw
  have w6 : (upd (upd H4 w1 (.lst [])) p (.ins (tbC K) dx (flds3 m l w1))) w1 = some (.lst []) := by
    rw [upd_ne (Ne.symm (ne_of_none p4 nw)), upd_same]
  have t6 : (upd (upd H4 w1 (.lst [])) p (.ins (tbC K) dx (flds3 m l w1))) l = some (.lst (row.map V.int)) := by
    rw [upd_ne (fun z => by rw [z, p4] at t4; cases t4)]
    exact t5
  have b6 : But p H (upd (upd H4 w1 (.lst [])) p (.ins (tbC K) dx (flds3 m l w1))) := b5.own
  have p6 : (upd (upd H4 w1 (.lst [])) p (.ins (tbC K) dx (flds3 m l w1))) p = some (.ins (tbC K) dx (flds3 m l w1)) := upd_same
  have nlw : l ≠ w1 := ne_of_none t4 nw
  generalize upd (upd H4 w1 (.lst [])) p (.ins (tbC K) dx (flds3 m l w1)) = H6 at b6 p6 t6 w6 ⊢
  dsimp only [sFld, tLst, tNil]
  refine ⟨by decide, fun c1 nc => ?_⟩
  have p7 : (upd H6 c1 (.lst [])) p = some (.ins (tbC K) dx (flds3 m l w1)) := by
    rw [upd_ne (ne_of_none p6 nc)]
    exact p6
  have b7 : But p H (upd H6 c1 (.lst [])) := b6.new p6 nc
  walk_at "rd"
  refine ⟨p, _, dx, _, rfl, p7, T.tab.cl, T.tab.nC, by show 3 < 1000; decide, ?_⟩
  rw [put4]
  refine q l w1 c1 _ n1 n2 (b6.free0 p6 nc) ⟨⟨dx, upd_same⟩, ?_, ?_, ?_, nlw, ne_of_none t6 nc, ne_of_none w6 nc⟩ b7.own
  · rw [upd_ne (fun z => by rw [z, p6] at t6; cases t6), upd_ne (ne_of_none t6 nc)]
    exact t6
  · rw [upd_ne (fun z => by rw [z, p6] at w6; cases w6), upd_ne (ne_of_none w6 nc)]
    exact w6
  · rw [upd_ne (Ne.symm (ne_of_none p6 nc)), upd_same]

/-! Table_next -/
/-- the hand whose turn it is, None behind the last -/
def sp_Table_next (K : PySem.W.Frag) : Sp := fun vs H Q _ => ∃ (p T W L : Addr) (m : Int) (turns told : List Int) (calls : List V), vs = [.ref p] ∧ TblAt K H p T W L m turns told calls ∧ told.length ≤ turns.length ∧
  Q (if told.length < turns.length then .int (turns.getD told.length 0) else .non) H
theorem c_Table_next (T : Txt K mg) : CalM P w K mg base 1 (He.ga K "Table") "next" ["self"] (sp_Table_next K) := by
  refine T.f_Table_next.cal sc_Table_next (fun _ _ _ _ _ _ us hl => match us, hl with | [_], _ => rfl) (fun vs H Q E h => by first | (obtain ⟨_, rfl, _⟩ := h; rfl) | (obtain ⟨_, _, rfl, _⟩ := h; rfl) | (obtain ⟨_, _, _, rfl, _⟩ := h; rfl) | (obtain ⟨_, _, _, _, rfl, _⟩ := h; rfl) | (obtain ⟨_, _, _, _, _, rfl, _⟩ := h; rfl) | (obtain ⟨_, _, _, _, _, _, rfl, _⟩ := h; rfl) | (obtain ⟨_, _, _, _, _, _, _, rfl, _⟩ := h; rfl) | (obtain ⟨_, _, _, _, _, _, _, _, rfl, _⟩ := h; rfl) | (obtain ⟨_, _, _, _, _, _, _, _, _, rfl, _⟩ := h; rfl) | (obtain ⟨_, _, _, _, _, _, _, _, _, _, rfl, _⟩ := h; rfl) | (obtain ⟨_, _, _, _, _, _, _, _, _, _, _, rfl, _⟩ := h; rfl) | (obtain ⟨_, _, _, _, _, _, _, _, _, _, _, _, rfl, _⟩ := h; rfl) | (obtain ⟨_, _, _, _, _, _, _, _, _, _, _, _, _, rfl, _⟩ := h; rfl)) (fun cdv A outer s H vs Q E f hr h => ?_)
  obtain ⟨p, T1, W, L, m, turns, told, calls, rfl, D, hl, q⟩ := h
  refine ⟨_, (pss_cons (ps_if (pt_cmpR op_eq (pe_callB (kz_len (K := K)) (by rfl) T.b_len bt_len (pa_cons (pe_fld (pv 0) rfl) pa_nil)) (pe_callB (kz_len (K := K)) (by rfl) T.b_len bt_len (pa_cons (pe_fld (pv 0) rfl) pa_nil)) (nomark _)) (pss_one (ps_ret pe_non)) pss_nil)
    (pss_one (ps_ret (pe_ix (kz_ixL (K := K)) (pe_fld (pv 0) rfl) (pe_callB (kz_len (K := K)) (by rfl) T.b_len bt_len (pa_cons (pe_fld (pv 0) rfl) pa_nil)) (fun _ _ => rfl))))), ?_⟩
  walk_at "rd"
  refine fld_told D T.tab ?_
  refine ⟨W, _, rfl, .inl (.inl (.inl D.td)), ?_⟩
  walk_at "rd"
  refine fld_turns D T.tab ?_
  refine ⟨T1, _, rfl, .inl (.inl (.inl D.tn)), ?_⟩
  walk_at "rd"
  rw [List.length_map, List.length_map]
  refine ite2 (fun c => ?_) (fun c => ?_)
  · have e := V.int.inj (of_decide_eq_true c)
    rw [if_neg (by omega)] at q
    exact q
  · have e : ¬ told.length = turns.length := fun z => by
      rw [z, decide_eq_true rfl] at c
      exact c rfl
    rw [if_pos (by omega)] at q
    dsimp only [tNext, tRet, tOp, tFld, tVar]
    walk_at "rd"
    refine fld_turns D T.tab ?_
    walk_at "rd"
    dsimp only [tCB, tCons]
    refine fld_told D T.tab ?_
    refine ⟨W, _, rfl, .inl (.inl (.inl D.td)), ?_⟩
    rw [List.length_map]
    exact ⟨T1, _, _, _, rfl, rfl, .inl (.inl D.tn), at_intI (by omega) (by omega), by rw [Int.toNat_natCast]; exact q⟩

/-! check_worth -/
/-- a single worth, or NoWorths raised -/
def sp_check_worth (K : PySem.W.Frag) : Sp := fun vs H Q E => ∃ (v : V) (b : Bool), vs = [v] ∧ Wh K H v b ∧ (b = true → Q .non H) ∧ (b = false → E (.ref (He.ga K "NoWorths")) none H)
theorem c_check_worth (T : Txt K mg) : CalX P w K mg base 2 "check_worth" ["worth"] (sp_check_worth K) := by
  refine T.f_check_worth.calX sc_check_worth (fun _ _ _ _ _ _ us hl => match us, hl with | [_], _ => rfl) (fun vs H Q E h => by first | (obtain ⟨_, rfl, _⟩ := h; rfl) | (obtain ⟨_, _, rfl, _⟩ := h; rfl) | (obtain ⟨_, _, _, rfl, _⟩ := h; rfl) | (obtain ⟨_, _, _, _, rfl, _⟩ := h; rfl) | (obtain ⟨_, _, _, _, _, rfl, _⟩ := h; rfl) | (obtain ⟨_, _, _, _, _, _, rfl, _⟩ := h; rfl) | (obtain ⟨_, _, _, _, _, _, _, rfl, _⟩ := h; rfl) | (obtain ⟨_, _, _, _, _, _, _, _, rfl, _⟩ := h; rfl) | (obtain ⟨_, _, _, _, _, _, _, _, _, rfl, _⟩ := h; rfl) | (obtain ⟨_, _, _, _, _, _, _, _, _, _, rfl, _⟩ := h; rfl) | (obtain ⟨_, _, _, _, _, _, _, _, _, _, _, rfl, _⟩ := h; rfl) | (obtain ⟨_, _, _, _, _, _, _, _, _, _, _, _, rfl, _⟩ := h; rfl) | (obtain ⟨_, _, _, _, _, _, _, _, _, _, _, _, _, rfl, _⟩ := h; rfl)) (fun cdv A outer s H vs Q E f hr h => ?_)
  obtain ⟨v, b, rfl, hw, q, qe⟩ := h
  refine ⟨_, (pss_one (ps_if (PT.nox (pt_not (pt_val (pe_cal (c_is_whole T) hr (by decide) (pa_cons (pv 0) pa_nil))))) (pss_one (L2N.ps_raise rfl (L2N.takes_of rfl rfl rfl rfl) (pmk_at (T.excs.cls "NoWorths" (by decide))))) pss_nil)), ?_⟩
  walk_at "rd"
  refine ⟨v, b, rfl, hw, ?_⟩
  cases b with
  | true => exact ⟨_, rfl, iteF (q rfl)⟩
  | false => exact ⟨_, rfl, iteT (qe rfl)⟩

/-! Table_tell -/
/-- a worth told; Done raised where all are through, NoWorths where it is none -/
def sp_Table_tell (K : PySem.W.Frag) : Sp := fun vs H Q E => ∃ (p T W L : Addr) (m : Int) (v : V) (b : Bool) (turns told : List Int) (calls : List V), vs = [.ref p, v] ∧ TblAt K H p T W L m turns told calls ∧ Wh K H v b ∧ told.length ≤ turns.length ∧ turns.length ≤ 64 ∧ calls.length ≤ 1000 ∧
  (told.length = turns.length ∧ E (.ref (He.ga K "Done")) none H ∨ told.length < turns.length ∧ b = false ∧ E (.ref (He.ga K "NoWorths")) none H ∨
   told.length < turns.length ∧ ∃ z : Int, v = .int z ∧ ∀ (u e : Addr) (H' : Hp), H u = none → H e = none → H' e = some (.tup []) → H' u = some (.tup [.str "tell", .ref e]) → TblAt K H' p T W L m turns (told ++ [z]) (calls ++ [.ref u]) → (∀ c o, c ≠ W → c ≠ L → H c = some o → H' c = some o) → Q (.int (turns.getD told.length 0)) H')
theorem c_Table_tell (T : Txt K mg) : CalMX P w K mg base 3 (He.ga K "Table") "tell" ["self", "worth"] (sp_Table_tell K) := by
  refine T.f_Table_tell.calX sc_Table_tell (fun _ _ _ _ _ _ us hl => match us, hl with | [_, _], _ => rfl) (fun vs H Q E h => by first | (obtain ⟨_, rfl, _⟩ := h; rfl) | (obtain ⟨_, _, rfl, _⟩ := h; rfl) | (obtain ⟨_, _, _, rfl, _⟩ := h; rfl) | (obtain ⟨_, _, _, _, rfl, _⟩ := h; rfl) | (obtain ⟨_, _, _, _, _, rfl, _⟩ := h; rfl) | (obtain ⟨_, _, _, _, _, _, rfl, _⟩ := h; rfl) | (obtain ⟨_, _, _, _, _, _, _, rfl, _⟩ := h; rfl) | (obtain ⟨_, _, _, _, _, _, _, _, rfl, _⟩ := h; rfl) | (obtain ⟨_, _, _, _, _, _, _, _, _, rfl, _⟩ := h; rfl) | (obtain ⟨_, _, _, _, _, _, _, _, _, _, rfl, _⟩ := h; rfl) | (obtain ⟨_, _, _, _, _, _, _, _, _, _, _, rfl, _⟩ := h; rfl) | (obtain ⟨_, _, _, _, _, _, _, _, _, _, _, _, rfl, _⟩ := h; rfl) | (obtain ⟨_, _, _, _, _, _, _, _, _, _, _, _, _, rfl, _⟩ := h; rfl)) (fun cdv A outer s H vs Q E f hr h => ?_)
  obtain ⟨p, T1, W, L, m, v, b, turns, told, calls, rfl, D, hw, hl, h64, hc, h⟩ := h
  refine ⟨_, (pss_cons (ps_nox (ps_set (i := 2) sc_Table_tell.nd rfl (.inl rfl) (pe_mth0 (pv 0) T.tab.cl (c_Table_next T) hr (by decide))))
    (pss_cons (ps_if (PT.nox (pt_cmpR op_isN (pv 2) pe_non (nomark _))) (pss_one (L2N.ps_raise rfl (L2N.takes_of rfl rfl rfl rfl) (pmk_at (T.excs.cls "Done" (by decide))))) pss_nil)
    (pss_cons (ps_expr (pe_calX (c_check_worth T) hr (by decide) (L2N.takes_of rfl rfl rfl rfl) (pa_cons (pv 1) pa_nil)))
    (pss_cons (ps_nox (ps_expr (pe_bm PySem.F.plainAttrs_list PySem.F.slot_list_append PySem.F.type_list_append mt_append (pe_fld (pv 0) rfl) (pa_cons (pv 1) pa_nil))))
    (pss_cons (ps_nox (ps_expr (pe_bm PySem.F.plainAttrs_list PySem.F.slot_list_append PySem.F.type_list_append mt_append (pe_fld (pv 0) rfl) (pa_cons (pe_tup (pa_cons pe_str (pa_cons (pe_tup pa_nil) pa_nil))) pa_nil))))
    (pss_one (ps_nox (ps_ret (pv 2))))))))), ?_⟩
  walk_at "rd"
  obtain ⟨dx, ob⟩ := id D.ob
  refine ⟨p, dx, _, rfl, ob, fl_no _ _ _ _ (by decide +kernel) (by decide +kernel) (by decide +kernel) (by decide +kernel), ?_⟩
  refine ⟨p, T1, W, L, m, turns, told, calls, rfl, D, hl, ?_⟩
  rcases h with ⟨e, qe⟩ | ⟨hl2, rfl, qe⟩ | ⟨hl2, z, rfl, q⟩
  · rw [if_neg (by omega)]
    walk_at "rd"
    exact qe
  · rw [if_pos hl2]
    change tSeq _ _ _ [some (.ref p), some v, some (.int (turns.getD told.length 0))] H
    walk_at "rd"
    exact ⟨v, false, rfl, hw, fun z => Bool.noConfusion z, fun _ => qe⟩
  · rw [if_pos hl2]
    change tSeq _ _ _ [some (.ref p), some (.int z), some (.int (turns.getD told.length 0))] H
    walk_at "rd"
    refine ⟨_, b, rfl, hw, fun _ => ?_, fun e => by cases hw with | int i => cases e | no h k nb => exact absurd rfl (nb z)⟩
    change tSeq _ _ _ [some (.ref p), some (.int z), some (.int (turns.getD told.length 0))] H
    walk_at "rd"
    refine fld_told D T.tab ?_
    refine ⟨.inl ⟨rfl, _, .inl (.inl D.td)⟩, _, rfl, W, _, _, rfl, rfl, D.td, szl (by rw [List.length_map]; omega), ?_⟩
    have D2 : TblAt K (upd H W (.lst (told.map V.int ++ [V.int z]))) p T1 W L m turns (told ++ [z]) calls := by
      refine ⟨⟨dx, ?_⟩, ?_, ?_, ?_, D.tw, D.tl, D.wl⟩
      · rw [upd_ne (fun e => by have h := D.td; rw [← e, ob] at h; cases h)]
        exact ob
      · rw [upd_ne D.tw]
        exact D.tn
      · rw [upd_same, List.map_append]
        rfl
      · rw [upd_ne (Ne.symm D.wl)]
        exact D.cl
    have b1 : But W H (upd H W (.lst (told.map V.int ++ [V.int z]))) := But.at
    have w1 := D2.td
    generalize upd H W (.lst (told.map V.int ++ [V.int z])) = H1 at D2 b1 w1 ⊢
    change tSeq _ _ _ [some (.ref p), some (.int z), some (.int (turns.getD told.length 0))] H1
    walk_at "rd"
    refine fld_calls D2 T.tab ?_
    walk_at "rd"
    refine ⟨.inl ⟨rfl, _, .inl (.inl D2.cl)⟩, ?_⟩
    dsimp only [tCons, tTup, tC, tNil]
    refine ⟨by decide, fun e ne => ⟨by show 2 ≤ sizeLine; decide, fun u nu => ?_⟩⟩
    have eu : (upd (upd H1 e (.tup [])) u (.tup [.str "tell", .ref e])) e = some (.tup []) := by
      rw [upd_ne (ne_of_none upd_same nu), upd_same]
    have uu : (upd (upd H1 e (.tup [])) u (.tup [.str "tell", .ref e])) u = some (.tup [.str "tell", .ref e]) := upd_same
    have s2 : Same H1 (upd (upd H1 e (.tup [])) u (.tup [.str "tell", .ref e])) := same_then (same_new ne) nu
    have ne0 := b1.free0 w1 ne
    have nu0 := b1.free0 w1 (none_back (same_new ne) nu)
    have D3 := D2.same s2
    generalize upd (upd H1 e (.tup [])) u (.tup [.str "tell", .ref e]) = H2 at eu uu s2 D3 ⊢
    refine ⟨L, _, _, rfl, rfl, D3.cl, szl (by omega), ?_⟩
    refine ⟨_, rfl, q u e _ nu0 ne0 ?_ ?_ ?_ ?_⟩
    · rw [upd_ne (fun x => by have h := D3.cl; rw [← x, eu] at h; cases h)]
      exact eu
    · rw [upd_ne (fun x => by have h := D3.cl; rw [← x, uu] at h; cases h)]
      exact uu
    · obtain ⟨dy, o3⟩ := D3.ob
      refine ⟨⟨dy, ?_⟩, ?_, ?_, upd_same, D.tw, D.tl, D.wl⟩
      · rw [upd_ne (fun x => by have h := D3.cl; rw [← x, o3] at h; cases h)]
        exact o3
      · rw [upd_ne D.tl]
        exact D3.tn
      · rw [upd_ne D.wl]
        exact D3.td
    · intro c o nw nl h
      rw [upd_ne nl]
      exact s2 _ _ (b1 _ _ nw h)

/-! exchange_of -/
def sp_exchange_of (K : PySem.W.Frag) : Sp := fun vs H Q _ => ∃ (r : Addr) (row : List Int) (i j : Nat), vs = [.ref r, .int (i : Int), .int (j : Int)] ∧ (SqL K H r (row.map V.int) ∨ SqT K H r (row.map V.int)) ∧ i < row.length ∧ j < row.length ∧
  ∀ (p : Addr) (H' : Hp), H p = none → Same H H' → H' p = some (.tup ((swp row i j).map V.int)) → Q (.ref p) H'
theorem c_exchange_of (T : Txt K mg) : Cal P w K mg base 1 "exchange_of" ["row", "one", "other"] (sp_exchange_of K) := by
  refine T.f_exchange_of.cal sc_exchange_of (fun _ _ _ _ _ _ us hl => match us, hl with | [_, _, _], _ => rfl) (fun vs H Q E h => by first | (obtain ⟨_, rfl, _⟩ := h; rfl) | (obtain ⟨_, _, rfl, _⟩ := h; rfl) | (obtain ⟨_, _, _, rfl, _⟩ := h; rfl) | (obtain ⟨_, _, _, _, rfl, _⟩ := h; rfl) | (obtain ⟨_, _, _, _, _, rfl, _⟩ := h; rfl) | (obtain ⟨_, _, _, _, _, _, rfl, _⟩ := h; rfl) | (obtain ⟨_, _, _, _, _, _, _, rfl, _⟩ := h; rfl) | (obtain ⟨_, _, _, _, _, _, _, _, rfl, _⟩ := h; rfl) | (obtain ⟨_, _, _, _, _, _, _, _, _, rfl, _⟩ := h; rfl) | (obtain ⟨_, _, _, _, _, _, _, _, _, _, rfl, _⟩ := h; rfl) | (obtain ⟨_, _, _, _, _, _, _, _, _, _, _, rfl, _⟩ := h; rfl) | (obtain ⟨_, _, _, _, _, _, _, _, _, _, _, _, rfl, _⟩ := h; rfl) | (obtain ⟨_, _, _, _, _, _, _, _, _, _, _, _, _, rfl, _⟩ := h; rfl)) (fun cdv A outer s H vs Q E f hr h => ?_)
  obtain ⟨r, row, i, j, rfl, hS, hi, hj, q⟩ := h
  refine ⟨_, (pss_cons (ps_set (i := 3) sc_exchange_of.nd rfl (.inl rfl) (pe_callTy (kz_list (K := K)) (by rfl) T.b_list bt_list (pa_cons (pv 0) pa_nil)))
    (pss_cons (ps_asg (pe_tup (pa_cons (pe_ix (kz_ixL (K := K)) (pv 3) (pv 2) (fun _ _ => rfl)) (pa_cons (pe_ix (kz_ixL (K := K)) (pv 3) (pv 1) (fun _ _ => rfl)) pa_nil))) (kz_gtup (K := K) 2 rfl (pgs_cons (pg_sub (pv 3) (pv 1) set_list) (pgs_cons (pg_sub (pv 3) (pv 2) set_list) pgs_nil))))
    (pss_one (ps_ret (pe_callTy (kz_tuple (K := K)) (by rfl) T.b_tuple bt_tuple (pa_cons (pv 3) pa_nil)))))), ?_⟩
  walk_at "rd"
  refine ⟨r, _, rfl, hS, fun l nl => ?_⟩
  have sl := same_new (o := .lst (row.map V.int)) nl
  have hl0 : (upd H l (.lst (row.map V.int))) l = some (.lst (row.map V.int)) := upd_same
  generalize upd H l (.lst (row.map V.int)) = H1 at sl hl0 ⊢
  change tSeq _ _ _ [some (.ref r), some (.int (i : Int)), some (.int (j : Int)), some (.ref l)] H1
  have hl' : SqL K H1 l (row.map V.int) := .inl (.inl hl0)
  have li : (i : Int) < row.length := by omega
  have lj : (j : Int) < row.length := by omega
  have ixm : ∀ (ro : List Int) (k : Nat), k < ro.length → ixN (ro.map V.int).length (k : Int) = some k := fun ro k h1 => by
    unfold ixN
    rw [if_pos (by omega), if_pos (by rw [List.length_map]; omega)]
    rfl
  refine ⟨_, rfl, _, rfl, _, _, _, _, rfl, rfl, hl', at_intI (by omega) lj, ?_⟩
  refine ⟨_, rfl, _, rfl, _, _, _, _, rfl, rfl, hl', at_intI (by omega) li, ?_⟩
  refine ⟨by show 2 ≤ sizeLine; decide, fun u nu => ?_⟩
  rw [Int.toNat_natCast, Int.toNat_natCast]
  have su := same_new (o := .tup [.int (row.getD j 0), .int (row.getD i 0)]) nu
  refine ⟨u, _, rfl, .inl (.inl upd_same), rfl, ?_⟩
  have hl6 := su _ _ hl0
  have s6 := sl.trans su
  generalize upd H1 u (.tup [.int (row.getD j 0), .int (row.getD i 0)]) = H6 at su hl6 s6 ⊢
  refine ⟨_, _, rfl, _, rfl, _, rfl, l, _, (i : Int), i, rfl, rfl, hl6, ixm row i hi, ?_⟩
  rw [← List.map_set]
  refine ⟨_, _, rfl, _, rfl, _, rfl, l, _, (j : Int), j, rfl, rfl, upd_same, ixm _ j (by rw [List.length_set]; exact hj), ?_⟩
  rw [← List.map_set]
  walk_at "rd"
  refine ⟨l, _, rfl, .inl ⟨.inl (.inl upd_same), fun p np => ?_⟩⟩
  have sm : Same H (upd (upd H6 l (.lst ((row.set i (row.getD j 0)).map V.int))) l (.lst (((row.set i (row.getD j 0)).set j (row.getD i 0)).map V.int))) := fun c o hc => by
    have ncl : c ≠ l := fun e => by rw [e, nl] at hc; cases hc
    rw [upd_ne ncl, upd_ne ncl]
    exact s6 _ _ hc
  exact q p _ (none_back sm np) (same_then sm np) upd_same

/-! Table_back -/
/-- the last call is taken back, its name is told; Nothing raised where there is none -/
def sp_Table_back (K : PySem.W.Frag) : Sp := fun vs H Q E => ∃ (p T W L : Addr) (m : Int) (turns told : List Int) (calls : List V), vs = [.ref p] ∧ TblAt K H p T W L m turns told calls ∧ turns.length ≤ 64 ∧
  (calls = [] ∧ E (.ref (He.ga K "Nothing")) none H ∨
   ∃ (t : List Int × List Int) (s : Stp) (cs : List V) (u : Addr), turns = (s.ap t).1 ∧ told = (s.ap t).2 ∧ calls = cs ++ [.ref u] ∧ s.at H u ∧ s.ok t ∧ s.inR t.1.length ∧
    ∀ (T2 : Addr) (H' : Hp), (T2 = T ∨ H T2 = none) → TblAt K H' p T2 W L m t.1 t.2 cs → Kp (fun d => d = p ∨ d = W ∨ d = L) H H' → Q (.str s.nm) H')
theorem c_Table_back (T : Txt K mg) : CalMX P w K mg base 2 (He.ga K "Table") "back" ["self"] (sp_Table_back K) := by
  refine T.f_Table_back.calX sc_Table_back (fun _ _ _ _ _ _ us hl => match us, hl with | [_], _ => rfl) (fun vs H Q E h => by first | (obtain ⟨_, rfl, _⟩ := h; rfl) | (obtain ⟨_, _, rfl, _⟩ := h; rfl) | (obtain ⟨_, _, _, rfl, _⟩ := h; rfl) | (obtain ⟨_, _, _, _, rfl, _⟩ := h; rfl) | (obtain ⟨_, _, _, _, _, rfl, _⟩ := h; rfl) | (obtain ⟨_, _, _, _, _, _, rfl, _⟩ := h; rfl) | (obtain ⟨_, _, _, _, _, _, _, rfl, _⟩ := h; rfl) | (obtain ⟨_, _, _, _, _, _, _, _, rfl, _⟩ := h; rfl) | (obtain ⟨_, _, _, _, _, _, _, _, _, rfl, _⟩ := h; rfl) | (obtain ⟨_, _, _, _, _, _, _, _, _, _, rfl, _⟩ := h; rfl) | (obtain ⟨_, _, _, _, _, _, _, _, _, _, _, rfl, _⟩ := h; rfl) | (obtain ⟨_, _, _, _, _, _, _, _, _, _, _, _, rfl, _⟩ := h; rfl) | (obtain ⟨_, _, _, _, _, _, _, _, _, _, _, _, _, rfl, _⟩ := h; rfl)) (fun cdv A outer s H vs Q E f hr h => ?_)
  obtain ⟨p, T1, W, L, m, turns, told, calls, rfl, D, h64, h⟩ := h
  refine ⟨_, (pss_cons (ps_if (PT.nox (pt_cmpR op_eq (pe_callB (kz_len (K := K)) (by rfl) T.b_len bt_len (pa_cons (pe_fld (pv 0) rfl) pa_nil)) pe_int (nomark _))) (pss_one (L2N.ps_raise rfl (L2N.takes_of rfl rfl rfl rfl) (pmk_at (T.excs.cls "Nothing" (by decide))))) pss_nil)
    (pss_cons (ps_nox (ps_asg (pe_bm0 PySem.F.plainAttrs_list PySem.F.slot_list_pop PySem.F.type_list_pop mt_pop (pe_fld (pv 0) rfl)) (kz_gtup (K := K) 2 rfl (pgs_cons (pg_name (i := 1) sc_Table_back.nd rfl (.inl rfl)) (pgs_cons (pg_name (i := 2) sc_Table_back.nd rfl (.inl rfl)) pgs_nil)))))
    (pss_cons (ps_nox (ps_if (pt_cmpR op_eq (pv 1) pe_str (nomark _)) (pss_one (ps_expr (pe_bm0 PySem.F.plainAttrs_list PySem.F.slot_list_pop PySem.F.type_list_pop mt_pop (pe_fld (pv 0) rfl)))) (pss_one (ps_fld (pv 0) (pe_callTy (kz_list (K := K)) (by rfl) T.b_list bt_list (pa_cons (pe_cal (c_exchange_of T) hr (by decide) (pa_cons (pe_fld (pv 0) rfl) (pa_cons (pe_ix (kz_ixT (K := K)) (pv 2) pe_int (fun _ _ => rfl)) (pa_cons (pe_ix (kz_ixT (K := K)) (pv 2) pe_int (fun _ _ => rfl)) pa_nil)))) pa_nil)) rfl))))
    (pss_one (ps_nox (ps_ret (pv 1))))))), ?_⟩
  walk_at "rd"
  refine fld_calls D T.tab ?_
  refine ⟨L, calls, rfl, .inl (.inl (.inl D.cl)), ?_⟩
  rcases h with ⟨rfl, q⟩ | ⟨t, s, cs, u, rfl, rfl, rfl, hu, hok, hr0, q⟩
  · walk_at "rd"
    exact q
  walk_at "rd"
  refine ite2 (fun c => ?_) (fun _ => ?_)
  · have c2 := V.int.inj (of_decide_eq_true c)
    rw [List.length_append, List.length_singleton] at c2
    omega
  walk_at "rd"
  refine fld_calls D T.tab ?_
  refine ⟨.inl ⟨rfl, _, .inl (.inl D.cl)⟩, ?_⟩
  refine ⟨L, _, .ref u, rfl, rfl, D.cl, by rw [List.length_append, List.length_singleton, Nat.add_sub_cancel, List.getElem?_append_right (Nat.le_refl _), Nat.sub_self]; rfl, ?_⟩
  rw [List.dropLast_concat]
  have D2 := D.putL cs
  have k2 : Kp (fun d => d = p ∨ d = W ∨ d = L) H (upd H L (.lst cs)) := Kp.put (.inr (.inr rfl))
  have uk : ∀ {c : Addr} {xs : List V}, H c = some (.tup xs) → (upd H L (.lst cs)) c = some (.tup xs) := fun {c xs} e => by
    rw [upd_ne (fun z => by rw [z, D.cl] at e; cases e)]
    exact e
  have fr : ∀ {c : Addr}, (upd H L (.lst cs)) c = none → H c = none := fun {c} e => by
    rw [upd_ne (fun z => by rw [z, upd_same] at e; cases e)] at e
    exact e
  cases s with
  | tl z =>
    obtain ⟨e, hu⟩ := hu
    have hu2 := uk hu
    generalize upd H L (.lst cs) = H2 at D2 k2 hu2 fr ⊢
    clear uk
    refine ⟨u, _, rfl, .inl (.inl hu2), rfl, _, _, rfl, _, _, rfl, rfl, ?_⟩
    change tSeq _ _ _ [some (.ref p), some (.str "tell"), some (.ref e)] H2
    walk_at "rd"
    refine fld_told D2 T.tab ?_
    refine ⟨.inl ⟨rfl, _, .inl (.inl D2.td)⟩, ?_⟩
    refine ⟨W, _, .int z, rfl, rfl, D2.td, ?_, ?_⟩
    · show ((t.2 ++ [z]).map V.int)[((t.2 ++ [z]).map V.int).length - 1]? = _
      rw [List.map_append, List.length_append, List.map_singleton, List.length_singleton, Nat.add_sub_cancel, List.getElem?_append_right (Nat.le_refl _), Nat.sub_self]
      rfl
    have ed : (((Stp.tl z).ap t).2.map V.int).dropLast = t.2.map V.int := by
      show ((t.2 ++ [z]).map V.int).dropLast = _
      rw [List.map_append]
      exact List.dropLast_concat
    rw [ed]
    have D3 := D2.putW t.2
    have k3 := k2.trans (Kp.put (P := fun d => d = p ∨ d = W ∨ d = L) (o := .lst (t.2.map V.int)) (.inr (.inl rfl)))
    walk_at "rd"
    exact q T1 _ (.inl rfl) D3 k3
  | ex i j =>
    obtain ⟨e, hu, he⟩ := hu
    have hu2 := uk hu
    have he2 := uk he
    generalize upd H L (.lst cs) = H2 at D2 k2 hu2 he2 fr ⊢
    clear uk
    refine ⟨u, _, rfl, .inl (.inl hu2), rfl, _, _, rfl, _, _, rfl, rfl, ?_⟩
    change tSeq _ _ _ [some (.ref p), some (.str "exchange"), some (.ref e)] H2
    walk_at "rd"
    have hE : SqT K H2 e [.int (i : Int), .int (j : Int)] := .inl (.inl he2)
    have e0 : atI [V.int (i : Int), V.int (j : Int)] 0 = some (.int (i : Int)) := rfl
    have e1 : atI [V.int (i : Int), V.int (j : Int)] 1 = some (.int (j : Int)) := rfl
    have si : i < (((Stp.ex i j).ap t).1).length := by rw [ap_len]; exact hr0.1
    have sj : j < (((Stp.ex i j).ap t).1).length := by rw [ap_len]; exact hr0.2
    refine fld_turns D2 T.tab ?_
    dsimp only [tCons, tNil]
    walk_at "rd"
    dsimp only [tC]
    refine ⟨e, _, _, _, rfl, rfl, hE, e0, ?_⟩
    walk_at "rd"
    dsimp only [tC]
    refine ⟨e, _, _, _, rfl, rfl, hE, e1, ?_⟩
    refine ⟨T1, _, i, j, rfl, .inl (.inl (.inl D2.tn)), si, sj, fun v H3 nv s3 hv => ?_⟩
    rw [Stp.back_ex hok hr0] at hv
    walk_at "rd"
    refine ⟨v, _, rfl, .inr (.inl (.inl hv)), fun T2 nT2 => ?_⟩
    have nT20 := none_back s3 nT2
    have s4 := same_then s3 (o := .lst (t.1.map V.int)) nT2
    have D4 := D2.same s4
    have k4 := k2.trans (Kp.same s4)
    have hT2 : (upd H3 T2 (.lst (t.1.map V.int))) T2 = some (.lst (t.1.map V.int)) := upd_same
    generalize upd H3 T2 (.lst (t.1.map V.int)) = H4 at s4 D4 k4 hT2 ⊢
    obtain ⟨dx, ob⟩ := id D4.ob
    walk_at "rd"
    refine ⟨p, _, dx, _, rfl, ob, T.tab.cl, T.tab.nT, by show 4 < 1000; decide, ?_⟩
    rw [flds_turns]
    have D5 := D4.putT (dx := dx) hT2 (ne_of_none D2.td nT20).symm (ne_of_none D2.cl nT20).symm
    have k5 := k4.trans (Kp.put (P := fun d => d = p ∨ d = W ∨ d = L) (o := .ins (tbC K) dx (flds m T2 W L)) (.inl rfl))
    walk_at "rd"
    exact q T2 _ (.inr (fr nT20)) D5 k5

/-! check_two_places -/
/-- two places of a row, or NoPlaces raised -/
def sp_check_two_places (K : PySem.W.Frag) : Sp := fun vs H Q E => ∃ (r : Addr) (row : List Int) (x y : V) (b c : Bool), vs = [.ref r, x, y] ∧ (SqL K H r (row.map V.int) ∨ SqT K H r (row.map V.int)) ∧ Wh K H x b ∧ Wh K H y c ∧
  (whB x 0 ((row.length : Int) - 1) = false ∧ E (.ref (He.ga K "NoPlaces")) none H ∨ whB x 0 ((row.length : Int) - 1) = true ∧ whB y 0 ((row.length : Int) - 1) = false ∧ E (.ref (He.ga K "NoPlaces")) none H ∨
   ∃ i j : Nat, x = .int (i : Int) ∧ y = .int (j : Int) ∧ i < row.length ∧ j < row.length ∧ (i ≠ j → Q .non H) ∧ (i = j → E (.ref (He.ga K "NoPlaces")) none H))
theorem c_check_two_places (T : Txt K mg) : CalX P w K mg base 3 "check_two_places" ["row", "one", "other"] (sp_check_two_places K) := by
  refine T.f_check_two_places.calX sc_check_two_places (fun _ _ _ _ _ _ us hl => match us, hl with | [_, _, _], _ => rfl) (fun vs H Q E h => by first | (obtain ⟨_, rfl, _⟩ := h; rfl) | (obtain ⟨_, _, rfl, _⟩ := h; rfl) | (obtain ⟨_, _, _, rfl, _⟩ := h; rfl) | (obtain ⟨_, _, _, _, rfl, _⟩ := h; rfl) | (obtain ⟨_, _, _, _, _, rfl, _⟩ := h; rfl) | (obtain ⟨_, _, _, _, _, _, rfl, _⟩ := h; rfl) | (obtain ⟨_, _, _, _, _, _, _, rfl, _⟩ := h; rfl) | (obtain ⟨_, _, _, _, _, _, _, _, rfl, _⟩ := h; rfl) | (obtain ⟨_, _, _, _, _, _, _, _, _, rfl, _⟩ := h; rfl) | (obtain ⟨_, _, _, _, _, _, _, _, _, _, rfl, _⟩ := h; rfl) | (obtain ⟨_, _, _, _, _, _, _, _, _, _, _, rfl, _⟩ := h; rfl) | (obtain ⟨_, _, _, _, _, _, _, _, _, _, _, _, rfl, _⟩ := h; rfl) | (obtain ⟨_, _, _, _, _, _, _, _, _, _, _, _, _, rfl, _⟩ := h; rfl)) (fun cdv A outer s H vs Q E f hr h => ?_)
  obtain ⟨r, row, x, y, b, c, rfl, hS, hx, hy, h⟩ := h
  refine ⟨_, (pss_cons (ps_nox (ps_set (i := 3) sc_check_two_places.nd rfl (.inl rfl) (pe_op op_sub (pe_callB (kz_len (K := K)) (by rfl) T.b_len bt_len (pa_cons (pv 0) pa_nil)) pe_int)))
    (pss_cons (ps_if (PT.nox (PW.pt (pw_or (pt_not (pt_val (pe_cal (c_is_from_to T) hr (by decide) (pa_cons (pv 1) (pa_cons pe_int (pa_cons (pv 3) pa_nil)))))) (pw_or1 (pt_not (pt_val (pe_cal (c_is_from_to T) hr (by decide) (pa_cons (pv 2) (pa_cons pe_int (pa_cons (pv 3) pa_nil)))))))))) (pss_one (L2N.ps_raise rfl (L2N.takes_of rfl rfl rfl rfl) (pmk_at (T.excs.cls "NoPlaces" (by decide))))) pss_nil)
    (pss_one (ps_if (PT.nox (pt_cmpR op_eq (pv 1) (pv 2) (nomark _))) (pss_one (L2N.ps_raise rfl (L2N.takes_of rfl rfl rfl rfl) (pmk_at (T.excs.cls "NoPlaces" (by decide))))) pss_nil)))), ?_⟩
  walk_at "rd"
  refine ⟨r, _, rfl, hS, ?_⟩
  rw [List.length_map]
  walk_at "rd"
  refine ⟨x, 0, _, b, rfl, hx, _, rfl, ?_⟩
  rcases h with ⟨e, qe⟩ | ⟨e1, e, qe⟩ | ⟨i, j, rfl, rfl, hi, hj, q, qe⟩
  · rw [e]
    exact iteT qe
  · rw [e1]
    refine iteF ?_
    walk_at "rd"
    refine ⟨y, 0, _, c, rfl, hy, _, rfl, ?_⟩
    rw [e]
    exact iteT qe
  · have e : ∀ z : Nat, z < row.length → whB (.int (z : Int)) 0 ((row.length : Int) - 1) = true := fun z hz => decide_eq_true ⟨by omega, by omega⟩
    rw [e i hi]
    refine iteF ?_
    walk_at "rd"
    refine ⟨.int (j : Int), 0, _, c, rfl, hy, _, rfl, ?_⟩
    rw [e j hj]
    refine iteF ?_
    walk_at "rd"
    refine ite2 (fun c => qe (by have := V.int.inj (of_decide_eq_true c); omega)) (fun c => q fun z => c (by rw [z]; exact decide_eq_true rfl))

/-! Table_exchange -/
/-- the turns of two places exchanged; NoPlaces and Done raised -/
def sp_Table_exchange (K : PySem.W.Frag) : Sp := fun vs H Q E => ∃ (p T W L : Addr) (m : Int) (x y : V) (bx bz : Bool) (turns told : List Int) (calls : List V), vs = [.ref p, x, y] ∧ TblAt K H p T W L m turns told calls ∧ Wh K H x bx ∧ Wh K H y bz ∧ turns.length ≤ 64 ∧ told.length ≤ turns.length ∧ calls.length ≤ 1000 ∧
  (whB x 0 ((turns.length : Int) - 1) = false ∧ E (.ref (He.ga K "NoPlaces")) none H ∨ whB x 0 ((turns.length : Int) - 1) = true ∧ whB y 0 ((turns.length : Int) - 1) = false ∧ E (.ref (He.ga K "NoPlaces")) none H ∨
   ∃ i j : Nat, x = .int (i : Int) ∧ y = .int (j : Int) ∧ i < turns.length ∧ j < turns.length ∧
    (i ≠ j → told.length ≤ i → told.length ≤ j → ∀ (T2 u e : Addr) (H' : Hp), H T2 = none → H u = none → H e = none → H' e = some (.tup [.int (i : Int), .int (j : Int)]) → H' u = some (.tup [.str "exchange", .ref e]) → TblAt K H' p T2 W L m (swp turns i j) told (calls ++ [.ref u]) → (∀ c o, c ≠ p → c ≠ L → H c = some o → H' c = some o) →
      Q .non H') ∧ (i = j → E (.ref (He.ga K "NoPlaces")) none H) ∧ (i ≠ j → i < told.length ∨ j < told.length → E (.ref (He.ga K "Done")) none H))
theorem c_Table_exchange (T : Txt K mg) : CalMX P w K mg base 4 (He.ga K "Table") "exchange" ["self", "one", "other"] (sp_Table_exchange K) := by
  refine T.f_Table_exchange.calX sc_Table_exchange (fun _ _ _ _ _ _ us hl => match us, hl with | [_, _, _], _ => rfl) (fun vs H Q E h => by first | (obtain ⟨_, rfl, _⟩ := h; rfl) | (obtain ⟨_, _, rfl, _⟩ := h; rfl) | (obtain ⟨_, _, _, rfl, _⟩ := h; rfl) | (obtain ⟨_, _, _, _, rfl, _⟩ := h; rfl) | (obtain ⟨_, _, _, _, _, rfl, _⟩ := h; rfl) | (obtain ⟨_, _, _, _, _, _, rfl, _⟩ := h; rfl) | (obtain ⟨_, _, _, _, _, _, _, rfl, _⟩ := h; rfl) | (obtain ⟨_, _, _, _, _, _, _, _, rfl, _⟩ := h; rfl) | (obtain ⟨_, _, _, _, _, _, _, _, _, rfl, _⟩ := h; rfl) | (obtain ⟨_, _, _, _, _, _, _, _, _, _, rfl, _⟩ := h; rfl) | (obtain ⟨_, _, _, _, _, _, _, _, _, _, _, rfl, _⟩ := h; rfl) | (obtain ⟨_, _, _, _, _, _, _, _, _, _, _, _, rfl, _⟩ := h; rfl) | (obtain ⟨_, _, _, _, _, _, _, _, _, _, _, _, _, rfl, _⟩ := h; rfl)) (fun cdv A outer s H vs Q E f hr h => ?_)
  obtain ⟨p, T1, W, L, m, x, y, bx, bz, turns, told, calls, rfl, D, hx, hy, h64, hl, hc, h⟩ := h
  refine ⟨_, (pss_cons (ps_expr (pe_calX (c_check_two_places T) hr (by decide) (L2N.takes_of rfl rfl rfl rfl) (pa_cons (pe_fld (pv 0) rfl) (pa_cons (pv 1) (pa_cons (pv 2) pa_nil)))))
    (pss_cons (ps_if (PT.nox (pt_cmpR op_lt (pe_callB (call_min2 rfl) (by rfl) T.b_min bt_min (pa_cons (pv 1) (pa_cons (pv 2) pa_nil))) (pe_callB (kz_len (K := K)) (by rfl) T.b_len bt_len (pa_cons (pe_fld (pv 0) rfl) pa_nil)) (nomark _))) (pss_one (L2N.ps_raise rfl (L2N.takes_of rfl rfl rfl rfl) (pmk_at (T.excs.cls "Done" (by decide))))) pss_nil)
    (pss_cons (ps_nox (ps_fld (pv 0) (pe_callTy (kz_list (K := K)) (by rfl) T.b_list bt_list (pa_cons (pe_cal (c_exchange_of T) hr (by decide) (pa_cons (pe_fld (pv 0) rfl) (pa_cons (pv 1) (pa_cons (pv 2) pa_nil)))) pa_nil)) rfl))
    (pss_one (ps_nox (ps_expr (pe_bm PySem.F.plainAttrs_list PySem.F.slot_list_append PySem.F.type_list_append mt_append (pe_fld (pv 0) rfl) (pa_cons (pe_tup (pa_cons pe_str (pa_cons (pe_tup (pa_cons (pv 1) (pa_cons (pv 2) pa_nil))) pa_nil))) pa_nil)))))))), ?_⟩
  walk_at "rd"
  refine fld_turns D T.tab ?_
  dsimp only [tCons, tNil]
  walk_at "rd"
  rcases h with ⟨e, qe⟩ | ⟨e1, e, qe⟩ | ⟨i, j, rfl, rfl, hi, hj, q, qe, qd⟩
  · exact ⟨T1, turns, x, y, bx, bz, rfl, .inl (.inl (.inl D.tn)), hx, hy, .inl ⟨e, qe⟩⟩
  · exact ⟨T1, turns, x, y, bx, bz, rfl, .inl (.inl (.inl D.tn)), hx, hy, .inr (.inl ⟨e1, e, qe⟩)⟩
  refine ⟨T1, turns, _, _, bx, bz, rfl, .inl (.inl (.inl D.tn)), hx, hy, .inr (.inr ⟨i, j, rfl, rfl, hi, hj, fun nij => ?_, qe⟩)⟩
  dsimp only
  walk_at "rd"
  refine fld_told D T.tab ?_
  refine ⟨W, _, rfl, .inl (.inl (.inl D.td)), ?_⟩
  rw [List.length_map]
  walk_at "rd"
  refine ite2 (fun c => ?_) (fun c => ?_)
  · have c2 := of_decide_eq_true c
    refine qd nij ?_
    split at c2 <;> omega
  have c2 : ¬ _ := of_decide_eq_false (Bool.eq_false_iff.mpr c)
  have ti : told.length ≤ i ∧ told.length ≤ j := by
    split at c2 <;> omega
  replace q := q nij ti.1 ti.2
  walk_at "rd"
  refine fld_turns D T.tab ?_
  dsimp only [tCons, tNil]
  walk_at "rd"
  refine ⟨T1, turns, i, j, rfl, .inl (.inl (.inl D.tn)), hi, hj, fun v H1 nv s1 hv => ?_⟩
  walk_at "rd"
  refine ⟨v, _, rfl, .inr (.inl (.inl hv)), fun T2 nT2 => ?_⟩
  have nT20 := none_back s1 nT2
  have s2 := same_then s1 (o := .lst ((swp turns i j).map V.int)) nT2
  have D2 := D.same s2
  have hT2 : (upd H1 T2 (.lst ((swp turns i j).map V.int))) T2 = some (.lst ((swp turns i j).map V.int)) := upd_same
  generalize upd H1 T2 (.lst ((swp turns i j).map V.int)) = H2 at s2 D2 hT2 ⊢
  obtain ⟨dx, ob⟩ := id D2.ob
  walk_at "rd"
  refine ⟨p, _, dx, _, rfl, ob, T.tab.cl, T.tab.nT, by show 4 < 1000; decide, ?_⟩
  rw [flds_turns]
  have npT2 : p ≠ T2 := fun z => by rw [z, hT2] at ob; cases ob
  have ne : ∀ {b : Addr} {xs : List V}, H2 b = some (.lst xs) → (upd H2 p (.ins (tbC K) dx (flds m T2 W L))) b = some (.lst xs) := fun {b xs} e => by
    rw [upd_ne (fun z => by rw [z, ob] at e; cases e)]
    exact e
  have D3 : TblAt K (upd H2 p (.ins (tbC K) dx (flds m T2 W L))) p T2 W L m (swp turns i j) told calls := by
    refine ⟨⟨dx, upd_same⟩, ne hT2, ne D2.td, ne D2.cl, fun z => ?_, fun z => ?_, D.wl⟩
    · have h := D.td
      rw [← z, nT20] at h
      cases h
    · have h := D.cl
      rw [← z, nT20] at h
      cases h
  have b3 : But p H (upd H2 p (.ins (tbC K) dx (flds m T2 W L))) := (But.of_same s2).own
  have p3 : (upd H2 p (.ins (tbC K) dx (flds m T2 W L))) p = some (.ins (tbC K) dx (flds m T2 W L)) := upd_same
  generalize upd H2 p (.ins (tbC K) dx (flds m T2 W L)) = H3 at D3 b3 p3 ⊢
  clear ne D2 ob s2 s1 nv hv hT2 nT2
  walk_at "rd"
  refine fld_calls D3 T.tab ?_
  refine ⟨.inl ⟨rfl, _, .inl (.inl D3.cl)⟩, ?_⟩
  dsimp only [tCons, tTup, tC, tNil]
  walk_at "rd"
  refine ⟨by show 2 ≤ sizeLine; decide, fun e ne => ⟨by show 2 ≤ sizeLine; decide, fun u nu => ?_⟩⟩
  have eu : (upd (upd H3 e (.tup [.int (i : Int), .int (j : Int)])) u (.tup [.str "exchange", .ref e])) e = some (.tup [.int (i : Int), .int (j : Int)]) := by
    rw [upd_ne (ne_of_none upd_same nu), upd_same]
  have uu : (upd (upd H3 e (.tup [.int (i : Int), .int (j : Int)])) u (.tup [.str "exchange", .ref e])) u = some (.tup [.str "exchange", .ref e]) := upd_same
  have s4 : Same H3 (upd (upd H3 e (.tup [.int (i : Int), .int (j : Int)])) u (.tup [.str "exchange", .ref e])) := same_then (same_new ne) nu
  have ne0 := b3.free0 p3 ne
  have nu0 := b3.free0 p3 (none_back (same_new ne) nu)
  have D4 := D3.same s4
  generalize upd (upd H3 e (.tup [.int (i : Int), .int (j : Int)])) u (.tup [.str "exchange", .ref e]) = H4 at eu uu s4 D4 ⊢
  refine ⟨L, _, _, rfl, rfl, D4.cl, szl (by omega), ?_⟩
  refine q T2 u e _ nT20 nu0 ne0 ?_ ?_ ?_ ?_
  · rw [upd_ne (fun x => by have h := D4.cl; rw [← x, eu] at h; cases h)]
    exact eu
  · rw [upd_ne (fun x => by have h := D4.cl; rw [← x, uu] at h; cases h)]
    exact uu
  · obtain ⟨dy, o4⟩ := D4.ob
    refine ⟨⟨dy, ?_⟩, ?_, ?_, upd_same, D4.tw, D4.tl, D4.wl⟩
    · rw [upd_ne (fun x => by have h := D4.cl; rw [← x, o4] at h; cases h)]
      exact o4
    · rw [upd_ne D4.tl]
      exact D4.tn
    · rw [upd_ne D4.wl]
      exact D4.td
  · intro c o np nl h
    rw [upd_ne nl]
    exact s4 _ _ (b3 _ _ np h)

/-! check_bound -/
/-- a bound, or NoBound raised -/
def sp_check_bound (K : PySem.W.Frag) : Sp := fun vs H Q E => ∃ (v : V) (b : Bool), vs = [v] ∧ Wh K H v b ∧ (whB v 0 99 = true → Q .non H) ∧ (whB v 0 99 = false → E (.ref (He.ga K "NoBound")) none H)
theorem c_check_bound (T : Txt K mg) : CalX P w K mg base 3 "check_bound" ["bound"] (sp_check_bound K) := by
  refine T.f_check_bound.calX sc_check_bound (fun _ _ _ _ _ _ us hl => match us, hl with | [_], _ => rfl) (fun vs H Q E h => by first | (obtain ⟨_, rfl, _⟩ := h; rfl) | (obtain ⟨_, _, rfl, _⟩ := h; rfl) | (obtain ⟨_, _, _, rfl, _⟩ := h; rfl) | (obtain ⟨_, _, _, _, rfl, _⟩ := h; rfl) | (obtain ⟨_, _, _, _, _, rfl, _⟩ := h; rfl) | (obtain ⟨_, _, _, _, _, _, rfl, _⟩ := h; rfl) | (obtain ⟨_, _, _, _, _, _, _, rfl, _⟩ := h; rfl) | (obtain ⟨_, _, _, _, _, _, _, _, rfl, _⟩ := h; rfl) | (obtain ⟨_, _, _, _, _, _, _, _, _, rfl, _⟩ := h; rfl) | (obtain ⟨_, _, _, _, _, _, _, _, _, _, rfl, _⟩ := h; rfl) | (obtain ⟨_, _, _, _, _, _, _, _, _, _, _, rfl, _⟩ := h; rfl) | (obtain ⟨_, _, _, _, _, _, _, _, _, _, _, _, rfl, _⟩ := h; rfl) | (obtain ⟨_, _, _, _, _, _, _, _, _, _, _, _, _, rfl, _⟩ := h; rfl)) (fun cdv A outer s H vs Q E f hr h => ?_)
  obtain ⟨v, b, rfl, hw, q, qe⟩ := h
  refine ⟨_, (pss_one (ps_if (PT.nox (pt_not (pt_val (pe_cal (c_is_from_to T) hr (by decide) (pa_cons (pv 0) (pa_cons pe_int (pa_cons (pe_kon T.k_MOST_BOUND) pa_nil))))))) (pss_one (L2N.ps_raise rfl (L2N.takes_of rfl rfl rfl rfl) (pmk_at (T.excs.cls "NoBound" (by decide))))) pss_nil)), ?_⟩
  walk_at "rd"
  refine ⟨v, 0, 99, b, rfl, hw, _, rfl, ?_⟩
  cases e : whB v 0 99 with
  | true => exact iteF (q e)
  | false => exact iteT (qe e)

/-! check_lead_order -/
/-- an order of leads, or NoOrder raised -/
def sp_check_lead_order (K : PySem.W.Frag) : Sp := fun vs H Q E => ∃ (v : V) (b : Bool), vs = [v] ∧ Wh K H v b ∧ (whB v 1 4 = true → Q .non H) ∧ (whB v 1 4 = false → E (.ref (He.ga K "NoOrder")) none H)
theorem c_check_lead_order (T : Txt K mg) : CalX P w K mg base 3 "check_lead_order" ["order"] (sp_check_lead_order K) := by
  refine T.f_check_lead_order.calX sc_check_lead_order (fun _ _ _ _ _ _ us hl => match us, hl with | [_], _ => rfl) (fun vs H Q E h => by first | (obtain ⟨_, rfl, _⟩ := h; rfl) | (obtain ⟨_, _, rfl, _⟩ := h; rfl) | (obtain ⟨_, _, _, rfl, _⟩ := h; rfl) | (obtain ⟨_, _, _, _, rfl, _⟩ := h; rfl) | (obtain ⟨_, _, _, _, _, rfl, _⟩ := h; rfl) | (obtain ⟨_, _, _, _, _, _, rfl, _⟩ := h; rfl) | (obtain ⟨_, _, _, _, _, _, _, rfl, _⟩ := h; rfl) | (obtain ⟨_, _, _, _, _, _, _, _, rfl, _⟩ := h; rfl) | (obtain ⟨_, _, _, _, _, _, _, _, _, rfl, _⟩ := h; rfl) | (obtain ⟨_, _, _, _, _, _, _, _, _, _, rfl, _⟩ := h; rfl) | (obtain ⟨_, _, _, _, _, _, _, _, _, _, _, rfl, _⟩ := h; rfl) | (obtain ⟨_, _, _, _, _, _, _, _, _, _, _, _, rfl, _⟩ := h; rfl) | (obtain ⟨_, _, _, _, _, _, _, _, _, _, _, _, _, rfl, _⟩ := h; rfl)) (fun cdv A outer s H vs Q E f hr h => ?_)
  obtain ⟨v, b, rfl, hw, q, qe⟩ := h
  refine ⟨_, (pss_one (ps_if (PT.nox (pt_not (pt_val (pe_cal (c_is_from_to T) hr (by decide) (pa_cons (pv 0) (pa_cons pe_int (pa_cons (pe_kon T.k_MOST_LEAD_ORDER) pa_nil))))))) (pss_one (L2N.ps_raise rfl (L2N.takes_of rfl rfl rfl rfl) (pmk_at (T.excs.cls "NoOrder" (by decide))))) pss_nil)), ?_⟩
  walk_at "rd"
  refine ⟨v, 1, 4, b, rfl, hw, _, rfl, ?_⟩
  cases e : whB v 1 4 with
  | true => exact iteF (q e)
  | false => exact iteT (qe e)

/-! check_order_of -/
/-- an order not above how many worths are told, or NoOrder raised -/
def sp_check_order_of (K : PySem.W.Frag) : Sp := fun vs H Q E => ∃ (r : Addr) (ws : List Int) (v : V) (b : Bool), vs = [.ref r, v] ∧ (SqL K H r (ws.map V.int) ∨ SqT K H r (ws.map V.int)) ∧ Wh K H v b ∧
  (whB v 1 4 = false ∧ E (.ref (He.ga K "NoOrder")) none H ∨ ∃ k : Nat, v = .int (k : Int) ∧ 1 ≤ k ∧ k ≤ 4 ∧ (k ≤ ws.length → Q .non H) ∧ (ws.length < k → E (.ref (He.ga K "NoOrder")) none H))
theorem c_check_order_of (T : Txt K mg) : CalX P w K mg base 4 "check_order_of" ["told", "order"] (sp_check_order_of K) := by
  refine T.f_check_order_of.calX sc_check_order_of (fun _ _ _ _ _ _ us hl => match us, hl with | [_, _], _ => rfl) (fun vs H Q E h => by first | (obtain ⟨_, rfl, _⟩ := h; rfl) | (obtain ⟨_, _, rfl, _⟩ := h; rfl) | (obtain ⟨_, _, _, rfl, _⟩ := h; rfl) | (obtain ⟨_, _, _, _, rfl, _⟩ := h; rfl) | (obtain ⟨_, _, _, _, _, rfl, _⟩ := h; rfl) | (obtain ⟨_, _, _, _, _, _, rfl, _⟩ := h; rfl) | (obtain ⟨_, _, _, _, _, _, _, rfl, _⟩ := h; rfl) | (obtain ⟨_, _, _, _, _, _, _, _, rfl, _⟩ := h; rfl) | (obtain ⟨_, _, _, _, _, _, _, _, _, rfl, _⟩ := h; rfl) | (obtain ⟨_, _, _, _, _, _, _, _, _, _, rfl, _⟩ := h; rfl) | (obtain ⟨_, _, _, _, _, _, _, _, _, _, _, rfl, _⟩ := h; rfl) | (obtain ⟨_, _, _, _, _, _, _, _, _, _, _, _, rfl, _⟩ := h; rfl) | (obtain ⟨_, _, _, _, _, _, _, _, _, _, _, _, _, rfl, _⟩ := h; rfl)) (fun cdv A outer s H vs Q E f hr h => ?_)
  obtain ⟨r, ws, v, b, rfl, hS, hw, h⟩ := h
  refine ⟨_, (pss_cons (ps_expr (pe_calX (c_check_lead_order T) hr (by decide) (L2N.takes_of rfl rfl rfl rfl) (pa_cons (pv 1) pa_nil)))
    (pss_one (ps_if (PT.nox (pt_cmpR op_gt (pv 1) (pe_callB (kz_len (K := K)) (by rfl) T.b_len bt_len (pa_cons (pv 0) pa_nil)) (nomark _))) (pss_one (L2N.ps_raise rfl (L2N.takes_of rfl rfl rfl rfl) (pmk_at (T.excs.cls "NoOrder" (by decide))))) pss_nil))), ?_⟩
  rcases h with ⟨e, qe⟩ | ⟨k, rfl, h1, h2, q, qe⟩
  · walk_at "rd"
    exact ⟨v, b, rfl, hw, fun z => absurd (e.symm.trans z) Bool.false_ne_true, fun _ => qe⟩
  · walk_at "rd"
    have e : whB (.int (k : Int)) 1 4 = true := decide_eq_true ⟨by omega, by omega⟩
    refine ⟨_, b, rfl, hw, fun _ => ?_, fun z => absurd (e.symm.trans z) (fun h => Bool.noConfusion h)⟩
    walk_at "rd"
    refine ⟨r, _, rfl, hS, ?_⟩
    rw [List.length_map]
    walk_at "rd"
    by_cases lt : ws.length < k
    · rw [decide_eq_true (show (k : Int) > (ws.length : Int) by omega)]
      exact iteT (qe lt)
    · rw [decide_eq_false (show ¬ (k : Int) > (ws.length : Int) by omega)]
      exact iteF (q (by omega))

/-! check_two_hands -/
/-- two hands, or NoHand raised -/
def sp_check_two_hands (K : PySem.W.Frag) : Sp := fun vs H Q E => ∃ (m : Int) (x y : V) (b c : Bool), vs = [.int m, x, y] ∧ Wh K H x b ∧ Wh K H y c ∧
  (whB x 0 (m - 1) = false ∧ E (.ref (He.ga K "NoHand")) none H ∨ whB x 0 (m - 1) = true ∧ whB y 0 (m - 1) = false ∧ E (.ref (He.ga K "NoHand")) none H ∨
   ∃ i j : Int, x = .int i ∧ y = .int j ∧ (0 ≤ i ∧ i < m) ∧ (0 ≤ j ∧ j < m) ∧ (i ≠ j → Q .non H) ∧ (i = j → E (.ref (He.ga K "NoHand")) none H))
theorem c_check_two_hands (T : Txt K mg) : CalX P w K mg base 4 "check_two_hands" ["hands", "one", "other"] (sp_check_two_hands K) := by
  refine T.f_check_two_hands.calX sc_check_two_hands (fun _ _ _ _ _ _ us hl => match us, hl with | [_, _, _], _ => rfl) (fun vs H Q E h => by first | (obtain ⟨_, rfl, _⟩ := h; rfl) | (obtain ⟨_, _, rfl, _⟩ := h; rfl) | (obtain ⟨_, _, _, rfl, _⟩ := h; rfl) | (obtain ⟨_, _, _, _, rfl, _⟩ := h; rfl) | (obtain ⟨_, _, _, _, _, rfl, _⟩ := h; rfl) | (obtain ⟨_, _, _, _, _, _, rfl, _⟩ := h; rfl) | (obtain ⟨_, _, _, _, _, _, _, rfl, _⟩ := h; rfl) | (obtain ⟨_, _, _, _, _, _, _, _, rfl, _⟩ := h; rfl) | (obtain ⟨_, _, _, _, _, _, _, _, _, rfl, _⟩ := h; rfl) | (obtain ⟨_, _, _, _, _, _, _, _, _, _, rfl, _⟩ := h; rfl) | (obtain ⟨_, _, _, _, _, _, _, _, _, _, _, rfl, _⟩ := h; rfl) | (obtain ⟨_, _, _, _, _, _, _, _, _, _, _, _, rfl, _⟩ := h; rfl) | (obtain ⟨_, _, _, _, _, _, _, _, _, _, _, _, _, rfl, _⟩ := h; rfl)) (fun cdv A outer s H vs Q E f hr h => ?_)
  obtain ⟨m, x, y, b, c, rfl, hx, hy, h⟩ := h
  refine ⟨_, (pss_cons (ps_if (PT.nox (PW.pt (pw_or (pt_not (pt_val (pe_cal (c_is_hand T) hr (by decide) (pa_cons (pv 0) (pa_cons (pv 1) pa_nil))))) (pw_or1 (pt_not (pt_val (pe_cal (c_is_hand T) hr (by decide) (pa_cons (pv 0) (pa_cons (pv 2) pa_nil))))))))) (pss_one (L2N.ps_raise rfl (L2N.takes_of rfl rfl rfl rfl) (pmk_at (T.excs.cls "NoHand" (by decide))))) pss_nil)
    (pss_one (ps_if (PT.nox (pt_cmpR op_eq (pv 1) (pv 2) (nomark _))) (pss_one (L2N.ps_raise rfl (L2N.takes_of rfl rfl rfl rfl) (pmk_at (T.excs.cls "NoHand" (by decide))))) pss_nil))), ?_⟩
  walk_at "rd"
  refine ⟨x, m, b, rfl, hx, _, rfl, ?_⟩
  rcases h with ⟨e, qe⟩ | ⟨e1, e, qe⟩ | ⟨i, j, rfl, rfl, hi, hj, q, qe⟩
  · rw [e]
    exact iteT qe
  · rw [e1]
    refine iteF ?_
    walk_at "rd"
    refine ⟨y, m, c, rfl, hy, _, rfl, ?_⟩
    rw [e]
    exact iteT qe
  · have e : ∀ z : Int, 0 ≤ z ∧ z < m → whB (.int z) 0 (m - 1) = true := fun z hz => decide_eq_true ⟨by omega, by omega⟩
    rw [e i hi]
    refine iteF ?_
    walk_at "rd"
    refine ⟨.int j, m, c, rfl, hy, _, rfl, ?_⟩
    rw [e j hj]
    refine iteF ?_
    walk_at "rd"
    refine ite2 (fun c => qe (V.int.inj (of_decide_eq_true c))) (fun c => q fun z => c (by rw [z]; exact decide_eq_true rfl))

/-! differences_of -/
def sp_differences_of (K : PySem.W.Frag) : Sp := fun vs H Q _ => ∃ (r : Addr) (ws : List Int) (k : Nat), vs = [.ref r, .int (k : Int)] ∧ (SqL K H r (ws.map V.int) ∨ SqT K H r (ws.map V.int)) ∧ ws.length ≤ 100000 ∧ k ≤ 1000 ∧
  ∀ (p : Addr) (H' : Hp), H p = none → Same H H' → H' p = some (.lst ((diffsN k ws).map V.int)) → Q (.ref p) H'
theorem c_differences_of (T : Txt K mg) : Cal P w K mg base 1 "differences_of" ["worths", "order"] (sp_differences_of K) := by
  refine T.f_differences_of.cal sc_differences_of (fun _ _ _ _ _ _ us hl => match us, hl with | [_, _], _ => rfl) (fun vs H Q E h => by first | (obtain ⟨_, rfl, _⟩ := h; rfl) | (obtain ⟨_, _, rfl, _⟩ := h; rfl) | (obtain ⟨_, _, _, rfl, _⟩ := h; rfl) | (obtain ⟨_, _, _, _, rfl, _⟩ := h; rfl) | (obtain ⟨_, _, _, _, _, rfl, _⟩ := h; rfl) | (obtain ⟨_, _, _, _, _, _, rfl, _⟩ := h; rfl) | (obtain ⟨_, _, _, _, _, _, _, rfl, _⟩ := h; rfl) | (obtain ⟨_, _, _, _, _, _, _, _, rfl, _⟩ := h; rfl) | (obtain ⟨_, _, _, _, _, _, _, _, _, rfl, _⟩ := h; rfl) | (obtain ⟨_, _, _, _, _, _, _, _, _, _, rfl, _⟩ := h; rfl) | (obtain ⟨_, _, _, _, _, _, _, _, _, _, _, rfl, _⟩ := h; rfl) | (obtain ⟨_, _, _, _, _, _, _, _, _, _, _, _, rfl, _⟩ := h; rfl) | (obtain ⟨_, _, _, _, _, _, _, _, _, _, _, _, _, rfl, _⟩ := h; rfl)) (fun cdv A outer s H vs Q E f hr h => ?_)
  obtain ⟨r, ws, k, rfl, hS, hl, hk, q⟩ := h
  refine ⟨_, (pss_cons (ps_set (i := 2) sc_differences_of.nd rfl (.inl rfl) (pe_callTy (kz_list (K := K)) (by rfl) T.b_list bt_list (pa_cons (pv 0) pa_nil)))
    (pss_cons (ps_for PassesOwn.never rfl (pi_range1 (by rfl) T.b_range (pa_cons (pv 1) pa_nil)) (pg_name (i := 3) sc_differences_of.nd rfl (.inl rfl)) (pss_one (ps_setLc (i := 2) (own := [("before", 4), ("after", 5)]) (g := (gTup K 2 (gCons (gName 4) (gCons (gName 5) gNil)))) (tt := tYes) rfl sc_differences_of.nd rfl rfl (sw_true rfl rfl rfl (by decide +kernel)) (kz_zip (K := K) (by rfl) T.b_zip (pa_cons (pv 2) (pa_cons (pe_slice (kz_slL (K := K)) (pv 2) (po_some pe_int) po_none) pa_nil))) (blkOk_by (own := [("before", 4), ("after", 5)]) (N := ["worths", "order", "line", "_", "before", "after"]) (sc := defScope S_differences_of) (by decide +kernel)) (fun _ _ _ _ _ => (kz_gtup (K := K) 2 rfl (pgs_cons (pg_name (i := 4) sc_differences_of.nd rfl (.inl rfl)) (pgs_cons (pg_name (i := 5) sc_differences_of.nd rfl (.inl rfl)) pgs_nil)))) (fun _ _ _ _ _ => pts_nil) (fun _ _ _ _ _ => (pe_op op_sub (pv 5) (pv 4))))))
    (pss_one (ps_ret (pv 2))))), ?_⟩
  rcases hS with hS | hS
  all_goals
    walk_at "rd"
    intro p0 n0
    walk_at "rd"
    refine for_range (fun i σ H2 => ∃ (y3 : Option V) (p : Addr), σ = [some (.ref r), some (.int (k : Int)), some (.ref p), y3, none, none] ∧ H p = none ∧ Same H H2 ∧ H2 p = some (.lst ((diffsN i ws).map V.int))) ⟨none, p0, rfl, n0, same_new n0, upd_same⟩ ?_ ?_
    · rintro i σ H2 hi ⟨y3, p, rfl, np, s2, hp⟩
      refine ⟨_, rfl, _, rfl, 1, rfl, p, _, rfl, .inl (.inl hp), fun c nc => ?_⟩
      have s3 := same_new (o := .lst (cutV ((diffsN i ws).map V.int) (some 1) none)) nc
      have ncp : c ≠ p := fun e => by
        rw [e, hp] at nc
        cases nc
      have hc : SqL K (upd H2 c (.lst (cutV ((diffsN i ws).map V.int) (some 1) none))) c (((diffsN i ws).drop 1).map V.int) := by
        rw [cut1, ← List.map_drop]
        exact .inl (.inl upd_same)
      have hp3 : SqL K (upd H2 c (.lst (cutV ((diffsN i ws).map V.int) (some 1) none))) p ((diffsN i ws).map V.int) := .inl (.inl (s3 _ _ hp))
      generalize upd H2 c (.lst (cutV ((diffsN i ws).map V.int) (some 1) none)) = H3 at s3 hc hp3 ⊢
      refine ⟨p, c, _, _, rfl, .inl ⟨hp3, hc, fun D nD => ?_⟩⟩
      have dl := diffsN_len i ws
      refine lcp (walk_zip (n := (diffsN i ws).length - 1) (xs := (diffsN i ws).map V.int) (ys := ((diffsN i ws).drop 1).map V.int) (by rw [List.length_map, List.length_map, List.length_drop]; omega)) nD (fun j => ((diffs (diffsN i ws)).map V.int).take j) rfl (fun j _ => ?_)
        (fun H4 s4 => ⟨seqL s4 hp3, seqL s4 hc⟩) ?_ ?_
      · rw [List.length_take, List.length_map, diffs_len]
        omega
      · rintro j x H4 H5 R N hj s4 ⟨T1, v1, v2, rfl, nT, rfl, h1, h2⟩ k1 _
        obtain ⟨z1, e1, rfl⟩ := map_at h1
        obtain ⟨z2, e2, rfl⟩ := map_at h2
        rw [List.getElem?_drop, Nat.add_comm] at e2
        refine ⟨T1, _, rfl, .inl (.inl upd_same), rfl, _, _, rfl, _, _, rfl, rfl, rfl, ?_⟩
        refine ⟨_, rfl, _, rfl, _, _, rfl, rfl, k1 _ _ (same_new nT) ?_⟩
        rw [List.take_add_one, List.getElem?_map, diffs_at _ j _ _ e1 e2]
        rfl
      · intro H4 s4 hD
        have s24 := (s2.trans s3).trans s4
        refine ⟨some (.int (0 + (i : Int))), D, rfl, none_back (s2.trans s3) nD, s24, ?_⟩
        rw [hD, List.take_of_length_le]
        · rfl
        · rw [List.length_map, diffs_len]
          exact Nat.le_refl _
    · rintro σ H2 ⟨y3, p, rfl, np, s2, hp⟩
      walk_at "rd"
      refine q p H2 np s2 ?_
      rw [hp]
      rfl

/-! gone_on -/
def sp_gone_on (K : PySem.W.Frag) : Sp := fun vs H Q _ => ∃ (r : Addr) (ws : List Int) (pl k : Nat), vs = [.ref r, .int (pl : Int), .int (k : Int)] ∧ (SqL K H r (ws.map V.int) ∨ SqT K H r (ws.map V.int)) ∧ 1 ≤ k ∧ k ≤ 4 ∧ k ≤ ws.length ∧ ws.length ≤ pl ∧ pl ≤ 64 ∧
  ∀ (p : Addr) (st : Nat → Int) (H' : Hp), H p = none → Same H H' → H' p = some (.lst ((line st pl).map V.int)) → Gone pl k ws st → Q (.ref p) H'
theorem c_gone_on (T : Txt K mg) : Cal P w K mg base 2 "gone_on" ["worths", "places", "order"] (sp_gone_on K) := by
  refine T.f_gone_on.cal sc_gone_on (fun _ _ _ _ _ _ us hl => match us, hl with | [_, _, _], _ => rfl) (fun vs H Q E h => by first | (obtain ⟨_, rfl, _⟩ := h; rfl) | (obtain ⟨_, _, rfl, _⟩ := h; rfl) | (obtain ⟨_, _, _, rfl, _⟩ := h; rfl) | (obtain ⟨_, _, _, _, rfl, _⟩ := h; rfl) | (obtain ⟨_, _, _, _, _, rfl, _⟩ := h; rfl) | (obtain ⟨_, _, _, _, _, _, rfl, _⟩ := h; rfl) | (obtain ⟨_, _, _, _, _, _, _, rfl, _⟩ := h; rfl) | (obtain ⟨_, _, _, _, _, _, _, _, rfl, _⟩ := h; rfl) | (obtain ⟨_, _, _, _, _, _, _, _, _, rfl, _⟩ := h; rfl) | (obtain ⟨_, _, _, _, _, _, _, _, _, _, rfl, _⟩ := h; rfl) | (obtain ⟨_, _, _, _, _, _, _, _, _, _, _, rfl, _⟩ := h; rfl) | (obtain ⟨_, _, _, _, _, _, _, _, _, _, _, _, rfl, _⟩ := h; rfl) | (obtain ⟨_, _, _, _, _, _, _, _, _, _, _, _, _, rfl, _⟩ := h; rfl)) (fun cdv A outer s H vs Q E f hr h => ?_)
  obtain ⟨r, ws, pl, k, rfl, hS, hk1, hk4, hkw, hwp, hp, q⟩ := h
  refine ⟨_, (pss_cons (ps_set (i := 3) sc_gone_on.nd rfl (.inr rfl) (pe_callTy (kz_list (K := K)) (by rfl) T.b_list bt_list (pa_cons (pv 0) pa_nil)))
    (pss_cons (ps_setLc (i := 5) (own := [("step", 4)]) (g := (gName 4)) (tt := tYes) rfl sc_gone_on.nd rfl rfl (sw_true rfl rfl rfl (by decide +kernel)) (pi_range1 (by rfl) T.b_range (pa_cons (pv 2) pa_nil)) (blkOk_by (own := [("step", 4)]) (N := ["worths", "places", "order", "line", "step", "ends"]) (sc := defScope S_gone_on) (by decide +kernel)) (fun _ _ _ _ _ => (pg_name (i := 4) sc_gone_on.nd rfl (.inl rfl))) (fun _ _ _ _ _ => pts_nil) (fun _ _ _ _ _ => (pe_ix (kz_ixL (K := K)) (pe_cal (c_differences_of T) hr (by decide) (pa_cons (pv 3) (pa_cons (pv 4) pa_nil))) (pe_un un_neg pe_int) (fun _ _ => rfl))))
    (pss_cons (ps_while PassesOwn.never (pt_cmpR op_lt (pe_callB (kz_len (K := K)) (by rfl) T.b_len bt_len (pa_cons (pv 3) pa_nil)) (pv 1) (nomark _)) (pss_cons (ps_for PassesOwn.never rfl (pi_range3 (by rfl) T.b_range (pa_cons (pe_op op_sub (pv 2) pe_int) (pa_cons pe_int (pa_cons (pe_un un_neg pe_int) pa_nil)))) (pg_name (i := 4) sc_gone_on.nd rfl (.inl rfl)) (pss_one (ps_augS (pv 5) (pe_op op_sub (pv 4) pe_int) (kz_getL (K := K)) (pe_ix (kz_ixL (K := K)) (pv 5) (pv 4) (fun _ _ => rfl)) ip_add set_list)))
    (pss_one (ps_expr (pe_bm PySem.F.plainAttrs_list PySem.F.slot_list_append PySem.F.type_list_append mt_append (pv 3) (pa_cons (pe_ix (kz_ixL (K := K)) (pv 5) pe_int (fun _ _ => rfl)) pa_nil))))))
    (pss_one (ps_ret (pv 3)))))), ?_⟩
  rcases hS with hS | hS
  all_goals
    walk_at "rd"
    intro F nF
    have s1 := same_new (o := .lst (ws.map V.int)) nF
    have hF : (upd H F (.lst (ws.map V.int))) F = some (.lst (ws.map V.int)) := upd_same
    generalize upd H F (.lst (ws.map V.int)) = H1 at s1 hF ⊢
    obtain ⟨f0, hf0⟩ : ∃ f0 : Nat → Int, ws = line f0 ws.length := ⟨_, line_of ws⟩
    have hF1 : SqL K H1 F (ws.map V.int) := .inl (.inl hF)
    change tSeq _ _ _ [some (.ref r), some (.int (pl : Int)), some (.int (k : Int)), some (.ref F), none, none] H1
    walk_at "rd"
    intro E nE
    refine lcp walk_range nE (fun j => ((line (fun s => DN s f0 (ws.length - 1 - s)) k).map V.int).take j) rfl (fun j hj => ?_) (fun _ _ => trivial) ?_ ?_
    · rw [List.length_take, List.length_map, line_len]
      omega
    · rintro j x H2 H3 R N hj s2 ⟨rfl, rfl⟩ k1 _
      have hF2 := seqL s2 hF1
      refine ⟨rfl, ?_⟩
      walk_at "rd"
      refine ⟨F, ws, j, congrArg (fun z : Int => [V.ref F, V.int z]) (by omega), .inl hF2, by omega, by omega, fun p4 H4 n4 s4 h4 => ?_⟩
      have eD : diffsN j ws = line (DN j f0) (ws.length - j) := by
        have := diffsN_line j f0 ws.length
        rw [← hf0] at this
        exact this
      rw [eD] at h4
      walk_at "rd"
      refine ⟨p4, _, -1, _, rfl, rfl, .inl (.inl h4), at_end (n := ws.length - 1 - j) (by rw [line_len]; omega) (line_at (by omega)), ?_⟩
      refine k1 _ _ s4 ?_
      rw [List.take_add_one, List.getElem?_map, line_at (by omega)]
      rfl
    intro H2 s2 hE
    rw [List.take_of_length_le (by rw [List.length_map, line_len]; omega)] at hE
    have agr : ∀ i, i < ws.length → ws[i]? = some (f0 i) := fun i hi => by
      have := line_at (f := f0) hi
      rw [← hf0] at this
      exact this
    have nF0 := nF
    have nE0 : H E = none := none_back s1 nE
    have FE : E ≠ F := fun z => by
      rw [z, hF] at nE
      cases nE
    have s12 := s1.trans s2
    have hF2 := s2 _ _ hF
    rw [show ws.map V.int = (line f0 ws.length).map V.int by rw [← hf0]] at hF2
    clear hF1 hF s1 s2 nE
    change tSeq _ _ _ [some (.ref r), some (.int (pl : Int)), some (.int (k : Int)), some (.ref F), none, some (.ref E)] H2
    refine ⟨fun c σ H' => ∃ (n : Nat) (f : Nat → Int) (y4 : Option V), σ = [some (.ref r), some (.int (pl : Int)), some (.int (k : Int)), some (.ref F), y4, some (.ref E)] ∧ c = pl - n ∧ ws.length ≤ n ∧ n ≤ pl ∧ Same H H' ∧ H' F = some (.lst ((line f n).map V.int)) ∧ H' E = some (.lst ((line (fun s => DN s f (n - 1 - s)) k).map V.int)) ∧
        (∀ i, i < ws.length → ws[i]? = some (f i)) ∧ ∀ i, ws.length ≤ i + k → i + k < n → DN k f i = 0,
      ⟨_, ws.length, f0, none, rfl, rfl, Nat.le_refl _, hwp, s12, hF2, hE, agr, fun i a b => by omega⟩, ?_⟩
    rintro c σ H3 ⟨n, f, y4, rfl, rfl, n1, n2, s3, hF3, hE3, ag, dz⟩
    have hF3' : SqL K H3 F ((line f n).map V.int) := .inl (.inl hF3)
    walk_at "rd"
    rw [List.length_map, line_len]
    by_cases c1 : (n : Int) < (pl : Int)
    · rw [decide_eq_true c1]
      refine iteT ?_
      obtain ⟨v, hv⟩ : ∃ v : Int, v = sumTo k fun u => DN u f (n - 1 - u) := ⟨_, rfl⟩
      obtain ⟨g, hg⟩ : ∃ g : Nat → Int, g = fun i => if i < n then f i else v := ⟨_, rfl⟩
      refine ⟨fun σ' H' => ∃ y4, σ' = [some (.ref r), some (.int (pl : Int)), some (.int (k : Int)), some (.ref F), y4, some (.ref E)] ∧ Same H H' ∧ H' F = some (.lst ((line g (n + 1)).map V.int)) ∧ H' E = some (.lst ((line (fun s => DN s g (n - s)) k).map V.int)), ?_, ?_⟩
      · rintro σ' H' ⟨y4, rfl, s4, hF4, hE4⟩
        refine ⟨pl - (n + 1), by omega, n + 1, g, y4, rfl, rfl, by omega, by omega, s4, hF4, ?_, fun i hi => by
          rw [ag i hi, hg]
          show _ = some (if i < n then f i else v)
          rw [if_pos (by omega)], fun i a b => ?_⟩
        · rw [hE4]
          refine congrArg (fun l : List Int => some (HO.lst (l.map V.int))) ?_
          exact line_ext (line_len _ _) fun i hi => by rw [line_at hi, show n + 1 - 1 - i = n - i by omega]
        · by_cases c2 : i + k < n
          · rw [hg, dn_agree k i (f := fun i => if i < n then f i else v) (g := f) fun j hj => if_pos (by omega)]
            exact dz i a c2
          · rw [hg, show i = n - k by omega]
            exact gone_more (by omega) (by rw [hv, Int.add_zero])
      · walk_at "rd"
        obtain ⟨e, he⟩ : ∃ e : Nat → Int, e = fun u => DN u f (n - 1 - u) := ⟨_, rfl⟩
        rw [← he] at hE3 hv
        refine ⟨(k : Int) - 1, 0, -1, ((k : Int) - 1 - 0).toNat, rfl, RgC.neg (by omega) (by omega) (by omega) (by omega), ?_⟩
        refine for_rangeC (fun t σ H' => ∃ y4, σ = [some (.ref r), some (.int (pl : Int)), some (.int (k : Int)), some (.ref F), y4, some (.ref E)] ∧ Same H H' ∧ H' F = some (.lst ((line f n).map V.int)) ∧ H' E = some (.lst ((line (fun s => if k - 1 - t ≤ s then Tl k e s else e s) k).map V.int)))
          ⟨_, rfl, s3, hF3, ?_⟩ ?_ ?_
        · rw [hE3]
          refine congrArg (fun l : List Int => some (HO.lst (l.map V.int))) ?_
          refine line_ext (line_len _ _) fun i hi => ?_
          rw [line_at hi]
          refine congrArg some ?_
          by_cases c2 : k - 1 - 0 ≤ i
          · rw [if_pos c2, show i = k - 1 by omega]
            show _ = sumTo k e - sumTo (k - 1) e
            obtain ⟨k', rfl⟩ : ∃ k', k = k' + 1 := ⟨k - 1, by omega⟩
            show _ = sumTo k' e + e k' - sumTo (k' + 1 - 1) e
            rw [show k' + 1 - 1 = k' by omega]
            omega
          · rw [if_neg c2]
        · rintro t σ H4 ht ⟨y4, rfl, s4, hF4, hE4⟩
          have t1 : t + 1 < k := by omega
          have gE : (line (fun s => if k - 1 - t ≤ s then Tl k e s else e s) k)[k - 1 - t]? = some (Tl k e (k - 1 - t)) := by
            rw [line_at (by omega), if_pos (Nat.le_refl _)]
          have gE2 : (line (fun s => if k - 1 - t ≤ s then Tl k e s else e s) k)[k - 2 - t]? = some (e (k - 2 - t)) := by
            rw [line_at (by omega), if_neg (by omega)]
          have hE4' : SqL K H4 E ((line (fun s => if k - 1 - t ≤ s then Tl k e s else e s) k).map V.int) := .inl (.inl hE4)
          walk_at "rd"
          refine ⟨E, _, k - 2 - t, _, rfl, congrArg V.int (by omega), hE4', by rw [List.getElem?_map, gE2]; rfl, ?_⟩
          refine ⟨_, rfl, _, rfl, E, _, (k : Int) - 1 + (t : Int) * -1, _, rfl, rfl, hE4', at_intE (by omega) gE, ?_⟩
          refine ⟨_, _, rfl, rfl, E, _, (k : Int) - 1 + (t : Int) * -1 - 1, k - 2 - t, rfl, rfl, hE4, ?_, ?_⟩
          · unfold ixN
            rw [if_pos (by omega), if_pos (by rw [List.length_map, line_len]; omega)]
            exact congrArg some (by omega)
          · refine ⟨_, rfl, fun c o hc => ?_, by rw [upd_ne (Ne.symm FE)]; exact hF4, ?_⟩
            · rw [upd_ne (ne_of_none hc nE0)]
              exact s4 _ _ hc
            · rw [upd_same]
              refine congrArg (fun l => some (HO.lst l)) ?_
              refine List.ext_getElem? fun i => ?_
              rw [List.getElem?_set, List.length_map, line_len]
              by_cases c2 : i < k
              · rw [List.getElem?_map, List.getElem?_map, line_at c2, line_at c2]
                by_cases c3 : k - 2 - t = i
                · rw [if_pos c3, if_pos (by omega)]
                  show some (V.int _) = some (V.int (if k - 1 - (t + 1) ≤ i then Tl k e i else e i))
                  rw [if_pos (by omega), ← c3]
                  refine congrArg (fun z => some (V.int z)) ?_
                  show e (k - 2 - t) + (sumTo k e - sumTo (k - 1 - t) e) = sumTo k e - sumTo (k - 2 - t) e
                  rw [show k - 1 - t = k - 2 - t + 1 by omega]
                  show _ + (_ - (sumTo (k - 2 - t) e + e (k - 2 - t))) = _
                  omega
                · rw [if_neg c3]
                  show some (V.int (if k - 1 - t ≤ i then Tl k e i else e i)) = some (V.int (if k - 1 - (t + 1) ≤ i then Tl k e i else e i))
                  by_cases c4 : k - 1 - t ≤ i
                  · rw [if_pos c4, if_pos (by omega)]
                  · rw [if_neg c4, if_neg (by omega)]
              · rw [if_neg (by omega), List.getElem?_eq_none (by rw [List.length_map, line_len]; omega), List.getElem?_eq_none (by rw [List.length_map, line_len]; omega)]
        · rintro σ H4 ⟨y4, rfl, s4, hF4, hE4⟩
          have eT : line (fun s => if k - 1 - ((k : Int) - 1 - 0).toNat ≤ s then Tl k e s else e s) k = line (Tl k e) k := line_ext (line_len _ _) fun i hi => by rw [line_at hi, if_pos (by omega)]
          rw [eT] at hE4
          have gE : (line (Tl k e) k)[0]? = some v := by
            rw [line_at (by omega), hv]
            exact congrArg some (Int.sub_zero _)
          have hE4' : SqL K H4 E ((line (Tl k e) k).map V.int) := .inl (.inl hE4)
          refine ⟨_, rfl, .inl ⟨rfl, _, .inl (.inl hF4)⟩, ?_⟩
          refine ⟨_, rfl, E, _, 0, _, rfl, rfl, hE4', (at_int (j := 0) gE : atI _ ((0 : Nat) : Int) = _), F, _, _, rfl, rfl, hF4, szl (by rw [List.length_map, line_len]; omega), ?_⟩
          refine ⟨_, rfl, fun c o hc => ?_, ?_, ?_⟩
          · rw [upd_ne (ne_of_none hc nF0)]
            exact s4 _ _ hc
          · rw [upd_same]
            refine congrArg (fun l => some (HO.lst l)) ?_
            show _ ++ [V.int v] = _
            rw [line, line, List.range_succ, List.map_append, List.map_append]
            congr 1
            · refine congrArg (List.map V.int) (List.map_congr_left fun i hi => ?_)
              rw [hg]
              exact (if_pos (List.mem_range.mp hi)).symm
            · show _ = [V.int (g n)]
              rw [hg]
              exact congrArg (fun z => [V.int z]) (if_neg (Nat.lt_irrefl n)).symm
          · rw [upd_ne FE, hE4]
            refine congrArg (fun l : List Int => some (HO.lst (l.map V.int))) ?_
            refine line_ext (line_len _ _) fun i hi => ?_
            rw [line_at hi, hg, ← ends_more (k := k) (show k ≤ n by omega) (by rw [hv, he]) i (by omega), he]
    · rw [decide_eq_false c1]
      refine iteF ?_
      refine ⟨_, rfl, ?_⟩
      rw [show n = pl by omega] at hF3
      exact q F f H3 nF0 s3 hF3 ⟨ag, fun i a b => dz i a (by omega)⟩

/-! sign_of -/
def sp_sign_of (K : PySem.W.Frag) : Sp := fun vs H Q _ => ∃ (t a b : Int), vs = [.int t, .int a, .int b] ∧ Q (.int (signOf t a b)) H
theorem c_sign_of (T : Txt K mg) : Cal P w K mg base 1 "sign_of" ["turn", "one", "other"] (sp_sign_of K) := by
  refine T.f_sign_of.cal sc_sign_of (fun _ _ _ _ _ _ us hl => match us, hl with | [_, _, _], _ => rfl) (fun vs H Q E h => by first | (obtain ⟨_, rfl, _⟩ := h; rfl) | (obtain ⟨_, _, rfl, _⟩ := h; rfl) | (obtain ⟨_, _, _, rfl, _⟩ := h; rfl) | (obtain ⟨_, _, _, _, rfl, _⟩ := h; rfl) | (obtain ⟨_, _, _, _, _, rfl, _⟩ := h; rfl) | (obtain ⟨_, _, _, _, _, _, rfl, _⟩ := h; rfl) | (obtain ⟨_, _, _, _, _, _, _, rfl, _⟩ := h; rfl) | (obtain ⟨_, _, _, _, _, _, _, _, rfl, _⟩ := h; rfl) | (obtain ⟨_, _, _, _, _, _, _, _, _, rfl, _⟩ := h; rfl) | (obtain ⟨_, _, _, _, _, _, _, _, _, _, rfl, _⟩ := h; rfl) | (obtain ⟨_, _, _, _, _, _, _, _, _, _, _, rfl, _⟩ := h; rfl) | (obtain ⟨_, _, _, _, _, _, _, _, _, _, _, _, rfl, _⟩ := h; rfl) | (obtain ⟨_, _, _, _, _, _, _, _, _, _, _, _, _, rfl, _⟩ := h; rfl)) (fun cdv A outer s H vs Q E f hr h => ?_)
  obtain ⟨t, a, b, rfl, q⟩ := h
  refine ⟨_, (pss_cons (ps_if (pt_cmpR op_eq (pv 0) (pv 1) (nomark _)) (pss_one (ps_ret pe_int)) pss_nil)
    (pss_cons (ps_if (pt_cmpR op_eq (pv 0) (pv 2) (nomark _)) (pss_one (ps_ret (pe_un un_neg pe_int))) pss_nil)
    (pss_one (ps_ret pe_int)))), ?_⟩
  unfold signOf at q
  walk_at "rd"
  refine ite2 (fun c => ?_) (fun c => ?_)
  · rw [if_pos (show t = a from V.int.inj (of_decide_eq_true c))] at q
    exact q
  · rw [if_neg (show ¬ t = a from fun z => c (decide_eq_true (congrArg V.int z)))] at q
    walk_at "rd"
    refine ite2 (fun c => ?_) (fun c => ?_)
    · rw [if_pos (show t = b from V.int.inj (of_decide_eq_true c))] at q
      walk_at "rd"
      exact q
    · rw [if_neg (show ¬ t = b from fun z => c (decide_eq_true (congrArg V.int z)))] at q
      exact q

/-! signs_of -/
/-- a list or a tuple -/
inductive SqB (K : PySem.W.Frag) (H : Hp) (r : Addr) (xs : List V) : Prop
  | t : SqT K H r xs → SqB K H r xs
  | l : SqL K H r xs → SqB K H r xs
theorem SqB.or {K : PySem.W.Frag} {H : Hp} {r : Addr} {xs : List V} : SqB K H r xs → SqL K H r xs ∨ SqT K H r xs
  | .t h => .inr h
  | .l h => .inl h
theorem SqB.same {K : PySem.W.Frag} {H H' : Hp} {r : Addr} {xs : List V} (s : Same H H') : SqB K H r xs → SqB K H' r xs
  | .t h => .t (seqT s h)
  | .l h => .l (seqL s h)
/-- for over a list or a tuple -/
def iSeqB (K : PySem.W.Frag) (tl : TE) : TI := fun σ H R => tl σ H fun x H1 => ∃ a, x = .ref a ∧ ((∃ xs, SqT K H1 a xs) ∧ R (Itt K a) H1 ∨ (∃ xs, SqL K H1 a xs) ∧ R (Itl K a) H1)
theorem pi_seqB {X : Cx} {tg l : Expr} {tl : TE} (hl : PE X l tl) : PI X tg l (iSeqB X.K tl) := ⟨fun pins s σ H R I h => thn (hl.run pins s σ H _ I h) fun v s1 w => by
  obtain ⟨x, H1, I1, r1, a, rfl, q1⟩ := w
  cases r1
  have fp : ∀ c ∈ [s1.heap.objs.size], FpOk X pins H1 c := fun c hc => by
    rw [List.mem_singleton.mp hc]
    exact I1.fpOk (Nat.le_refl _) (I1.hok.fresh (Nat.le_refl _))
  rcases q1 with ⟨⟨xs, hq⟩, q⟩ | ⟨⟨xs, hq⟩, q⟩
  · obtain ⟨its, rv, pt, hz⟩ := I1.tuple hq
    exact wpAny_pyIter_tuple (show s1.heap.IsTuple a its.toArray from pt) ⟨_, [s1.heap.objs.size], _, _, H1, rfl, I1.kept (t' := s1.toks) fun b o e => Heap.get?_push_of_some _ e, turn_tuple a _, ⟨_, Heap.get?_push_size _ rfl, rfl, rfl⟩, fp, q⟩
  · obtain ⟨its, rv, pt, hz⟩ := I1.list hq
    exact wpAny_pyIter_list pt.isList ⟨_, [s1.heap.objs.size], _, _, H1, rfl, I1.kept (t' := s1.toks) fun b o e => Heap.get?_push_of_some _ e, turn_list a _, ⟨_, Heap.get?_push_size _ rfl, rfl, rfl⟩, fp, q⟩⟩
theorem kz_piB {X : Cx} {K : PySem.W.Frag} {tg l : Expr} {tl : TE} (hl : PE X l tl) (hK : X.K = K := by rfl) : PI X tg l (iSeqB K tl) := hK ▸ pi_seqB hl
def sp_signs_of (K : PySem.W.Frag) : Sp := fun vs H Q _ => ∃ (r : Addr) (row : List Int) (a b : Int), vs = [.ref r, .int a, .int b] ∧ SqB K H r (row.map V.int) ∧ row.length ≤ 100000 ∧
  ∀ (p : Addr) (H' : Hp), H p = none → Same H H' → H' p = some (.lst ((signsOf row a b).map V.int)) → Q (.ref p) H'
theorem c_signs_of (T : Txt K mg) : Cal P w K mg base 2 "signs_of" ["row", "one", "other"] (sp_signs_of K) := by
  refine T.f_signs_of.cal sc_signs_of (fun _ _ _ _ _ _ us hl => match us, hl with | [_, _, _], _ => rfl) (fun vs H Q E h => by first | (obtain ⟨_, rfl, _⟩ := h; rfl) | (obtain ⟨_, _, rfl, _⟩ := h; rfl) | (obtain ⟨_, _, _, rfl, _⟩ := h; rfl) | (obtain ⟨_, _, _, _, rfl, _⟩ := h; rfl) | (obtain ⟨_, _, _, _, _, rfl, _⟩ := h; rfl) | (obtain ⟨_, _, _, _, _, _, rfl, _⟩ := h; rfl) | (obtain ⟨_, _, _, _, _, _, _, rfl, _⟩ := h; rfl) | (obtain ⟨_, _, _, _, _, _, _, _, rfl, _⟩ := h; rfl) | (obtain ⟨_, _, _, _, _, _, _, _, _, rfl, _⟩ := h; rfl) | (obtain ⟨_, _, _, _, _, _, _, _, _, _, rfl, _⟩ := h; rfl) | (obtain ⟨_, _, _, _, _, _, _, _, _, _, _, rfl, _⟩ := h; rfl) | (obtain ⟨_, _, _, _, _, _, _, _, _, _, _, _, rfl, _⟩ := h; rfl) | (obtain ⟨_, _, _, _, _, _, _, _, _, _, _, _, _, rfl, _⟩ := h; rfl)) (fun cdv A outer s H vs Q E f hr h => ?_)
  obtain ⟨r, row, a, b, rfl, hS, hl, q⟩ := h
  refine ⟨_, (pss_one (ps_ret (pe_lc (own := [("turn", 3)]) (g := (gName 3)) (tt := tYes) rfl sc_signs_of.nd (kz_piB (K := K) (pv 0)) (blkOk_by (own := [("turn", 3)]) (N := ["row", "one", "other", "turn"]) (sc := defScope S_signs_of) (by decide +kernel)) (fun _ _ _ _ _ => (pg_name (i := 3) sc_signs_of.nd rfl (.inl rfl))) (fun _ _ _ _ _ => pts_nil) (fun _ _ _ _ _ => (pe_cal (c_sign_of T) hr (by decide) (pa_cons (pv 3) (pa_cons (pv 1) (pa_cons (pv 2) pa_nil)))))))), ?_⟩
  have len : ∀ i, (((signsOf row a b).map V.int).take i).length ≤ row.length := fun i => by
    rw [List.length_take, List.length_map, signsOf, List.length_map]
    exact Nat.min_le_right _ _
  have fin : ∀ (D : Addr) (H2 : Hp), H D = none → Same H H2 → H2 D = some (.lst (((signsOf row a b).map V.int).take row.length)) → Q (.ref D) H2 := fun D H2 nD s2 hD => by
    refine q D H2 nD s2 ?_
    rw [hD, List.take_of_length_le]
    rw [List.length_map, signsOf, List.length_map]
    exact Nat.le_refl _
  have stp : ∀ (i : Nat) (z : Int), row[i]? = some z → ((signsOf row a b).map V.int).take (i + 1) = ((signsOf row a b).map V.int).take i ++ [V.int (signOf z a b)] := fun i z hz => by
    rw [List.take_add_one, List.getElem?_map, signsOf, List.getElem?_map, hz]
    rfl
  refine ⟨_, rfl, r, rfl, ?_⟩
  rcases hS with hS | hS
  · refine .inl ⟨⟨_, hS⟩, fun D nD => ?_⟩
    refine lcp walk_tup nD (fun i => ((signsOf row a b).map V.int).take i) rfl (fun i _ => Nat.lt_of_le_of_lt (len i) (by omega)) (fun H2 s2 => seqT s2 hS) ?_ ?_
    · rintro i x H2 H' R N hi s2 ⟨rfl, hx⟩ k _
      obtain ⟨z, hz, rfl⟩ := map_at hx
      refine ⟨rfl, ?_⟩
      walk_at "rd"
      exact ⟨z, a, b, rfl, k _ _ (L2.Same.refl _) (stp i z hz)⟩
    · intro H2 s2 hD
      rw [List.length_map] at hD
      exact fin D H2 nD s2 hD
  · refine .inr ⟨⟨_, hS⟩, fun D nD => ?_⟩
    refine lcp walk_list nD (fun i => ((signsOf row a b).map V.int).take i) rfl (fun i _ => Nat.lt_of_le_of_lt (len i) (by omega)) (fun H2 s2 => seqL s2 hS) ?_ ?_
    · rintro i x H2 H' R N hi s2 ⟨rfl, hx⟩ k _
      obtain ⟨z, hz, rfl⟩ := map_at hx
      refine ⟨rfl, ?_⟩
      walk_at "rd"
      exact ⟨z, a, b, rfl, k _ _ (L2.Same.refl _) (stp i z hz)⟩
    · intro H2 s2 hD
      rw [List.length_map] at hD
      exact fin D H2 nD s2 hD

/-! running_sums -/
def sp_running_sums (K : PySem.W.Frag) : Sp := fun vs H Q _ => ∃ (r : Addr) (l : List Int), vs = [.ref r] ∧ SqL K H r (l.map V.int) ∧ l.length ≤ 100000 ∧
  ∀ (p : Addr) (H' : Hp), H p = none → Same H H' → H' p = some (.lst ((psums l).map V.int)) → Q (.ref p) H'
theorem c_running_sums (T : Txt K mg) : Cal P w K mg base 1 "running_sums" ["line"] (sp_running_sums K) := by
  refine T.f_running_sums.cal sc_running_sums (fun _ _ _ _ _ _ us hl => match us, hl with | [_], _ => rfl) (fun vs H Q E h => by first | (obtain ⟨_, rfl, _⟩ := h; rfl) | (obtain ⟨_, _, rfl, _⟩ := h; rfl) | (obtain ⟨_, _, _, rfl, _⟩ := h; rfl) | (obtain ⟨_, _, _, _, rfl, _⟩ := h; rfl) | (obtain ⟨_, _, _, _, _, rfl, _⟩ := h; rfl) | (obtain ⟨_, _, _, _, _, _, rfl, _⟩ := h; rfl) | (obtain ⟨_, _, _, _, _, _, _, rfl, _⟩ := h; rfl) | (obtain ⟨_, _, _, _, _, _, _, _, rfl, _⟩ := h; rfl) | (obtain ⟨_, _, _, _, _, _, _, _, _, rfl, _⟩ := h; rfl) | (obtain ⟨_, _, _, _, _, _, _, _, _, _, rfl, _⟩ := h; rfl) | (obtain ⟨_, _, _, _, _, _, _, _, _, _, _, rfl, _⟩ := h; rfl) | (obtain ⟨_, _, _, _, _, _, _, _, _, _, _, _, rfl, _⟩ := h; rfl) | (obtain ⟨_, _, _, _, _, _, _, _, _, _, _, _, _, rfl, _⟩ := h; rfl)) (fun cdv A outer s H vs Q E f hr h => ?_)
  obtain ⟨r, l, rfl, hS, hl, q⟩ := h
  refine ⟨_, (pss_cons (ps_set (i := 1) sc_running_sums.nd rfl (.inl rfl) pe_int)
    (pss_cons (ps_set (i := 2) sc_running_sums.nd rfl (.inl rfl) (pe_lst pa_nil))
    (pss_cons (ps_for PassesOwn.never rfl (kz_piL (K := K) (pv 0)) (pg_name (i := 3) sc_running_sums.nd rfl (.inl rfl)) (pss_cons (ps_aug (i := 1) sc_running_sums.nd rfl (.inl rfl) (pv 3) ip_add)
    (pss_one (ps_expr (pe_bm PySem.F.plainAttrs_list PySem.F.slot_list_append PySem.F.type_list_append mt_append (pv 2) (pa_cons (pv 1) pa_nil))))))
    (pss_one (ps_ret (pv 2)))))), ?_⟩
  walk_at "rd"
  intro p np
  have sp := same_new (o := .lst []) np
  walk_at "rd"
  refine ⟨⟨_, seqL sp hS⟩, ?_⟩
  refine for_list (xs := l.map V.int) (fun i σ H2 => ∃ y3, σ = [some (.ref r), some (.int (l.take i).sum), some (.ref p), y3] ∧ Same H H2 ∧ H2 p = some (.lst (((psums l).take i).map V.int)))
    ⟨none, rfl, sp, upd_same⟩ (fun i σ H2 _ h => by obtain ⟨_, _, s, _⟩ := h; exact seqL s hS) ?_ ?_
  · rintro i x σ H2 hx ⟨y3, rfl, s2, hp⟩
    obtain ⟨z, hz, rfl⟩ := map_at hx
    have hi := (List.getElem?_eq_some_iff.mp hz).1
    refine ⟨_, rfl, _, rfl, _, _, rfl, rfl, ?_⟩
    refine ⟨_, rfl, .inl ⟨rfl, _, .inl (.inl hp)⟩, _, rfl, p, _, _, rfl, rfl, hp, szl ?_, ?_⟩
    · rw [List.length_map, List.length_take]
      omega
    · refine ⟨some (.int z), ?_, fun c o hc => ?_, ?_⟩
      · rw [sum_take hz]
        rfl
      · rw [upd_ne (fun e => by rw [e, np] at hc; cases hc)]
        exact s2 _ _ hc
      · have e : (psums l)[i]? = some ((l.take i).sum + z) := by
          rw [psums, List.getElem?_map, List.getElem?_range hi]
          show some ((l.take (i + 1)).sum) = _
          rw [sum_take hz]
        rw [upd_same, List.take_add_one, e, List.map_append]
        rfl
  · rintro σ H2 ⟨y3, rfl, s2, hp⟩
    refine ⟨_, rfl, q p H2 np s2 ?_⟩
    rw [hp, List.take_of_length_le]
    rw [psums_len, List.length_map]
    exact Nat.le_refl _

/-! sums_of -/
def sp_sums_of (K : PySem.W.Frag) : Sp := fun vs H Q _ => ∃ (r : Addr) (l : List Int) (k : Nat), vs = [.ref r, .int (k : Int)] ∧ SqL K H r (l.map V.int) ∧ l.length ≤ 100000 ∧ k ≤ 1000 ∧
  ∀ (p : Addr) (H' : Hp), H p = none → Same H H' → H' p = some (.lst ((psumsN k l).map V.int)) → Q (.ref p) H'
theorem c_sums_of (T : Txt K mg) : Cal P w K mg base 2 "sums_of" ["line", "order"] (sp_sums_of K) := by
  refine T.f_sums_of.cal sc_sums_of (fun _ _ _ _ _ _ us hl => match us, hl with | [_, _], _ => rfl) (fun vs H Q E h => by first | (obtain ⟨_, rfl, _⟩ := h; rfl) | (obtain ⟨_, _, rfl, _⟩ := h; rfl) | (obtain ⟨_, _, _, rfl, _⟩ := h; rfl) | (obtain ⟨_, _, _, _, rfl, _⟩ := h; rfl) | (obtain ⟨_, _, _, _, _, rfl, _⟩ := h; rfl) | (obtain ⟨_, _, _, _, _, _, rfl, _⟩ := h; rfl) | (obtain ⟨_, _, _, _, _, _, _, rfl, _⟩ := h; rfl) | (obtain ⟨_, _, _, _, _, _, _, _, rfl, _⟩ := h; rfl) | (obtain ⟨_, _, _, _, _, _, _, _, _, rfl, _⟩ := h; rfl) | (obtain ⟨_, _, _, _, _, _, _, _, _, _, rfl, _⟩ := h; rfl) | (obtain ⟨_, _, _, _, _, _, _, _, _, _, _, rfl, _⟩ := h; rfl) | (obtain ⟨_, _, _, _, _, _, _, _, _, _, _, _, rfl, _⟩ := h; rfl) | (obtain ⟨_, _, _, _, _, _, _, _, _, _, _, _, _, rfl, _⟩ := h; rfl)) (fun cdv A outer s H vs Q E f hr h => ?_)
  obtain ⟨r, l, k, rfl, hS, hl, hk, q⟩ := h
  refine ⟨_, (pss_cons (ps_set (i := 2) sc_sums_of.nd rfl (.inl rfl) (pe_callTy (kz_list (K := K)) (by rfl) T.b_list bt_list (pa_cons (pv 0) pa_nil)))
    (pss_cons (ps_for PassesOwn.never rfl (pi_range1 (by rfl) T.b_range (pa_cons (pv 1) pa_nil)) (pg_name (i := 3) sc_sums_of.nd rfl (.inl rfl)) (pss_one (ps_set (i := 2) sc_sums_of.nd rfl (.inl rfl) (pe_cal (c_running_sums T) hr (by decide) (pa_cons (pv 2) pa_nil)))))
    (pss_one (ps_ret (pv 2))))), ?_⟩
  walk_at "rd"
  intro p0 n0
  walk_at "rd"
  refine for_range (fun i σ H2 => ∃ (y3 : Option V) (p : Addr), σ = [some (.ref r), some (.int (k : Int)), some (.ref p), y3] ∧ H p = none ∧ Same H H2 ∧ H2 p = some (.lst ((psumsN i l).map V.int))) ⟨none, p0, rfl, n0, same_new n0, upd_same⟩ ?_ ?_
  · rintro i σ H2 hi ⟨y3, p, rfl, np, s2, hp⟩
    walk_at "rd"
    refine ⟨p, _, rfl, .inl (.inl hp), by rw [psumsN_len]; omega, fun p3 H3 np3 s3 hp3 => ?_⟩
    exact ⟨some (.int (0 + (i : Int))), p3, rfl, none_back s2 np3, s2.trans s3, hp3⟩
  · rintro σ H2 ⟨y3, p, rfl, np, s2, hp⟩
    walk_at "rd"
    refine q p H2 np s2 ?_
    rw [hp]
    rfl

/-! tails_of -/
def sp_tails_of (K : PySem.W.Frag) : Sp := fun vs H Q _ => ∃ (r : Addr) (s : Nat → Int) (n k : Nat), vs = [.ref r, .int (k : Int)] ∧ SqL K H r ((line s n).map V.int) ∧ n ≤ 10000 ∧ k ≤ 1000 ∧
  ∀ (p : Addr) (H' : Hp), H p = none → Same H H' → H' p = some (.lst ((line (TN n k s) n).map V.int)) → Q (.ref p) H'
theorem c_tails_of (T : Txt K mg) : Cal P w K mg base 3 "tails_of" ["line", "order"] (sp_tails_of K) := by
  refine T.f_tails_of.cal sc_tails_of (fun _ _ _ _ _ _ us hl => match us, hl with | [_, _], _ => rfl) (fun vs H Q E h => by first | (obtain ⟨_, rfl, _⟩ := h; rfl) | (obtain ⟨_, _, rfl, _⟩ := h; rfl) | (obtain ⟨_, _, _, rfl, _⟩ := h; rfl) | (obtain ⟨_, _, _, _, rfl, _⟩ := h; rfl) | (obtain ⟨_, _, _, _, _, rfl, _⟩ := h; rfl) | (obtain ⟨_, _, _, _, _, _, rfl, _⟩ := h; rfl) | (obtain ⟨_, _, _, _, _, _, _, rfl, _⟩ := h; rfl) | (obtain ⟨_, _, _, _, _, _, _, _, rfl, _⟩ := h; rfl) | (obtain ⟨_, _, _, _, _, _, _, _, _, rfl, _⟩ := h; rfl) | (obtain ⟨_, _, _, _, _, _, _, _, _, _, rfl, _⟩ := h; rfl) | (obtain ⟨_, _, _, _, _, _, _, _, _, _, _, rfl, _⟩ := h; rfl) | (obtain ⟨_, _, _, _, _, _, _, _, _, _, _, _, rfl, _⟩ := h; rfl) | (obtain ⟨_, _, _, _, _, _, _, _, _, _, _, _, _, rfl, _⟩ := h; rfl)) (fun cdv A outer s H vs Q E f hr h => ?_)
  obtain ⟨r, s, n, k, rfl, hS, hn, hk, q⟩ := h
  refine ⟨_, (pss_one (ps_ret (pe_revL (pe_cal (c_sums_of T) hr (by decide) (pa_cons (pe_revL (pv 0)) (pa_cons (pv 1) pa_nil)))))), ?_⟩
  refine ⟨_, rfl, r, _, rfl, hS, fun p1 n1 => ?_⟩
  have s1 := same_new (o := .lst ((line s n).map V.int).reverse) n1
  have h1 : SqL K (upd H p1 (.lst ((line s n).map V.int).reverse)) p1 (((line s n).reverse).map V.int) := by
    rw [List.map_reverse]
    exact .inl (.inl upd_same)
  generalize upd H p1 (.lst ((line s n).map V.int).reverse) = H1 at s1 h1 ⊢
  walk_at "rd"
  refine ⟨p1, (line s n).reverse, k, rfl, h1, by rw [List.length_reverse, line_len]; omega, hk, fun p2 H2 n2 s2 hp2 => ?_⟩
  have s12 := s1.trans s2
  refine ⟨p2, _, rfl, .inl (.inl hp2), fun p3 n3 => ?_⟩
  refine q p3 _ (none_back s12 n3) (s12.trans (same_new n3)) ?_
  rw [upd_same, ← List.map_reverse, tails_of_eq]

/-! foreseen_of -/
/-- the leads foreseen of two hands: straight on, less and with the bound's times the tails' amounts -/
def sp_foreseen_of (K : PySem.W.Frag) : Sp := fun vs H Q _ => ∃ (r t : Addr) (row ws : List Int) (a b : Int) (k : Nat) (M : Int), vs = [.ref r, .ref t, .int a, .int b, .int (k : Int), .int M] ∧ SqB K H r (row.map V.int) ∧ SqB K H t (ws.map V.int) ∧ a ≠ b ∧ ws.length ≤ row.length ∧ row.length ≤ 64 ∧ 1 ≤ k ∧ k ≤ 4 ∧ k ≤ ws.length ∧ 0 ≤ M ∧ M ≤ 99 ∧
  ∀ (p : Addr) (st : Nat → Int) (H' : Hp), H p = none → Same H H' → Gone row.length k ws st →
    H' p = some (.tup [.int (sumTo row.length (fun i => sg row a b i * st i) - M * Far row.length ws.length k (sg row a b)), .int (sumTo row.length (fun i => sg row a b i * st i) + M * Far row.length ws.length k (sg row a b))]) → Q (.ref p) H'
theorem c_foreseen_of (T : Txt K mg) : Cal P w K mg base 4 "foreseen_of" ["row", "told", "one", "other", "order", "bound"] (sp_foreseen_of K) := by
  refine T.f_foreseen_of.cal sc_foreseen_of (fun _ _ _ _ _ _ us hl => match us, hl with | [_, _, _, _, _, _], _ => rfl) (fun vs H Q E h => by first | (obtain ⟨_, rfl, _⟩ := h; rfl) | (obtain ⟨_, _, rfl, _⟩ := h; rfl) | (obtain ⟨_, _, _, rfl, _⟩ := h; rfl) | (obtain ⟨_, _, _, _, rfl, _⟩ := h; rfl) | (obtain ⟨_, _, _, _, _, rfl, _⟩ := h; rfl) | (obtain ⟨_, _, _, _, _, _, rfl, _⟩ := h; rfl) | (obtain ⟨_, _, _, _, _, _, _, rfl, _⟩ := h; rfl) | (obtain ⟨_, _, _, _, _, _, _, _, rfl, _⟩ := h; rfl) | (obtain ⟨_, _, _, _, _, _, _, _, _, rfl, _⟩ := h; rfl) | (obtain ⟨_, _, _, _, _, _, _, _, _, _, rfl, _⟩ := h; rfl) | (obtain ⟨_, _, _, _, _, _, _, _, _, _, _, rfl, _⟩ := h; rfl) | (obtain ⟨_, _, _, _, _, _, _, _, _, _, _, _, rfl, _⟩ := h; rfl) | (obtain ⟨_, _, _, _, _, _, _, _, _, _, _, _, _, rfl, _⟩ := h; rfl)) (fun cdv A outer s H vs Q E f hr h => ?_)
  obtain ⟨r, t, row, ws, a, b, k, M, rfl, hR, hT, hab, h1, h2, h3, h4, h5, h6, h7, q⟩ := h
  refine ⟨_, (pss_cons (ps_set (i := 6) sc_foreseen_of.nd rfl (.inl rfl) (pe_cal (c_signs_of T) hr (by decide) (pa_cons (pv 0) (pa_cons (pv 2) (pa_cons (pv 3) pa_nil)))))
    (pss_cons (ps_set (i := 7) sc_foreseen_of.nd rfl (.inl rfl) (pe_cal (c_gone_on T) hr (by decide) (pa_cons (pv 1) (pa_cons (pe_callB (kz_len (K := K)) (by rfl) T.b_len bt_len (pa_cons (pv 0) pa_nil)) (pa_cons (pv 4) pa_nil)))))
    (pss_cons (ps_set (i := 8) sc_foreseen_of.nd rfl (.inl rfl) (pe_callB (kz_sum (K := K) rfl) (by rfl) T.b_sum bt_sum (pa_cons (pe_lc (own := [("sign", 10), ("worth", 11)]) (g := (gTup K 2 (gCons (gName 10) (gCons (gName 11) gNil)))) (tt := tYes) rfl sc_foreseen_of.nd (kz_zip (K := K) (by rfl) T.b_zip (pa_cons (pv 6) (pa_cons (pv 7) pa_nil))) (blkOk_by (own := [("sign", 10), ("worth", 11)]) (N := ["row", "told", "one", "other", "order", "bound", "line", "worths", "straight", "reach", "sign", "worth", "tail"]) (sc := defScope S_foreseen_of) (by decide +kernel)) (fun _ _ _ _ _ => (kz_gtup (K := K) 2 rfl (pgs_cons (pg_name (i := 10) sc_foreseen_of.nd rfl (.inl rfl)) (pgs_cons (pg_name (i := 11) sc_foreseen_of.nd rfl (.inl rfl)) pgs_nil)))) (fun _ _ _ _ _ => pts_nil) (fun _ _ _ _ _ => (pe_op op_mul (pv 10) (pv 11)))) pa_nil)))
    (pss_cons (ps_set (i := 9) sc_foreseen_of.nd rfl (.inl rfl) (pe_op op_mul (pv 5) (pe_callB (kz_sum (K := K) rfl) (by rfl) T.b_sum bt_sum (pa_cons (pe_lc (own := [("tail", 12)]) (g := (gName 12)) (tt := tYes) rfl sc_foreseen_of.nd (kz_piL (K := K) (pe_slice (kz_slL (K := K)) (pe_cal (c_tails_of T) hr (by decide) (pa_cons (pv 6) (pa_cons (pv 4) pa_nil))) (po_some (pe_callB (kz_len (K := K)) (by rfl) T.b_len bt_len (pa_cons (pv 1) pa_nil))) po_none)) (blkOk_by (own := [("tail", 12)]) (N := ["row", "told", "one", "other", "order", "bound", "line", "worths", "straight", "reach", "sign", "worth", "tail"]) (sc := defScope S_foreseen_of) (by decide +kernel)) (fun _ _ _ _ _ => (pg_name (i := 12) sc_foreseen_of.nd rfl (.inl rfl))) (fun _ _ _ _ _ => pts_nil) (fun _ _ _ _ _ => (pe_callB call_abs (by rfl) T.b_abs bt_abs (pa_cons (pv 12) pa_nil)))) pa_nil))))
    (pss_one (ps_ret (pe_tup (pa_cons (pe_op op_sub (pv 8) (pv 9)) (pa_cons (pe_op op_add (pv 8) (pv 9)) pa_nil))))))))), ?_⟩
  walk_at "rd"
  refine ⟨r, row, a, b, rfl, hR, by omega, fun p1 H1 n1 s1 hp1 => ?_⟩
  rw [signsOf_line] at hp1
  have hR1 := hR.same s1
  have hT1 := hT.same s1
  walk_at "rd"
  refine ⟨r, _, rfl, hR1.or, ?_⟩
  walk_at "rd"
  refine ⟨t, ws, row.length, k, by rw [List.length_map]; rfl, hT1.or, h3, h4, h5, h1, h2, fun p2 st H2 n2 s2 hp2 gn => ?_⟩
  have s12 := s1.trans s2
  have hR2 := hR.same s12
  have hT2 := hT.same s12
  have hL2 : SqL K H2 p1 ((line (sg row a b) row.length).map V.int) := .inl (.inl (s2 _ _ hp1))
  have hG2 : SqL K H2 p2 ((line st row.length).map V.int) := .inl (.inl hp2)
  refine ⟨_, rfl, _, rfl, p1, p2, _, _, rfl, .inl ⟨hL2, hG2, fun D nD => ?_⟩⟩
  refine lcp (walk_zip (n := row.length) (xs := (line (sg row a b) row.length).map V.int) (ys := (line st row.length).map V.int) (by rw [List.length_map, List.length_map, line_len, line_len]; omega)) nD (fun j => ((line (fun i => sg row a b i * st i) row.length).map V.int).take j) rfl (fun j _ => ?_)
    (fun H3 s3 => ⟨seqL s3 hL2, seqL s3 hG2⟩) ?_ ?_
  · rw [List.length_take, List.length_map, line_len]
    omega
  · rintro j x H3 H' R N hj s3 ⟨T1, v1, v2, rfl, nT, rfl, e1, e2⟩ kk _
    dsimp only at e1 e2
    rw [List.getElem?_map, line_at hj] at e1 e2
    cases e1
    cases e2
    have sb : sg row a b j = 1 ∨ sg row a b j = -1 ∨ sg row a b j = 0 := signOf_small _ a b
    refine ⟨T1, _, rfl, .inl (.inl upd_same), rfl, _, _, rfl, _, _, rfl, rfl, rfl, ?_⟩
    refine ⟨_, rfl, _, rfl, _, _, rfl, rfl, .inl ⟨by omega, by omega⟩, kk _ _ (same_new nT) ?_⟩
    rw [List.take_add_one, List.getElem?_map, line_at hj]
    rfl
  intro H3 s3 hD
  rw [List.take_of_length_le (by rw [List.length_map, line_len]; exact Nat.le_refl _)] at hD
  refine ⟨D, _, rfl, .inl (.inl hD), ?_⟩
  rw [line_sum]
  have s13 := s12.trans s3
  have hL3 := seqL s3 hL2
  have hT3 := hT2.same s3
  generalize hB : sumTo row.length (fun i => sg row a b i * st i) = B at q
  walk_at "rd"
  refine ⟨p1, sg row a b, row.length, k, rfl, hL3, by omega, by omega, fun p4 H4 n4 s4 hp4 => ?_⟩
  have s14 := s13.trans s4
  have hp4' : SqL K H4 p4 ((line (TN row.length k (sg row a b)) row.length).map V.int) := .inl (.inl hp4)
  have hT4 := hT3.same s4
  walk_at "rd"
  refine ⟨t, _, rfl, hT4.or, ?_⟩
  walk_at "rd"
  refine ⟨p4, _, rfl, hp4', fun c nc => ?_⟩
  rw [List.length_map, cut_from, ← List.map_drop]
  have s15 := s14.trans (same_new (o := .lst (((line (TN row.length k (sg row a b)) row.length).drop ws.length).map V.int)) nc)
  have hC : SqL K (upd H4 c (.lst (((line (TN row.length k (sg row a b)) row.length).drop ws.length).map V.int))) c (((line (TN row.length k (sg row a b)) row.length).drop ws.length).map V.int) := .inl (.inl upd_same)
  have hF := Far_list (n := row.length) (n0 := ws.length) (k := k) (s := sg row a b) h1
  have lC : ((line (TN row.length k (sg row a b)) row.length).drop ws.length).length ≤ 64 := by
    rw [List.length_drop, line_len]
    omega
  generalize (line (TN row.length k (sg row a b)) row.length).drop ws.length = L at s15 hC hF lC ⊢
  generalize upd H4 c (.lst (L.map V.int)) = H5 at s15 hC ⊢
  refine ⟨c, rfl, ⟨_, hC⟩, fun G nG => ?_⟩
  refine lcp (walk_list (xs := L.map V.int)) nG (fun j => ((L.map absI).map V.int).take j) rfl (fun j _ => ?_) (fun H6 s6 => seqL s6 hC) ?_ ?_
  · rw [List.length_take, List.length_map, List.length_map]
    omega
  · rintro j x H6 H7 R N hj s6 ⟨rfl, hx⟩ kk _
    obtain ⟨z, e1, rfl⟩ := map_at hx
    refine ⟨rfl, ?_⟩
    walk_at "rd"
    refine kk _ _ (L2.Same.refl _) ?_
    rw [List.take_add_one, List.getElem?_map, List.getElem?_map, e1]
    rfl
  intro H6 s6 hG
  rw [List.take_of_length_le (by rw [List.length_map, List.length_map, List.length_map]; exact Nat.le_refl _)] at hG
  refine ⟨G, _, rfl, .inl (.inl hG), ?_⟩
  rw [hF]
  have s16 := s15.trans s6
  refine ⟨_, _, rfl, rfl, .inl ⟨by omega, by omega⟩, ?_⟩
  walk_at "rd"
  refine ⟨by show 2 ≤ sizeLine; decide, fun p np => ?_⟩
  exact q p st _ (none_back s16 np) (s16.trans (same_new np)) gn (by rw [hB]; exact upd_same)

/-! Table_foresee -/
/-- what is refused of the leads foreseen -/
def sp_Table_foresee (K : PySem.W.Frag) : Sp := fun vs H Q E => ∃ (p T W L : Addr) (m : Int) (x y v u : V) (b1 b2 b3 b4 : Bool) (turns told : List Int) (calls : List V), vs = [.ref p, x, y, v, u] ∧ TblAt K H p T W L m turns told calls ∧ Wh K H x b1 ∧ Wh K H y b2 ∧ Wh K H v b3 ∧ Wh K H u b4 ∧
  (whB x 0 (m - 1) = false ∧ E (.ref (He.ga K "NoHand")) none H ∨ whB x 0 (m - 1) = true ∧ whB y 0 (m - 1) = false ∧ E (.ref (He.ga K "NoHand")) none H ∨
   ∃ i j : Int, x = .int i ∧ y = .int j ∧ (0 ≤ i ∧ i < m) ∧ (0 ≤ j ∧ j < m) ∧ (i = j ∧ E (.ref (He.ga K "NoHand")) none H ∨ i ≠ j ∧ (whB v 1 4 = false ∧ E (.ref (He.ga K "NoOrder")) none H ∨
     ∃ k : Nat, v = .int (k : Int) ∧ 1 ≤ k ∧ k ≤ 4 ∧ (told.length < k ∧ E (.ref (He.ga K "NoOrder")) none H ∨ k ≤ told.length ∧ whB u 0 99 = false ∧ E (.ref (He.ga K "NoBound")) none H))))
theorem ck_Table_foresee (T : Txt K mg) : CalMKX P w K mg base 5 (He.ga K "Table") "foresee" ["self", "one", "other", "order", "bound"] (sp_Table_foresee K) 4 "bound" := by
  refine T.f_Table_foresee.calKX sc_Table_foresee (fun _ _ _ _ _ _ us ws hl hw => match us, ws, hl, hw with | [_, _, _, _], [_], _, _ => rfl) (fun vs H Q E h => by first | (obtain ⟨_, _, _, _, _, _, _, _, _, _, _, _, _, _, rfl, _⟩ := h; rfl) | (obtain ⟨_, _, _, _, _, _, _, _, _, _, _, _, _, _, _, rfl, _⟩ := h; rfl) | (obtain ⟨_, _, _, _, _, _, _, _, _, _, _, _, _, _, _, _, rfl, _⟩ := h; rfl) | (obtain ⟨_, _, _, _, _, _, _, _, _, _, _, _, _, _, _, _, _, rfl, _⟩ := h; rfl) | (obtain ⟨_, _, _, _, _, _, _, _, _, _, _, _, _, _, _, _, _, _, rfl, _⟩ := h; rfl) | (obtain ⟨_, _, _, _, _, _, _, _, _, _, _, _, _, _, _, _, _, _, _, rfl, _⟩ := h; rfl) | (obtain ⟨_, _, _, _, _, _, _, _, _, _, _, _, _, _, _, _, _, _, _, _, rfl, _⟩ := h; rfl) | (obtain ⟨_, _, _, _, _, _, _, _, _, _, _, _, _, _, _, _, _, _, _, _, _, rfl, _⟩ := h; rfl) | (obtain ⟨_, _, _, _, _, _, _, _, _, _, _, _, _, _, _, _, _, _, _, _, _, _, rfl, _⟩ := h; rfl) | (obtain ⟨_, _, _, _, _, _, _, _, _, _, _, _, _, _, _, _, _, _, _, _, _, _, _, rfl, _⟩ := h; rfl)) (fun cdv A outer s H vs Q E f hr h => ?_)
  obtain ⟨p, T1, W, L, m, x, y, v, u, b1, b2, b3, b4, turns, told, calls, rfl, D, hx, hy, hv, hu, h⟩ := h
  refine ⟨_, (pss_cons (ps_expr (pe_calX (c_check_two_hands T) hr (by decide) (L2N.takes_of rfl rfl rfl rfl) (pa_cons (pe_fld (pv 0) rfl) (pa_cons (pv 1) (pa_cons (pv 2) pa_nil)))))
    (pss_cons (ps_expr (pe_calX (c_check_order_of T) hr (by decide) (L2N.takes_of rfl rfl rfl rfl) (pa_cons (pe_fld (pv 0) rfl) (pa_cons (pv 3) pa_nil))))
    (pss_cons (ps_expr (pe_calX (c_check_bound T) hr (by decide) (L2N.takes_of rfl rfl rfl rfl) (pa_cons (pv 4) pa_nil)))
    (pss_one (ps_nox (ps_ret (pe_cal (c_foreseen_of T) hr (by decide) (pa_cons (pe_fld (pv 0) rfl) (pa_cons (pe_fld (pv 0) rfl) (pa_cons (pv 1) (pa_cons (pv 2) (pa_cons (pv 3) (pa_cons (pv 4) pa_nil))))))))))))), ?_⟩
  walk_at "rd"
  refine fld_hands D T.tab ?_
  dsimp only [tCons, tNil]
  walk_at "rd"
  rcases h with ⟨e, qe⟩ | ⟨e1, e, qe⟩ | ⟨i, j, rfl, rfl, hi, hj, ⟨rfl, qe⟩ | ⟨nij, h⟩⟩
  · exact ⟨m, x, y, b1, b2, rfl, hx, hy, .inl ⟨e, qe⟩⟩
  · exact ⟨m, x, y, b1, b2, rfl, hx, hy, .inr (.inl ⟨e1, e, qe⟩)⟩
  · exact ⟨m, _, _, b1, b2, rfl, hx, hy, .inr (.inr ⟨i, i, rfl, rfl, hi, hj, fun z => absurd rfl z, fun _ => qe⟩)⟩
  refine ⟨m, _, _, b1, b2, rfl, hx, hy, .inr (.inr ⟨i, j, rfl, rfl, hi, hj, fun _ => ?_, fun z => absurd z nij⟩)⟩
  walk_at "rd"
  refine fld_told D T.tab ?_
  dsimp only [tCons, tNil]
  walk_at "rd"
  rcases h with ⟨e, qe⟩ | ⟨k, rfl, k1, k4, ⟨lt, qe⟩ | ⟨le, e, qe⟩⟩
  · exact ⟨W, told, v, b3, rfl, .inl (.inl (.inl D.td)), hv, .inl ⟨e, qe⟩⟩
  · exact ⟨W, told, _, b3, rfl, .inl (.inl (.inl D.td)), hv, .inr ⟨k, rfl, k1, k4, fun z => absurd z (by omega), fun _ => qe⟩⟩
  refine ⟨W, told, _, b3, rfl, .inl (.inl (.inl D.td)), hv, .inr ⟨k, rfl, k1, k4, fun _ => ?_, fun z => absurd z (by omega)⟩⟩
  walk_at "rd"
  exact ⟨u, b4, rfl, hu, fun z => absurd (e.symm.trans z) Bool.false_ne_true, fun _ => qe⟩

/-! _law_which -/
/-- what isinstance tells of one of the refusals, class by class -/
def asked (x : Str) : List V := errs.map fun y => .bl (decide (x = y))
theorem asked_facts : ∀ i : Nat, i < 13 → ((asked (errs.getD i "")).countP (fun z => eqV z (.bl true)) = 1 ∧ (asked (errs.getD i ""))[i]? = some (.bl true) ∧ ((asked (errs.getD i "")).take i).all (fun z => !eqV z (.bl true)) = true) := by decide +kernel
theorem asked_flat (x : Str) : (asked x).all flatV = true := by
  unfold asked
  rw [List.all_map, List.all_eq_true]
  exact fun _ _ => rfl
def sp__law_which (K : PySem.W.Frag) : Addr → Value → Option Addr → Sp := fun a c d vs H Q _ => ∃ (x : Str) (i : Nat), vs = [.ref a] ∧ errs[i]? = some x ∧ c = .ref (He.ga K x) ∧ d = none ∧
  ∀ q H', H q = none → Same H H' → H' q = some (.tup [.str "refused", .int (i : Int)]) → Q (.ref q) H'
theorem c__law_which (T : Txt K mg) : ∃ f fd, FnE P w K mg base 1 f fd ["_law_e"] (sp__law_which K) ∧ mg "_law_which" = some (.ref f) ∧ PySem.W.keepIn K (.ref f) = true ∧ Binds K fd ["_law_e"] [] := by
  refine T.f__law_which.calE sc__law_which (fun _ _ _ _ _ _ us hl => match us, hl with | [_], _ => rfl) (fun a c d vs H Q E h => by obtain ⟨_, _, rfl, _⟩ := h; rfl) (fun cdv A outer s H vs Q E f p c d hot hz hr h => ?_)
  obtain ⟨x, i, rfl, hx0, rfl, rfl, q⟩ := h
  have hx : x ∈ errs := List.mem_of_getElem? hx0
  obtain ⟨_, vs0, hf0, _⟩ := hot
  have hf : ∃ vs, p.2.data = .fields vs := ⟨vs0, hf0⟩
  refine ⟨_, (pss_cons (ps_set (i := 1) sc__law_which.nd rfl (.inl rfl) (pe_lst (pa_cons (pe_callB (call_isP (List.mem_singleton.mpr rfl) (T.excs.cls x hx).ec hz.zc hf) (by rfl) T.b_isinstance bt_isinstance (pa_cons (pv 0) (pa_cons (pe_glob (v := .ref (He.ga K "NoHands")) (by rfl) (T.excs.cls "NoHands" (by decide)).gC rfl) pa_nil))) (pa_cons (pe_callB (call_isP (List.mem_singleton.mpr rfl) (T.excs.cls x hx).ec hz.zc hf) (by rfl) T.b_isinstance bt_isinstance (pa_cons (pv 0) (pa_cons (pe_glob (v := .ref (He.ga K "NoRow")) (by rfl) (T.excs.cls "NoRow" (by decide)).gC rfl) pa_nil))) (pa_cons (pe_callB (call_isP (List.mem_singleton.mpr rfl) (T.excs.cls x hx).ec hz.zc hf) (by rfl) T.b_isinstance bt_isinstance (pa_cons (pv 0) (pa_cons (pe_glob (v := .ref (He.ga K "NoHand")) (by rfl) (T.excs.cls "NoHand" (by decide)).gC rfl) pa_nil))) (pa_cons (pe_callB (call_isP (List.mem_singleton.mpr rfl) (T.excs.cls x hx).ec hz.zc hf) (by rfl) T.b_isinstance bt_isinstance (pa_cons (pv 0) (pa_cons (pe_glob (v := .ref (He.ga K "NoWorths")) (by rfl) (T.excs.cls "NoWorths" (by decide)).gC rfl) pa_nil))) pa_nil))))))
    (pss_cons (ps_expr (pe_bm PySem.F.plainAttrs_list PySem.F.slot_list_extend PySem.F.type_list_extend mt_extend (pv 1) (pa_cons (pe_lst (pa_cons (pe_callB (call_isP (List.mem_singleton.mpr rfl) (T.excs.cls x hx).ec hz.zc hf) (by rfl) T.b_isinstance bt_isinstance (pa_cons (pv 0) (pa_cons (pe_glob (v := .ref (He.ga K "NoOrder")) (by rfl) (T.excs.cls "NoOrder" (by decide)).gC rfl) pa_nil))) (pa_cons (pe_callB (call_isP (List.mem_singleton.mpr rfl) (T.excs.cls x hx).ec hz.zc hf) (by rfl) T.b_isinstance bt_isinstance (pa_cons (pv 0) (pa_cons (pe_glob (v := .ref (He.ga K "NoBound")) (by rfl) (T.excs.cls "NoBound" (by decide)).gC rfl) pa_nil))) (pa_cons (pe_callB (call_isP (List.mem_singleton.mpr rfl) (T.excs.cls x hx).ec hz.zc hf) (by rfl) T.b_isinstance bt_isinstance (pa_cons (pv 0) (pa_cons (pe_glob (v := .ref (He.ga K "NotEven")) (by rfl) (T.excs.cls "NotEven" (by decide)).gC rfl) pa_nil))) (pa_cons (pe_callB (call_isP (List.mem_singleton.mpr rfl) (T.excs.cls x hx).ec hz.zc hf) (by rfl) T.b_isinstance bt_isinstance (pa_cons (pv 0) (pa_cons (pe_glob (v := .ref (He.ga K "TooLong")) (by rfl) (T.excs.cls "TooLong" (by decide)).gC rfl) pa_nil))) pa_nil))))) pa_nil)))
    (pss_cons (ps_expr (pe_bm PySem.F.plainAttrs_list PySem.F.slot_list_extend PySem.F.type_list_extend mt_extend (pv 1) (pa_cons (pe_lst (pa_cons (pe_callB (call_isP (List.mem_singleton.mpr rfl) (T.excs.cls x hx).ec hz.zc hf) (by rfl) T.b_isinstance bt_isinstance (pa_cons (pv 0) (pa_cons (pe_glob (v := .ref (He.ga K "NoDegree")) (by rfl) (T.excs.cls "NoDegree" (by decide)).gC rfl) pa_nil))) (pa_cons (pe_callB (call_isP (List.mem_singleton.mpr rfl) (T.excs.cls x hx).ec hz.zc hf) (by rfl) T.b_isinstance bt_isinstance (pa_cons (pv 0) (pa_cons (pe_glob (v := .ref (He.ga K "NoPlaces")) (by rfl) (T.excs.cls "NoPlaces" (by decide)).gC rfl) pa_nil))) (pa_cons (pe_callB (call_isP (List.mem_singleton.mpr rfl) (T.excs.cls x hx).ec hz.zc hf) (by rfl) T.b_isinstance bt_isinstance (pa_cons (pv 0) (pa_cons (pe_glob (v := .ref (He.ga K "NoText")) (by rfl) (T.excs.cls "NoText" (by decide)).gC rfl) pa_nil))) (pa_cons (pe_callB (call_isP (List.mem_singleton.mpr rfl) (T.excs.cls x hx).ec hz.zc hf) (by rfl) T.b_isinstance bt_isinstance (pa_cons (pv 0) (pa_cons (pe_glob (v := .ref (He.ga K "Done")) (by rfl) (T.excs.cls "Done" (by decide)).gC rfl) pa_nil))) pa_nil))))) pa_nil)))
    (pss_cons (ps_expr (pe_bm PySem.F.plainAttrs_list PySem.F.slot_list_append PySem.F.type_list_append mt_append (pv 1) (pa_cons (pe_callB (call_isP (List.mem_singleton.mpr rfl) (T.excs.cls x hx).ec hz.zc hf) (by rfl) T.b_isinstance bt_isinstance (pa_cons (pv 0) (pa_cons (pe_glob (v := .ref (He.ga K "Nothing")) (by rfl) (T.excs.cls "Nothing" (by decide)).gC rfl) pa_nil))) pa_nil)))
    (pss_cons (ps_if (PW.pt (pw_or (pt_cmpR op_ne (pe_bmK (K := K) PySem.F.plainAttrs_list PySem.F.slot_list_count PySem.F.type_list_count (kz_countF (K := K)) (pv 1) (pa_cons pe_bl pa_nil)) pe_int (nomark _)) (pw_or1 (pt_not (pt_val (pe_callB (call_isP (List.mem_singleton.mpr rfl) (T.excs.cls x hx).ec hz.zc hf) (by rfl) T.b_isinstance bt_isinstance (pa_cons (pv 0) (pa_cons (pe_ty (by rfl) T.b_ValueError bt_ValueError) pa_nil)))))))) (pss_one (ps_ret (pe_tup (pa_cons pe_str (pa_cons (pe_un un_neg pe_int) pa_nil))))) pss_nil)
    (pss_one (ps_ret (pe_tup (pa_cons pe_str (pa_cons (pe_bm PySem.F.plainAttrs_list PySem.F.slot_list_index PySem.F.type_list_index mt_index (pv 1) (pa_cons pe_bl pa_nil)) pa_nil)))))))))), ?_⟩
  have is : ∀ (y : Str), y ∈ errs → ∀ (H1 : Hp) (Z : VK), Z (.bl (decide (x = y))) H1 → rIsE K (He.ga K x) p.1 [.ref p.1, .ref (He.ga K y)] H1 Z := fun y hy H1 Z k => ⟨_, .ref (He.ga K y), _, rfl, fun u r => r, T.excs.two x hx y hy, k⟩
  walk_at "rd"
  dsimp only [tC, tCons, tNil]
  refine is "NoHands" (by decide) _ _ ?_
  walk_at "rd"
  dsimp only [tC, tCons, tNil]
  refine is "NoRow" (by decide) _ _ ?_
  walk_at "rd"
  dsimp only [tC, tCons, tNil]
  refine is "NoHand" (by decide) _ _ ?_
  walk_at "rd"
  dsimp only [tC, tCons, tNil]
  refine is "NoWorths" (by decide) _ _ ?_
  walk_at "rd"
  refine ⟨by show 4 ≤ sizeLine; decide, fun O nO => ?_⟩
  have s1 := same_new (o := .lst ((asked x).take 4)) nO
  have h1 : (upd H O (.lst ((asked x).take 4))) O = some (.lst ((asked x).take 4)) := upd_same
  change tSeq _ _ _ [some (.ref p.1), some (.ref O)] (upd H O (.lst ((asked x).take 4)))
  generalize upd H O (.lst ((asked x).take 4)) = H1 at s1 h1 ⊢
  refine ⟨_, rfl, .inl ⟨rfl, _, .inl (.inl h1)⟩, ?_⟩
  walk_at "rd"
  dsimp only [tC, tCons, tNil]
  refine is "NoOrder" (by decide) _ _ ?_
  walk_at "rd"
  dsimp only [tC, tCons, tNil]
  refine is "NoBound" (by decide) _ _ ?_
  walk_at "rd"
  dsimp only [tC, tCons, tNil]
  refine is "NotEven" (by decide) _ _ ?_
  walk_at "rd"
  dsimp only [tC, tCons, tNil]
  refine is "TooLong" (by decide) _ _ ?_
  walk_at "rd"
  refine ⟨by show 4 ≤ sizeLine; decide, fun E1 nE1 => ?_⟩
  have s2 := s1.trans (same_new (o := .lst (((asked x).drop 4).take 4)) nE1)
  have h2 := same_new (o := .lst (((asked x).drop 4).take 4)) nE1 _ _ h1
  have hE1 : (upd H1 E1 (.lst (((asked x).drop 4).take 4))) E1 = some (.lst (((asked x).drop 4).take 4)) := upd_same
  refine ⟨O, E1, _, _, rfl, rfl, h2, hE1, by show 8 ≤ sizeLine; decide, ?_⟩
  have s3 : Same H (upd (upd H1 E1 (.lst (((asked x).drop 4).take 4))) O (.lst ((asked x).take 8))) := fun c o hc => by
    rw [upd_ne (ne_of_none hc nO)]
    exact s2 _ _ hc
  have h3 : (upd (upd H1 E1 (.lst (((asked x).drop 4).take 4))) O (.lst ((asked x).take 8))) O = some (.lst ((asked x).take 8)) := upd_same
  change tSeq _ _ _ [some (.ref p.1), some (.ref O)] (upd (upd H1 E1 (.lst (((asked x).drop 4).take 4))) O (.lst ((asked x).take 8)))
  generalize upd (upd H1 E1 (.lst (((asked x).drop 4).take 4))) O (.lst ((asked x).take 8)) = H3 at s3 h3 ⊢
  refine ⟨_, rfl, .inl ⟨rfl, _, .inl (.inl h3)⟩, ?_⟩
  walk_at "rd"
  dsimp only [tC, tCons, tNil]
  refine is "NoDegree" (by decide) _ _ ?_
  walk_at "rd"
  dsimp only [tC, tCons, tNil]
  refine is "NoPlaces" (by decide) _ _ ?_
  walk_at "rd"
  dsimp only [tC, tCons, tNil]
  refine is "NoText" (by decide) _ _ ?_
  walk_at "rd"
  dsimp only [tC, tCons, tNil]
  refine is "Done" (by decide) _ _ ?_
  walk_at "rd"
  refine ⟨by show 4 ≤ sizeLine; decide, fun E4 nE4 => ?_⟩
  have s4 := s3.trans (same_new (o := .lst (((asked x).drop 8).take 4)) nE4)
  have h4 := same_new (o := .lst (((asked x).drop 8).take 4)) nE4 _ _ h3
  have hE4 : (upd H3 E4 (.lst (((asked x).drop 8).take 4))) E4 = some (.lst (((asked x).drop 8).take 4)) := upd_same
  refine ⟨O, E4, _, _, rfl, rfl, h4, hE4, by show 12 ≤ sizeLine; decide, ?_⟩
  have s5 : Same H (upd (upd H3 E4 (.lst (((asked x).drop 8).take 4))) O (.lst ((asked x).take 12))) := fun c o hc => by
    rw [upd_ne (ne_of_none hc nO)]
    exact s4 _ _ hc
  have h5 : (upd (upd H3 E4 (.lst (((asked x).drop 8).take 4))) O (.lst ((asked x).take 12))) O = some (.lst ((asked x).take 12)) := upd_same
  change tSeq _ _ _ [some (.ref p.1), some (.ref O)] (upd (upd H3 E4 (.lst (((asked x).drop 8).take 4))) O (.lst ((asked x).take 12)))
  generalize upd (upd H3 E4 (.lst (((asked x).drop 8).take 4))) O (.lst ((asked x).take 12)) = H5 at s5 h5 ⊢
  refine ⟨_, rfl, .inl ⟨rfl, _, .inl (.inl h5)⟩, ?_⟩
  walk_at "rd"
  dsimp only [tC, tCons, tNil]
  refine is "Nothing" (by decide) _ _ ?_
  walk_at "rd"
  refine ⟨O, _, _, rfl, rfl, h5, by show 12 < sizeLine; decide, ?_⟩
  have s6 : Same H (upd H5 O (.lst (asked x))) := fun c o hc => by
    rw [upd_ne (ne_of_none hc nO)]
    exact s5 _ _ hc
  have h6 : (upd H5 O (.lst (asked x))) O = some (.lst (asked x)) := upd_same
  change tSeq _ _ _ [some (.ref p.1), some (.ref O)] (upd H5 O (.lst (asked x)))
  generalize upd H5 O (.lst (asked x)) = H6 at s6 h6 ⊢
  have i13 : i < 13 := by
    have := (List.getElem?_eq_some_iff.mp hx0).1
    exact this
  obtain ⟨k1, k2, k3⟩ := asked_facts i i13
  have ex : errs.getD i "" = x := by rw [List.getD_eq_getElem?_getD, hx0]; rfl
  rw [ex] at k1 k2 k3
  walk_at "rd"
  refine ⟨.inl ⟨rfl, _, .inl (.inl h6)⟩, ?_⟩
  walk_at "rd"
  refine ⟨O, asked x, .bl true, rfl, rfl, .inl (.inl h6), rfl, asked_flat x, ?_⟩
  rw [k1]
  walk_at "rd"
  dsimp only [tC, tCons, tNil]
  refine ⟨.ty "ValueError", .type "ValueError", true, rfl, fun u r => r, T.excs.val x hx, ?_⟩
  walk_at "rd"
  refine ⟨.inl ⟨rfl, _, .inl (.inl h6)⟩, ?_⟩
  walk_at "rd"
  refine ⟨O, asked x, .bl true, i, .bl true, rfl, rfl, .inl (.inl h6), rfl, asked_flat x, k2, rfl, fun m z' hm hz' => ?_, ?_⟩
  · have := List.all_eq_true.mp k3 z' (by
      rw [List.mem_iff_getElem?]
      exact ⟨m, by rw [List.getElem?_take_of_lt hm]; exact hz'⟩)
    simpa using this
  walk_at "rd"
  refine ⟨by show 2 ≤ sizeLine; decide, fun R nR => ?_⟩
  exact q R _ (none_back s6 nR) (same_then s6 nR) upd_same

/-! _law_ask -/
/-- what a table refuses -/
def sp__law_ask (K : PySem.W.Frag) : Sp := fun vs H Q _ => ∃ (what : Int) (p T W L : Addr) (m : Int) (x y v u : V) (b1 b2 b3 b4 : Bool) (turns told : List Int) (calls : List V) (n : Int), vs = [.int what, .ref p, x, y, v, u] ∧ TblAt K H p T W L m turns told calls ∧ Wh K H x b1 ∧ Wh K H y b2 ∧ Wh K H v b3 ∧ Wh K H u b4 ∧
  turns.length ≤ 64 ∧ told.length ≤ turns.length ∧ calls.length ≤ 1000 ∧ (∀ (r : Addr) (H' : Hp), H r = none → Same H H' → H' r = some (.tup [.str "refused", .int n]) → Q (.ref r) H') ∧
  (what = 0 ∧ (told.length = turns.length ∧ n = 11 ∨ told.length < turns.length ∧ b1 = false ∧ n = 3) ∨
   what = 1 ∧ (n = 9 ∧ (whB x 0 ((turns.length : Int) - 1) = false ∨ whB x 0 ((turns.length : Int) - 1) = true ∧ whB y 0 ((turns.length : Int) - 1) = false ∨ ∃ i : Nat, x = .int (i : Int) ∧ y = .int (i : Int) ∧ i < turns.length) ∨
     n = 11 ∧ ∃ i j : Nat, x = .int (i : Int) ∧ y = .int (j : Int) ∧ i < turns.length ∧ j < turns.length ∧ i ≠ j ∧ (i < told.length ∨ j < told.length)) ∨
   what = 2 ∧ calls = [] ∧ n = 12 ∨
   what = 3 ∧ (n = 2 ∧ (whB x 0 (m - 1) = false ∨ whB x 0 (m - 1) = true ∧ whB y 0 (m - 1) = false ∨ ∃ i : Int, x = .int i ∧ y = .int i ∧ (0 ≤ i ∧ i < m)) ∨
     ∃ i j : Int, x = .int i ∧ y = .int j ∧ (0 ≤ i ∧ i < m) ∧ (0 ≤ j ∧ j < m) ∧ i ≠ j ∧ (n = 4 ∧ (whB v 1 4 = false ∨ ∃ k : Nat, v = .int (k : Int) ∧ 1 ≤ k ∧ k ≤ 4 ∧ told.length < k) ∨
       n = 5 ∧ ∃ k : Nat, v = .int (k : Int) ∧ 1 ≤ k ∧ k ≤ 4 ∧ k ≤ told.length ∧ whB u 0 99 = false)))
theorem c__law_ask (T : Txt K mg) : Cal P w K mg base 6 "_law_ask" ["_law_what", "_law_table", "_law_one", "_law_two", "_law_three", "_law_four"] (sp__law_ask K) := by
  refine T.f__law_ask.cal sc__law_ask (fun _ _ _ _ _ _ us hl => match us, hl with | [_, _, _, _, _, _], _ => rfl) (fun vs H Q E h => by first | (obtain ⟨_, _, _, _, _, _, _, _, _, _, _, _, _, _, rfl, _⟩ := h; rfl) | (obtain ⟨_, _, _, _, _, _, _, _, _, _, _, _, _, _, _, rfl, _⟩ := h; rfl) | (obtain ⟨_, _, _, _, _, _, _, _, _, _, _, _, _, _, _, _, rfl, _⟩ := h; rfl) | (obtain ⟨_, _, _, _, _, _, _, _, _, _, _, _, _, _, _, _, _, rfl, _⟩ := h; rfl) | (obtain ⟨_, _, _, _, _, _, _, _, _, _, _, _, _, _, _, _, _, _, rfl, _⟩ := h; rfl) | (obtain ⟨_, _, _, _, _, _, _, _, _, _, _, _, _, _, _, _, _, _, _, rfl, _⟩ := h; rfl) | (obtain ⟨_, _, _, _, _, _, _, _, _, _, _, _, _, _, _, _, _, _, _, _, rfl, _⟩ := h; rfl) | (obtain ⟨_, _, _, _, _, _, _, _, _, _, _, _, _, _, _, _, _, _, _, _, _, rfl, _⟩ := h; rfl) | (obtain ⟨_, _, _, _, _, _, _, _, _, _, _, _, _, _, _, _, _, _, _, _, _, _, rfl, _⟩ := h; rfl) | (obtain ⟨_, _, _, _, _, _, _, _, _, _, _, _, _, _, _, _, _, _, _, _, _, _, _, rfl, _⟩ := h; rfl)) (fun cdv A outer s H vs Q E f hr h => ?_)
  obtain ⟨what, p, T1, W, L, m, x, y, v, u, b1, b2, b3, b4, turns, told, calls, n, rfl, D, hx, hy, hv, hu, h64, hl, hc, q, h⟩ := h
  obtain ⟨fW, fdW, FW, mW, kW, bW⟩ := c__law_which (P := P) (w := w) (base := base) T
  refine ⟨_, (pss_one (L2N.ps_try_as (i := 6) rfl rfl sc__law_ask.nd rfl rfl ⟨rfl, by decide, .inl T.excs.top.gC⟩ takesN0 (fun W pn xe tk po => (pss_cons (ps_if (pt_cmpR op_lt (pv 0) pe_int (nomark _)) (pss_one (ps_ret (pe_ifExp (pt_cmpR op_eq (pv 0) pe_int (nomark _)) (pe_mthX (pv 1) T.tab.cl (c_Table_tell T) hr (by decide) tk (pa_cons (pv 2) pa_nil)) (pe_mthX (pv 1) T.tab.cl (c_Table_exchange T) hr (by decide) tk (pa_cons (pv 2) (pa_cons (pv 3) pa_nil)))))) pss_nil)
    (pss_one (ps_ret (pe_ifExp (pt_cmpR op_eq (pv 0) pe_int (nomark _)) (pe_mthX0 (pv 1) T.tab.cl (c_Table_back T) hr (by decide) tk) (pe_mthKX (pv 1) T.tab.cl (ck_Table_foresee T) hr (by decide) tk (pa_cons (pv 2) (pa_cons (pv 3) (pa_cons (pv 4) pa_nil))) (pk_cons (pv 5) pk_nil))))))) (fun a oe cls d pn hz hf => (pss_one (ps_ret (pe_callE FW (roomM hr (by decide)) (hot_suite hz hf) hz List.mem_cons_self (by rfl) mW kW bW (pa_cons (pv 6) pa_nil))))))), ?_⟩
  obtain ⟨dx, ob⟩ := id D.ob
  rcases h with ⟨rfl, h⟩ | ⟨rfl, h⟩ | ⟨rfl, rfl, rfl⟩ | ⟨rfl, h⟩
  · walk_at "rd"
    refine ⟨p, dx, _, rfl, ob, fl_no _ _ _ _ (by decide +kernel) (by decide +kernel) (by decide +kernel) (by decide +kernel), ?_⟩
    dsimp only [tCons, tNil]
    walk_at "rd"
    refine ⟨p, T1, W, L, m, x, b1, turns, told, calls, rfl, D, hx, hl, h64, hc, ?_⟩
    rcases h with ⟨e, rfl⟩ | ⟨lt, e, rfl⟩
    · refine .inl ⟨e, ?_⟩
      refine ⟨true, T.excs.tops "Done" (by decide), fun _ x nx => ?_, fun z => Bool.noConfusion z⟩
      walk_at "rd"
      exact ⟨"Done", 11, rfl, rfl, rfl, rfl, fun q2 H2 nq s2 hq => q q2 H2 nq s2 hq⟩
    · refine .inr (.inl ⟨lt, e, ?_⟩)
      refine ⟨true, T.excs.tops "NoWorths" (by decide), fun _ x nx => ?_, fun z => Bool.noConfusion z⟩
      walk_at "rd"
      exact ⟨"NoWorths", 3, rfl, rfl, rfl, rfl, fun q2 H2 nq s2 hq => q q2 H2 nq s2 hq⟩
  · walk_at "rd"
    refine ⟨p, dx, _, rfl, ob, fl_no _ _ _ _ (by decide +kernel) (by decide +kernel) (by decide +kernel) (by decide +kernel), ?_⟩
    dsimp only [tCons, tNil]
    walk_at "rd"
    refine ⟨p, T1, W, L, m, x, y, b1, b2, turns, told, calls, rfl, D, hx, hy, h64, hl, hc, ?_⟩
    rcases h with ⟨rfl, e | ⟨e1, e⟩ | ⟨i, rfl, rfl, hi⟩⟩ | ⟨rfl, i, j, rfl, rfl, hi, hj, nij, ht⟩
    · refine .inl ⟨e, ?_⟩
      refine ⟨true, T.excs.tops "NoPlaces" (by decide), fun _ x nx => ?_, fun z => Bool.noConfusion z⟩
      walk_at "rd"
      exact ⟨"NoPlaces", 9, rfl, rfl, rfl, rfl, fun q2 H2 nq s2 hq => q q2 H2 nq s2 hq⟩
    · refine .inr (.inl ⟨e1, e, ?_⟩)
      refine ⟨true, T.excs.tops "NoPlaces" (by decide), fun _ x nx => ?_, fun z => Bool.noConfusion z⟩
      walk_at "rd"
      exact ⟨"NoPlaces", 9, rfl, rfl, rfl, rfl, fun q2 H2 nq s2 hq => q q2 H2 nq s2 hq⟩
    · refine .inr (.inr ⟨i, i, rfl, rfl, hi, hi, fun z => absurd rfl z, fun _ => ?_, fun z => absurd rfl z⟩)
      refine ⟨true, T.excs.tops "NoPlaces" (by decide), fun _ x nx => ?_, fun z => Bool.noConfusion z⟩
      walk_at "rd"
      exact ⟨"NoPlaces", 9, rfl, rfl, rfl, rfl, fun q2 H2 nq s2 hq => q q2 H2 nq s2 hq⟩
    · refine .inr (.inr ⟨i, j, rfl, rfl, hi, hj, fun _ t1 t2 => absurd ht (by omega), fun z => absurd z nij, fun _ _ => ?_⟩)
      refine ⟨true, T.excs.tops "Done" (by decide), fun _ x nx => ?_, fun z => Bool.noConfusion z⟩
      walk_at "rd"
      exact ⟨"Done", 11, rfl, rfl, rfl, rfl, fun q2 H2 nq s2 hq => q q2 H2 nq s2 hq⟩
  · walk_at "rd"
    refine ⟨p, dx, _, rfl, ob, fl_no _ _ _ _ (by decide +kernel) (by decide +kernel) (by decide +kernel) (by decide +kernel), ?_⟩
    refine ⟨p, T1, W, L, m, turns, told, [], rfl, D, h64, .inl ⟨rfl, ?_⟩⟩
    refine ⟨true, T.excs.tops "Nothing" (by decide), fun _ x nx => ?_, fun z => Bool.noConfusion z⟩
    walk_at "rd"
    exact ⟨"Nothing", 12, rfl, rfl, rfl, rfl, fun q2 H2 nq s2 hq => q q2 H2 nq s2 hq⟩
  · walk_at "rd"
    refine ⟨p, dx, _, rfl, ob, fl_no _ _ _ _ (by decide +kernel) (by decide +kernel) (by decide +kernel) (by decide +kernel), ?_⟩
    dsimp only [tCons, tNil]
    walk_at "rd"
    refine ⟨p, T1, W, L, m, x, y, v, u, b1, b2, b3, b4, turns, told, calls, rfl, D, hx, hy, hv, hu, ?_⟩
    rcases h with ⟨rfl, e | ⟨e1, e⟩ | ⟨i, rfl, rfl, hi⟩⟩ | ⟨i, j, rfl, rfl, hi, hj, nij, ⟨rfl, e | ⟨k, rfl, k1, k4, lt⟩⟩ | ⟨rfl, k, rfl, k1, k4, le, e⟩⟩
    · refine .inl ⟨e, ?_⟩
      refine ⟨true, T.excs.tops "NoHand" (by decide), fun _ x nx => ?_, fun z => Bool.noConfusion z⟩
      walk_at "rd"
      exact ⟨"NoHand", 2, rfl, rfl, rfl, rfl, fun q2 H2 nq s2 hq => q q2 H2 nq s2 hq⟩
    · refine .inr (.inl ⟨e1, e, ?_⟩)
      refine ⟨true, T.excs.tops "NoHand" (by decide), fun _ x nx => ?_, fun z => Bool.noConfusion z⟩
      walk_at "rd"
      exact ⟨"NoHand", 2, rfl, rfl, rfl, rfl, fun q2 H2 nq s2 hq => q q2 H2 nq s2 hq⟩
    · refine .inr (.inr ⟨i, i, rfl, rfl, hi, hi, .inl ⟨rfl, ?_⟩⟩)
      refine ⟨true, T.excs.tops "NoHand" (by decide), fun _ x nx => ?_, fun z => Bool.noConfusion z⟩
      walk_at "rd"
      exact ⟨"NoHand", 2, rfl, rfl, rfl, rfl, fun q2 H2 nq s2 hq => q q2 H2 nq s2 hq⟩
    · refine .inr (.inr ⟨i, j, rfl, rfl, hi, hj, .inr ⟨nij, .inl ⟨e, ?_⟩⟩⟩)
      refine ⟨true, T.excs.tops "NoOrder" (by decide), fun _ x nx => ?_, fun z => Bool.noConfusion z⟩
      walk_at "rd"
      exact ⟨"NoOrder", 4, rfl, rfl, rfl, rfl, fun q2 H2 nq s2 hq => q q2 H2 nq s2 hq⟩
    · refine .inr (.inr ⟨i, j, rfl, rfl, hi, hj, .inr ⟨nij, .inr ⟨k, rfl, k1, k4, .inl ⟨lt, ?_⟩⟩⟩⟩)
      refine ⟨true, T.excs.tops "NoOrder" (by decide), fun _ x nx => ?_, fun z => Bool.noConfusion z⟩
      walk_at "rd"
      exact ⟨"NoOrder", 4, rfl, rfl, rfl, rfl, fun q2 H2 nq s2 hq => q q2 H2 nq s2 hq⟩
    · refine .inr (.inr ⟨i, j, rfl, rfl, hi, hj, .inr ⟨nij, .inr ⟨k, rfl, k1, k4, .inr ⟨le, e, ?_⟩⟩⟩⟩)
      refine ⟨true, T.excs.tops "NoBound" (by decide), fun _ x nx => ?_, fun z => Bool.noConfusion z⟩
      walk_at "rd"
      exact ⟨"NoBound", 5, rfl, rfl, rfl, rfl, fun q2 H2 nq s2 hq => q q2 H2 nq s2 hq⟩

/-! Table___eq__ -/
/-- a table equals another one with the same hands, turns and worths told; it equals no text -/
def sp_Table___eq__ (K : PySem.W.Frag) : Sp := fun vs H Q _ => ∃ (p T W L : Addr) (m : Int) (turns told : List Int) (calls : List V) (y : V), vs = [.ref p, y] ∧ TblAt K H p T W L m turns told calls ∧
  ((∃ z : Str, y = .str z ∧ Q (.bl false) H) ∨ ∃ (p2 T2 W2 L2 : Addr) (m2 : Int) (turns2 told2 : List Int) (calls2 : List V), y = .ref p2 ∧ TblAt K H p2 T2 W2 L2 m2 turns2 told2 calls2 ∧ Q (.bl (decide (m = m2 ∧ turns = turns2 ∧ told = told2))) H)
theorem c_Table___eq__ (T : Txt K mg) : CalM P w K mg base 1 (He.ga K "Table") "__eq__" ["self", "other"] (sp_Table___eq__ K) := by
  refine T.f_Table___eq__.cal sc_Table___eq__ (fun _ _ _ _ _ _ us hl => match us, hl with | [_, _], _ => rfl) (fun vs H Q E h => by first | (obtain ⟨_, rfl, _⟩ := h; rfl) | (obtain ⟨_, _, rfl, _⟩ := h; rfl) | (obtain ⟨_, _, _, rfl, _⟩ := h; rfl) | (obtain ⟨_, _, _, _, rfl, _⟩ := h; rfl) | (obtain ⟨_, _, _, _, _, rfl, _⟩ := h; rfl) | (obtain ⟨_, _, _, _, _, _, rfl, _⟩ := h; rfl) | (obtain ⟨_, _, _, _, _, _, _, rfl, _⟩ := h; rfl) | (obtain ⟨_, _, _, _, _, _, _, _, rfl, _⟩ := h; rfl) | (obtain ⟨_, _, _, _, _, _, _, _, _, rfl, _⟩ := h; rfl) | (obtain ⟨_, _, _, _, _, _, _, _, _, _, rfl, _⟩ := h; rfl) | (obtain ⟨_, _, _, _, _, _, _, _, _, _, _, rfl, _⟩ := h; rfl) | (obtain ⟨_, _, _, _, _, _, _, _, _, _, _, _, rfl, _⟩ := h; rfl) | (obtain ⟨_, _, _, _, _, _, _, _, _, _, _, _, _, rfl, _⟩ := h; rfl)) (fun cdv A outer s H vs Q E f hr h => ?_)
  obtain ⟨p, T1, W1, L1, m, turns, told, calls, y, rfl, D, h⟩ := h
  refine ⟨_, (pss_cons (ps_if (pt_not (pt_val (pe_callB (kz_isi (K := K)) (by rfl) T.b_isinstance bt_isinstance (pa_cons (pv 1) (pa_cons (pe_glob (v := .ref (He.ga K "Table")) (by rfl) T.tab.gl rfl) pa_nil))))) (pss_one (ps_ret pe_bl)) pss_nil)
    (pss_one (ps_ret (pe_and (pe_cmpR op_eq (pe_fld (pv 0) rfl) (pe_fld (pv 1) rfl) (nomark _)) (pe_and (pe_cmpR (kz_eqD (K := K) hr.units) (pe_fld (pv 0) rfl) (pe_fld (pv 1) rfl) (nomark _)) (pe_one (pe_cmpR (kz_eqD (K := K) hr.units) (pe_fld (pv 0) rfl) (pe_fld (pv 1) rfl) (nomark _)))))))), ?_⟩
  obtain ⟨dx, ob⟩ := id D.ob
  rcases h with ⟨z, rfl, q⟩ | ⟨p2, T2, W2, L2, m2, turns2, told2, calls2, rfl, D2, q⟩
  · walk_at "rd"
    refine ⟨_, _, _, _, _, rfl, .own _, .base (.str z), T.tabq.str, ?_⟩
    exact ⟨_, rfl, iteT q⟩
  obtain ⟨dy, ob2⟩ := id D2.ob
  walk_at "rd"
  refine ⟨_, _, _, _, _, rfl, .own _, .base (.ins ob2 T.tab.cl T.tabq.ha T.tabq.hn T.tabq.htk T.tabq.hm), T.tabq.me, ?_⟩
  refine ⟨_, rfl, iteF ?_⟩
  walk_at "rd"
  refine fld_hands D T.tab ?_
  walk_at "rd"
  refine fld_hands D2 T.tab ?_
  walk_at "rd"
  refine ite2 (fun c => ?_) (fun c => ?_)
  · have c1 : m = m2 := V.int.inj (of_decide_eq_true c)
    walk_at "rd"
    refine fld_turns D T.tab ?_
    walk_at "rd"
    refine fld_turns D2 T.tab ?_
    walk_at "rd"
    refine eqL (.inl (.inl D.tn)) (.inl (.inl D2.tn)) ?_
    refine ⟨_, rfl, ?_⟩
    refine ite2 (fun c => ?_) (fun c => ?_)
    · have c2 : turns = turns2 := of_decide_eq_true c
      walk_at "rd"
      refine fld_told D T.tab ?_
      walk_at "rd"
      refine fld_told D2 T.tab ?_
      walk_at "rd"
      refine eqL (.inl (.inl D.td)) (.inl (.inl D2.td)) ?_
      rw [show decide (m = m2 ∧ turns = turns2 ∧ told = told2) = decide (told = told2) from by rw [decide_eq_decide]; exact ⟨fun h => h.2.2, fun h => ⟨c1, c2, h⟩⟩] at q
      exact q
    · rw [decide_eq_false (fun h => c (decide_eq_true h.2.1))] at q
      exact q
  · rw [decide_eq_false (fun h => c (decide_eq_true (congrArg V.int h.1)))] at q
    exact q

/-! Table_row -/
/-- the row as it is now, as a new tuple -/
def sp_Table_row (K : PySem.W.Frag) : Sp := fun vs H Q _ => ∃ (p T W L : Addr) (m : Int) (turns told : List Int) (calls : List V), vs = [.ref p] ∧ TblAt K H p T W L m turns told calls ∧
  ∀ (u : Addr) (H' : Hp), H u = none → Same H H' → H' u = some (.tup (turns.map V.int)) → Q (.ref u) H'
theorem c_Table_row (T : Txt K mg) : CalM P w K mg base 1 (He.ga K "Table") "row" ["self"] (sp_Table_row K) := by
  refine T.f_Table_row.cal sc_Table_row (fun _ _ _ _ _ _ us hl => match us, hl with | [_], _ => rfl) (fun vs H Q E h => by first | (obtain ⟨_, rfl, _⟩ := h; rfl) | (obtain ⟨_, _, rfl, _⟩ := h; rfl) | (obtain ⟨_, _, _, rfl, _⟩ := h; rfl) | (obtain ⟨_, _, _, _, rfl, _⟩ := h; rfl) | (obtain ⟨_, _, _, _, _, rfl, _⟩ := h; rfl) | (obtain ⟨_, _, _, _, _, _, rfl, _⟩ := h; rfl) | (obtain ⟨_, _, _, _, _, _, _, rfl, _⟩ := h; rfl) | (obtain ⟨_, _, _, _, _, _, _, _, rfl, _⟩ := h; rfl) | (obtain ⟨_, _, _, _, _, _, _, _, _, rfl, _⟩ := h; rfl) | (obtain ⟨_, _, _, _, _, _, _, _, _, _, rfl, _⟩ := h; rfl) | (obtain ⟨_, _, _, _, _, _, _, _, _, _, _, rfl, _⟩ := h; rfl) | (obtain ⟨_, _, _, _, _, _, _, _, _, _, _, _, rfl, _⟩ := h; rfl) | (obtain ⟨_, _, _, _, _, _, _, _, _, _, _, _, _, rfl, _⟩ := h; rfl)) (fun cdv A outer s H vs Q E f hr h => ?_)
  obtain ⟨p, T1, W, L, m, turns, told, calls, rfl, D, q⟩ := h
  refine ⟨_, (pss_one (ps_ret (pe_callTy (kz_tuple (K := K)) (by rfl) T.b_tuple bt_tuple (pa_cons (pe_fld (pv 0) rfl) pa_nil)))), ?_⟩
  walk_at "rd"
  refine fld_turns D T.tab ?_
  refine ⟨T1, _, rfl, .inl ⟨.inl (.inl D.tn), fun u nu => ?_⟩⟩
  exact q u _ nu (same_new nu) upd_same

/-! Table_worths -/
/-- the worths told, as a new list -/
def sp_Table_worths (K : PySem.W.Frag) : Sp := fun vs H Q _ => ∃ (p T W L : Addr) (m : Int) (turns told : List Int) (calls : List V), vs = [.ref p] ∧ TblAt K H p T W L m turns told calls ∧
  ∀ (u : Addr) (H' : Hp), H u = none → Same H H' → H' u = some (.lst (told.map V.int)) → Q (.ref u) H'
theorem c_Table_worths (T : Txt K mg) : CalM P w K mg base 1 (He.ga K "Table") "worths" ["self"] (sp_Table_worths K) := by
  refine T.f_Table_worths.cal sc_Table_worths (fun _ _ _ _ _ _ us hl => match us, hl with | [_], _ => rfl) (fun vs H Q E h => by first | (obtain ⟨_, rfl, _⟩ := h; rfl) | (obtain ⟨_, _, rfl, _⟩ := h; rfl) | (obtain ⟨_, _, _, rfl, _⟩ := h; rfl) | (obtain ⟨_, _, _, _, rfl, _⟩ := h; rfl) | (obtain ⟨_, _, _, _, _, rfl, _⟩ := h; rfl) | (obtain ⟨_, _, _, _, _, _, rfl, _⟩ := h; rfl) | (obtain ⟨_, _, _, _, _, _, _, rfl, _⟩ := h; rfl) | (obtain ⟨_, _, _, _, _, _, _, _, rfl, _⟩ := h; rfl) | (obtain ⟨_, _, _, _, _, _, _, _, _, rfl, _⟩ := h; rfl) | (obtain ⟨_, _, _, _, _, _, _, _, _, _, rfl, _⟩ := h; rfl) | (obtain ⟨_, _, _, _, _, _, _, _, _, _, _, rfl, _⟩ := h; rfl) | (obtain ⟨_, _, _, _, _, _, _, _, _, _, _, _, rfl, _⟩ := h; rfl) | (obtain ⟨_, _, _, _, _, _, _, _, _, _, _, _, _, rfl, _⟩ := h; rfl)) (fun cdv A outer s H vs Q E f hr h => ?_)
  obtain ⟨p, T1, W, L, m, turns, told, calls, rfl, D, q⟩ := h
  refine ⟨_, (pss_one (ps_ret (pe_callTy (kz_list (K := K)) (by rfl) T.b_list bt_list (pa_cons (pe_fld (pv 0) rfl) pa_nil)))), ?_⟩
  walk_at "rd"
  refine fld_told D T.tab ?_
  refine ⟨W, _, rfl, .inl (.inl (.inl D.td)), fun l nl => ?_⟩
  exact q l _ nl (same_new nl) upd_same

/-! _law_same_truth -/
def sp__law_same_truth (K : PySem.W.Frag) : Sp := fun vs H Q _ => ∃ a b : Bool, vs = [.bl a, .bl b] ∧ Q (.bl (decide (a = b))) H
theorem c__law_same_truth (T : Txt K mg) : Cal P w K mg base 1 "_law_same_truth" ["_law_got", "_law_due"] (sp__law_same_truth K) := by
  refine T.f__law_same_truth.cal sc__law_same_truth (fun _ _ _ _ _ _ us hl => match us, hl with | [_, _], _ => rfl) (fun vs H Q E h => by first | (obtain ⟨_, rfl, _⟩ := h; rfl) | (obtain ⟨_, _, rfl, _⟩ := h; rfl) | (obtain ⟨_, _, _, rfl, _⟩ := h; rfl) | (obtain ⟨_, _, _, _, rfl, _⟩ := h; rfl) | (obtain ⟨_, _, _, _, _, rfl, _⟩ := h; rfl) | (obtain ⟨_, _, _, _, _, _, rfl, _⟩ := h; rfl) | (obtain ⟨_, _, _, _, _, _, _, rfl, _⟩ := h; rfl) | (obtain ⟨_, _, _, _, _, _, _, _, rfl, _⟩ := h; rfl) | (obtain ⟨_, _, _, _, _, _, _, _, _, rfl, _⟩ := h; rfl) | (obtain ⟨_, _, _, _, _, _, _, _, _, _, rfl, _⟩ := h; rfl) | (obtain ⟨_, _, _, _, _, _, _, _, _, _, _, rfl, _⟩ := h; rfl) | (obtain ⟨_, _, _, _, _, _, _, _, _, _, _, _, rfl, _⟩ := h; rfl) | (obtain ⟨_, _, _, _, _, _, _, _, _, _, _, _, _, rfl, _⟩ := h; rfl)) (fun cdv A outer s H vs Q E f hr h => ?_)
  obtain ⟨a, b, rfl, q⟩ := h
  refine ⟨_, (pss_one (ps_ret (pe_and (pe_callB (kz_isi (K := K)) (by rfl) T.b_isinstance bt_isinstance (pa_cons (pv 0) (pa_cons (pe_ty (by rfl) T.b_bool bt_bool) pa_nil))) (pe_one (pe_cmpR op_eq (pv 0) (pv 1) (nomark _)))))), ?_⟩
  walk_at "rd"
  refine ⟨_, _, _, _, _, rfl, .ty _, .base (.bl a), kit_ty kit_bool_bool, _, rfl, iteT ?_⟩
  walk_at "rd"
  have e : decide (V.bl a = V.bl b) = decide (a = b) := by
    by_cases c : a = b
    · rw [c, decide_eq_true rfl, decide_eq_true rfl]
    · rw [decide_eq_false c, decide_eq_false (fun w => c (V.bl.inj w))]
  rw [e]
  exact q

/-! _law_through -/
/-- a table gone through to its end -/
def sp__law_through (K : PySem.W.Frag) : Sp := fun vs H Q _ => ∃ (p T W L u e : Addr), vs = [.ref p] ∧ TblAt K H p T W L 2 [0, 1, 1] [7] [.ref u] ∧ H u = some (.tup [.str "tell", .ref e]) ∧ ∀ H', Q (.bl true) H'
theorem c__law_through (T : Txt K mg) : Cal P w K mg base 8 "_law_through" ["_law_table"] (sp__law_through K) := by
  refine T.f__law_through.cal sc__law_through (fun _ _ _ _ _ _ us hl => match us, hl with | [_], _ => rfl) (fun vs H Q E h => by first | (obtain ⟨_, rfl, _⟩ := h; rfl) | (obtain ⟨_, _, rfl, _⟩ := h; rfl) | (obtain ⟨_, _, _, rfl, _⟩ := h; rfl) | (obtain ⟨_, _, _, _, rfl, _⟩ := h; rfl) | (obtain ⟨_, _, _, _, _, rfl, _⟩ := h; rfl) | (obtain ⟨_, _, _, _, _, _, rfl, _⟩ := h; rfl) | (obtain ⟨_, _, _, _, _, _, _, rfl, _⟩ := h; rfl) | (obtain ⟨_, _, _, _, _, _, _, _, rfl, _⟩ := h; rfl) | (obtain ⟨_, _, _, _, _, _, _, _, _, rfl, _⟩ := h; rfl) | (obtain ⟨_, _, _, _, _, _, _, _, _, _, rfl, _⟩ := h; rfl) | (obtain ⟨_, _, _, _, _, _, _, _, _, _, _, rfl, _⟩ := h; rfl) | (obtain ⟨_, _, _, _, _, _, _, _, _, _, _, _, rfl, _⟩ := h; rfl) | (obtain ⟨_, _, _, _, _, _, _, _, _, _, _, _, _, rfl, _⟩ := h; rfl)) (fun cdv A outer s H vs Q E f hr h => ?_)
  obtain ⟨x, T1, W, L, u, e0, rfl, D, hu, q⟩ := h
  refine ⟨_, (pss_cons (ps_if (pt_cmpR (kz_neD (K := K) hr.units) (pe_lc (own := [("_law_one", 3), ("_law_other", 1)]) (g := (gTup K 2 (gCons (gName 3) (gCons (gName 1) gNil)))) (tt := tYes) rfl sc__law_through.nd (kz_piT (K := K) (pe_tup (pa_cons (pe_tup (pa_cons pe_int (pa_cons pe_int pa_nil))) (pa_cons (pe_tup (pa_cons pe_int (pa_cons pe_int pa_nil))) pa_nil)))) (blkOk_by (own := [("_law_one", 3), ("_law_other", 1)]) (N := ["_law_table", "_law_other", "_law_worth", "_law_one", "_law_again"]) (sc := defScope S__law_through) (by decide +kernel)) (fun _ _ _ _ _ => (kz_gtup (K := K) 2 rfl (pgs_cons (pg_name (i := 3) sc__law_through.nd rfl (.inl rfl)) (pgs_cons (pg_name (i := 1) sc__law_through.nd rfl (.inl rfl)) pgs_nil)))) (fun _ _ _ _ _ => pts_nil) (fun _ _ _ _ _ => (pe_cal (c__law_ask T) hr (by decide) (pa_cons pe_int (pa_cons (pv 0) (pa_cons (pv 3) (pa_cons (pv 1) (pa_cons pe_non (pa_cons pe_non pa_nil))))))))) (pe_op op_rep (pe_lst (pa_cons (pe_tup (pa_cons pe_str (pa_cons pe_int pa_nil))) pa_nil)) pe_int) (nomark _)) (pss_one (ps_ret pe_bl)) pss_nil)
    (pss_cons (ps_if (PW.pt (pw_or (pt_cmpR op_notN (pe_mthX (pv 0) T.tab.cl (c_Table_exchange T) hr (by decide) takesN0 (pa_cons pe_int (pa_cons pe_int pa_nil))) pe_non (nomark _)) (pw_or (pt_cmpR (kz_neD (K := K) hr.units) (pe_lst (pa_cons (pe_mthX (pv 0) T.tab.cl (c_Table_tell T) hr (by decide) takesN0 (pa_cons pe_int pa_nil)) (pa_cons (pe_mthX (pv 0) T.tab.cl (c_Table_tell T) hr (by decide) takesN0 (pa_cons (pe_un un_neg pe_int) pa_nil)) pa_nil))) (pe_lst (pa_cons pe_int (pa_cons pe_int pa_nil))) (nomark _)) (pw_or1 (pt_cmpR (kz_neD (K := K) hr.units) (pe_mth0 (pv 0) T.tab.cl (c_Table_worths T) hr (by decide)) (pe_lst (pa_cons pe_int (pa_cons pe_int (pa_cons (pe_un un_neg pe_int) pa_nil)))) (nomark _)))))) (pss_one (ps_ret pe_bl)) pss_nil)
    (pss_cons (ps_if (pt_cmpR (kz_neD (K := K) hr.units) (pe_lc (own := [("_law_one", 3)]) (g := (gName 3)) (tt := tYes) rfl sc__law_through.nd (kz_piT (K := K) (pe_tup (pa_cons pe_int (pa_cons pe_non pa_nil)))) (blkOk_by (own := [("_law_one", 3)]) (N := ["_law_table", "_law_other", "_law_worth", "_law_one", "_law_again"]) (sc := defScope S__law_through) (by decide +kernel)) (fun _ _ _ _ _ => (pg_name (i := 3) sc__law_through.nd rfl (.inl rfl))) (fun _ _ _ _ _ => pts_nil) (fun _ _ _ _ _ => (pe_cal (c__law_ask T) hr (by decide) (pa_cons pe_int (pa_cons (pv 0) (pa_cons (pv 3) (pa_cons pe_non (pa_cons pe_non (pa_cons pe_non pa_nil))))))))) (pe_op op_rep (pe_lst (pa_cons (pe_tup (pa_cons pe_str (pa_cons pe_int pa_nil))) pa_nil)) pe_int) (nomark _)) (pss_one (ps_ret pe_bl)) pss_nil)
    (pss_cons (ps_if (pt_cmpR op_notN (pe_mth0 (pv 0) T.tab.cl (c_Table_next T) hr (by decide)) pe_non (nomark _)) (pss_one (ps_ret pe_bl)) pss_nil)
    (pss_cons (ps_set (i := 1) sc__law_through.nd rfl (.inl rfl) (pe_mke (c_Table___init__ T) hr (by decide) T.tab.gl (pa_cons pe_int (pa_cons (pe_tup (pa_cons pe_int (pa_cons pe_int (pa_cons pe_int pa_nil)))) pa_nil))))
    (pss_cons (ps_if (PW.pt (pw_or (pt_not (pt_val (pe_cal (c__law_same_truth T) hr (by decide) (pa_cons (pe_cmpR (op_eqO (c_Table___eq__ T) hr (by decide)) (pv 0) (pv 1) (nomark _)) (pa_cons pe_bl pa_nil))))) (pw_or1 (pt_not (pt_val (pe_cal (c__law_same_truth T) hr (by decide) (pa_cons (pe_cmpR (op_eqO (c_Table___eq__ T) hr (by decide)) (pv 0) pe_str (nomark _)) (pa_cons pe_bl pa_nil)))))))) (pss_one (ps_ret pe_bl)) pss_nil)
    (pss_cons (ps_for PassesOwn.never rfl (kz_piT (K := K) (pe_tup (pa_cons pe_int (pa_cons pe_int (pa_cons (pe_un un_neg pe_int) pa_nil))))) (pg_name (i := 2) sc__law_through.nd rfl (.inl rfl)) (pss_one (ps_expr (pe_mthX (pv 1) T.tab.cl (c_Table_tell T) hr (by decide) takesN0 (pa_cons (pv 2) pa_nil)))))
    (pss_cons (ps_if (PW.pt (pw_or (pt_not (pt_val (pe_cal (c__law_same_truth T) hr (by decide) (pa_cons (pe_cmpR (op_eqO (c_Table___eq__ T) hr (by decide)) (pv 0) (pv 1) (nomark _)) (pa_cons pe_bl pa_nil))))) (pw_or1 (pt_not (pt_val (pe_cal (c__law_same_truth T) hr (by decide) (pa_cons (pe_cmpR (op_eqO (c_Table___eq__ T) hr (by decide)) (pe_mke (c_Table___init__ T) hr (by decide) T.tab.gl (pa_cons pe_int (pa_cons (pe_tup (pa_cons pe_int (pa_cons pe_int pa_nil))) pa_nil))) (pe_mke (c_Table___init__ T) hr (by decide) T.tab.gl (pa_cons pe_int (pa_cons (pe_tup (pa_cons pe_int (pa_cons pe_int pa_nil))) pa_nil))) (nomark _)) (pa_cons pe_bl pa_nil)))))))) (pss_one (ps_ret pe_bl)) pss_nil)
    (pss_one (ps_ret (pe_and (pe_cmpR (kz_eqD (K := K) hr.units) (pe_lc (own := [("_law_again", 4)]) (g := (gName 4)) (tt := tYes) rfl sc__law_through.nd (pi_range1 (by rfl) T.b_range (pa_cons pe_int pa_nil)) (blkOk_by (own := [("_law_again", 4)]) (N := ["_law_table", "_law_other", "_law_worth", "_law_one", "_law_again"]) (sc := defScope S__law_through) (by decide +kernel)) (fun _ _ _ _ _ => (pg_name (i := 4) sc__law_through.nd rfl (.inl rfl))) (fun _ _ _ _ _ => pts_nil) (fun _ _ _ _ _ => (pe_mthX0 (pv 0) T.tab.cl (c_Table_back T) hr (by decide) takesF))) (pe_lst (pa_cons pe_str (pa_cons pe_str (pa_cons pe_str (pa_cons pe_str pa_nil))))) (nomark _)) (pe_one (pe_cmpR (kz_eqD (K := K) hr.units) (pe_mth0 (pv 0) T.tab.cl (c_Table_row T) hr (by decide)) (pe_tup (pa_cons pe_int (pa_cons pe_int (pa_cons pe_int pa_nil)))) (nomark _)))))))))))))), ?_⟩
  walk_at "rd"
  intro p1 n1
  obtain ⟨H1, e, s, h1⟩ := newO (.tup [.int 0, .int 1]) n1
  rw [e]
  clear e n1
  replace D := D.same s
  replace hu := s _ _ hu
  clear s
  walk_at "rd"
  intro p2 n2
  obtain ⟨H2, e, s, h2⟩ := newO (.tup [.int 2, .int 0]) n2
  rw [e]
  clear e n2
  replace D := D.same s
  replace hu := s _ _ hu
  replace h1 := s _ _ h1
  clear s
  refine ⟨by show 2 ≤ sizeLine; decide, fun t nt => ?_⟩
  obtain ⟨H3, e, s, ht⟩ := newO (.tup [.ref p1, .ref p2]) nt
  rw [e]
  clear e nt
  replace D := D.same s
  replace hu := s _ _ hu
  replace h1 := s _ _ h1
  replace h2 := s _ _ h2
  clear s
  refine ⟨t, rfl, ⟨_, .inl (.inl ht)⟩, fun E nE => ?_⟩
  refine lcr (walk_tup (xs := [.ref p1, .ref p2])) nE (by show 2 < 1000000; decide) (fun _ => .tup [.str "refused", .int 11]) (fun H s => .inl (.inl (s _ _ ht))) ?_ ?_
  · rintro i v H4 H' R hi s4 ⟨rfl, hv⟩ k
    have hw : ∃ (p : Addr) (z1 z2 : V), v = .ref p ∧ H' p = some (.tup [z1, z2]) ∧ ∃ i j : Nat, z1 = .int (i : Int) ∧ z2 = .int (j : Int) ∧ i < ([0, 1, 1] : List Int).length ∧ j < ([0, 1, 1] : List Int).length ∧ i ≠ j ∧ (i < ([7] : List Int).length ∨ j < ([7] : List Int).length) := by
      rcases List.mem_cons.mp (List.mem_of_getElem? hv) with rfl | hv
      · exact ⟨_, _, _, rfl, s4 _ _ h1, 0, 1, rfl, rfl, by decide, by decide, by decide, .inl (by decide)⟩
      · rw [List.mem_singleton.mp hv]
        exact ⟨_, _, _, rfl, s4 _ _ h2, 2, 0, rfl, rfl, by decide, by decide, by decide, .inr (by decide)⟩
    obtain ⟨p, z1, z2, rfl, hp, i1, j1, rfl, rfl, bad⟩ := hw
    refine ⟨p, _, rfl, .inl (.inl hp), rfl, _, _, rfl, _, _, rfl, rfl, rfl, ?_⟩
    walk_at "rd"
    exact ⟨1, x, T1, W, L, 2, .int (i1 : Int), .int (j1 : Int), .non, .non, true, true, false, false, [0, 1, 1], [7], [.ref u], 11, rfl, D.same s4, .int _, .int _, wh_non, wh_non, by decide, by decide, Nat.le_of_ble_eq_true rfl, fun r H5 nr s5 hr => k r H5 nr s5 hr, .inr (.inl ⟨rfl, .inr ⟨rfl, i1, j1, rfl, rfl, bad⟩⟩)⟩
  intro xs H4 lx s4 hx hE
  replace D := D.same s4
  replace hu := s4 _ _ hu
  clear s4 h1 h2 ht nE
  walk_at "rd"
  intro r nr
  obtain ⟨H5, e, s, hr⟩ := newO (.tup [.str "refused", .int 11]) nr
  rw [e]
  clear e nr
  replace D := D.same s
  replace hu := s _ _ hu
  replace hx : ∀ j, j < 2 → ∃ u, xs[j]? = some (.ref u) ∧ H5 u = some (.tup [.str "refused", .int 11]) := fun j hj => by
    obtain ⟨u, y1, y2⟩ := hx j hj
    exact ⟨u, y1, s _ _ y2⟩
  replace hE := s _ _ hE
  clear s
  refine ⟨by show 1 ≤ sizeLine; decide, fun l nl => ?_⟩
  obtain ⟨H6, e, s, hl⟩ := newO (.lst [.ref r]) nl
  rw [e]
  clear e nl
  replace D := D.same s
  replace hu := s _ _ hu
  replace hx : ∀ j, j < 2 → ∃ u, xs[j]? = some (.ref u) ∧ H6 u = some (.tup [.str "refused", .int 11]) := fun j hj => by
    obtain ⟨u, y1, y2⟩ := hx j hj
    exact ⟨u, y1, s _ _ y2⟩
  replace hE := s _ _ hE
  replace hr := s _ _ hr
  clear s
  refine ⟨l, 2, [.ref r], rfl, rfl, hl, by decide, by decide, by show 1 * 2 ≤ sizeLine; decide, fun w nw => ?_⟩
  obtain ⟨H7, e, s, hw⟩ := newO (.lst (List.replicate (2 : Int).toNat [V.ref r]).flatten) nw
  rw [e]
  clear e nw
  replace D := D.same s
  replace hu := s _ _ hu
  replace hx : ∀ j, j < 2 → ∃ u, xs[j]? = some (.ref u) ∧ H7 u = some (.tup [.str "refused", .int 11]) := fun j hj => by
    obtain ⟨u, y1, y2⟩ := hx j hj
    exact ⟨u, y1, s _ _ y2⟩
  replace hE := s _ _ hE
  replace hr := s _ _ hr
  clear s
  refine rfds_ne (k := 2) (.inl (.inl hE)) (.inl (.inl hw)) lx rfl (by decide) hx (fun j hj => ⟨r, match j, hj with | 0, _ => rfl | 1, _ => rfl, hr⟩) ?_
  refine ⟨_, rfl, iteF ?_⟩
  clear hE hr hw hl hx lx
  obtain ⟨dx, ob⟩ := id D.ob
  walk_at "rd"
  refine ⟨x, dx, _, rfl, ob, fl_no _ _ _ _ (by decide +kernel) (by decide +kernel) (by decide +kernel) (by decide +kernel), ?_⟩
  dsimp only [tCons, tNil]
  refine ⟨x, T1, W, L, 2, .int 2, .int 1, true, true, [0, 1, 1], [7], [.ref u], rfl, D, .int _, .int _, by decide, by decide, Nat.le_of_ble_eq_true rfl, .inr (.inr ⟨2, 1, rfl, rfl, by decide, by decide, fun _ _ _ T2 u2 e2 H8 _ _ _ he2 hu2 D' k8 => ?_, fun z => absurd z (by decide), fun _ z => absurd z (by decide)⟩)⟩
  replace hu := D.ktX k8 _ _ hu
  replace D : TblAt K H8 x T2 W L 2 [0, 1, 1] [7] [.ref u, .ref u2] := D'
  clear D' k8 ob
  walk_at "rd"
  obtain ⟨dx, ob⟩ := id D.ob
  refine ⟨x, dx, _, rfl, ob, fl_no _ _ _ _ (by decide +kernel) (by decide +kernel) (by decide +kernel) (by decide +kernel), ?_⟩
  dsimp only [tCons, tNil]
  refine ⟨x, T2, W, L, 2, .int 8, true, [0, 1, 1], [7], [.ref u, .ref u2], rfl, D, .int _, by decide, by decide, Nat.le_of_ble_eq_true rfl, .inr (.inr ⟨by decide, 8, rfl, fun u3 e3 H9 _ _ _ hu3 D' k9 => ?_⟩)⟩
  replace hu := D.ktW k9 _ _ hu
  replace hu2 := D.ktW k9 _ _ hu2
  replace he2 := D.ktW k9 _ _ he2
  replace D : TblAt K H9 x T2 W L 2 [0, 1, 1] [7, 8] [.ref u, .ref u2, .ref u3] := D'
  clear D' k9 ob
  obtain ⟨dx, ob⟩ := id D.ob
  walk_at "rd"
  refine ⟨x, dx, _, rfl, ob, fl_no _ _ _ _ (by decide +kernel) (by decide +kernel) (by decide +kernel) (by decide +kernel), ?_⟩
  dsimp only [tCons, tNil]
  refine ⟨_, rfl, ?_⟩
  refine ⟨x, T2, W, L, 2, .int (-9), true, [0, 1, 1], [7, 8], [.ref u, .ref u2, .ref u3], rfl, D, .int _, by decide, by decide, Nat.le_of_ble_eq_true rfl, .inr (.inr ⟨by decide, -9, rfl, fun u4 e4 H10 _ _ _ hu4 D' k9 => ?_⟩)⟩
  replace hu := D.ktW k9 _ _ hu
  replace hu2 := D.ktW k9 _ _ hu2
  replace he2 := D.ktW k9 _ _ he2
  replace hu3 := D.ktW k9 _ _ hu3
  replace D : TblAt K H10 x T2 W L 2 [0, 1, 1] [7, 8, -9] [.ref u, .ref u2, .ref u3, .ref u4] := D'
  clear D' k9 ob
  refine ⟨by show 2 ≤ sizeLine; decide, fun l1 nl => ?_⟩
  obtain ⟨H11, e, s, hl1⟩ := newO (.lst [.int (([0, 1, 1] : List Int).getD ([7] : List Int).length 0), .int (([0, 1, 1] : List Int).getD ([7, 8] : List Int).length 0)]) nl
  rw [e]
  clear e nl
  replace D := D.same s
  replace hu := s _ _ hu
  replace hu2 := s _ _ hu2
  replace he2 := s _ _ he2
  replace hu3 := s _ _ hu3
  replace hu4 := s _ _ hu4
  clear s
  walk_at "rd"
  intro l2 nl
  obtain ⟨H12, e, s, hl2⟩ := newO (.lst [.int 1, .int 1]) nl
  rw [e]
  clear e nl
  replace D := D.same s
  replace hu := s _ _ hu
  replace hu2 := s _ _ hu2
  replace he2 := s _ _ he2
  replace hu3 := s _ _ hu3
  replace hu4 := s _ _ hu4
  replace hl1 := s _ _ hl1
  clear s
  refine neL (ns := [1, 1]) (ms := [1, 1]) (.inl (.inl hl1)) (.inl (.inl hl2)) ?_
  refine ⟨_, rfl, iteF ?_⟩
  clear hl1 hl2
  obtain ⟨dx, ob⟩ := id D.ob
  walk_at "rd"
  refine ⟨x, dx, _, rfl, ob, fl_no _ _ _ _ (by decide +kernel) (by decide +kernel) (by decide +kernel) (by decide +kernel), ?_⟩
  refine ⟨x, T2, W, L, 2, [0, 1, 1], [7, 8, -9], _, rfl, D, fun l1 H13 _ s hl1 => ?_⟩
  replace D := D.same s
  replace hu := s _ _ hu
  replace hu2 := s _ _ hu2
  replace he2 := s _ _ he2
  replace hu3 := s _ _ hu3
  replace hu4 := s _ _ hu4
  clear s ob
  walk_at "rd"
  intro l2 nl
  obtain ⟨H14, e, s, hl2⟩ := newO (.lst [.int 7, .int 8, .int (-9)]) nl
  rw [e]
  clear e nl
  replace D := D.same s
  replace hu := s _ _ hu
  replace hu2 := s _ _ hu2
  replace he2 := s _ _ he2
  replace hu3 := s _ _ hu3
  replace hu4 := s _ _ hu4
  replace hl1 := s _ _ hl1
  clear s
  refine neL (ms := [7, 8, -9]) (.inl (.inl hl1)) (.inl (.inl hl2)) ?_
  refine ⟨_, rfl, iteF ?_⟩
  clear hl1 hl2
  walk_at "rd"
  intro t nt
  obtain ⟨H15, e, s, ht⟩ := newO (.tup [.int 1, .non]) nt
  rw [e]
  clear e nt
  replace D := D.same s
  replace hu := s _ _ hu
  replace hu2 := s _ _ hu2
  replace he2 := s _ _ he2
  replace hu3 := s _ _ hu3
  replace hu4 := s _ _ hu4
  clear s
  refine ⟨t, rfl, ⟨_, .inl (.inl ht)⟩, fun E nE => ?_⟩
  refine lcr (walk_tup (xs := [.int 1, .non])) nE (by show 2 < 1000000; decide) (fun _ => .tup [.str "refused", .int 11]) (fun H s => .inl (.inl (s _ _ ht))) ?_ ?_
  · rintro i v H4 H' R hi s4 ⟨rfl, hv⟩ k
    have hw : ∃ b, Wh K H' v b := by
      rcases List.mem_cons.mp (List.mem_of_getElem? hv) with rfl | hv
      · exact ⟨_, .int _⟩
      · rw [List.mem_singleton.mp hv]
        exact ⟨_, wh_non⟩
    obtain ⟨b, hw⟩ := hw
    refine ⟨rfl, ?_⟩
    walk_at "rd"
    exact ⟨0, x, T2, W, L, 2, v, .non, .non, .non, b, false, false, false, [0, 1, 1], [7, 8, -9], _, 11, rfl, D.same s4, hw, wh_non, wh_non, wh_non, by decide, by decide, Nat.le_of_ble_eq_true rfl, fun r H5 nr s5 hr => k r H5 nr s5 hr, .inl ⟨rfl, .inl ⟨rfl, rfl⟩⟩⟩
  intro xs H16 lx s hx hE
  replace D := D.same s
  replace hu := s _ _ hu
  replace hu2 := s _ _ hu2
  replace he2 := s _ _ he2
  replace hu3 := s _ _ hu3
  replace hu4 := s _ _ hu4
  clear s ht nE
  walk_at "rd"
  intro r nr
  obtain ⟨H17, e, s, hr⟩ := newO (.tup [.str "refused", .int 11]) nr
  rw [e]
  clear e nr
  replace D := D.same s
  replace hu := s _ _ hu
  replace hu2 := s _ _ hu2
  replace he2 := s _ _ he2
  replace hu3 := s _ _ hu3
  replace hu4 := s _ _ hu4
  replace hx : ∀ j, j < 2 → ∃ u, xs[j]? = some (.ref u) ∧ H17 u = some (.tup [.str "refused", .int 11]) := fun j hj => by
    obtain ⟨u, y1, y2⟩ := hx j hj
    exact ⟨u, y1, s _ _ y2⟩
  replace hE := s _ _ hE
  clear s
  refine ⟨by show 1 ≤ sizeLine; decide, fun l nl => ?_⟩
  obtain ⟨H18, e, s, hl⟩ := newO (.lst [.ref r]) nl
  rw [e]
  clear e nl
  replace D := D.same s
  replace hu := s _ _ hu
  replace hu2 := s _ _ hu2
  replace he2 := s _ _ he2
  replace hu3 := s _ _ hu3
  replace hu4 := s _ _ hu4
  replace hx : ∀ j, j < 2 → ∃ u, xs[j]? = some (.ref u) ∧ H18 u = some (.tup [.str "refused", .int 11]) := fun j hj => by
    obtain ⟨u, y1, y2⟩ := hx j hj
    exact ⟨u, y1, s _ _ y2⟩
  replace hE := s _ _ hE
  replace hr := s _ _ hr
  clear s
  refine ⟨l, 2, [.ref r], rfl, rfl, hl, by decide, by decide, by show 1 * 2 ≤ sizeLine; decide, fun w nw => ?_⟩
  obtain ⟨H19, e, s, hw⟩ := newO (.lst (List.replicate (2 : Int).toNat [V.ref r]).flatten) nw
  rw [e]
  clear e nw
  replace D := D.same s
  replace hu := s _ _ hu
  replace hu2 := s _ _ hu2
  replace he2 := s _ _ he2
  replace hu3 := s _ _ hu3
  replace hu4 := s _ _ hu4
  replace hx : ∀ j, j < 2 → ∃ u, xs[j]? = some (.ref u) ∧ H19 u = some (.tup [.str "refused", .int 11]) := fun j hj => by
    obtain ⟨u, y1, y2⟩ := hx j hj
    exact ⟨u, y1, s _ _ y2⟩
  replace hE := s _ _ hE
  replace hr := s _ _ hr
  clear s
  refine rfds_ne (k := 2) (.inl (.inl hE)) (.inl (.inl hw)) lx rfl (by decide) hx (fun j hj => ⟨r, match j, hj with | 0, _ => rfl | 1, _ => rfl, hr⟩) ?_
  refine ⟨_, rfl, iteF ?_⟩
  clear hE hr hw hl hx lx
  obtain ⟨dx, ob⟩ := id D.ob
  walk_at "rd"
  refine ⟨x, dx, _, rfl, ob, fl_no _ _ _ _ (by decide +kernel) (by decide +kernel) (by decide +kernel) (by decide +kernel), ?_⟩
  refine ⟨x, T2, W, L, 2, [0, 1, 1], [7, 8, -9], _, rfl, D, by decide, ?_⟩
  rw [if_neg (by decide)]
  walk_at "rd"
  intro t nt
  obtain ⟨H20, e, s, ht⟩ := newO (.tup [.int 0, .int 1, .int 1]) nt
  rw [e]
  clear e nt ob
  replace D := D.same s
  replace hu := s _ _ hu
  replace hu2 := s _ _ hu2
  replace he2 := s _ _ he2
  replace hu3 := s _ _ hu3
  replace hu4 := s _ _ hu4
  clear s
  intro x2 dx2 nx ndx nex
  have sx : Same H20 (upd (upd H20 dx2 (.own x2)) x2 (.ins (tbC K) dx2 [])) := fun c o e => by
    rw [upd_ne (ne_of_none e nx), upd_ne (ne_of_none e ndx)]
    exact e
  refine ⟨x2, dx2, t, 2, [0, 1, 1], rfl, upd_same, ⟨by decide, by decide, by decide, by decide, by decide⟩, .inl (.inl (sx _ _ ht)), fun T3 W3 L3 H21 nT nW nL F b3 => ⟨rfl, ?_⟩⟩
  have s3 : Same H20 H21 := fun c o e => b3 c o (ne_of_none e nx) (sx _ _ e)
  have nW0 := none_back sx nW
  have nL0 := none_back sx nL
  have tW : T2 ≠ W3 := ne_of_none D.tn nW0
  have tL : T2 ≠ L3 := ne_of_none D.tn nL0
  have wW : W ≠ W3 := ne_of_none D.td nW0
  have wL : W ≠ L3 := ne_of_none D.td nL0
  have lW : L ≠ W3 := ne_of_none D.cl nW0
  have lL : L ≠ L3 := ne_of_none D.cl nL0
  replace D := D.same s3
  replace hu := s3 _ _ hu
  replace hu2 := s3 _ _ hu2
  replace he2 := s3 _ _ he2
  replace hu3 := s3 _ _ hu3
  replace hu4 := s3 _ _ hu4
  clear s3 sx nT nW nL b3 nx ndx nex nW0 nL0 ht
  obtain ⟨dx, ob⟩ := id D.ob
  obtain ⟨dy, oy⟩ := id F.ob
  change tSeq _ _ _ [some (.ref x), some (.ref x2), none, none, none] H21
  walk_at "rd"
  refine ⟨x, dx, _, rfl, ob, .inl ⟨x2, dy, _, rfl, oy⟩, ⟨x, T2, W, L, 2, [0, 1, 1], [7, 8, -9], _, .ref x2, rfl, D, .inr ⟨x2, T3, W3, L3, 2, [0, 1, 1], [], _, rfl, F, ?_⟩⟩⟩
  rw [decide_eq_false (fun z => by cases z.2.2)]
  refine ⟨⟨_, rfl⟩, ?_⟩
  walk_at "rd"
  refine ⟨false, false, rfl, ?_⟩
  refine ⟨_, rfl, iteF ?_⟩
  walk_at "rd"
  refine ⟨x, dx, _, rfl, ob, .inr ⟨_, rfl⟩, ⟨x, T2, W, L, 2, [0, 1, 1], [7, 8, -9], _, .str _, rfl, D, .inl ⟨_, rfl, ⟨⟨_, rfl⟩, ?_⟩⟩⟩⟩
  walk_at "rd"
  refine ⟨false, false, rfl, ?_⟩
  refine ⟨_, rfl, iteF ?_⟩
  clear ob oy
  walk_at "rd"
  intro t nt
  obtain ⟨H22, e, s, ht⟩ := newO (.tup [.int 7, .int 8, .int (-9)]) nt
  rw [e]
  clear e nt
  replace D := D.same s
  replace F := F.same s
  replace hu := s _ _ hu
  replace hu2 := s _ _ hu2
  replace he2 := s _ _ he2
  replace hu3 := s _ _ hu3
  replace hu4 := s _ _ hu4
  clear s
  refine ⟨t, rfl, ⟨_, .inl (.inl ht)⟩, ?_⟩
  refine for_tup (xs := [.int 7, .int 8, .int (-9)]) (fun i σ H => ∃ y2 cs, σ = [some (.ref x), some (.ref x2), y2, none, none] ∧ TblAt K H x2 T3 W3 L3 2 [0, 1, 1] (([7, 8, -9] : List Int).take i) cs ∧ cs.length = i ∧ TblAt K H x T2 W L 2 [0, 1, 1] [7, 8, -9] [.ref u, .ref u2, .ref u3, .ref u4] ∧ KT H22 H)
    ⟨_, [], rfl, F, rfl, D, fun _ _ e => e⟩ (fun _ _ H _ h => by obtain ⟨_, _, _, _, _, _, k⟩ := h; exact .inl (.inl (k _ _ ht))) ?_ ?_
  · rintro i v σ H23 hv ⟨y2, cs, rfl, F3, lc, D3, k3⟩
    have hi : i < 3 := (List.getElem?_eq_some_iff.mp hv).1
    obtain ⟨z, rfl, ez⟩ : ∃ z : Int, v = .int z ∧ ([7, 8, -9] : List Int).take (i + 1) = ([7, 8, -9] : List Int).take i ++ [z] := by
      match i, hi, hv with
      | 0, _, e => exact ⟨7, (Option.some.inj e).symm, rfl⟩
      | 1, _, e => exact ⟨8, (Option.some.inj e).symm, rfl⟩
      | 2, _, e => exact ⟨-9, (Option.some.inj e).symm, rfl⟩
    obtain ⟨dx, ob⟩ := id D3.ob
    obtain ⟨dy, oy⟩ := id F3.ob
    have li : (([7, 8, -9] : List Int).take i).length = i := by rw [List.length_take]; exact Nat.min_eq_left (by show i ≤ 3; omega)
    dsimp only [gName, List.set]
    walk_at "rd"
    refine ⟨x2, dy, _, rfl, oy, fl_no _ _ _ _ (by decide +kernel) (by decide +kernel) (by decide +kernel) (by decide +kernel), ?_⟩
    dsimp only [tCons, tNil, tVar]
    walk_at "rd"
    refine ⟨x2, T3, W3, L3, 2, .int z, true, [0, 1, 1], _, cs, rfl, F3, .int _, by rw [li]; show i ≤ 3; omega, by decide, by omega, .inr (.inr ⟨by rw [li]; exact hi, z, rfl, fun u5 e5 H24 _ _ _ _ F4 k9 => ?_⟩)⟩
    have kp : Kp (fun d => d = W3 ∨ d = L3) H23 H24 := fun c o n h => k9 c o (fun z => n (.inl z)) (fun z => n (.inr z)) h
    rw [← ez] at F4
    exact ⟨_, _, rfl, F4, by rw [List.length_append, List.length_singleton, lc], D3.keepP kp (fun z => z.elim (D3.ne_p F3.td) (D3.ne_p F3.cl)) (fun z => z.elim tW tL) (fun z => z.elim wW wL) (fun z => z.elim lW lL), fun c xs e => F3.ktW k9 _ _ (k3 _ _ e)⟩
  rintro σ H23 ⟨y2, cs, rfl, F3, lc, D3, k3⟩
  replace F3 : TblAt K H23 x2 T3 W3 L3 2 [0, 1, 1] [7, 8, -9] cs := F3
  replace hu := k3 _ _ hu
  replace hu2 := k3 _ _ hu2
  replace he2 := k3 _ _ he2
  replace hu3 := k3 _ _ hu3
  replace hu4 := k3 _ _ hu4
  clear D F k3 ht lc
  obtain ⟨dx, ob⟩ := id D3.ob
  obtain ⟨dy, oy⟩ := id F3.ob
  walk_at "rd"
  refine ⟨x, dx, _, rfl, ob, .inl ⟨x2, dy, _, rfl, oy⟩, ⟨x, T2, W, L, 2, [0, 1, 1], [7, 8, -9], _, .ref x2, rfl, D3, .inr ⟨x2, T3, W3, L3, 2, [0, 1, 1], [7, 8, -9], _, rfl, F3, ?_⟩⟩⟩
  rw [decide_eq_true ⟨rfl, rfl, rfl⟩]
  refine ⟨⟨_, rfl⟩, ?_⟩
  walk_at "rd"
  refine ⟨true, true, rfl, ?_⟩
  refine ⟨_, rfl, iteF ?_⟩
  clear ob oy F3
  walk_at "rd"
  intro t5 nt
  obtain ⟨H24, e, s, ht⟩ := newO (.tup [.int 0, .int 1]) nt
  rw [e]
  clear e nt
  replace D3 := D3.same s
  replace hu := s _ _ hu
  replace hu2 := s _ _ hu2
  replace he2 := s _ _ he2
  replace hu3 := s _ _ hu3
  replace hu4 := s _ _ hu4
  clear s
  intro x5 dx5 nx ndx nex
  have sx : Same H24 (upd (upd H24 dx5 (.own x5)) x5 (.ins (tbC K) dx5 [])) := fun c o e => by
    rw [upd_ne (ne_of_none e nx), upd_ne (ne_of_none e ndx)]
    exact e
  refine ⟨x5, dx5, t5, 3, [0, 1], rfl, upd_same, ⟨by decide, by decide, by decide, by decide, by decide⟩, .inl (.inl (sx _ _ ht)), fun T5 W5 L5 H25 nT nW nL F5 b3 => ⟨rfl, ?_⟩⟩
  have s3 : Same H24 H25 := fun c o e => b3 c o (ne_of_none e nx) (sx _ _ e)
  replace D3 := D3.same s3
  replace hu := s3 _ _ hu
  replace hu2 := s3 _ _ hu2
  replace he2 := s3 _ _ he2
  replace hu3 := s3 _ _ hu3
  replace hu4 := s3 _ _ hu4
  clear s3 sx nT nW nL b3 nx ndx nex ht
  walk_at "rd"
  intro t6 nt
  obtain ⟨H26, e, s, ht⟩ := newO (.tup [.int 0, .int 1]) nt
  rw [e]
  clear e nt
  replace D3 := D3.same s
  replace F5 := F5.same s
  replace hu := s _ _ hu
  replace hu2 := s _ _ hu2
  replace he2 := s _ _ he2
  replace hu3 := s _ _ hu3
  replace hu4 := s _ _ hu4
  clear s
  intro x6 dx6 nx ndx nex
  have sx : Same H26 (upd (upd H26 dx6 (.own x6)) x6 (.ins (tbC K) dx6 [])) := fun c o e => by
    rw [upd_ne (ne_of_none e nx), upd_ne (ne_of_none e ndx)]
    exact e
  refine ⟨x6, dx6, t6, 2, [0, 1], rfl, upd_same, ⟨by decide, by decide, by decide, by decide, by decide⟩, .inl (.inl (sx _ _ ht)), fun T6 W6 L6 H27 nT nW nL F6 b3 => ⟨rfl, ?_⟩⟩
  have s3 : Same H26 H27 := fun c o e => b3 c o (ne_of_none e nx) (sx _ _ e)
  replace D3 := D3.same s3
  replace F5 := F5.same s3
  replace hu := s3 _ _ hu
  replace hu2 := s3 _ _ hu2
  replace he2 := s3 _ _ he2
  replace hu3 := s3 _ _ hu3
  replace hu4 := s3 _ _ hu4
  clear s3 sx nT nW nL b3 nx ndx nex ht
  obtain ⟨dx, ob⟩ := id F5.ob
  obtain ⟨dy, oy⟩ := id F6.ob
  refine ⟨x5, dx, _, rfl, ob, .inl ⟨x6, dy, _, rfl, oy⟩, ⟨x5, T5, W5, L5, 3, [0, 1], [], _, .ref x6, rfl, F5, .inr ⟨x6, T6, W6, L6, 2, [0, 1], [], _, rfl, F6, ?_⟩⟩⟩
  rw [decide_eq_false (fun z => absurd z.1 (by decide))]
  refine ⟨⟨_, rfl⟩, ?_⟩
  walk_at "rd"
  refine ⟨false, false, rfl, ?_⟩
  refine ⟨_, rfl, iteF ?_⟩
  clear ob oy F5 F6
  walk_at "rd"
  intro E nE
  have eW : W ≠ E := ne_of_none D3.td nE
  have eL : L ≠ E := ne_of_none D3.cl nE
  have ex : x ≠ E := by
    obtain ⟨dx, ob⟩ := D3.ob
    exact ne_of_none ob nE
  refine lc_it walk_range (fun i H => ∃ T', TblAt K H x T' W L 2 [0, 1, 1] (([[7, 8, -9], [7, 8], [7], [7], []] : List (List Int)).getD i []) (([[.ref u, .ref u2, .ref u3, .ref u4], [.ref u, .ref u2, .ref u3], [.ref u, .ref u2], [.ref u], []] : List (List V)).getD i []) ∧ T' ≠ E ∧ KT H27 H ∧ H E = some (.lst ((([("tell" : Str), "tell", "exchange", "tell"] : List Str).take i).map V.str)))
    ⟨T2, D3.same (same_new nE), ne_of_none D3.tn nE, KT.same (same_new nE), upd_same⟩ (fun _ _ _ _ => trivial) ?_ ?_
  · rintro i v H28 H' hi ⟨T', D8, tE, k8, hE⟩ ⟨rfl, rfl⟩
    have hi4 : i < 4 := hi
    refine ⟨rfl, ?_⟩
    obtain ⟨dx, ob⟩ := id D8.ob
    walk_at "rd"
    refine ⟨x, dx, _, rfl, ob, fl_no _ _ _ _ (by decide +kernel) (by decide +kernel) (by decide +kernel) (by decide +kernel), ?_⟩
    obtain ⟨t1, s, cs0, uu, a1, a2, a3, a4, a5, a6, a7, a8, a9, a10⟩ : ∃ (t : List Int × List Int) (s : Stp) (cs0 : List V) (uu : Addr), [0, 1, 1] = (s.ap t).1 ∧ ([[7, 8, -9], [7, 8], [7], [7], []] : List (List Int)).getD i [] = (s.ap t).2 ∧
        (([[.ref u, .ref u2, .ref u3, .ref u4], [.ref u, .ref u2, .ref u3], [.ref u, .ref u2], [.ref u], []] : List (List V)).getD i []) = cs0 ++ [.ref uu] ∧ s.at H' uu ∧ s.ok t ∧ s.inR t.1.length ∧ t.1 = [0, 1, 1] ∧ t.2 = ([[7, 8, -9], [7, 8], [7], [7], []] : List (List Int)).getD (i + 1) [] ∧
        cs0 = (([[.ref u, .ref u2, .ref u3, .ref u4], [.ref u, .ref u2, .ref u3], [.ref u, .ref u2], [.ref u], []] : List (List V)).getD (i + 1) []) ∧ (([("tell" : Str), "tell", "exchange", "tell"] : List Str).take (i + 1)).map V.str = (([("tell" : Str), "tell", "exchange", "tell"] : List Str).take i).map V.str ++ [.str s.nm] := by
      match i, hi4 with
      | 0, _ => exact ⟨([0, 1, 1], [7, 8]), .tl (-9), [.ref u, .ref u2, .ref u3], u4, rfl, rfl, rfl, ⟨e4, k8 _ _ hu4⟩, by show 2 < 3; decide, trivial, rfl, rfl, rfl, rfl⟩
      | 1, _ => exact ⟨([0, 1, 1], [7]), .tl 8, [.ref u, .ref u2], u3, rfl, rfl, rfl, ⟨e3, k8 _ _ hu3⟩, by show 1 < 3; decide, trivial, rfl, rfl, rfl, rfl⟩
      | 2, _ => exact ⟨([0, 1, 1], [7]), .ex 2 1, [.ref u], u2, rfl, rfl, rfl, ⟨e2, k8 _ _ hu2, k8 _ _ he2⟩, ⟨by decide, by show 1 ≤ 2; decide, by show 1 ≤ 1; decide⟩, ⟨by show 2 < 3; decide, by show 1 < 3; decide⟩, rfl, rfl, rfl, rfl⟩
      | 3, _ => exact ⟨([0, 1, 1], []), .tl 7, [], u, rfl, rfl, rfl, ⟨e0, k8 _ _ hu⟩, by show 0 < 3; decide, trivial, rfl, rfl, rfl, rfl⟩
    refine ⟨x, T', W, L, 2, [0, 1, 1], _, _, rfl, D8, by decide, .inr ⟨t1, s, cs0, uu, a1, a2, a3, a4, a5, a6, fun T9 H9 n9 D9 k9 => ?_⟩⟩
    have hE9 := k9 _ _ (fun z => z.elim ex.symm fun z => z.elim eW.symm eL.symm) hE
    have t9 : T9 ≠ E := n9.elim (fun z => z ▸ tE) fun z y => by rw [y, hE] at z; cases z
    rw [a7, a8, a9] at D9
    refine ⟨_, hE9, szl (by rw [List.length_map, List.length_take]; omega), T9, D9.but But.at ⟨t9.symm, eW.symm, eL.symm⟩ hE9, t9, fun c xs e => ?_, by rw [a10]; exact upd_same⟩
    have e9 := D8.ktP k9 _ _ (k8 _ _ e)
    rw [upd_ne (fun z => by rw [z, hE9] at e9; cases e9)]
    exact e9
  rintro H28 ⟨T', D8, tE, k8, hE⟩
  replace D8 : TblAt K H28 x T' W L 2 [0, 1, 1] [] [] := D8
  walk_at "rd"
  intro l nl
  obtain ⟨H29, e, s, hl⟩ := newO (.lst [.str "tell", .str "tell", .str "exchange", .str "tell"]) nl
  rw [e]
  clear e nl
  replace D8 := D8.same s
  replace hE := s _ _ hE
  clear s
  refine strs_eq (ss := ["tell", "tell", "exchange", "tell"]) (.inl (.inl hE)) (.inl (.inl hl)) (by decide +kernel) ?_
  refine ⟨_, rfl, iteT ?_⟩
  obtain ⟨dx, ob⟩ := id D8.ob
  walk_at "rd"
  refine ⟨x, dx, _, rfl, ob, fl_no _ _ _ _ (by decide +kernel) (by decide +kernel) (by decide +kernel) (by decide +kernel), ?_⟩
  refine ⟨x, T', W, L, 2, [0, 1, 1], [], [], rfl, D8, fun r H30 _ s hr => ?_⟩
  walk_at "rd"
  intro t nt
  refine eqT (ns := [0, 1, 1]) (ms := [0, 1, 1]) (.inl (.inl (same_new nt _ _ hr))) (.inl (.inl upd_same)) ?_
  exact q _

/-! law -/
def sp_law (K : PySem.W.Frag) : Sp := fun vs H Q _ => ∃ (a : Addr) (ns : List Int), vs = [.ref a] ∧ SqL K H a (ns.map V.int) ∧ ns.length ≤ 63 ∧ ∀ H', Q (.bl true) H'
theorem ok_law (T : Txt K mg) {f : Addr} {fd : FuncData} (F : FunD K "law" "law" (defArgs S_law) (defBody S_law) (defScope S_law) [] [] f fd) : FnOk P w K mg base CX0 9 f fd ["_law_script"] (sp_law K) := by
  refine fn_ok F sc_law (fun vs H Q E h => by first | (obtain ⟨_, rfl, _⟩ := h; rfl) | (obtain ⟨_, _, rfl, _⟩ := h; rfl) | (obtain ⟨_, _, _, rfl, _⟩ := h; rfl) | (obtain ⟨_, _, _, _, rfl, _⟩ := h; rfl) | (obtain ⟨_, _, _, _, _, rfl, _⟩ := h; rfl) | (obtain ⟨_, _, _, _, _, _, rfl, _⟩ := h; rfl) | (obtain ⟨_, _, _, _, _, _, _, rfl, _⟩ := h; rfl) | (obtain ⟨_, _, _, _, _, _, _, _, rfl, _⟩ := h; rfl) | (obtain ⟨_, _, _, _, _, _, _, _, _, rfl, _⟩ := h; rfl) | (obtain ⟨_, _, _, _, _, _, _, _, _, _, rfl, _⟩ := h; rfl) | (obtain ⟨_, _, _, _, _, _, _, _, _, _, _, rfl, _⟩ := h; rfl) | (obtain ⟨_, _, _, _, _, _, _, _, _, _, _, _, rfl, _⟩ := h; rfl) | (obtain ⟨_, _, _, _, _, _, _, _, _, _, _, _, _, rfl, _⟩ := h; rfl)) (fun cdv A outer s H vs Q E hr h => ?_)
  obtain ⟨a, ns, rfl, hS0, hl, q⟩ := h
  refine ⟨_, (pss_cons (ps_set (i := 1) sc_law.nd rfl (.inl rfl) (pe_lst pa_nil))
    (pss_cons (ps_set (i := 2) sc_law.nd rfl (.inl rfl) (pe_mke (c_Table___init__ T) hr (by decide) T.tab.gl (pa_cons pe_int (pa_cons (pe_tup (pa_cons pe_int (pa_cons pe_int (pa_cons pe_int pa_nil)))) pa_nil))))
    (pss_cons (ps_if (pt_cmpR (kz_neD (K := K) hr.units) (pe_cal (c__law_ask T) hr (by decide) (pa_cons pe_int (pa_cons (pv 2) (pa_cons pe_non (pa_cons pe_non (pa_cons pe_non (pa_cons pe_non pa_nil))))))) (pe_tup (pa_cons pe_str (pa_cons pe_int pa_nil))) (nomark _)) (pss_one (ps_ret pe_bl)) pss_nil)
    (pss_cons (ps_for PassesOwn.never rfl (kz_piL (K := K) (pe_lst (pa_cons pe_non (pa_cons pe_str (pa_cons pe_bl (pa_cons (pe_lst (pa_cons pe_int pa_nil)) (pa_cons (pe_tup (pa_cons pe_int pa_nil)) pa_nil))))))) (pg_name (i := 3) sc_law.nd rfl (.inl rfl)) (pss_one (ps_if (pt_cmpR (kz_neD (K := K) hr.units) (pe_cal (c__law_ask T) hr (by decide) (pa_cons pe_int (pa_cons (pv 2) (pa_cons (pv 3) (pa_cons pe_non (pa_cons pe_non (pa_cons pe_non pa_nil))))))) (pe_tup (pa_cons pe_str (pa_cons pe_int pa_nil))) (nomark _)) (pss_one (ps_ret pe_bl)) pss_nil)))
    (pss_cons (ps_for PassesOwn.never rfl (kz_piL (K := K) (pe_lst (pa_cons (pe_tup (pa_cons pe_non (pa_cons pe_int pa_nil))) (pa_cons (pe_tup (pa_cons pe_int (pa_cons pe_int pa_nil))) (pa_cons (pe_tup (pa_cons pe_int (pa_cons pe_int pa_nil))) (pa_cons (pe_tup (pa_cons (pe_un un_neg pe_int) (pa_cons pe_int pa_nil))) (pa_cons (pe_tup (pa_cons pe_bl (pa_cons pe_int pa_nil))) (pa_cons (pe_tup (pa_cons pe_str (pa_cons pe_int pa_nil))) pa_nil)))))))) (kz_gtup (K := K) 2 rfl (pgs_cons (pg_name (i := 4) sc_law.nd rfl (.inl rfl)) (pgs_cons (pg_name (i := 5) sc_law.nd rfl (.inl rfl)) pgs_nil))) (pss_one (ps_if (pt_cmpR (kz_neD (K := K) hr.units) (pe_cal (c__law_ask T) hr (by decide) (pa_cons pe_int (pa_cons (pv 2) (pa_cons (pv 4) (pa_cons (pv 5) (pa_cons pe_non (pa_cons pe_non pa_nil))))))) (pe_tup (pa_cons pe_str (pa_cons pe_int pa_nil))) (nomark _)) (pss_one (ps_ret pe_bl)) pss_nil)))
    (pss_cons (ps_if (PW.pt (pw_or (pt_cmpR (kz_neD (K := K) hr.units) (pe_cal (c__law_ask T) hr (by decide) (pa_cons pe_int (pa_cons (pv 2) (pa_cons pe_int (pa_cons pe_int (pa_cons pe_int (pa_cons pe_int pa_nil))))))) (pe_tup (pa_cons pe_str (pa_cons pe_int pa_nil))) (nomark _)) (pw_or1 (pt_cmpR op_ne (pe_mthX (pv 2) T.tab.cl (c_Table_tell T) hr (by decide) takesN0 (pa_cons pe_int pa_nil)) pe_int (nomark _))))) (pss_one (ps_ret pe_bl)) pss_nil)
    (pss_cons (ps_for PassesOwn.never rfl (kz_piL (K := K) (pe_lst (pa_cons (pe_tup (pa_cons pe_non (pa_cons pe_int pa_nil))) (pa_cons (pe_tup (pa_cons pe_int (pa_cons pe_int pa_nil))) (pa_cons (pe_tup (pa_cons pe_int (pa_cons pe_int pa_nil))) (pa_cons (pe_tup (pa_cons pe_bl (pa_cons pe_int pa_nil))) pa_nil)))))) (kz_gtup (K := K) 2 rfl (pgs_cons (pg_name (i := 4) sc_law.nd rfl (.inl rfl)) (pgs_cons (pg_name (i := 5) sc_law.nd rfl (.inl rfl)) pgs_nil))) (pss_one (ps_if (pt_cmpR (kz_neD (K := K) hr.units) (pe_cal (c__law_ask T) hr (by decide) (pa_cons pe_int (pa_cons (pv 2) (pa_cons (pv 4) (pa_cons (pv 5) (pa_cons pe_non (pa_cons pe_non pa_nil))))))) (pe_tup (pa_cons pe_str (pa_cons pe_int pa_nil))) (nomark _)) (pss_one (ps_ret pe_bl)) pss_nil)))
    (pss_cons (ps_for PassesOwn.never rfl (kz_piL (K := K) (pe_lst (pa_cons pe_non (pa_cons pe_int (pa_cons pe_int (pa_cons pe_int (pa_cons pe_bl pa_nil))))))) (pg_name (i := 3) sc_law.nd rfl (.inl rfl)) (pss_one (ps_if (pt_cmpR (kz_neD (K := K) hr.units) (pe_cal (c__law_ask T) hr (by decide) (pa_cons pe_int (pa_cons (pv 2) (pa_cons pe_int (pa_cons pe_int (pa_cons (pv 3) (pa_cons pe_non pa_nil))))))) (pe_tup (pa_cons pe_str (pa_cons pe_int pa_nil))) (nomark _)) (pss_one (ps_ret pe_bl)) pss_nil)))
    (pss_cons (ps_for PassesOwn.never rfl (kz_piL (K := K) (pe_lst (pa_cons pe_non (pa_cons (pe_un un_neg pe_int) (pa_cons pe_int (pa_cons pe_bl pa_nil)))))) (pg_name (i := 3) sc_law.nd rfl (.inl rfl)) (pss_one (ps_if (pt_cmpR (kz_neD (K := K) hr.units) (pe_cal (c__law_ask T) hr (by decide) (pa_cons pe_int (pa_cons (pv 2) (pa_cons pe_int (pa_cons pe_int (pa_cons pe_int (pa_cons (pv 3) pa_nil))))))) (pe_tup (pa_cons pe_str (pa_cons pe_int pa_nil))) (nomark _)) (pss_one (ps_ret pe_bl)) pss_nil)))
    (pss_one (ps_ret (pe_cal (c__law_through T) hr (by decide) (pa_cons (pv 2) pa_nil))))))))))))), ?_⟩
  walk_at "rd"
  intro b nb
  generalize upd H b (.lst []) = H0
  clear hS0 nb
  change tSeq _ _ _ [some (.ref a), some (.ref b), none, none, none, none] H0
  walk_at "rd"
  intro t nt
  have ht : SqT K (upd H0 t (.tup [.int 0, .int 1, .int 1])) t (([0, 1, 1] : List Int).map V.int) := .inl (.inl upd_same)
  generalize upd H0 t (.tup [.int 0, .int 1, .int 1]) = H1 at ht ⊢
  dsimp only [tNil]
  intro x dx nx ndx nex
  have sx : Same H1 (upd (upd H1 dx (.own x)) x (.ins (tbC K) dx [])) := fun c o e => by
    rw [upd_ne (ne_of_none e nx), upd_ne (ne_of_none e ndx)]
    exact e
  have ok : RowOk 2 [0, 1, 1] := ⟨by decide, by decide, by decide, by decide, by decide⟩
  refine ⟨x, dx, t, 2, [0, 1, 1], rfl, upd_same, ok, seqT sx ht, fun T1 W L H2 nT nW nL D2 b2 => ⟨rfl, ?_⟩⟩
  clear sx nT nW nL b2 ht nt nx ndx nex
  change tSeq _ _ _ [some (.ref a), some (.ref b), some (.ref x), none, none, none] H2
  walk_at "rd"
  refine ⟨2, x, T1, W, L, 2, .non, .non, .non, .non, false, false, false, false, [0, 1, 1], [], [], 12, rfl, D2, wh_non, wh_non, wh_non, wh_non, by decide, by decide, by decide, fun r H3 _ s3 hr => ?_, .inr (.inr (.inl ⟨rfl, rfl, rfl⟩))⟩
  have D3 := D2.same s3
  clear s3 D2
  walk_at "rd"
  intro u nu
  refine rfd_ne (same_new nu _ _ hr) upd_same ?_
  have D4 := D3.same (same_new (o := .tup [.str "refused", .int 12]) nu)
  generalize upd H3 u (.tup [.str "refused", .int 12]) = H4 at D4 ⊢
  clear D3 hr nu
  refine ⟨_, rfl, iteF ?_⟩
  walk_at "rd"
  intro p1 n1
  have D5 := D4.same (same_new (o := .lst [.int 1]) n1)
  have h1 : (upd H4 p1 (.lst [.int 1])) p1 = some (.lst [.int 1]) := upd_same
  generalize upd H4 p1 (.lst [.int 1]) = H5 at D5 h1 ⊢
  clear D4 n1
  walk_at "rd"
  intro p2 n2
  have D6 := D5.same (same_new (o := .tup [.int 1]) n2)
  have h1 := same_new (o := .tup [.int 1]) n2 _ _ h1
  have h2 : (upd H5 p2 (.tup [.int 1])) p2 = some (.tup [.int 1]) := upd_same
  generalize upd H5 p2 (.tup [.int 1]) = H6 at D6 h1 h2 ⊢
  clear D5 n2
  refine ⟨by show 5 ≤ sizeLine; decide, fun l nl => ?_⟩
  have D7 := D6.same (same_new (o := .lst [.non, .str "1", .bl true, .ref p1, .ref p2]) nl)
  have h1 := same_new (o := .lst [.non, .str "1", .bl true, .ref p1, .ref p2]) nl _ _ h1
  have h2 := same_new (o := .lst [.non, .str "1", .bl true, .ref p1, .ref p2]) nl _ _ h2
  have hl7 : (upd H6 l (.lst [.non, .str "1", .bl true, .ref p1, .ref p2])) l = some (.lst [.non, .str "1", .bl true, .ref p1, .ref p2]) := upd_same
  generalize upd H6 l (.lst [.non, .str "1", .bl true, .ref p1, .ref p2]) = H7 at D7 h1 h2 hl7 ⊢
  clear D6 nl
  refine ⟨l, rfl, ⟨_, .inl (.inl hl7)⟩, ?_⟩
  refine for_list (xs := [.non, .str "1", .bl true, .ref p1, .ref p2]) (fun _ σ H => ∃ y3, σ = [some (.ref a), some (.ref b), some (.ref x), y3, none, none] ∧ Same H7 H) ⟨none, rfl, fun _ _ e => e⟩ (fun _ _ H _ h => by obtain ⟨_, _, s⟩ := h; exact .inl (.inl (s _ _ hl7))) ?_ ?_
  · rintro i v σ H8 hv ⟨y3, rfl, s8⟩
    have hw : Wh K H8 v false := by
      rcases List.mem_cons.mp (List.mem_of_getElem? hv) with rfl | hv
      · exact wh_non
      rcases List.mem_cons.mp hv with rfl | hv
      · exact wh_str
      rcases List.mem_cons.mp hv with rfl | hv
      · exact .bl _
      rcases List.mem_cons.mp hv with rfl | hv
      · exact wh_lst (s8 _ _ h1)
      · rw [List.mem_singleton.mp hv]
        exact wh_tup (s8 _ _ h2)
    dsimp only [gName, List.set]
    walk_at "rd"
    refine ⟨0, x, T1, W, L, 2, v, .non, .non, .non, false, false, false, false, [0, 1, 1], [], [], 3, rfl, D7.same s8, hw, wh_non, wh_non, wh_non, by decide, by decide, by decide, fun r H9 _ s9 hr => ?_, .inl ⟨rfl, .inr ⟨by decide, rfl, rfl⟩⟩⟩
    walk_at "rd"
    intro u nu
    refine rfd_ne (same_new nu _ _ hr) upd_same ?_
    exact ⟨_, rfl, iteF ⟨_, rfl, same_then (s8.trans s9) nu⟩⟩
  rintro σ H8 ⟨y3, rfl, s8⟩
  have D := D7.same s8
  clear D7 s8 h1 h2 hl7
  walk_at "rd"
  intro p1 n1
  obtain ⟨H9, e, s, h1⟩ := newO (.tup [.non, .int 0]) n1
  rw [e]
  clear e n1
  replace D := D.same s
  clear s
  walk_at "rd"
  intro p2 n2
  obtain ⟨H10, e, s, h2⟩ := newO (.tup [.int 0, .int 0]) n2
  rw [e]
  clear e n2
  replace D := D.same s
  replace h1 := s _ _ h1
  clear s
  walk_at "rd"
  intro p3 n3
  obtain ⟨H11, e, s, h3⟩ := newO (.tup [.int 0, .int 3]) n3
  rw [e]
  clear e n3
  replace D := D.same s
  replace h1 := s _ _ h1
  replace h2 := s _ _ h2
  clear s
  walk_at "rd"
  intro p4 n4
  obtain ⟨H12, e, s, h4⟩ := newO (.tup [.int (-1), .int 0]) n4
  rw [e]
  clear e n4
  replace D := D.same s
  replace h1 := s _ _ h1
  replace h2 := s _ _ h2
  replace h3 := s _ _ h3
  clear s
  walk_at "rd"
  intro p5 n5
  obtain ⟨H13, e, s, h5⟩ := newO (.tup [.bl true, .int 2]) n5
  rw [e]
  clear e n5
  replace D := D.same s
  replace h1 := s _ _ h1
  replace h2 := s _ _ h2
  replace h3 := s _ _ h3
  replace h4 := s _ _ h4
  clear s
  walk_at "rd"
  intro p6 n6
  obtain ⟨H14, e, s, h6⟩ := newO (.tup [.str "0", .int 1]) n6
  rw [e]
  clear e n6
  replace D := D.same s
  replace h1 := s _ _ h1
  replace h2 := s _ _ h2
  replace h3 := s _ _ h3
  replace h4 := s _ _ h4
  replace h5 := s _ _ h5
  clear s
  refine ⟨by show 6 ≤ sizeLine; decide, fun l nl => ?_⟩
  obtain ⟨H15, e, s, hl⟩ := newO (.lst [.ref p1, .ref p2, .ref p3, .ref p4, .ref p5, .ref p6]) nl
  rw [e]
  clear e nl
  replace D := D.same s
  replace h1 := s _ _ h1
  replace h2 := s _ _ h2
  replace h3 := s _ _ h3
  replace h4 := s _ _ h4
  replace h5 := s _ _ h5
  replace h6 := s _ _ h6
  clear s
  refine ⟨l, rfl, ⟨_, .inl (.inl hl)⟩, ?_⟩
  refine for_list (xs := [.ref p1, .ref p2, .ref p3, .ref p4, .ref p5, .ref p6]) (fun _ σ H => ∃ y3 y4 y5, σ = [some (.ref a), some (.ref b), some (.ref x), y3, y4, y5] ∧ Same H15 H) ⟨_, _, _, rfl, fun _ _ e => e⟩ (fun _ _ H _ h => by obtain ⟨_, _, _, _, s⟩ := h; exact .inl (.inl (s _ _ hl))) ?_ ?_
  · rintro i v σ H16 hv ⟨y3, y4, y5, rfl, s8⟩
    have hw : ∃ (p : Addr) (z1 z2 : V) (b1 b2 : Bool), v = .ref p ∧ H16 p = some (.tup [z1, z2]) ∧ Wh K H16 z1 b1 ∧ Wh K H16 z2 b2 ∧ (whB z1 0 ((([0, 1, 1] : List Int).length : Int) - 1) = false ∨ whB z1 0 ((([0, 1, 1] : List Int).length : Int) - 1) = true ∧ whB z2 0 ((([0, 1, 1] : List Int).length : Int) - 1) = false ∨ ∃ i : Nat, z1 = .int (i : Int) ∧ z2 = .int (i : Int) ∧ i < ([0, 1, 1] : List Int).length) := by
      rcases List.mem_cons.mp (List.mem_of_getElem? hv) with rfl | hv
      · exact ⟨_, _, _, _, _, rfl, s8 _ _ h1, wh_non, .int _, .inl rfl⟩
      rcases List.mem_cons.mp hv with rfl | hv
      · exact ⟨_, _, _, _, _, rfl, s8 _ _ h2, .int _, .int _, .inr (.inr ⟨0, rfl, rfl, by decide⟩)⟩
      rcases List.mem_cons.mp hv with rfl | hv
      · exact ⟨_, _, _, _, _, rfl, s8 _ _ h3, .int _, .int _, .inr (.inl ⟨by decide, by decide⟩)⟩
      rcases List.mem_cons.mp hv with rfl | hv
      · exact ⟨_, _, _, _, _, rfl, s8 _ _ h4, .int _, .int _, .inl (by decide)⟩
      rcases List.mem_cons.mp hv with rfl | hv
      · exact ⟨_, _, _, _, _, rfl, s8 _ _ h5, .bl _, .int _, .inl rfl⟩
      · rw [List.mem_singleton.mp hv]
        exact ⟨_, _, _, _, _, rfl, s8 _ _ h6, wh_str, .int _, .inl rfl⟩
    obtain ⟨p, z1, z2, b1, b2, rfl, hp, w1, w2, bad⟩ := hw
    refine ⟨p, _, rfl, .inl (.inl hp), rfl, _, _, rfl, _, _, rfl, rfl, ?_⟩
    dsimp only [List.set]
    walk_at "rd"
    refine ⟨1, x, T1, W, L, 2, z1, z2, .non, .non, b1, b2, false, false, [0, 1, 1], [], [], 9, rfl, D.same s8, w1, w2, wh_non, wh_non, by decide, by decide, by decide, fun r H17 _ s9 hr => ?_, .inr (.inl ⟨rfl, .inl ⟨rfl, bad⟩⟩)⟩
    walk_at "rd"
    intro u nu
    refine rfd_ne (same_new nu _ _ hr) upd_same ?_
    exact ⟨_, rfl, iteF ⟨_, _, _, rfl, same_then (s8.trans s9) nu⟩⟩
  rintro σ H16 ⟨y3, y4, y5, rfl, s8⟩
  replace D := D.same s8
  clear s8 hl h1 h2 h3 h4 h5 h6
  walk_at "rd"
  refine ⟨3, x, T1, W, L, 2, .int 0, .int 1, .int 1, .int 1, true, true, true, true, [0, 1, 1], [], [], 4, rfl, D, .int _, .int _, .int _, .int _, by decide, by decide, by decide, fun r H17 _ s9 hr => ?_, .inr (.inr (.inr ⟨rfl, .inr ⟨0, 1, rfl, rfl, ⟨by decide, by decide⟩, ⟨by decide, by decide⟩, by decide, .inl ⟨rfl, .inr ⟨1, rfl, by decide, by decide, by decide⟩⟩⟩⟩))⟩
  replace D := D.same s9
  clear s9
  walk_at "rd"
  intro u1 nu
  refine rfd_ne (same_new nu _ _ hr) upd_same ?_
  replace D := D.same (same_new (o := .tup [.str "refused", .int 4]) nu)
  generalize upd H17 u1 (.tup [.str "refused", .int 4]) = H18 at D ⊢
  clear hr nu
  refine ⟨_, rfl, iteF ?_⟩
  obtain ⟨dx, ob⟩ := id D.ob
  walk_at "rd"
  refine ⟨x, dx, _, rfl, ob, fl_no _ _ _ _ (by decide +kernel) (by decide +kernel) (by decide +kernel) (by decide +kernel), ?_⟩
  dsimp only [tCons, tNil]
  refine ⟨x, T1, W, L, 2, .int 7, true, [0, 1, 1], [], [], rfl, D, .int _, by decide, by decide, by decide, .inr (.inr ⟨by decide, 7, rfl, fun u e0 H19 _ _ _ hu D' _ => ?_⟩)⟩
  replace D : TblAt K H19 x T1 W L 2 [0, 1, 1] [7] [.ref u] := D'
  clear D' ob
  walk_at "rd"
  intro p1 n1
  obtain ⟨H20, e, s, h1⟩ := newO (.tup [.non, .int 0]) n1
  rw [e]
  clear e n1
  replace D := D.same s
  replace hu := s _ _ hu
  clear s
  walk_at "rd"
  intro p2 n2
  obtain ⟨H21, e, s, h2⟩ := newO (.tup [.int 0, .int 0]) n2
  rw [e]
  clear e n2
  replace D := D.same s
  replace hu := s _ _ hu
  replace h1 := s _ _ h1
  clear s
  walk_at "rd"
  intro p3 n3
  obtain ⟨H22, e, s, h3⟩ := newO (.tup [.int 0, .int 2]) n3
  rw [e]
  clear e n3
  replace D := D.same s
  replace hu := s _ _ hu
  replace h1 := s _ _ h1
  replace h2 := s _ _ h2
  clear s
  walk_at "rd"
  intro p4 n4
  obtain ⟨H23, e, s, h4⟩ := newO (.tup [.bl true, .int 0]) n4
  rw [e]
  clear e n4
  replace D := D.same s
  replace hu := s _ _ hu
  replace h1 := s _ _ h1
  replace h2 := s _ _ h2
  replace h3 := s _ _ h3
  clear s
  refine ⟨by show 4 ≤ sizeLine; decide, fun l nl => ?_⟩
  obtain ⟨H24, e, s, hl⟩ := newO (.lst [.ref p1, .ref p2, .ref p3, .ref p4]) nl
  rw [e]
  clear e nl
  replace D := D.same s
  replace hu := s _ _ hu
  replace h1 := s _ _ h1
  replace h2 := s _ _ h2
  replace h3 := s _ _ h3
  replace h4 := s _ _ h4
  clear s
  refine ⟨l, rfl, ⟨_, .inl (.inl hl)⟩, ?_⟩
  refine for_list (xs := [.ref p1, .ref p2, .ref p3, .ref p4]) (fun _ σ H => ∃ y3 y4 y5, σ = [some (.ref a), some (.ref b), some (.ref x), y3, y4, y5] ∧ Same H24 H) ⟨_, _, _, rfl, fun _ _ e => e⟩ (fun _ _ H _ h => by obtain ⟨_, _, _, _, s⟩ := h; exact .inl (.inl (s _ _ hl))) ?_ ?_
  · rintro i v σ H25 hv ⟨y3, y4, y5, rfl, s8⟩
    have hw : ∃ (p : Addr) (z1 z2 : V) (b1 b2 : Bool), v = .ref p ∧ H25 p = some (.tup [z1, z2]) ∧ Wh K H25 z1 b1 ∧ Wh K H25 z2 b2 ∧ (whB z1 0 ((2 : Int) - 1) = false ∨ whB z1 0 ((2 : Int) - 1) = true ∧ whB z2 0 ((2 : Int) - 1) = false ∨ ∃ i : Int, z1 = .int i ∧ z2 = .int i ∧ (0 ≤ i ∧ i < 2)) := by
      rcases List.mem_cons.mp (List.mem_of_getElem? hv) with rfl | hv
      · exact ⟨_, _, _, _, _, rfl, s8 _ _ h1, wh_non, .int _, .inl rfl⟩
      rcases List.mem_cons.mp hv with rfl | hv
      · exact ⟨_, _, _, _, _, rfl, s8 _ _ h2, .int _, .int _, .inr (.inr ⟨0, rfl, rfl, by decide, by decide⟩)⟩
      rcases List.mem_cons.mp hv with rfl | hv
      · exact ⟨_, _, _, _, _, rfl, s8 _ _ h3, .int _, .int _, .inr (.inl ⟨by decide, by decide⟩)⟩
      · rw [List.mem_singleton.mp hv]
        exact ⟨_, _, _, _, _, rfl, s8 _ _ h4, .bl _, .int _, .inl rfl⟩
    obtain ⟨p, z1, z2, b1, b2, rfl, hp, w1, w2, bad⟩ := hw
    refine ⟨p, _, rfl, .inl (.inl hp), rfl, _, _, rfl, _, _, rfl, rfl, ?_⟩
    dsimp only [List.set]
    walk_at "rd"
    refine ⟨3, x, T1, W, L, 2, z1, z2, .non, .non, b1, b2, false, false, [0, 1, 1], [7], [.ref u], 2, rfl, D.same s8, w1, w2, wh_non, wh_non, by decide, by decide, Nat.le_of_ble_eq_true rfl, fun r H26 _ s9 hr => ?_, .inr (.inr (.inr ⟨rfl, .inl ⟨rfl, bad⟩⟩))⟩
    walk_at "rd"
    intro u2 nu
    refine rfd_ne (same_new nu _ _ hr) upd_same ?_
    exact ⟨_, rfl, iteF ⟨_, _, _, rfl, same_then (s8.trans s9) nu⟩⟩
  rintro σ H25 ⟨y3, y4, y5, rfl, s8⟩
  replace D := D.same s8
  replace hu := s8 _ _ hu
  clear s8 hl h1 h2 h3 h4
  walk_at "rd"
  intro l nl
  obtain ⟨H26, e, s, hl⟩ := newO (.lst [.non, .int 0, .int 2, .int 5, .bl true]) nl
  rw [e]
  clear e nl
  replace D := D.same s
  replace hu := s _ _ hu
  clear s
  refine ⟨l, rfl, ⟨_, .inl (.inl hl)⟩, ?_⟩
  refine for_list (xs := [.non, .int 0, .int 2, .int 5, .bl true]) (fun _ σ H => ∃ y3 y4 y5, σ = [some (.ref a), some (.ref b), some (.ref x), y3, y4, y5] ∧ Same H26 H) ⟨_, _, _, rfl, fun _ _ e => e⟩ (fun _ _ H _ h => by obtain ⟨_, _, _, _, s⟩ := h; exact .inl (.inl (s _ _ hl))) ?_ ?_
  · rintro i v σ H27 hv ⟨y3, y4, y5, rfl, s8⟩
    have hw : ∃ b1 : Bool, Wh K H27 v b1 ∧ (whB v 1 4 = false ∨ ∃ k : Nat, v = .int (k : Int) ∧ 1 ≤ k ∧ k ≤ 4 ∧ ([7] : List Int).length < k) := by
      rcases List.mem_cons.mp (List.mem_of_getElem? hv) with rfl | hv
      · exact ⟨_, wh_non, .inl rfl⟩
      rcases List.mem_cons.mp hv with rfl | hv
      · exact ⟨_, .int _, .inl (by decide)⟩
      rcases List.mem_cons.mp hv with rfl | hv
      · exact ⟨_, .int _, .inr ⟨2, rfl, by decide, by decide, by decide⟩⟩
      rcases List.mem_cons.mp hv with rfl | hv
      · exact ⟨_, .int _, .inl (by decide)⟩
      · rw [List.mem_singleton.mp hv]
        exact ⟨_, .bl _, .inl rfl⟩
    obtain ⟨b1, w1, bad⟩ := hw
    dsimp only [gName, List.set]
    walk_at "rd"
    refine ⟨3, x, T1, W, L, 2, .int 0, .int 1, v, .non, true, true, b1, false, [0, 1, 1], [7], [.ref u], 4, rfl, D.same s8, .int _, .int _, w1, wh_non, by decide, by decide, Nat.le_of_ble_eq_true rfl, fun r H28 _ s9 hr => ?_, .inr (.inr (.inr ⟨rfl, .inr ⟨0, 1, rfl, rfl, ⟨by decide, by decide⟩, ⟨by decide, by decide⟩, by decide, .inl ⟨rfl, bad⟩⟩⟩))⟩
    walk_at "rd"
    intro u2 nu
    refine rfd_ne (same_new nu _ _ hr) upd_same ?_
    exact ⟨_, rfl, iteF ⟨_, _, _, rfl, same_then (s8.trans s9) nu⟩⟩
  rintro σ H27 ⟨y3, y4, y5, rfl, s8⟩
  replace D := D.same s8
  replace hu := s8 _ _ hu
  clear s8 hl
  walk_at "rd"
  intro l nl
  obtain ⟨H28, e, s, hl⟩ := newO (.lst [.non, .int (-1), .int 100, .bl true]) nl
  rw [e]
  clear e nl
  replace D := D.same s
  replace hu := s _ _ hu
  clear s
  refine ⟨l, rfl, ⟨_, .inl (.inl hl)⟩, ?_⟩
  refine for_list (xs := [.non, .int (-1), .int 100, .bl true]) (fun _ σ H => ∃ y3 y4 y5, σ = [some (.ref a), some (.ref b), some (.ref x), y3, y4, y5] ∧ Same H28 H) ⟨_, _, _, rfl, fun _ _ e => e⟩ (fun _ _ H _ h => by obtain ⟨_, _, _, _, s⟩ := h; exact .inl (.inl (s _ _ hl))) ?_ ?_
  · rintro i v σ H29 hv ⟨y3, y4, y5, rfl, s8⟩
    have hw : ∃ b1 : Bool, Wh K H29 v b1 ∧ whB v 0 99 = false := by
      rcases List.mem_cons.mp (List.mem_of_getElem? hv) with rfl | hv
      · exact ⟨_, wh_non, rfl⟩
      rcases List.mem_cons.mp hv with rfl | hv
      · exact ⟨_, .int _, by decide⟩
      rcases List.mem_cons.mp hv with rfl | hv
      · exact ⟨_, .int _, by decide⟩
      · rw [List.mem_singleton.mp hv]
        exact ⟨_, .bl _, rfl⟩
    obtain ⟨b1, w1, bad⟩ := hw
    dsimp only [gName, List.set]
    walk_at "rd"
    refine ⟨3, x, T1, W, L, 2, .int 0, .int 1, .int 1, v, true, true, true, b1, [0, 1, 1], [7], [.ref u], 5, rfl, D.same s8, .int _, .int _, .int _, w1, by decide, by decide, Nat.le_of_ble_eq_true rfl, fun r H30 _ s9 hr => ?_, .inr (.inr (.inr ⟨rfl, .inr ⟨0, 1, rfl, rfl, ⟨by decide, by decide⟩, ⟨by decide, by decide⟩, by decide, .inr ⟨rfl, 1, rfl, by decide, by decide, by decide, bad⟩⟩⟩))⟩
    walk_at "rd"
    intro u2 nu
    refine rfd_ne (same_new nu _ _ hr) upd_same ?_
    exact ⟨_, rfl, iteF ⟨_, _, _, rfl, same_then (s8.trans s9) nu⟩⟩
  rintro σ H29 ⟨y3, y4, y5, rfl, s8⟩
  replace D := D.same s8
  replace hu := s8 _ _ hu
  clear s8 hl
  walk_at "rd"
  exact ⟨x, T1, W, L, u, e0, rfl, D, hu, fun H9 => q H9⟩

end
end Ev

/-! ### the head -/
namespace Ev
open PySem PySem.Spec PyProof.Rows L2 RZ Ly
def d_is_whole : He.DefD := ⟨("is_whole", none), "is_whole", "is_whole", defArgs S_is_whole, defBody S_is_whole, defScope S_is_whole, [], []⟩
def d_is_from_to : He.DefD := ⟨("is_from_to", none), "is_from_to", "is_from_to", defArgs S_is_from_to, defBody S_is_from_to, defScope S_is_from_to, [], []⟩
def d_check_hands : He.DefD := ⟨("check_hands", none), "check_hands", "check_hands", defArgs S_check_hands, defBody S_check_hands, defScope S_check_hands, [], []⟩
def d_is_hand : He.DefD := ⟨("is_hand", none), "is_hand", "is_hand", defArgs S_is_hand, defBody S_is_hand, defScope S_is_hand, [], []⟩
def d_fits_row : He.DefD := ⟨("fits_row", none), "fits_row", "fits_row", defArgs S_fits_row, defBody S_fits_row, defScope S_fits_row, [], []⟩
def d_check_row : He.DefD := ⟨("check_row", none), "check_row", "check_row", defArgs S_check_row, defBody S_check_row, defScope S_check_row, [], []⟩
def d_Table___init__ : He.DefD := ⟨("Table", some "__init__"), "__init__", "Table.__init__", defArgs S_Table___init__, defBody S_Table___init__, defScope S_Table___init__, [], []⟩
def d_Table_next : He.DefD := ⟨("Table", some "next"), "next", "Table.next", defArgs S_Table_next, defBody S_Table_next, defScope S_Table_next, [], []⟩
def d_check_worth : He.DefD := ⟨("check_worth", none), "check_worth", "check_worth", defArgs S_check_worth, defBody S_check_worth, defScope S_check_worth, [], []⟩
def d_Table_tell : He.DefD := ⟨("Table", some "tell"), "tell", "Table.tell", defArgs S_Table_tell, defBody S_Table_tell, defScope S_Table_tell, [], []⟩
def d_exchange_of : He.DefD := ⟨("exchange_of", none), "exchange_of", "exchange_of", defArgs S_exchange_of, defBody S_exchange_of, defScope S_exchange_of, [], []⟩
def d_Table_back : He.DefD := ⟨("Table", some "back"), "back", "Table.back", defArgs S_Table_back, defBody S_Table_back, defScope S_Table_back, [], []⟩
def d_check_two_places : He.DefD := ⟨("check_two_places", none), "check_two_places", "check_two_places", defArgs S_check_two_places, defBody S_check_two_places, defScope S_check_two_places, [], []⟩
def d_Table_exchange : He.DefD := ⟨("Table", some "exchange"), "exchange", "Table.exchange", defArgs S_Table_exchange, defBody S_Table_exchange, defScope S_Table_exchange, [], []⟩
def d_check_bound : He.DefD := ⟨("check_bound", none), "check_bound", "check_bound", defArgs S_check_bound, defBody S_check_bound, defScope S_check_bound, [], []⟩
def d_check_lead_order : He.DefD := ⟨("check_lead_order", none), "check_lead_order", "check_lead_order", defArgs S_check_lead_order, defBody S_check_lead_order, defScope S_check_lead_order, [], []⟩
def d_check_order_of : He.DefD := ⟨("check_order_of", none), "check_order_of", "check_order_of", defArgs S_check_order_of, defBody S_check_order_of, defScope S_check_order_of, [], []⟩
def d_check_two_hands : He.DefD := ⟨("check_two_hands", none), "check_two_hands", "check_two_hands", defArgs S_check_two_hands, defBody S_check_two_hands, defScope S_check_two_hands, [], []⟩
def d_differences_of : He.DefD := ⟨("differences_of", none), "differences_of", "differences_of", defArgs S_differences_of, defBody S_differences_of, defScope S_differences_of, [], []⟩
def d_gone_on : He.DefD := ⟨("gone_on", none), "gone_on", "gone_on", defArgs S_gone_on, defBody S_gone_on, defScope S_gone_on, [], []⟩
def d_sign_of : He.DefD := ⟨("sign_of", none), "sign_of", "sign_of", defArgs S_sign_of, defBody S_sign_of, defScope S_sign_of, [], []⟩
def d_signs_of : He.DefD := ⟨("signs_of", none), "signs_of", "signs_of", defArgs S_signs_of, defBody S_signs_of, defScope S_signs_of, [], []⟩
def d_running_sums : He.DefD := ⟨("running_sums", none), "running_sums", "running_sums", defArgs S_running_sums, defBody S_running_sums, defScope S_running_sums, [], []⟩
def d_sums_of : He.DefD := ⟨("sums_of", none), "sums_of", "sums_of", defArgs S_sums_of, defBody S_sums_of, defScope S_sums_of, [], []⟩
def d_tails_of : He.DefD := ⟨("tails_of", none), "tails_of", "tails_of", defArgs S_tails_of, defBody S_tails_of, defScope S_tails_of, [], []⟩
def d_foreseen_of : He.DefD := ⟨("foreseen_of", none), "foreseen_of", "foreseen_of", defArgs S_foreseen_of, defBody S_foreseen_of, defScope S_foreseen_of, [], []⟩
def d_Table_foresee : He.DefD := ⟨("Table", some "foresee"), "foresee", "Table.foresee", defArgs S_Table_foresee, defBody S_Table_foresee, defScope S_Table_foresee, [], [("bound", .int 1)]⟩
def d__law_which : He.DefD := ⟨("_law_which", none), "_law_which", "_law_which", defArgs S__law_which, defBody S__law_which, defScope S__law_which, [], []⟩
def d__law_ask : He.DefD := ⟨("_law_ask", none), "_law_ask", "_law_ask", defArgs S__law_ask, defBody S__law_ask, defScope S__law_ask, [], []⟩
def d_Table___eq__ : He.DefD := ⟨("Table", some "__eq__"), "__eq__", "Table.__eq__", defArgs S_Table___eq__, defBody S_Table___eq__, defScope S_Table___eq__, [], []⟩
def d_Table_row : He.DefD := ⟨("Table", some "row"), "row", "Table.row", defArgs S_Table_row, defBody S_Table_row, defScope S_Table_row, [], []⟩
def d_Table_worths : He.DefD := ⟨("Table", some "worths"), "worths", "Table.worths", defArgs S_Table_worths, defBody S_Table_worths, defScope S_Table_worths, [], []⟩
def d__law_same_truth : He.DefD := ⟨("_law_same_truth", none), "_law_same_truth", "_law_same_truth", defArgs S__law_same_truth, defBody S__law_same_truth, defScope S__law_same_truth, [], []⟩
def d__law_through : He.DefD := ⟨("_law_through", none), "_law_through", "_law_through", defArgs S__law_through, defBody S__law_through, defScope S__law_through, [], []⟩
def d_law : He.DefD := ⟨("law", none), "law", "law", defArgs S_law, defBody S_law, defScope S_law, [], []⟩
def fnL : List He.DefD := [d_is_whole, d_is_from_to, d_check_hands, d_is_hand, d_fits_row, d_check_row, d_Table___init__, d_Table_next, d_check_worth, d_Table_tell, d_exchange_of, d_Table_back, d_check_two_places, d_Table_exchange, d_check_bound, d_check_lead_order, d_check_order_of, d_check_two_hands, d_differences_of, d_gone_on, d_sign_of, d_signs_of, d_running_sums, d_sums_of, d_tails_of, d_foreseen_of, d_Table_foresee, d__law_which, d__law_ask, d_Table___eq__, d_Table_row, d_Table_worths, d__law_same_truth, d__law_through, d_law]
def faL : List He.Fa := [.glo "is_whole", .glo "is_from_to", .glo "check_hands", .glo "is_hand", .glo "fits_row", .glo "check_row", .mkr "Table", .meth "Table" "next", .glo "check_worth", .meth "Table" "tell", .glo "exchange_of", .meth "Table" "back", .glo "check_two_places", .meth "Table" "exchange", .glo "check_bound", .glo "check_lead_order", .glo "check_order_of", .glo "check_two_hands", .glo "differences_of", .glo "gone_on", .glo "sign_of", .glo "signs_of", .glo "running_sums", .glo "sums_of", .glo "tails_of", .glo "foreseen_of", .meth "Table" "foresee", .glo "_law_which", .glo "_law_ask", .meth "Table" "__eq__", .meth "Table" "row", .meth "Table" "worths", .glo "_law_same_truth", .glo "_law_through", .glo "law", .cls "Table", .noat "Table" "_hands", .noat "Table" "_turns", .noat "Table" "_told", .noat "Table" "_calls", .glo "Table", .free "ValueError", .free "abs", .free "all", .free "bool", .free "int", .free "isinstance", .free "len", .free "list", .free "min", .free "range", .free "sum", .free "tuple", .free "zip", .int "FEWEST_HANDS" (2), .int "MOST_BOUND" (99), .int "MOST_HANDS" (4), .int "MOST_LEAD_ORDER" (4), .int "MOST_PLACES" (64)]
abbrev Rw : PySem.W.OpenRow := PySem.W.OpenLaw.row PySem.Challenge.rw_evenrows_k25_tables_refused
def exL (K : PySem.W.Frag) : Bool := excsB K && tabQB K
abbrev hk : PySem.W.Hook := Ly.hookM 5 faL fnL exL
def ob (s : PySem.W.SharedT) : Ly.AlM := Ly.obsM 5 faL fnL exL (HandSHeadRun.getT s)
theorem ob_eq (s : PySem.W.SharedT) : ob s = hk.obs s.abs := Ly.obsM_eq (HandSHeadRun.getT_eq s)
def loose0 : List PySem.Str := ["_wall", "TurnError", "NoHands", "NoRow", "NoHand", "NoWorths", "NoOrder", "NoBound", "NotEven", "TooLong", "NoDegree", "NoPlaces", "NoText", "Done", "Nothing", "FEWEST_HANDS", "MOST_HANDS", "MOST_PLACES", "MOST_LEAD_ORDER", "MOST_BOUND", "is_whole", "is_from_to", "is_hand", "fits_row", "check_hands", "check_row", "check_two_hands", "check_worth", "check_lead_order", "check_order_of"]
def loose1 : List PySem.Str := ["check_bound", "check_two_places", "signs_of", "sign_of", "totals_of", "sums_of", "running_sums", "exchange_of", "differences_of", "gone_on", "foreseen_of", "tails_of", "LETTERS", "letters_of", "Table", "_law_same_truth", "_law_which", "_law_ask", "_law_through"]
def looseL : List PySem.Str := loose0 ++ loose1
theorem run (w : World) : HandSHeadRun.RunEq Rw (PySem.W.view Rw.prog [59]) hk ob 20000 looseL w := by
  intro os
  kernel_rfl
theorem txt {K : PySem.W.Frag} {h : Heap} {mg : Str → Option Value} (X : K.In h) (G : h.Ns mainGlobals mg) (c : He.SaysD faL fnL K) (ce : exL K = true) : Txt K mg where
  f_is_whole := at_of (d := d_is_whole) X G c 0 0 rfl rfl rfl
  f_is_from_to := at_of (d := d_is_from_to) X G c 1 1 rfl rfl rfl
  f_check_hands := at_of (d := d_check_hands) X G c 2 2 rfl rfl rfl
  f_is_hand := at_of (d := d_is_hand) X G c 3 3 rfl rfl rfl
  f_fits_row := at_of (d := d_fits_row) X G c 4 4 rfl rfl rfl
  f_check_row := at_of (d := d_check_row) X G c 5 5 rfl rfl rfl
  f_Table___init__ := ati_of (d := d_Table___init__) c 6 6 rfl rfl rfl
  f_Table_next := atm_of (d := d_Table_next) c 7 7 rfl rfl rfl
  f_check_worth := at_of (d := d_check_worth) X G c 8 8 rfl rfl rfl
  f_Table_tell := atm_of (d := d_Table_tell) c 9 9 rfl rfl rfl
  f_exchange_of := at_of (d := d_exchange_of) X G c 10 10 rfl rfl rfl
  f_Table_back := atm_of (d := d_Table_back) c 11 11 rfl rfl rfl
  f_check_two_places := at_of (d := d_check_two_places) X G c 12 12 rfl rfl rfl
  f_Table_exchange := atm_of (d := d_Table_exchange) c 13 13 rfl rfl rfl
  f_check_bound := at_of (d := d_check_bound) X G c 14 14 rfl rfl rfl
  f_check_lead_order := at_of (d := d_check_lead_order) X G c 15 15 rfl rfl rfl
  f_check_order_of := at_of (d := d_check_order_of) X G c 16 16 rfl rfl rfl
  f_check_two_hands := at_of (d := d_check_two_hands) X G c 17 17 rfl rfl rfl
  f_differences_of := at_of (d := d_differences_of) X G c 18 18 rfl rfl rfl
  f_gone_on := at_of (d := d_gone_on) X G c 19 19 rfl rfl rfl
  f_sign_of := at_of (d := d_sign_of) X G c 20 20 rfl rfl rfl
  f_signs_of := at_of (d := d_signs_of) X G c 21 21 rfl rfl rfl
  f_running_sums := at_of (d := d_running_sums) X G c 22 22 rfl rfl rfl
  f_sums_of := at_of (d := d_sums_of) X G c 23 23 rfl rfl rfl
  f_tails_of := at_of (d := d_tails_of) X G c 24 24 rfl rfl rfl
  f_foreseen_of := at_of (d := d_foreseen_of) X G c 25 25 rfl rfl rfl
  f_Table_foresee := atm_of (d := d_Table_foresee) c 26 26 rfl rfl rfl
  f__law_which := at_of (d := d__law_which) X G c 27 27 rfl rfl rfl
  f__law_ask := at_of (d := d__law_ask) X G c 28 28 rfl rfl rfl
  f_Table___eq__ := atm_of (d := d_Table___eq__) c 29 29 rfl rfl rfl
  f_Table_row := atm_of (d := d_Table_row) c 30 30 rfl rfl rfl
  f_Table_worths := atm_of (d := d_Table_worths) c 31 31 rfl rfl rfl
  f__law_same_truth := at_of (d := d__law_same_truth) X G c 32 32 rfl rfl rfl
  f__law_through := at_of (d := d__law_through) X G c 33 33 rfl rfl rfl
  tab := ⟨He.cls_ok (c.fact 35 (f := .cls "Table") rfl), He.noat_ok (c.fact 36 (f := .noat "Table" "_hands") rfl), He.noat_ok (c.fact 37 (f := .noat "Table" "_turns") rfl), He.noat_ok (c.fact 38 (f := .noat "Table" "_told") rfl), He.noat_ok (c.fact 39 (f := .noat "Table" "_calls") rfl), He.glo_ok X G (c.fact 40 (f := .glo "Table") rfl)⟩
  b_ValueError := He.free_ok X G (c.fact 41 (f := .free "ValueError") rfl)
  b_abs := He.free_ok X G (c.fact 42 (f := .free "abs") rfl)
  b_all := He.free_ok X G (c.fact 43 (f := .free "all") rfl)
  b_bool := He.free_ok X G (c.fact 44 (f := .free "bool") rfl)
  b_int := He.free_ok X G (c.fact 45 (f := .free "int") rfl)
  b_isinstance := He.free_ok X G (c.fact 46 (f := .free "isinstance") rfl)
  b_len := He.free_ok X G (c.fact 47 (f := .free "len") rfl)
  b_list := He.free_ok X G (c.fact 48 (f := .free "list") rfl)
  b_min := He.free_ok X G (c.fact 49 (f := .free "min") rfl)
  b_range := He.free_ok X G (c.fact 50 (f := .free "range") rfl)
  b_sum := He.free_ok X G (c.fact 51 (f := .free "sum") rfl)
  b_tuple := He.free_ok X G (c.fact 52 (f := .free "tuple") rfl)
  b_zip := He.free_ok X G (c.fact 53 (f := .free "zip") rfl)
  k_FEWEST_HANDS := He.int_ok X G (c.fact 54 (f := .int "FEWEST_HANDS" (2)) rfl)
  k_MOST_BOUND := He.int_ok X G (c.fact 55 (f := .int "MOST_BOUND" (99)) rfl)
  k_MOST_HANDS := He.int_ok X G (c.fact 56 (f := .int "MOST_HANDS" (4)) rfl)
  k_MOST_LEAD_ORDER := He.int_ok X G (c.fact 57 (f := .int "MOST_LEAD_ORDER" (4)) rfl)
  k_MOST_PLACES := He.int_ok X G (c.fact 58 (f := .int "MOST_PLACES" (64)) rfl)
  excs := excs_ok X G ((He.ba ce).1)
  tabq := tabQ_ok ((He.ba ce).2)
theorem facts {P : Program} {w : World} {K : PySem.W.Frag} {h : Heap} {mg : Str → Option Value} {f : Addr} (X : K.In h) (G : h.Ns mainGlobals mg) (hfa : mg ("law" : Str) = some (.ref f)) (c : He.SaysD faL fnL K) (ce : exL K = true) :
    ∃ fd : FuncData, (∀ (s : Shared) (v : Value), BindsTo s fd ⟨[v], []⟩ [("_law_script", v)]) ∧ ∀ base : Heap, K.In base → base.Ns mainGlobals mg → FnOk P w K mg base CX0 9 f fd ["_law_script"] (sp_law K) := by
  obtain ⟨fd, F⟩ := c.def_ 34 (d := d_law) rfl
  have e := hfa.symm.trans (He.glo_ok X G (c.fact 34 (f := .glo "law") rfl))
  cases e
  have b := FunD.bindsA (ps := ["_law_script"]) F fun _ _ _ _ _ _ us hl => match us, hl with | [_], _ => rfl
  exact ⟨fd, fun s v => b s [v] rfl, fun base _ _ => ok_law (txt X G c ce)  F⟩
end Ev
open PySem PySem.W PySem.Calls PyProof.Rows
set_option maxHeartbeats 0 in
theorem PySem.Challenge.cw_evenrows_k25_tables_refused_holds : PySem.Challenge.rw_evenrows_k25_tables_refused.Holds := by
  w_on; o_law
  refine HandSHeadRun.head_any (r := (OpenLaw.row PySem.Challenge.rw_evenrows_k25_tables_refused)) (q := view (OpenLaw.row PySem.Challenge.rw_evenrows_k25_tables_refused).prog [59]) (H := Ev.hk) (ob := Ev.ob) (M := 20000) (loose := Ev.looseL) (d := HandSHeadRun.topDef (OpenLaw.row PySem.Challenge.rw_evenrows_k25_tables_refused).prog 59) (kwd := []) Ev.ob_eq
    (by kernel_rfl) (fun s => by kernel_rfl) Ev.run (by kernel_rfl) (by kernel_rfl) (by kernel_rfl) (by rfl) (by first | assumption | decide +kernel) (by decide +kernel) ⟨rfl, rfl, rfl, rfl, rfl, by decide +kernel⟩ ?hw ?hc
  case hw => w_witness2
  case hc =>
    refine L2.walk_ofE (l := PySem.Challenge.rw_evenrows_k25_tables_refused) (n := 63) (k := 9) (x := "_law_script") (CX := L2.CX0) rfl (by decide) (by kernel_rfl) ⟨rfl, by decide, by decide⟩ ?F (fun _ _ _ _ z => z)
    intro w mg fa h Y G hmg0
    obtain ⟨K, KX, c, ce⟩ := Y
    have hmg : mg ("law" : PySem.Str) = some (.ref fa) := by
      have e : (HandSHeadRun.topDef (OpenLaw.row PySem.Challenge.rw_evenrows_k25_tables_refused).prog 59).name = ("law" : PySem.Str) := by kernel_rfl
      rw [← e]
      exact hmg0
    obtain ⟨fd, hb, hF⟩ := Ev.facts (P := (PySem.Challenge.rw_evenrows_k25_tables_refused).prog) (w := w) KX G hmg c ce
    exact ⟨K, fd, Ev.sp_law K, KX, hb, fun H a ns hl _ hS => ⟨a, ns, rfl, hS, hl, fun _ => rfl⟩, hF⟩
