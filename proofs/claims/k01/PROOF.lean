import PyProof.Rows.All
import Wide.All
import OpenK.AllK
import Wide.FinOn
import Lean
import KE.GoesEnum
import KE.KTupSum
import KE.KRevSl
import KE.GoesMore
import KE.GoesZip
import KE.DataMinMax
import KE.SortData
import PyProof.EqAt
import PyProof.EqKinds
import PyProof.TupleCall
import HandS.Base
import HandS.Call
import HandS.List
import HandS.Comp
import HandS.Ends
import HandS.Dict
import HandS.Iter
import HandS.Walk
import HandS.Text
import HandS.Words
import HandS.WordsList
import HandS.WordsDict
import HandS.Exc
import HandS.Zip
import HandS.Conv
import HandS.TryOnly
import HandS.TupAny
import HandS.Style
import HandS.IsInst
import HandS.Wide
import HandS.Defaults
import HandS.Head0
import HandS.Head1
import HandS.Head2
import HandS.HeadEnd
import HandS.HeadHook1
import HandS.HeadHook2
import HandS.Star
import HandS.SetFor
import HandS.Head3
import HandS.TupMul
import HandS.Codes
import HandS.Strs
import PySem.Challenge.RW_evenrows_k01_whole_totals

set_option Elab.async false
set_option linter.all false
set_option maxRecDepth 100000
set_option maxHeartbeats 4000000

namespace Ly
open PySem PySem.Spec PyProof.Rows L2

/-! ### the text by names: a def as it stands, a def as it is called -/
/-- the def st stands under the module's name x -/
structure At (K : PySem.W.Frag) (mg : Str → Option Value) (x : Str) (st : Stmt) (kws : List (Str × V)) : Prop where
  ex : ∃ f fd, FunD K x x (defArgs st) (defBody st) (defScope st) [] kws f fd ∧ mg x = some (.ref f)
/-- the module's name x can be called by so many positional values, and keeps the promise sp -/
structure Cal (P : Program) (w : World) (K : PySem.W.Frag) (mg : Str → Option Value) (base : Heap) (k : Nat) (x : Str) (ps : List Str) (sp : Sp) : Prop where
  ex : ∃ f fd, FnOk P w K mg base CX0 k f fd ps sp ∧ mg x = some (.ref f) ∧ PySem.W.keepIn K (.ref f) = true ∧ Binds K fd ps []
/-- with the default of its one keyword-only name filled in -/
structure CalD (P : Program) (w : World) (K : PySem.W.Frag) (mg : Str → Option Value) (base : Heap) (k : Nat) (x : Str) (ps : List Str) (sp : Sp) (dv : V) : Prop where
  ex : ∃ f fd ds, FnOk P w K mg base CX0 k f fd ps sp ∧ mg x = some (.ref f) ∧ PySem.W.keepIn K (.ref f) = true ∧ Binds K fd ps ds ∧ Vals [dv] ds
/-- with its one keyword-only name written, behind n others -/
structure CalK (P : Program) (w : World) (K : PySem.W.Frag) (mg : Str → Option Value) (base : Heap) (k : Nat) (x : Str) (ps : List Str) (sp : Sp) (n : Nat) (kw : Str) : Prop where
  ex : ∃ f fd, FnOk P w K mg base CX0 k f fd ps sp ∧ mg x = some (.ref f) ∧ PySem.W.keepIn K (.ref f) = true ∧ KBn K fd ps n [kw] (fun us ws => us ++ ws) (fun vs zs => vs ++ zs)

section
variable {X : Cx} {j k : Nat} {x : Str} {ps : List Str} {sp : Sp} {p pos : Pos} {e : Expr} {es : List Expr} {t : TA} {dv : V}
theorem pe_cal (C : Cal X.prog X.w X.K X.mg X.base j x ps sp) (hr : Room k X.A) (hj : j ≤ k) (ha : PA X (e :: es) t) (hg : Gl X x := by rfl) (hdb : (x == ("__debug__" : Str)) = false := by decide)
    (he : starEach (e :: es) X.env = (false, eval e X.env) :: starEach es X.env := by rfl) (hpl : (backTo pos (starEach es X.env)).any (·.1) = false := by rfl) :
    PE X (.Call (.Name x p) (e :: es) [] pos) (tCall sp [] E0 t) := by
  obtain ⟨f, fd, F, m, kp, b⟩ := C.ex
  exact pe_call F (hr.mono hj) hg m kp b .nil pass0 ha hdb he hpl
theorem pe_calD (C : CalD X.prog X.w X.K X.mg X.base j x ps sp dv) (hr : Room k X.A) (hj : j ≤ k) (ha : PA X (e :: es) t) (hg : Gl X x := by rfl) (hdb : (x == ("__debug__" : Str)) = false := by decide)
    (he : starEach (e :: es) X.env = (false, eval e X.env) :: starEach es X.env := by rfl) (hpl : (backTo pos (starEach es X.env)).any (·.1) = false := by rfl) :
    PE X (.Call (.Name x p) (e :: es) [] pos) (tCall sp [dv] E0 t) := by
  obtain ⟨f, fd, ds, F, m, kp, b, r⟩ := C.ex
  exact pe_call F (hr.mono hj) hg m kp b r pass0 ha hdb he hpl
theorem pe_calK {n : Nat} {kw : Str} {kws : List Keyword} {tk : TA} (C : CalK X.prog X.w X.K X.mg X.base j x ps sp n kw) (hr : Room k X.A) (hj : j ≤ k) (ha : PA X (e :: es) t) (hkw : PK X kws tk) (hg : Gl X x := by rfl)
    (hall : (backToKw pos (keywordEach kws X.env)).all (·.1.isSome) = true := by rfl) (hks : (backToKw pos (keywordEach kws X.env)).filterMap (·.1) = [kw] := by rfl) (hdb : (x == ("__debug__" : Str)) = false := by decide)
    (he : starEach (e :: es) X.env = (false, eval e X.env) :: starEach es X.env := by rfl)
    (hpl : ((backTo pos (starEach (e :: es) X.env)).any (·.1) || (backToKw pos (keywordEach kws X.env)).any (·.1.isNone)) = false := by rfl) :
    PE X (.Call (.Name x p) (e :: es) kws pos) (tCallN n 1 sp (fun vs zs => vs ++ zs) E0 t tk) := by
  obtain ⟨f, fd, F, m, kp, b⟩ := C.ex
  exact pe_callN F (hr.mono hj) hg m kp b pass0 ha hkw hall hks hdb he hpl
/-- a module's whole number -/
theorem pe_kon {y : Str} {i : Int} {q : Pos} (h : ∃ t, X.mg y = some (.int i t)) (hg : Gl X y := by rfl) (hd : (y == ("__debug__" : Str)) = false := by decide) : PE X (.Name y q) (tC (.int i)) := by
  obtain ⟨u, m⟩ := h
  exact pe_glob hg m ⟨u, rfl⟩ hd
/-- a built-in class as a value -/
theorem pe_ty {y : Str} {n : String} {q : Pos} (hg : Gl X y) (hm : X.mg y = none) (hv : bootBuiltins y = some (.type n)) (hn : y ≠ "__name__" := by decide) (hd : (y == ("__debug__" : Str)) = false := by decide) : PE X (.Name y q) (tC (.ty n)) := pe_bltn hg hm hv rfl hn hd
end
theorem bt_len : bootBuiltins "len" = some (.builtin "len") := by decide +kernel
theorem bt_sum : bootBuiltins "sum" = some (.builtin "sum") := by decide +kernel
theorem bt_all : bootBuiltins "all" = some (.builtin "all") := by decide +kernel
theorem bt_any : bootBuiltins "any" = some (.builtin "any") := by decide +kernel
theorem bt_min : bootBuiltins "min" = some (.builtin "min") := by decide +kernel
theorem bt_max : bootBuiltins "max" = some (.builtin "max") := by decide +kernel
theorem bt_abs : bootBuiltins "abs" = some (.builtin "abs") := by decide +kernel
theorem bt_isinstance : bootBuiltins "isinstance" = some (.builtin "isinstance") := by decide +kernel
theorem bt_int : bootBuiltins "int" = some (.type "int") := by decide +kernel
theorem bt_bool : bootBuiltins "bool" = some (.type "bool") := by decide +kernel
theorem bt_tuple : bootBuiltins "tuple" = some (.type "tuple") := by decide +kernel
theorem bt_list : bootBuiltins "list" = some (.type "list") := by decide +kernel
theorem bt_str : bootBuiltins "str" = some (.type "str") := by decide +kernel

section
variable {P : Program} {w : World} {K : PySem.W.Frag} {mg : Str → Option Value} {base : Heap} {x : Str} {st : Stmt} {N ps : List Str} {k : Nat} {sp : Sp} {kws : List (Str × V)}
/-- a def's body walked: its promise -/
theorem At.fn (F : At K mg x st kws) (S : FnScope N ps (defScope st)) (len : ∀ vs H Q E, sp vs H Q E → vs.length = ps.length)
    (hbody : ∀ (cdv : Value) (A : Around) (outer : List Env) (s : Shared) (H : Hp) (vs : List V) (Q : VK) (E : XK) (f : Addr), Room k (A.deeper (envOfC x (defScope st) s.heap.objs.size f cdv)) → sp vs H Q E →
      ∃ t, PSs (cxOf CX0 P w K mg base N x (defScope st) f cdv A outer s H E).nox (defBody st) t ∧ t { nx := fun _ H' => Q .non H', rt := Q } (start N vs) H) :
    ∃ f fd, FunD K x x (defArgs st) (defBody st) (defScope st) [] kws f fd ∧ mg x = some (.ref f) ∧ FnOk P w K mg base CX0 (k + 1) f fd ps sp := by
  obtain ⟨f, fd, F, m⟩ := F.ex
  refine ⟨f, fd, F, m, F.ok (CX := CX0) S len fun cdv A outer s H vs Q E hr h => ?_⟩
  obtain ⟨t, h1, h2⟩ := hbody cdv A outer s H vs Q E f hr h
  exact ⟨t, PSs.nox h1, h2⟩
theorem At.cal (F : At K mg x st []) (S : FnScope N ps (defScope st))
    (hb : ∀ (kV doc pm : Value) (an : Option Addr) (cdv ct : Value) (us : List Value), us.length = ps.length → bindArgs (PySem.W.fnOf x x (defArgs st) (defBody st) (defScope st) .none kV doc pm an cdv ct) ⟨us, []⟩ = pure (ps.zip us))
    (len : ∀ vs H Q E, sp vs H Q E → vs.length = ps.length)
    (hbody : ∀ (cdv : Value) (A : Around) (outer : List Env) (s : Shared) (H : Hp) (vs : List V) (Q : VK) (E : XK) (f : Addr), Room k (A.deeper (envOfC x (defScope st) s.heap.objs.size f cdv)) → sp vs H Q E →
      ∃ t, PSs (cxOf CX0 P w K mg base N x (defScope st) f cdv A outer s H E).nox (defBody st) t ∧ t { nx := fun _ H' => Q .non H', rt := Q } (start N vs) H) : Cal P w K mg base (k + 1) x ps sp := by
  obtain ⟨f, fd, F, m, G⟩ := F.fn S len hbody
  exact ⟨f, fd, G, m, F.kp, F.bindsN hb⟩
end
section
variable {P : Program} {w : World} {K : PySem.W.Frag} {mg : Str → Option Value} {base : Heap} {x : Str} {st : Stmt} {N ps : List Str} {k : Nat} {sp : Sp} {kws : List (Str × V)} {f : Addr} {fd : FuncData}
/-- the law's own def, at a given place -/
theorem fn_ok (F : FunD K x x (defArgs st) (defBody st) (defScope st) [] kws f fd) (S : FnScope N ps (defScope st)) (len : ∀ vs H Q E, sp vs H Q E → vs.length = ps.length)
    (hbody : ∀ (cdv : Value) (A : Around) (outer : List Env) (s : Shared) (H : Hp) (vs : List V) (Q : VK) (E : XK), Room k (A.deeper (envOfC x (defScope st) s.heap.objs.size f cdv)) → sp vs H Q E →
      ∃ t, PSs (cxOf CX0 P w K mg base N x (defScope st) f cdv A outer s H E).nox (defBody st) t ∧ t { nx := fun _ H' => Q .non H', rt := Q } (start N vs) H) : FnOk P w K mg base CX0 (k + 1) f fd ps sp :=
  F.ok (CX := CX0) S len fun cdv A outer s H vs Q E hr h => by
    obtain ⟨t, h1, h2⟩ := hbody cdv A outer s H vs Q E hr h
    exact ⟨t, PSs.nox h1, h2⟩
/-- a def among the head's facts -/
theorem at_of {fa : List He.Fa} {fn : List He.DefD} {h : Heap} {d : He.DefD} (X : K.In h) (G : h.Ns mainGlobals mg) (c : He.SaysD fa fn K) (i j : Nat) (hd : fn[i]? = some d) (hf : fa[j]? = some (.glo x)) (e : d = ⟨(x, none), x, x, defArgs st, defBody st, defScope st, [], d.kwd⟩) : At K mg x st (d.kws K) := by
  obtain ⟨fd, F⟩ := c.def_ i (d := d) hd
  rw [e] at F
  exact ⟨_, fd, F, He.glo_ok X G (c.fact j (f := .glo x) hf)⟩
end
/-- how so many parameters bind -/
theorem len1 {a : List V} {v : V} (h : a = [v]) : a.length = 1 := by rw [h]; rfl

/-! ### heaps -/
theorem same_new {H : Hp} {p : Addr} {o : HO} (h : H p = none) : Same H (upd H p o) := fun b x e => by
  rw [upd_ne (ne_of_none e h)]
  exact e
theorem same_then {H H' : Hp} {p : Addr} {o : HO} (s : Same H H') (h : H' p = none) : Same H (upd H' p o) := fun b x e => same_new h b x (s b x e)
theorem seqL {K : PySem.W.Frag} {H H' : Hp} {a : Addr} {xs : List V} (s : Same H H') (h : SqL K H a xs) : SqL K H' a xs := by
  rcases h with (h | ⟨o, h⟩) | h
  · exact .inl (.inl (s _ _ h))
  · exact .inl (.inr ⟨o, s _ _ h⟩)
  · exact .inr h
theorem seqT {K : PySem.W.Frag} {H H' : Hp} {a : Addr} {xs : List V} (s : Same H H') (h : SqT K H a xs) : SqT K H' a xs := by
  rcases h with (h | ⟨o, h⟩) | h
  · exact .inl (.inl (s _ _ h))
  · exact .inl (.inr ⟨o, s _ _ h⟩)
  · exact .inr h
theorem none_back {H H' : Hp} {p : Addr} (s : Same H H') (n : H' p = none) : H p = none := by
  cases e : H p with
  | none => rfl
  | some o =>
    rw [s _ _ e] at n
    cases n
theorem flat_rep {α : Type} (v : α) : ∀ n : Nat, (List.replicate n [v]).flatten = List.replicate n v
  | 0 => rfl
  | n + 1 => by
    rw [List.replicate_succ, List.flatten_cons, flat_rep v n]
    rfl
/-- all but what stands at b is as it was -/
def But (b : Addr) (H H' : Hp) : Prop := ∀ c o, c ≠ b → H c = some o → H' c = some o
theorem But.refl (b : Addr) (H : Hp) : But b H H := fun _ _ _ e => e
theorem But.trans {b : Addr} {H H1 H2 : Hp} (h : But b H H1) (k : But b H1 H2) : But b H H2 := fun c o n e => k c o n (h c o n e)
theorem But.of_same {b : Addr} {H H' : Hp} (s : Same H H') : But b H H' := fun c o _ e => s c o e
theorem But.at {b : Addr} {H : Hp} {o : HO} : But b H (upd H b o) := fun c o n e => by
  rw [upd_ne n]
  exact e
theorem But.same {b : Addr} {H H1 H2 : Hp} (h : But b H H1) (s : Same H1 H2) : But b H H2 := h.trans (.of_same s)
/-- the town at b: a list of so many things at most -/
def Town (b : Addr) (n : Nat) (H : Hp) : Prop := ∃ xs, H b = some (.lst xs) ∧ xs.length ≤ n
theorem Town.same {b : Addr} {n : Nat} {H H' : Hp} (s : Same H H') (h : Town b n H) : Town b n H' := by
  obtain ⟨xs, e, l⟩ := h
  exact ⟨xs, s _ _ e, l⟩
theorem Town.le {b : Addr} {n m : Nat} {H : Hp} (h : Town b n H) (l : n ≤ m) : Town b m H := by
  obtain ⟨xs, e, q⟩ := h
  exact ⟨xs, e, Nat.le_trans q l⟩
theorem Town.ne_new {b p : Addr} {n : Nat} {H : Hp} (h : Town b n H) (np : H p = none) : p ≠ b := fun z => by
  obtain ⟨xs, e, _⟩ := h
  rw [← z, np] at e
  cases e
theorem but_none {b : Addr} {H H' : Hp} {p : Addr} (s : But b H H') (nb : p ≠ b) (n : H' p = none) : H p = none := by
  cases e : H p with
  | none => rfl
  | some o =>
    rw [s _ _ nb e] at n
    cases n
theorem butL {K : PySem.W.Frag} {b : Addr} {H H' : Hp} {a : Addr} {xs : List V} (s : But b H H') (n : a ≠ b) (h : SqL K H a xs) : SqL K H' a xs := by
  rcases h with (h | ⟨o, h⟩) | h
  · exact .inl (.inl (s _ _ n h))
  · exact .inl (.inr ⟨o, s _ _ n h⟩)
  · exact .inr h
theorem butT {K : PySem.W.Frag} {b : Addr} {H H' : Hp} {a : Addr} {xs : List V} (s : But b H H') (n : a ≠ b) (h : SqT K H a xs) : SqT K H' a xs := by
  rcases h with (h | ⟨o, h⟩) | h
  · exact .inl (.inl (s _ _ n h))
  · exact .inl (.inr ⟨o, s _ _ n h⟩)
  · exact .inr h
/-- the script at a is read, and what stands at b is another thing -/
def Scr (K : PySem.W.Frag) (H : Hp) (b a : Addr) (ns : List Int) : Prop := ns.length ≤ 63 ∧ ((∀ H', SqL K H' a (ns.map V.int)) ∨ (SqL K H a (ns.map V.int) ∧ a ≠ b))
theorem Scr.sq {K : PySem.W.Frag} {H : Hp} {b a : Addr} {ns : List Int} (h : Scr K H b a ns) : SqL K H a (ns.map V.int) := h.2.elim (fun k => k H) (fun k => k.1)
theorem Scr.but {K : PySem.W.Frag} {H H' : Hp} {b a : Addr} {ns : List Int} (h : Scr K H b a ns) (s : But b H H') : Scr K H' b a ns := ⟨h.1, h.2.elim (fun k => .inl k) (fun k => .inr ⟨butL s k.2 k.1, k.2⟩)⟩
theorem Scr.same {K : PySem.W.Frag} {H H' : Hp} {b a : Addr} {ns : List Int} (h : Scr K H b a ns) (s : Same H H') : Scr K H' b a ns := h.but (.of_same s)
theorem Scr.of {K : PySem.W.Frag} {H : Hp} {b a : Addr} {ns : List Int} {o : HO} (h : SqL K H a (ns.map V.int)) (l : ns.length ≤ 63) (n : H b = none) : Scr K (upd H b o) b a ns := by
  rcases h with (h | ⟨u, h⟩) | h
  · exact ⟨l, .inr ⟨.inl (.inl (by rw [upd_ne (ne_of_none h n)]; exact h)), ne_of_none h n⟩⟩
  · exact ⟨l, .inr ⟨.inl (.inr ⟨u, by rw [upd_ne (ne_of_none h n)]; exact h⟩), ne_of_none h n⟩⟩
  · exact ⟨l, .inl fun _ => .inr h⟩
theorem szl {n : Nat} (h : n < 100000) : n < sizeLine := Nat.lt_of_lt_of_le h (by decide)
theorem sz {n : Nat} (h : n ≤ 100000) : n ≤ sizeLine := Nat.le_trans h (by decide)

/-! ### further rules -/
/-- an item read by place, the place not below 0 -/
def rGetL (K : PySem.W.Frag) : V → V → Hp → VK → Prop := fun o i H Q => ∃ (p : Addr) (xs : List V) (j : Nat) (v : V), o = .ref p ∧ i = .int (j : Int) ∧ SqL K H p xs ∧ xs[j]? = some v ∧ Q v H
section
variable {X : Cx}
theorem get_list : PGet X (rGetL X.K) := by
  intro pins s σ H o i ov iv Q I ro ri h
  obtain ⟨p, xs, j, z, rfl, rfl, hq, he, q⟩ := h
  cases ro
  obtain ⟨t, rfl⟩ := ri
  obtain ⟨its, r, pl, hz⟩ := I.list hq
  obtain ⟨w, ew, rw'⟩ := r.get he
  have hl := r.length
  have hn := line63
  have hj : j < its.length := (List.getElem?_eq_some_iff.mp ew).1
  exact wpAny_getItem_list pl.isList (by omega) (by omega) (by simpa using ew) ⟨z, H, I, rw', q⟩
end
theorem m2_of {X : Cx} {o : Expr} {m : Str} {apos : Pos} {e f : Expr} {cpos : Pos} (h1 : attributeBase o m X.env (eval o X.env) = eval o X.env := by rfl)
    (h2 : ((backTo cpos (starEach [e, f] X.env)).all (fun x => !x.1) && (backToKw cpos (keywordEach [] X.env)).all (fun x => x.1.isSome) && decide (([e, f] : List Expr).length + ([] : List Keyword).length + (if ([] : List Keyword).isEmpty then 0 else 1) < 30)) = true := by rfl)
    (h3 : (apos.endLine == cpos.line) = true := by rfl) (h4 : backTo cpos (starEach [e, f] X.env) = [(false, eval e X.env), (false, eval f X.env)] := by rfl) : M2 X o m apos e f cpos := ⟨h1, h2, h3, h4⟩

/-! ### data compared -/
theorem dp_ints {K : PySem.W.Frag} {H : Hp} : ∀ ns : List Int, DpAll K H (ns.map V.int) (ns.map PyData.int)
  | [] => .nil
  | n :: r => .cons (.int n) (dp_ints r)
theorem eqvAll_ints : ∀ ns ms : List Int, PyData.eqvAll (ns.map PyData.int) (ms.map PyData.int) = decide (ns = ms)
  | [], [] => by simp [PyData.eqvAll]
  | [], _ :: _ => by simp [PyData.eqvAll]
  | _ :: _, [] => by simp [PyData.eqvAll]
  | a :: r, b :: t => by
    simp only [List.map_cons, PyData.eqvAll, PyData.eqv, eqvAll_ints r t]
    by_cases h : a = b <;> by_cases h2 : r = t <;> simp [h, h2]
theorem eqv_lst (ns ms : List Int) : PyData.eqv (.list (ns.map PyData.int)) (.list (ms.map PyData.int)) = decide (ns = ms) := by
  simp only [PyData.eqv]
  exact eqvAll_ints ns ms
theorem eqv_tup (ns ms : List Int) : PyData.eqv (.tuple (ns.map PyData.int)) (.tuple (ms.map PyData.int)) = decide (ns = ms) := by
  simp only [PyData.eqv]
  exact eqvAll_ints ns ms
theorem shaped_lst (ns : List Int) : SeqAt.shaped (.list (ns.map PyData.int)) = true := by
  simp [SeqAt.shaped, PyData.canLay0, PyData.depth, PySem.W.ke_canLayAll0, PySem.W.ke_depthAll]
theorem shaped_tup (ns : List Int) : SeqAt.shaped (.tuple (ns.map PyData.int)) = true := by
  simp [SeqAt.shaped, PyData.canLay0, PyData.depth, PySem.W.ke_canLayAll0, PySem.W.ke_depthAll]
section
variable {K : PySem.W.Frag} {H : Hp} {a b : Addr} {ns ms : List Int} {Q : VK}
theorem eqL (h1 : SqL K H a (ns.map V.int)) (h2 : SqL K H b (ms.map V.int)) (q : Q (.bl (decide (ns = ms))) H) : rEqD K (.ref a) (.ref b) H Q :=
  ⟨_, _, .lst h1 (dp_ints ns), .lst h2 (dp_ints ms), shaped_lst ns, shaped_lst ms, by rw [eqv_lst]; exact q⟩
theorem neL (h1 : SqL K H a (ns.map V.int)) (h2 : SqL K H b (ms.map V.int)) (q : Q (.bl (!decide (ns = ms))) H) : rNeD K (.ref a) (.ref b) H Q :=
  ⟨_, _, .lst h1 (dp_ints ns), .lst h2 (dp_ints ms), shaped_lst ns, shaped_lst ms, by rw [eqv_lst]; exact q⟩
theorem eqT (h1 : SqT K H a (ns.map V.int)) (h2 : SqT K H b (ms.map V.int)) (q : Q (.bl (decide (ns = ms))) H) : rEqD K (.ref a) (.ref b) H Q :=
  ⟨_, _, .tup h1 (dp_ints ns), .tup h2 (dp_ints ms), shaped_tup ns, shaped_tup ms, by rw [eqv_tup]; exact q⟩
theorem neT (h1 : SqT K H a (ns.map V.int)) (h2 : SqT K H b (ms.map V.int)) (q : Q (.bl (!decide (ns = ms))) H) : rNeD K (.ref a) (.ref b) H Q :=
  ⟨_, _, .tup h1 (dp_ints ns), .tup h2 (dp_ints ms), shaped_tup ns, shaped_tup ms, by rw [eqv_tup]; exact q⟩
/-- a list is not empty, or is -/
theorem eqL0 (h1 : SqL K H a (ns.map V.int)) (h2 : H b = some (.lst [])) (q : Q (.bl (decide (ns = []))) H) : rEqD K (.ref a) (.ref b) H Q := eqL (ms := []) h1 (.inl (.inl h2)) q
end
/-- lines of whole numbers -/
def Flat (d : PyData) : Prop := ∃ ns : List Int, d = .list (ns.map PyData.int) ∨ d = .tuple (ns.map PyData.int)
theorem flat_lay : ∀ ds : List PyData, (∀ d ∈ ds, Flat d) → PyData.canLayAll0 ds = true ∧ PyData.depthAll ds ≤ 1
  | [], _ => by simp [PyData.canLayAll0, PyData.depthAll]
  | d :: r, h => by
    obtain ⟨h1, h2⟩ := flat_lay r fun x hx => h x (List.mem_cons_of_mem _ hx)
    obtain ⟨ns, e | e⟩ := h d List.mem_cons_self
    · rw [e]
      simp [PyData.canLayAll0, PyData.depthAll, PyData.canLay0, PyData.depth, PySem.W.ke_canLayAll0, PySem.W.ke_depthAll, h1]
      omega
    · rw [e]
      simp [PyData.canLayAll0, PyData.depthAll, PyData.canLay0, PyData.depth, PySem.W.ke_canLayAll0, PySem.W.ke_depthAll, h1]
      omega
theorem shaped_flat {ds : List PyData} (h : ∀ d ∈ ds, Flat d) : SeqAt.shaped (.list ds) = true := by
  obtain ⟨h1, h2⟩ := flat_lay ds h
  simp [SeqAt.shaped, PyData.canLay0, PyData.depth, h1]
  omega
theorem eqv_nil (ds : List PyData) : PyData.eqv (.list ds) (.list []) = decide (ds = []) := by
  cases ds <;> simp [PyData.eqv, PyData.eqvAll]
theorem shaped_nil : SeqAt.shaped (.list []) = true := shaped_flat fun _ h => (nomatch h)
section
variable {K : PySem.W.Frag} {H : Hp} {a b : Addr} {xs : List V} {ds : List PyData} {Q : VK}
/-- a list of lines is empty, or is not -/
theorem eqF0 (h1 : SqL K H a xs) (hd : DpAll K H xs ds) (hf : ∀ d ∈ ds, Flat d) (h2 : H b = some (.lst [])) (q : Q (.bl (decide (ds = []))) H) : rEqD K (.ref a) (.ref b) H Q :=
  ⟨_, _, .lst h1 hd, .lst (.inl (.inl h2)) .nil, shaped_flat hf, shaped_nil, by rw [eqv_nil]; exact q⟩
end
theorem at_int {ns : List Int} {j : Nat} {z : Int} (h : ns[j]? = some z) : atI (ns.map V.int) (j : Int) = some (.int z) := atI_nat (by rw [List.getElem?_map, h]; rfl)
theorem at_intE {ns : List Int} {i : Int} {j : Nat} {z : Int} (e : i = (j : Int)) (h : ns[j]? = some z) : atI (ns.map V.int) i = some (.int z) := by
  rw [e]
  exact at_int h
theorem at_intI {ns : List Int} {i : Int} (h0 : 0 ≤ i) (h : i < ns.length) : atI (ns.map V.int) i = some (.int (ns.getD i.toNat 0)) := by
  have e : ((i.toNat : Nat) : Int) = i := Int.toNat_of_nonneg h0
  rw [← e]
  have l : i.toNat < ns.length := by omega
  refine at_int ?_
  rw [Int.toNat_natCast, List.getElem?_eq_getElem l, List.getD_eq_getElem?_getD, List.getElem?_eq_getElem l]
  rfl
theorem map_at {ns : List Int} {i : Nat} {x : V} (h : (ns.map V.int)[i]? = some x) : ∃ z, ns[i]? = some z ∧ x = .int z := by
  rw [List.getElem?_map] at h
  cases e : ns[i]? with
  | none =>
    rw [e] at h
    cases h
  | some z =>
    rw [e] at h
    exact ⟨z, rfl, (Option.some.inj h).symm⟩

/-! ### comprehensions -/
section
variable {J : It} {n : Nat} {G : Hp → Prop} {Y : Nat → Hp → V → Hp → Prop} {g : TG} {tt : TT} {te : TE} {vs : List Nat} {σ : L2.St} {H1 : Hp} {D : Addr} {Qd : Hp → Prop}
/-- nothing that stood changes: what is made so far is told -/
theorem lcp (w : Walk J n G Y) (nD : H1 D = none) (out : Nat → List V) (o0 : out 0 = []) (ol : ∀ i, i ≤ n → (out i).length < 1000000) (hG : ∀ H, Same H1 H → G H)
    (hs : ∀ i x H H' (R : VK) (N : Hp → Prop), i < n → Same H1 H → Y i H x H' → (∀ y H4, Same H H4 → out (i + 1) = out i ++ [y] → R y H4) → (∀ H3, Same H H3 → out (i + 1) = out i → N H3) →
      g x (wipe σ vs) H' fun σ2 H2 => wipe σ2 vs = wipe σ vs ∧ tt σ2 H2 fun b H3 => if b = true then te σ2 H3 R else N H3)
    (hd : ∀ H, Same H1 H → H D = some (.lst (out n)) → Qd H) :
    ∃ W : Nat → Nat → Hp → Prop, (∃ m, W 0 m (upd H1 D (.lst []))) ∧ ∀ i m H, W i m H →
      (J.stop i H ∧ Qd H) ∨ (J.go i H ∧ ∃ Nx : Hp → Prop, (∀ H', Nx H' → ∃ m', m' < m ∧ W (i + 1) m' H') ∧ ∀ x H', J.yld i H x H' → g x (wipe σ vs) H' fun σ2 H2 => wipe σ2 vs = wipe σ vs ∧ tt σ2 H2 fun b H3 =>
        if b = true then te σ2 H3 fun y H4 => ∃ acc, H4 D = some (.lst acc) ∧ acc.length < sizeLine ∧ Nx (upd H4 D (.lst (acc ++ [y]))) else Nx H3) := by
  refine lc_it w (fun i H => Same H1 H ∧ H D = some (.lst (out i))) ⟨same_new nD, by rw [o0]; exact upd_same⟩ (fun _ H _ h => hG H h.1) ?_ fun H h => hd H h.1 h.2
  rintro i x H H' hi ⟨sm, hD⟩ hy
  refine hs i x H H' _ _ hi sm hy (fun y H4 s4 e => ⟨out i, s4 _ _ hD, Nat.lt_of_lt_of_le (ol i (Nat.le_of_lt hi)) (by decide), ?_, ?_⟩) fun H3 s3 e => ⟨sm.trans s3, by rw [e]; exact s3 _ _ hD⟩
  · intro c o hc
    rw [upd_ne (ne_of_none hc nD)]
    exact s4 _ _ (sm _ _ hc)
  · rw [e]
    exact upd_same
/-- whole numbers, what stands at b grows by so many a turn -/
theorem lct (w : Walk J n G Y) (Pz : Int → Prop) {b : Addr} {m0 c : Nat} (t0 : Town b m0 H1) (nD : H1 D = none) (hn : n < 1000000) (hG : ∀ H, But b H1 H → G H)
    (hs : ∀ i x H H' (R : VK), i < n → But b H1 H → Town b (m0 + c * i) H → Y i H x H' → (∀ z H4, Pz z → But b H H4 → Town b (m0 + c * (i + 1)) H4 → R (.int z) H4) →
      g x (wipe σ vs) H' fun σ2 H2 => wipe σ2 vs = wipe σ vs ∧ te σ2 H2 R)
    (hd : ∀ (zs : List Int) (H : Hp), zs.length = n → (∀ z ∈ zs, Pz z) → But b H1 H → Town b (m0 + c * n) H → H D = some (.lst (zs.map V.int)) → Qd H) :
    ∃ W : Nat → Nat → Hp → Prop, (∃ m, W 0 m (upd H1 D (.lst []))) ∧ ∀ i m H, W i m H →
      (J.stop i H ∧ Qd H) ∨ (J.go i H ∧ ∃ Nx : Hp → Prop, (∀ H', Nx H' → ∃ m', m' < m ∧ W (i + 1) m' H') ∧ ∀ x H', J.yld i H x H' → g x (wipe σ vs) H' fun σ2 H2 => wipe σ2 vs = wipe σ vs ∧ tYes σ2 H2 fun b H3 =>
        if b = true then te σ2 H3 fun y H4 => ∃ acc, H4 D = some (.lst acc) ∧ acc.length < sizeLine ∧ Nx (upd H4 D (.lst (acc ++ [y]))) else Nx H3) := by
  have nb : D ≠ b := t0.ne_new nD
  refine lc_it w (fun i H => But b H1 H ∧ Town b (m0 + c * i) H ∧ ∃ zs : List Int, zs.length = i ∧ (∀ z ∈ zs, Pz z) ∧ H D = some (.lst (zs.map V.int))) ⟨.of_same (same_new nD), ?_, [], rfl, fun _ h => (nomatch h), upd_same⟩ (fun _ H _ h => hG H h.1) ?_ ?_
  · rw [Nat.mul_zero]
    exact t0.same (same_new nD)
  · rintro i x H H' hi ⟨bt, tw, zs, lz, pz, hD⟩ hy
    refine hs i x H H' _ hi bt tw hy fun z H4 hz b4 t4 => ?_
    refine ⟨zs.map V.int, b4 _ _ nb hD, ?_, ?_, ?_, zs ++ [z], by rw [List.length_append, lz]; rfl, fun u hu => ?_, ?_⟩
    · rw [List.length_map, lz]
      exact Nat.lt_of_lt_of_le (Nat.lt_trans hi hn) (by decide)
    · intro a o na ha
      rw [upd_ne (ne_of_none ha nD)]
      exact b4 _ _ na (bt _ _ na ha)
    · obtain ⟨xs, e, l⟩ := t4
      exact ⟨xs, by rw [upd_ne (Ne.symm nb)]; exact e, l⟩
    · rcases List.mem_append.mp hu with h | h
      · exact pz u h
      · rw [List.mem_singleton.mp h]
        exact hz
    · rw [List.map_append]
      exact upd_same
  · rintro H ⟨bt, tw, zs, lz, pz, hD⟩
    exact hd zs H lz pz bt tw hD
/-- new things: what stands at each is told -/
theorem lcr (w : Walk J n G Y) (nD : H1 D = none) (hn : n < 1000000) (o : Nat → HO) (hG : ∀ H, Same H1 H → G H)
    (hs : ∀ i x H H' (R : VK), i < n → Same H1 H → Y i H x H' → (∀ u H4, H u = none → Same H H4 → H4 u = some (o i) → R (.ref u) H4) → g x (wipe σ vs) H' fun σ2 H2 => wipe σ2 vs = wipe σ vs ∧ te σ2 H2 R)
    (hd : ∀ (xs : List V) (H : Hp), xs.length = n → Same H1 H → (∀ j, j < n → ∃ u, xs[j]? = some (.ref u) ∧ H u = some (o j)) → H D = some (.lst xs) → Qd H) :
    ∃ W : Nat → Nat → Hp → Prop, (∃ m, W 0 m (upd H1 D (.lst []))) ∧ ∀ i m H, W i m H →
      (J.stop i H ∧ Qd H) ∨ (J.go i H ∧ ∃ Nx : Hp → Prop, (∀ H', Nx H' → ∃ m', m' < m ∧ W (i + 1) m' H') ∧ ∀ x H', J.yld i H x H' → g x (wipe σ vs) H' fun σ2 H2 => wipe σ2 vs = wipe σ vs ∧ tYes σ2 H2 fun b H3 =>
        if b = true then te σ2 H3 fun y H4 => ∃ acc, H4 D = some (.lst acc) ∧ acc.length < sizeLine ∧ Nx (upd H4 D (.lst (acc ++ [y]))) else Nx H3) := by
  refine lc_it w (fun i H => Same H1 H ∧ ∃ xs : List V, xs.length = i ∧ (∀ j, j < i → ∃ u, u ≠ D ∧ xs[j]? = some (.ref u) ∧ H u = some (o j)) ∧ H D = some (.lst xs)) ⟨same_new nD, [], rfl, fun _ h => absurd h (Nat.not_lt_zero _), upd_same⟩ (fun _ H _ h => hG H h.1) ?_ ?_
  · rintro i x H H' hi ⟨sm, xs, lx, hx, hD⟩ hy
    refine hs i x H H' _ hi sm hy fun u H4 nu s4 hu => ?_
    have uD : u ≠ D := fun e => by
      rw [e, hD] at nu
      cases nu
    refine ⟨xs, s4 _ _ hD, by rw [lx]; exact Nat.lt_of_lt_of_le (Nat.lt_trans hi hn) (by decide), ?_, xs ++ [.ref u], by rw [List.length_append, lx]; rfl, fun j hj => ?_, upd_same⟩
    · intro c z hc
      rw [upd_ne (ne_of_none hc nD)]
      exact s4 _ _ (sm _ _ hc)
    · by_cases c : j < i
      · obtain ⟨v, vD, e1, e2⟩ := hx j c
        exact ⟨v, vD, by rw [List.getElem?_append_left (by omega)]; exact e1, by rw [upd_ne vD]; exact s4 _ _ e2⟩
      · have e : j = i := by omega
        rw [e]
        exact ⟨u, uD, by rw [List.getElem?_append_right (by omega), lx, Nat.sub_self]; rfl, by rw [upd_ne uD]; exact hu⟩
  · rintro H ⟨sm, xs, lx, hx, hD⟩
    exact hd xs H lx sm (fun j hj => by
      obtain ⟨u, _, r⟩ := hx j hj
      exact ⟨u, r⟩) hD
end

/-! ### kinds of things -/
theorem ty_tup {K : PySem.W.Frag} {H : Hp} {a : Addr} {xs : List V} (h : SqT K H a xs) : TyX K H (.ref a) (.type "tuple") := by
  rcases h with (h | ⟨o, h⟩) | ⟨o, its, n, h, c, _⟩
  · exact .base (.tup h)
  · exact .fTuple h
  · exact .kTuple h c
theorem ty_lst {K : PySem.W.Frag} {H : Hp} {a : Addr} {xs : List V} (h : SqL K H a xs) : TyX K H (.ref a) (.type "list") := by
  rcases h with (h | ⟨o, h⟩) | ⟨o, its, n, h, c, _⟩
  · exact .base (.lst h)
  · exact .base (.frz h)
  · exact .kList h c
/-- whether a thing is a whole number -/
inductive Wh (K : PySem.W.Frag) (H : Hp) : V → Bool → Prop
  | int (i : Int) : Wh K H (.int i) true
  | bl (b : Bool) : Wh K H (.bl b) false
  | no {v : V} {n : String} (h : TyX K H v (.type n)) (k : kitB n "int" = some false) (nb : ∀ i, v ≠ .int i) : Wh K H v false
/-- from lo to hi -/
def whB (v : V) (lo hi : Int) : Bool := match v with
  | .int i => decide (lo ≤ i ∧ i ≤ hi)
  | _ => false
theorem Wh.cases_ {K : PySem.W.Frag} {H : Hp} {v : V} {b : Bool} (h : Wh K H v b) : (∃ i, v = .int i ∧ b = true) ∨ ((∀ i, v ≠ .int i) ∧ b = false) := by
  cases h with
  | int i => exact .inl ⟨i, rfl, rfl⟩
  | bl b => exact .inr ⟨fun i z => V.noConfusion z, rfl⟩
  | no h k nb => exact .inr ⟨nb, rfl⟩
theorem whB_no {v : V} {lo hi : Int} (h : ∀ i, v ≠ .int i) : whB v lo hi = false := by
  cases v with
  | int i => exact absurd rfl (h i)
  | _ => rfl
theorem kit_int_int : kitB "int" "int" = some true := by decide +kernel
theorem kit_int_bool : kitB "int" "bool" = some false := by decide +kernel
theorem kit_bool_int : kitB "bool" "int" = some true := by decide +kernel
theorem kit_bool_bool : kitB "bool" "bool" = some true := by decide +kernel
theorem kit_tup_tup : kitB "tuple" "tuple" = some true := by decide +kernel
theorem isi {K : PySem.W.Frag} {H : Hp} {x : V} {a n : String} {b : Bool} {Q : VK} (t : TyX K H x (.type a)) (k : kitB a n = some b) (q : Q (.bl b) H) : rIsi K [x, .ty n] H Q := ⟨x, .ty n, .type a, .type n, b, rfl, .ty n, t, kit_ty k, q⟩
theorem row_ok {K : PySem.W.Frag} {H : Hp} {row : List Int} {i : Nat} {x : V} (h : (row.map V.int)[i]? = some x) : ∃ z, row[i]? = some z ∧ x = .int z ∧ z ∈ row := by
  obtain ⟨z, e, r⟩ := map_at h
  exact ⟨z, e, r, List.mem_of_getElem? e⟩

/-! ### zip of tuples -/
theorem walk_zipT {K : PySem.W.Frag} {a b : Addr} {xs ys : List V} {n : Nat} (hn : n = min xs.length ys.length) : Walk (RZ.ItzT K a b) n (fun H => SqT K H a xs ∧ SqT K H b ys) (YPair (fun i => xs[i]?) (fun i => ys[i]?)) := by
  refine ⟨fun i H hi q => ⟨xs, ys, xs[i]'(by omega), ys[i]'(by omega), q.1, q.2, List.getElem?_eq_getElem _, List.getElem?_eq_getElem _⟩, fun H q => ⟨xs, ys, q.1, q.2, by omega⟩, fun i H v H' hi q y => ?_⟩
  obtain ⟨T, x, z, h1, h2, h3, h4, h5⟩ := y
  exact ⟨T, x, z, h1, h2, h3, h4 xs q.1, h5 ys q.2⟩
/-- sum of a tuple of whole numbers -/
def rSumT (K : PySem.W.Frag) : List V → Hp → VK → Prop := fun vs H Q => ∃ (a : Addr) (ns : List Int), vs = [V.ref a] ∧ SqT K H a (ns.map V.int) ∧ Q (.int ns.sum) H
theorem cr_sumA {X : Cx} (hc : X.calm = true) : CallR X (.builtin "sum") (rSumT X.K) := by
  intro pins s σ H vs us Q I r h
  obtain ⟨a, ns, rfl, hs, q⟩ := h
  obtain ⟨its, rv, hl, _⟩ := I.tuple hs
  rw [Vals.ref1 r]
  obtain ⟨xs, e⟩ := rv.ints.allInts.items
  have hn : PySem.numsOf (intItems xs).toList = ns := by
    rw [← e]
    exact rv.ints.numsOf
  rw [PySem.nums_intItems] at hn
  have hl2 : s.heap.IsTuple a (intItems xs) := by
    rw [← e]
    exact hl
  refine PySem.W.ktm_sumG (I.ok.hd hc) hl2 fun h' tk t' hk => ?_
  rw [PySem.preSum_eq, List.take_of_length_le (by simp), hn]
  exact ⟨.int _, H, I.kept hk, ⟨_, rfl⟩, q⟩
/-- a comprehension in a comprehension: the block's names -/
theorem blkOk_in {N : List Str} {sc scope : Scope} {own : List (Str × Nat)} (h : blkC N sc scope own = true) : BlkOk N sc scope own := blkOk_by h

/-! ### the same rules, the written part said -/
def rLenQ (K : PySem.W.Frag) : List V → Hp → VK → Prop := fun xs H Q => ∃ p ys, xs = [.ref p] ∧ (SqL K H p ys ∨ SqT K H p ys) ∧ Q (.int ys.length) H
def rTupQ (K : PySem.W.Frag) : List V → Hp → VK → Prop := fun xs H Q => ∃ p ys, xs = [.ref p] ∧ ((SqL K H p ys ∧ ∀ l, H l = none → Q (.ref l) (upd H l (.tup ys))) ∨ (SqT K H p ys ∧ Q (.ref p) H))
def rLstQ (K : PySem.W.Frag) : List V → Hp → VK → Prop := fun xs H Q => ∃ p ys, xs = [.ref p] ∧ (SqL K H p ys ∨ SqT K H p ys) ∧ ∀ l, H l = none → Q (.ref l) (upd H l (.lst ys))
section
variable {X : Cx} {K : PySem.W.Frag}
theorem kz_len (hK : X.K = K := by rfl) : CallR X (.builtin "len") (rLenQ K) := hK ▸ call_len_seq
theorem kz_sum (hc : X.calm = true) (hK : X.K = K := by rfl) : CallR X (.builtin "sum") (rSum K) := hK ▸ cr_sum hc
theorem kz_sumT (hc : X.calm = true) (hK : X.K = K := by rfl) : CallR X (.builtin "sum") (rSumT K) := hK ▸ cr_sumA hc
theorem kz_all (hc : X.calm = true) (hK : X.K = K := by rfl) : CallR X (.builtin "all") (rAll K) := hK ▸ cr_all hc
theorem kz_any (hc : X.calm = true) (hK : X.K = K := by rfl) : CallR X (.builtin "any") (rAny K) := hK ▸ cr_any hc
theorem kz_max (hc : X.calm = true) (hK : X.K = K := by rfl) : CallR X (.builtin "max") (rMax K) := hK ▸ cr_max hc
theorem kz_min (hc : X.calm = true) (hK : X.K = K := by rfl) : CallR X (.builtin "min") (rMin K) := hK ▸ cr_min hc
theorem kz_isi (hK : X.K = K := by rfl) : CallR X (.builtin "isinstance") (rIsi K) := hK ▸ call_isi
theorem kz_tuple (hK : X.K = K := by rfl) : CallR X (.type "tuple") (rTupQ K) := hK ▸ call_tuple_of
theorem kz_list (hK : X.K = K := by rfl) : CallR X (.type "list") (rLstQ K) := hK ▸ call_list_of
theorem kz_ixL (hK : X.K = K := by rfl) : IxR X (rIxL K) := hK ▸ ix_list
theorem kz_ixT (hK : X.K = K := by rfl) : IxR X (rIxT K) := hK ▸ ix_tup
theorem kz_eqD (hu : X.A.units + 64 < cLine) (hK : X.K = K := by rfl) : OpR X (compareOp .Eq) (rEqD K) := hK ▸ op_eqD hu
theorem kz_neD (hu : X.A.units + 64 < cLine) (hK : X.K = K := by rfl) : OpR X (compareOp .NotEq) (rNeD K) := hK ▸ op_neD hu
theorem kz_in (hK : X.K = K := by rfl) : OpR X (compareOp .In) (rIn K false) := hK ▸ op_in_seq
theorem kz_notIn (hK : X.K = K := by rfl) : OpR X (compareOp .NotIn) (rIn K true) := hK ▸ op_notIn_seq
theorem kz_catT (hK : X.K = K := by rfl) : OpR X (binaryOp .Add) (rCatA K) := hK ▸ op_catA
theorem kz_slL (hK : X.K = K := by rfl) : SlR X (rSlL K) := hK ▸ sl_list
theorem kz_slT (hK : X.K = K := by rfl) : SlR X (rSlA K) := hK ▸ sl_tupA
theorem kz_getL (hK : X.K = K := by rfl) : PGet X (rGetL K) := hK ▸ get_list
variable {tg l e e2 : Expr} {tl : TE} {ta : TA} {p pos tpos : Pos} {elts : List Expr} {kk : Nat}
theorem kz_piL (hl : PE X l tl) (hK : X.K = K := by rfl) : PI X tg l (iList K tl) := hK ▸ pi_list hl
theorem kz_piT (hl : PE X l tl) (hK : X.K = K := by rfl) : PI X tg l (iTup K tl) := hK ▸ pi_tup hl
theorem kz_zip (hg : Gl X "zip") (hm : X.mg "zip" = none) (ha : PA X [e, e2] ta) (hK : X.K = K := by rfl)
    (hs : starEach [e, e2] X.env = (false, eval e X.env) :: starEach [e2] X.env := by rfl) (hpl : (backTo pos (starEach [e2] X.env)).any (·.1) = false := by rfl) :
    PI X (.Tuple elts kk tpos) (.Call (.Name "zip" p) [e, e2] [] pos) (RZ.iZipA K ta) := hK ▸ RZ.pi_zipA hg hm ha hs hpl
theorem kz_enum (hg : Gl X "enumerate") (hm : X.mg "enumerate" = none) (ha : PA X [e] ta) (hK : X.K = K := by rfl) (hs : starEach [e] X.env = [(false, eval e X.env)] := by rfl) :
    PI X (.Tuple elts kk tpos) (.Call (.Name "enumerate" p) [e] [] pos) (iEnum K ta) := hK ▸ pi_enum hg hm ha hs
theorem kz_gtup {es : List Expr} {k : Nat} {t : TGs} (n : Nat) (hc : X.calm = true) (h : PGs X es t) (hK : X.K = K := by rfl)
    (hn : (assignEach es X.env).length = n := by rfl) (hst : (assignEach es X.env).findIdx? (·.1) = none := by rfl) : PG X (.Tuple es k pos) (gTup K n t) := hK ▸ pg_tup hc h hn hst
theorem kz_glst {es : List Expr} {k : Nat} {t : TGs} (n : Nat) (hc : X.calm = true) (h : PGs X es t) (hK : X.K = K := by rfl)
    (hn : (assignEach es X.env).length = n := by rfl) (hst : (assignEach es X.env).findIdx? (·.1) = none := by rfl) : PG X (.Tuple es k pos) (gLst K n t) := hK ▸ pg_lst hc h hn hst
end
end Ly

/-! ### zip of a list and a tuple -/
namespace Ly
open PySem PySem.Spec PyProof.Rows L2
/-- the list at a, the tuple at b as they stand at each turn, the items in new pairs -/
def ItzLT (K : PySem.W.Frag) (a b : Addr) : It :=
  ⟨fun i H => ∃ (xs ys : List V) (x y : V), SqL K H a xs ∧ SqT K H b ys ∧ xs[i]? = some x ∧ ys[i]? = some y,
   fun i H v H' => ∃ T x y, v = .ref T ∧ H T = none ∧ H' = upd H T (.tup [x, y]) ∧ (∀ xs, SqL K H a xs → xs[i]? = some x) ∧ (∀ ys, SqT K H b ys → ys[i]? = some y),
   fun i H => ∃ (xs ys : List V), SqL K H a xs ∧ SqT K H b ys ∧ i ≤ xs.length ∧ i ≤ ys.length ∧ (i = xs.length ∨ i = ys.length)⟩
/-- the five cells of such a zip, made when so many stood -/
structure ZCells (n : Nat) (a b : Addr) (i : Nat) (h : Heap) : Prop where
  hz : IsZip h (n + 4) (n + 2) (n + 3) .none
  ti : IsTupOf2 h (n + 2) (.ref n) (.ref (n + 1))
  out : ∃ u v, IsTupOf2 h (n + 3) u v
  fst : h.IsListIter n a i
  snd : h.IsTupleIter (n + 1) b i
def zfp (n : Nat) : List Addr := [n + 4, n + 2, n + 3, n, n + 1]
theorem zfp_mem {n c : Nat} (h : c ∈ zfp n) : n ≤ c ∧ c < n + 5 ∧ (c = n + 4 ∨ c = n + 2 ∨ c = n + 3 ∨ c = n ∨ c = n + 1) := by
  have e : c = n + 4 ∨ c = n + 2 ∨ c = n + 3 ∨ c = n ∨ c = n + 1 := by simpa [zfp] using h
  refine ⟨?_, ?_, e⟩ <;> omega
theorem not_zfp {n c : Nat} (h : c ∉ zfp n) : c ≠ n + 4 ∧ c ≠ n + 3 ∧ c ≠ n ∧ c ≠ n + 1 := by
  simp only [zfp, List.mem_cons, List.not_mem_nil, or_false, not_or] at h
  obtain ⟨h1, h2, h3, h4, h5⟩ := h
  exact ⟨h1, h3, h4, h5⟩
theorem ZCells.keep {n : Nat} {a b : Addr} {i : Nat} {h h' : Heap} (z : ZCells n a b i h) (k : ∀ c ∈ zfp n, ∀ o, h.get? c = some o → h'.get? c = some o) : ZCells n a b i h' := by
  obtain ⟨u, v, e⟩ := z.out
  exact ⟨k _ (by simp [zfp]) _ z.hz, k _ (by simp [zfp]) _ z.ti, ⟨u, v, k _ (by simp [zfp]) _ e⟩, z.fst.at fun o q => k _ (by simp [zfp]) o q, z.snd.at fun o q => k _ (by simp [zfp]) o q⟩
theorem lt_ne {x y z : Nat} (h : x < y) (k : y ≤ z) : x ≠ z := by omega
theorem turn_zipLT {P : Program} {w : World} {K : PySem.W.Frag} {elts : List Expr} {kk : Nat} {tpos : Pos} {a b : Addr} {n : Nat} (ha : a < n) (hb : b < n) :
    Turn P w K (.Tuple elts kk tpos) (ItzLT K a b) (zfp n) (n + 4) (fun i h => ZCells n a b i h) where
  mem := by simp [zfp]
  obj := fun i h z c hc => by
    obtain ⟨u, v, e⟩ := z.out
    obtain ⟨o1, e1, _, d1⟩ := z.fst
    obtain ⟨o2, e2, _, d2⟩ := z.snd
    rcases (zfp_mem hc).2.2 with q | q | q | q | q
    · rw [q]; exact ⟨_, z.hz, fun v q => nomatch q⟩
    · rw [q]; exact ⟨_, z.ti, fun v q => nomatch q⟩
    · rw [q]; exact ⟨_, e, fun v q => nomatch q⟩
    · rw [q]; exact ⟨o1, e1, fun v q => by rw [d1] at q; cases q⟩
    · rw [q]; exact ⟨o2, e2, fun v q => by rw [d2] at q; cases q⟩
  keep := fun i h h' z k => z.keep k
  item := by
    intro X hP hw hK hc i pins s σ H E I hf z hg
    subst hP hw hK
    obtain ⟨xs, ys, x, y, qx, qy, hx, hy⟩ := hg
    obtain ⟨l1, r1, p1, _⟩ := I.list qx
    obtain ⟨l2, r2, p2, _⟩ := I.tuple qy
    obtain ⟨u1, hu1, ru1⟩ := r1.get hx
    obtain ⟨u2, hu2, ru2⟩ := r2.get hy
    obtain ⟨o1, o2, hout⟩ := z.out
    have hA : X.A.in1.handled = none := I.ok.hd hc
    have big : n + 4 < s.heap.objs.size := Heap.lt_size z.hz
    have sep : ZipSep2 (n + 4) (n + 2) (n + 3) n (n + 1) [n, a] [n + 1, b] := zip_sep2 (N := n) (fp1 := [a]) (fp2 := [b]) (fun c hc => by rw [List.mem_singleton.mp hc]; exact ha) (fun c hc => by rw [List.mem_singleton.mp hc]; exact hb)
    refine wpAny_pyNext_zipD2_item (i := i) sep (Draws.list hA n a (Nat.ne_of_lt ha) l1.toArray) (Draws.tuple hA (n + 1) b (Nat.ne_of_lt (Nat.lt_succ_of_lt hb)) l2.toArray) z.hz z.ti hout ⟨z.fst, p1.isList⟩ ⟨z.snd, show s.heap.IsTuple b l2.toArray from p2⟩
      (by rw [List.size_toArray]; exact (List.getElem?_eq_some_iff.mp hu1).1) (by rw [List.size_toArray]; exact (List.getElem?_eq_some_iff.mp hu2).1) ?_
    intro v1 v2 h' tk e1 e2 hz' hto' st1 st2 hT hsz hk
    have e1' : u1 = v1 := by
      have q : l1[i]? = some v1 := by simpa using e1
      rw [hu1] at q
      exact Option.some.inj q
    have e2' : u2 = v2 := by
      have q : l2[i]? = some v2 := by simpa using e2
      rw [hu2] at q
      exact Option.some.inj q
    subst e1' e2'
    refine ⟨_, rfl, wpAny_letOwnedTupleGo_zip (s := { s with heap := h', toks := tk }) hz' fun h2 hz2 sb => ?_⟩
    have nz : s.heap.objs.size ≠ n + 4 := Nat.ne_of_gt big
    have hT2 : h2.get? s.heap.objs.size = some { cls := .type "tuple", data := .seq #[u1, u2] } := (sb.2 _ nz).trans hT
    have nw : ObjOk X.prog X.w (upd H s.heap.objs.size (.tup [x, y])) h2 s.heap.objs.size (.tup [x, y]) := ⟨by show 2 ≤ sizeLine; decide, [u1, u2], .cons ru1 (.cons ru2 .nil), ⟨_, hT2, rfl, _, rfl⟩⟩
    have old : ∀ c o, c ∉ zfp n → s.heap.get? c = some o → h2.get? c = some o := fun c o hc q => by
      obtain ⟨c1, c2, c3, c4⟩ := not_zfp hc
      exact (sb.2 c c1).trans (hk c o c1 c2 c3 c4 q)
    refine ⟨.ref s.heap.objs.size, _, I.turnedNew (t' := tk) (ch := zfp n) old hf (Nat.le_refl _) nw, rfl, ⟨_, x, y, rfl, I.hok.fresh (Nat.le_refl _), rfl, fun l hl => ?_, fun l hl => by rw [I.tuple_inj hl qy]; exact hy⟩, ⟨hz2, ?_, ⟨u1, u2, ?_⟩, ?_, ?_⟩, fun c hcm => ?_⟩
    · rw [I.list_inj hl qx]
      exact hx
    · have m1 : (n + 2 : Nat) ≠ n + 4 := by omega
      exact (sb.2 _ m1).trans (hk _ _ m1 (show (n + 2 : Nat) ≠ n + 3 by omega) (show (n + 2 : Nat) ≠ n by omega) (show (n + 2 : Nat) ≠ n + 1 by omega) z.ti)
    · exact (sb.2 _ (show (n + 3 : Nat) ≠ n + 4 by omega)).trans hto'
    · exact st1.1.at fun o q => (sb.2 _ (show (n : Nat) ≠ n + 4 by omega)).trans q
    · exact st2.1.at fun o q => (sb.2 _ (show (n + 1 : Nat) ≠ n + 4 by omega)).trans q
    · have hlt : c < s.heap.objs.size := Nat.lt_of_le_of_lt (Nat.le_of_lt_succ (zfp_mem hcm).2.1) big
      rw [upd_ne (Nat.ne_of_lt hlt)]
      exact (hf c hcm).1
  done := by
    intro X hP hw hK hc i pins s σ H E I hf z hg
    subst hP hw hK
    obtain ⟨xs, ys, qx, qy, b1, b2, be⟩ := hg
    obtain ⟨l1, r1, p1, _⟩ := I.list qx
    obtain ⟨l2, r2, p2, _⟩ := I.tuple qy
    obtain ⟨o1, o2, hout⟩ := z.out
    have hA : X.A.in1.handled = none := I.ok.hd hc
    have g1 := r1.length
    have g2 := r2.length
    have sep : ZipSep2 (n + 4) (n + 2) (n + 3) n (n + 1) [n, a] [n + 1, b] := zip_sep2 (N := n) (fp1 := [a]) (fp2 := [b]) (fun c hc => by rw [List.mem_singleton.mp hc]; exact ha) (fun c hc => by rw [List.mem_singleton.mp hc]; exact hb)
    refine wpAny_pyNext_zipD2_end (i := i) sep (Draws.list hA n a (Nat.ne_of_lt ha) l1.toArray) (Draws.tuple hA (n + 1) b (Nat.ne_of_lt (Nat.lt_succ_of_lt hb)) l2.toArray) z.hz z.ti hout ⟨z.fst, p1.isList⟩ ⟨z.snd, show s.heap.IsTuple b l2.toArray from p2⟩
      (by rw [List.size_toArray]; omega) (by rw [List.size_toArray]; omega) (by rw [List.size_toArray, List.size_toArray]; omega) ?_
    intro h' tk hk
    exact ⟨rfl, I.turnedL (t' := tk) (ch := zfp n) (fun c o hc q => by
      obtain ⟨c1, c2, c3, c4⟩ := not_zfp hc
      exact hk c o c1 c2 c3 c4 q) hf⟩
  self := fun A i s Q E z h => wpAny_pyIter_zip z.hz h
def iZipLT (K : PySem.W.Frag) (ta : TA) : TI := fun σ H R => ta σ H fun vs H1 => ∃ a b xs ys, vs = [.ref a, .ref b] ∧ SqL K H1 a xs ∧ SqT K H1 b ys ∧ R (ItzLT K a b) H1
theorem pi_zipLT {X : Cx} {e e2 : Expr} {ta : TA} {p pos tpos : Pos} {elts : List Expr} {kk : Nat} (hg : Gl X "zip") (hm : X.mg "zip" = none) (ha : PA X [e, e2] ta)
    (hs : starEach [e, e2] X.env = (false, eval e X.env) :: starEach [e2] X.env := by rfl) (hpl : (backTo pos (starEach [e2] X.env)).any (·.1) = false := by rfl) :
    PI X (.Tuple elts kk tpos) (.Call (.Name "zip" p) [e, e2] [] pos) (iZipLT X.K ta) := by
  refine ⟨fun pins s σ H R I h => Call_ (ld_blt I hg hm PyProof.Rows.boot_zip (PyProof.Rows.callWith_type1 (thn (ha.run pos pins s σ H _ I h) ?_) hs hpl))⟩
  rintro us s1 ⟨vs, H1, I1, r1, a, b, xs, ys, rfl, qx, qy, q⟩
  cases r1 with
  | cons e1 r2 =>
    cases r2 with
    | cons e3 r3 =>
      cases r3
      cases e1
      cases e3
      obtain ⟨l1, v1, p1, _⟩ := I1.list qx
      obtain ⟨l2, v2, p2, _⟩ := I1.tuple qy
      obtain ⟨o1, g1, _⟩ := id p1.isList
      obtain ⟨o2, g2, _⟩ := id (show s1.heap.IsTuple b l2.toArray from p2)
      refine zip_begins2 (begins_list a l1.toArray) (begins_tuple b l2.toArray) p1.isList (show s1.heap.IsTuple b l2.toArray from p2) fun h' hz hti hto n1 n2 hsz hk => wpAny_pyIter_zip hz ?_
      have I2 : Inv X pins σ H1 { s1 with heap := h' } := I1.kept (t' := s1.toks) hk
      refine ⟨_, zfp s1.heap.objs.size, _, _, H1, rfl, I2, turn_zipLT (Heap.lt_size g1) (Heap.lt_size g2), ⟨hz, hti, ⟨_, _, hto⟩, ⟨_, n1, rfl, rfl⟩, ⟨_, n2, rfl, rfl⟩⟩, fun c hc => ?_, q⟩
      exact I1.fpOk (zfp_mem hc).1 (I1.hok.fresh (zfp_mem hc).1)
theorem walk_zipLT {K : PySem.W.Frag} {a b : Addr} {xs ys : List V} {n : Nat} (hn : n = min xs.length ys.length) : Walk (ItzLT K a b) n (fun H => SqL K H a xs ∧ SqT K H b ys) (YPair (fun i => xs[i]?) (fun i => ys[i]?)) := by
  refine ⟨fun i H hi q => ⟨xs, ys, xs[i]'(by omega), ys[i]'(by omega), q.1, q.2, List.getElem?_eq_getElem _, List.getElem?_eq_getElem _⟩, fun H q => ⟨xs, ys, q.1, q.2, by omega, by omega, by omega⟩, fun i H v H' hi q y => ?_⟩
  obtain ⟨T, x, z, h1, h2, h3, h4, h5⟩ := y
  exact ⟨T, x, z, h1, h2, h3, h4 xs q.1, h5 ys q.2⟩
theorem kz_zipLT {X : Cx} {K : PySem.W.Frag} {e e2 : Expr} {ta : TA} {p pos tpos : Pos} {elts : List Expr} {kk : Nat} (hg : Gl X "zip") (hm : X.mg "zip" = none) (ha : PA X [e, e2] ta) (hK : X.K = K := by rfl)
    (hs : starEach [e, e2] X.env = (false, eval e X.env) :: starEach [e2] X.env := by rfl) (hpl : (backTo pos (starEach [e2] X.env)).any (·.1) = false := by rfl) :
    PI X (.Tuple elts kk tpos) (.Call (.Name "zip" p) [e, e2] [] pos) (iZipLT K ta) := hK ▸ pi_zipLT hg hm ha hs hpl
end Ly

/-! ### zip of a tuple and a list, of any two -/
namespace Ly
open PySem PySem.Spec PyProof.Rows L2 RZ
/-- the list at a, the tuple at b as they stand at each turn, the items in new pairs -/
def ItzTL (K : PySem.W.Frag) (a b : Addr) : It :=
  ⟨fun i H => ∃ (xs ys : List V) (x y : V), SqT K H a xs ∧ SqL K H b ys ∧ xs[i]? = some x ∧ ys[i]? = some y,
   fun i H v H' => ∃ T x y, v = .ref T ∧ H T = none ∧ H' = upd H T (.tup [x, y]) ∧ (∀ xs, SqT K H a xs → xs[i]? = some x) ∧ (∀ ys, SqL K H b ys → ys[i]? = some y),
   fun i H => ∃ (xs ys : List V), SqT K H a xs ∧ SqL K H b ys ∧ i ≤ xs.length ∧ i ≤ ys.length ∧ (i = xs.length ∨ i = ys.length)⟩
/-- the five cells of such a zip, made when so many stood -/
structure ZCellsT (n : Nat) (a b : Addr) (i : Nat) (h : Heap) : Prop where
  hz : IsZip h (n + 4) (n + 2) (n + 3) .none
  ti : IsTupOf2 h (n + 2) (.ref n) (.ref (n + 1))
  out : ∃ u v, IsTupOf2 h (n + 3) u v
  fst : h.IsTupleIter n a i
  snd : h.IsListIter (n + 1) b i
theorem ZCellsT.keep {n : Nat} {a b : Addr} {i : Nat} {h h' : Heap} (z : ZCellsT n a b i h) (k : ∀ c ∈ zfp n, ∀ o, h.get? c = some o → h'.get? c = some o) : ZCellsT n a b i h' := by
  obtain ⟨u, v, e⟩ := z.out
  exact ⟨k _ (by simp [zfp]) _ z.hz, k _ (by simp [zfp]) _ z.ti, ⟨u, v, k _ (by simp [zfp]) _ e⟩, z.fst.at fun o q => k _ (by simp [zfp]) o q, z.snd.at fun o q => k _ (by simp [zfp]) o q⟩
theorem turn_zipTL {P : Program} {w : World} {K : PySem.W.Frag} {elts : List Expr} {kk : Nat} {tpos : Pos} {a b : Addr} {n : Nat} (ha : a < n) (hb : b < n) :
    Turn P w K (.Tuple elts kk tpos) (ItzTL K a b) (zfp n) (n + 4) (fun i h => ZCellsT n a b i h) where
  mem := by simp [zfp]
  obj := fun i h z c hc => by
    obtain ⟨u, v, e⟩ := z.out
    obtain ⟨o1, e1, _, d1⟩ := z.fst
    obtain ⟨o2, e2, _, d2⟩ := z.snd
    rcases (zfp_mem hc).2.2 with q | q | q | q | q
    · rw [q]; exact ⟨_, z.hz, fun v q => nomatch q⟩
    · rw [q]; exact ⟨_, z.ti, fun v q => nomatch q⟩
    · rw [q]; exact ⟨_, e, fun v q => nomatch q⟩
    · rw [q]; exact ⟨o1, e1, fun v q => by rw [d1] at q; cases q⟩
    · rw [q]; exact ⟨o2, e2, fun v q => by rw [d2] at q; cases q⟩
  keep := fun i h h' z k => z.keep k
  item := by
    intro X hP hw hK hc i pins s σ H E I hf z hg
    subst hP hw hK
    obtain ⟨xs, ys, x, y, qx, qy, hx, hy⟩ := hg
    obtain ⟨l1, r1, p1, _⟩ := I.tuple qx
    obtain ⟨l2, r2, p2, _⟩ := I.list qy
    obtain ⟨u1, hu1, ru1⟩ := r1.get hx
    obtain ⟨u2, hu2, ru2⟩ := r2.get hy
    obtain ⟨o1, o2, hout⟩ := z.out
    have hA : X.A.in1.handled = none := I.ok.hd hc
    have big : n + 4 < s.heap.objs.size := Heap.lt_size z.hz
    have sep : ZipSep2 (n + 4) (n + 2) (n + 3) n (n + 1) [n, a] [n + 1, b] := zip_sep2 (N := n) (fp1 := [a]) (fp2 := [b]) (fun c hc => by rw [List.mem_singleton.mp hc]; exact ha) (fun c hc => by rw [List.mem_singleton.mp hc]; exact hb)
    refine wpAny_pyNext_zipD2_item (i := i) sep (Draws.tuple hA n a (Nat.ne_of_lt ha) l1.toArray) (Draws.list hA (n + 1) b (Nat.ne_of_lt (Nat.lt_succ_of_lt hb)) l2.toArray) z.hz z.ti hout ⟨z.fst, show s.heap.IsTuple a l1.toArray from p1⟩ ⟨z.snd, p2.isList⟩
      (by rw [List.size_toArray]; exact (List.getElem?_eq_some_iff.mp hu1).1) (by rw [List.size_toArray]; exact (List.getElem?_eq_some_iff.mp hu2).1) ?_
    intro v1 v2 h' tk e1 e2 hz' hto' st1 st2 hT hsz hk
    have e1' : u1 = v1 := by
      have q : l1[i]? = some v1 := by simpa using e1
      rw [hu1] at q
      exact Option.some.inj q
    have e2' : u2 = v2 := by
      have q : l2[i]? = some v2 := by simpa using e2
      rw [hu2] at q
      exact Option.some.inj q
    subst e1' e2'
    refine ⟨_, rfl, wpAny_letOwnedTupleGo_zip (s := { s with heap := h', toks := tk }) hz' fun h2 hz2 sb => ?_⟩
    have nz : s.heap.objs.size ≠ n + 4 := Nat.ne_of_gt big
    have hT2 : h2.get? s.heap.objs.size = some { cls := .type "tuple", data := .seq #[u1, u2] } := (sb.2 _ nz).trans hT
    have nw : ObjOk X.prog X.w (upd H s.heap.objs.size (.tup [x, y])) h2 s.heap.objs.size (.tup [x, y]) := ⟨by show 2 ≤ sizeLine; decide, [u1, u2], .cons ru1 (.cons ru2 .nil), ⟨_, hT2, rfl, _, rfl⟩⟩
    have old : ∀ c o, c ∉ zfp n → s.heap.get? c = some o → h2.get? c = some o := fun c o hc q => by
      obtain ⟨c1, c2, c3, c4⟩ := not_zfp hc
      exact (sb.2 c c1).trans (hk c o c1 c2 c3 c4 q)
    refine ⟨.ref s.heap.objs.size, _, I.turnedNew (t' := tk) (ch := zfp n) old hf (Nat.le_refl _) nw, rfl, ⟨_, x, y, rfl, I.hok.fresh (Nat.le_refl _), rfl, fun l hl => ?_, fun l hl => by rw [I.list_inj hl qy]; exact hy⟩, ⟨hz2, ?_, ⟨u1, u2, ?_⟩, ?_, ?_⟩, fun c hcm => ?_⟩
    · rw [I.tuple_inj hl qx]
      exact hx
    · have m1 : (n + 2 : Nat) ≠ n + 4 := by omega
      exact (sb.2 _ m1).trans (hk _ _ m1 (show (n + 2 : Nat) ≠ n + 3 by omega) (show (n + 2 : Nat) ≠ n by omega) (show (n + 2 : Nat) ≠ n + 1 by omega) z.ti)
    · exact (sb.2 _ (show (n + 3 : Nat) ≠ n + 4 by omega)).trans hto'
    · exact st1.1.at fun o q => (sb.2 _ (show (n : Nat) ≠ n + 4 by omega)).trans q
    · exact st2.1.at fun o q => (sb.2 _ (show (n + 1 : Nat) ≠ n + 4 by omega)).trans q
    · have hlt : c < s.heap.objs.size := Nat.lt_of_le_of_lt (Nat.le_of_lt_succ (zfp_mem hcm).2.1) big
      rw [upd_ne (Nat.ne_of_lt hlt)]
      exact (hf c hcm).1
  done := by
    intro X hP hw hK hc i pins s σ H E I hf z hg
    subst hP hw hK
    obtain ⟨xs, ys, qx, qy, b1, b2, be⟩ := hg
    obtain ⟨l1, r1, p1, _⟩ := I.tuple qx
    obtain ⟨l2, r2, p2, _⟩ := I.list qy
    obtain ⟨o1, o2, hout⟩ := z.out
    have hA : X.A.in1.handled = none := I.ok.hd hc
    have g1 := r1.length
    have g2 := r2.length
    have sep : ZipSep2 (n + 4) (n + 2) (n + 3) n (n + 1) [n, a] [n + 1, b] := zip_sep2 (N := n) (fp1 := [a]) (fp2 := [b]) (fun c hc => by rw [List.mem_singleton.mp hc]; exact ha) (fun c hc => by rw [List.mem_singleton.mp hc]; exact hb)
    refine wpAny_pyNext_zipD2_end (i := i) sep (Draws.tuple hA n a (Nat.ne_of_lt ha) l1.toArray) (Draws.list hA (n + 1) b (Nat.ne_of_lt (Nat.lt_succ_of_lt hb)) l2.toArray) z.hz z.ti hout ⟨z.fst, show s.heap.IsTuple a l1.toArray from p1⟩ ⟨z.snd, p2.isList⟩
      (by rw [List.size_toArray]; omega) (by rw [List.size_toArray]; omega) (by rw [List.size_toArray, List.size_toArray]; omega) ?_
    intro h' tk hk
    exact ⟨rfl, I.turnedL (t' := tk) (ch := zfp n) (fun c o hc q => by
      obtain ⟨c1, c2, c3, c4⟩ := not_zfp hc
      exact hk c o c1 c2 c3 c4 q) hf⟩
  self := fun A i s Q E z h => wpAny_pyIter_zip z.hz h
theorem walk_zipTL {K : PySem.W.Frag} {a b : Addr} {xs ys : List V} {n : Nat} (hn : n = min xs.length ys.length) : Walk (ItzTL K a b) n (fun H => SqT K H a xs ∧ SqL K H b ys) (YPair (fun i => xs[i]?) (fun i => ys[i]?)) := by
  refine ⟨fun i H hi q => ⟨xs, ys, xs[i]'(by omega), ys[i]'(by omega), q.1, q.2, List.getElem?_eq_getElem _, List.getElem?_eq_getElem _⟩, fun H q => ⟨xs, ys, q.1, q.2, by omega, by omega, by omega⟩, fun i H v H' hi q y => ?_⟩
  obtain ⟨T, x, z, h1, h2, h3, h4, h5⟩ := y
  exact ⟨T, x, z, h1, h2, h3, h4 xs q.1, h5 ys q.2⟩

/-- zip of two lists, of two tuples, of a tuple and a list -/
def iZipB (K : PySem.W.Frag) (ta : TA) : TI := fun σ H R => ta σ H fun vs H1 => ∃ a b xs ys, vs = [.ref a, .ref b] ∧ (SqL K H1 a xs ∧ SqL K H1 b ys ∧ R (Itz K a b) H1 ∨ SqT K H1 a xs ∧ SqT K H1 b ys ∧ R (ItzT K a b) H1 ∨ SqT K H1 a xs ∧ SqL K H1 b ys ∧ R (ItzTL K a b) H1)
theorem pi_zipB {X : Cx} {e e2 : Expr} {ta : TA} {p pos tpos : Pos} {elts : List Expr} {kk : Nat} (hg : Gl X "zip") (hm : X.mg "zip" = none) (ha : PA X [e, e2] ta)
    (hs : starEach [e, e2] X.env = (false, eval e X.env) :: starEach [e2] X.env := by rfl) (hpl : (backTo pos (starEach [e2] X.env)).any (·.1) = false := by rfl) :
    PI X (.Tuple elts kk tpos) (.Call (.Name "zip" p) [e, e2] [] pos) (iZipB X.K ta) := by
  refine ⟨fun pins s σ H R I h => Call_ (ld_blt I hg hm PyProof.Rows.boot_zip (PyProof.Rows.callWith_type1 (thn (ha.run pos pins s σ H _ I h) fun us s1 ⟨vs, H1, I1, r1, q1⟩ => ?_) hs hpl))⟩
  obtain ⟨a, b, xs, ys, ex, q1⟩ := q1
  subst ex
  cases r1 with
  | cons r rr =>
    cases rr with
    | cons r' rr =>
      cases rr
      cases r
      cases r'
      have fresh5 : ∀ c, c ∈ zfp s1.heap.objs.size → FpOk X pins H1 c := fun c hc => I1.fpOk (zfp_mem hc).1 (I1.hok.fresh (zfp_mem hc).1)
      rcases q1 with ⟨hqx, hqy, q⟩ | ⟨hqx, hqy, q⟩ | ⟨hqx, hqy, q⟩
      · obtain ⟨its, rv, p1, _⟩ := I1.list hqx
        obtain ⟨its2, rv2, p2, _⟩ := I1.list hqy
        refine call_zip_2 p1.isList p2.isList fun h' hz hTI hTO h1 h2 hsz hk => wpAny_pyIter_zip hz ?_
        have I2 : Inv X pins σ H1 { s1 with heap := h' } := I1.kept (t' := s1.toks) hk
        exact ⟨s1.heap.objs.size + 4, zfp s1.heap.objs.size, _, _, H1, rfl, I2, turn_zip (PySem.W.ktu_apart s1.heap.objs.size a b p1.lt p2.lt), ⟨hz, hTI, ⟨_, _, hTO⟩, h1, h2⟩, fresh5, q⟩
      · obtain ⟨its, rv, p1, _⟩ := I1.tuple hqx
        obtain ⟨its2, rv2, p2, _⟩ := I1.tuple hqy
        obtain ⟨o1, ho1, _⟩ := id p1
        obtain ⟨o2, ho2, _⟩ := id p2
        refine call_zipT (show s1.heap.IsTuple a its.toArray from p1) (show s1.heap.IsTuple b its2.toArray from p2) fun h' hz hTI hTO h1 h2 hsz hk => wpAny_pyIter_zip hz ?_
        have I2 : Inv X pins σ H1 { s1 with heap := h' } := I1.kept (t' := s1.toks) hk
        exact ⟨s1.heap.objs.size + 4, zfp s1.heap.objs.size, _, _, H1, rfl, I2, turn_zipT (PySem.W.ktu_apart s1.heap.objs.size a b (Heap.lt_size ho1) (Heap.lt_size ho2)), ⟨hz, hTI, ⟨_, _, hTO⟩, h1, h2⟩, fresh5, q⟩
      · obtain ⟨l1, v1, p1, _⟩ := I1.tuple hqx
        obtain ⟨l2, v2, p2, _⟩ := I1.list hqy
        obtain ⟨o1, g1, _⟩ := id (show s1.heap.IsTuple a l1.toArray from p1)
        obtain ⟨o2, g2, _⟩ := id p2.isList
        refine zip_begins2 (begins_tuple a l1.toArray) (begins_list b l2.toArray) (show s1.heap.IsTuple a l1.toArray from p1) p2.isList fun h' hz hti hto n1 n2 hsz hk => wpAny_pyIter_zip hz ?_
        have I2 : Inv X pins σ H1 { s1 with heap := h' } := I1.kept (t' := s1.toks) hk
        exact ⟨_, zfp s1.heap.objs.size, _, _, H1, rfl, I2, turn_zipTL (Heap.lt_size g1) (Heap.lt_size g2), ⟨hz, hti, ⟨_, _, hto⟩, ⟨_, n1, rfl, rfl⟩, ⟨_, n2, rfl, rfl⟩⟩, fresh5, q⟩
theorem kz_zipB {X : Cx} {K : PySem.W.Frag} {e e2 : Expr} {ta : TA} {p pos tpos : Pos} {elts : List Expr} {kk : Nat} (hg : Gl X "zip") (hm : X.mg "zip" = none) (ha : PA X [e, e2] ta) (hK : X.K = K := by rfl)
    (hs : starEach [e, e2] X.env = (false, eval e X.env) :: starEach [e2] X.env := by rfl) (hpl : (backTo pos (starEach [e2] X.env)).any (·.1) = false := by rfl) :
    PI X (.Tuple elts kk tpos) (.Call (.Name "zip" p) [e, e2] [] pos) (iZipB K ta) := hK ▸ pi_zipB hg hm ha hs hpl
end Ly

/-! ### a tuple turned round: t[::-1] -/
namespace Ly
open PySem PySem.Spec PyProof.Rows L2
section
variable {prog : Program} {w : World} {A : Around} {E : Value → Shared → Prop} {s : Shared}
theorem part_is {v : Value} {o : Option Int} {Q : Option Int → Shared → Prop} (p : IsPart v o) (h : Q o s) : wpAny (model prog w) A (Builtin.Slice.slicePartIndex v) Q E s := HT.slicePart_ p h
theorem adj_back (n : Nat) : Builtin.Slice.sliceAdjust none none (-1) (n : Int) = ((n : Int) - 1, -1) := by
  have g : (-1 : Int) < 0 := by decide
  unfold Builtin.Slice.sliceAdjust
  simp only [g, if_true]
theorem places_back (n : Nat) : Builtin.Slice.slicePlaces ((n : Int) - 1) (-1) (-1) = n := by
  have g : ¬ ((-1 : Int) > 0) := by decide
  unfold Builtin.Slice.slicePlaces
  rw [if_neg g]
  by_cases c : (n : Int) - 1 > -1
  · rw [if_pos c, show (- (-1 : Int)) = 1 from rfl, Int.ediv_one]
    omega
  · rw [if_neg c]
    omega
theorem pick_back (xs : Array Value) : ((List.range xs.size).filterMap fun (k : Nat) => xs[((xs.size : Int) - 1 + (k : Int) * (-1)).toNat]?).toArray = xs.toList.reverse.toArray := by
  have e : (fun (k : Nat) => xs[((xs.size : Int) - 1 + (k : Int) * (-1)).toNat]?) = fun k => xs[xs.size - 1 - k]? := by
    funext k
    have q : ((xs.size : Int) - 1 + (k : Int) * (-1)).toNat = xs.size - 1 - k := by omega
    rw [q]
  have k := PySem.W.krv_pick xs
  unfold slicePick at k
  rw [PySem.W.krv_bounds] at k
  have k2 : ((sliceRange ((xs.size : Int) - 1) (-1) (-1)).filterMap (xs[·]?)).toArray = xs.toList.reverse.toArray := k
  rw [PySem.W.krv_sliceRange, List.filterMap_map] at k2
  rw [e]
  exact k2
theorem applied_back {sl : Addr} {vs : Value} {n : Nat} {Q : Int × Int × Nat → Shared → Prop} (hs : s.heap.IsSliceOf sl .none .none vs) (pv : IsPart vs (some (-1)))
    (h : Q ((n : Int) - 1, -1, n) s) : wpAny (model prog w) A (Builtin.Slice.sliceApplied (.ref sl) (pure (n : Int))) Q E s := by
  obtain ⟨o, ho, _, hd⟩ := id hs
  unfold Builtin.Slice.sliceApplied Builtin.Slice.sliceFields
  have f0 : ∀ {R : Value → Shared → Prop}, R .none s → wpAny (model prog w) A (field (.ref sl) 0) R E s := fun r => wpAny_field ho hd (x := .none) rfl r
  have f1 : ∀ {R : Value → Shared → Prop}, R .none s → wpAny (model prog w) A (field (.ref sl) 1) R E s := fun r => wpAny_field ho hd (x := .none) rfl r
  have f2 : ∀ {R : Value → Shared → Prop}, R vs s → wpAny (model prog w) A (field (.ref sl) 2) R E s := fun r => wpAny_field ho hd (x := vs) rfl r
  refine wpAny_bind (wpAny_bind (f0 (wpAny_bind (f1 (wpAny_bind (f2 (wpAny_pure ?_)))))))
  refine wpAny_bind (part_is pv ?_)
  show wpAny _ _ (if ((-1 : Int) == 0) = true then _ else _) _ _ s
  rw [if_neg (show ¬ ((-1 : Int) == 0) = true by decide)]
  refine wpAny_bind (part_is .none (wpAny_bind (part_is .none (wpAny_bind (wpAny_pure ?_)))))
  show wpAny _ _ (match Builtin.Slice.sliceAdjust none none (-1) (n : Int) with | (x, y) => pure (x, (-1 : Int), Builtin.Slice.slicePlaces x y (-1))) _ _ s
  rw [adj_back]
  show wpAny _ _ (pure ((n : Int) - 1, (-1 : Int), Builtin.Slice.slicePlaces ((n : Int) - 1) (-1) (-1))) _ _ s
  rw [places_back]
  exact wpAny_pure h
theorem item_back {t sl : Addr} {items : Array Value} {vs : Value} {Q : Value → Shared → Prop} (ht : IsTup s.heap t items) (hs : s.heap.IsSliceOf sl .none .none vs) (pv : IsPart vs (some (-1))) (hz : items.size ≤ sizeLine)
    (h : Q (.ref s.heap.objs.size) { s with heap := s.heap.push { cls := .type "tuple", data := .seq items.toList.reverse.toArray } }) : wpAny (model prog w) A (getItem (.ref t) (.ref sl)) Q E s := by
  have ok : sizeOk (.seq items.toList.reverse.toArray) := by
    show items.toList.reverse.toArray.size ≤ sizeLine
    rw [List.size_toArray, List.length_reverse, Array.length_toList]
    exact hz
  obtain ⟨o, ho, hc, _⟩ := id hs
  unfold getItem
  try with_reducible refine wpAny_holding ?_
  first | refine wpAny_bind (wpAny_pure ?_) | skip
  have key : wpAny (model prog w) A.in1 (Builtin.«tuple.__getitem__» ⟨[.ref t, .ref sl], []⟩) (fun fin s' => ∃ v, fin = .done (.ret v) ∧ Q v s') E s := by
    show wpAny _ _ (Builtin.Tuple.tupleItemsOf (.ref t) >>= _) _ _ s
    refine wpAny_bind (tupleItemsOf_ ht (wpAny_bind (wpAny_typeOf (show s.TypeIs (.ref sl) "slice" from ⟨o, ho, hc⟩) ?_)))
    rw [if_pos (by decide)]
    refine wpAny_bind (applied_back hs pv ?_)
    show wpAny _ _ (if (((items.size : Int) - 1 == 0) && ((-1 : Int) == 1) && (items.size == items.size)) = true then _ else _) _ _ s
    rw [if_neg (by rw [show ((-1 : Int) == 1) = false from rfl, Bool.and_false, Bool.false_and]; exact Bool.false_ne_true), pick_back]
    first
      | exact wpAny_bind (m := Builtin.Tuple.tupleExact _) (wpAny_newObj_type (wpAny_pure ⟨_, rfl, h⟩) ok)
      | exact wpAny_bind (m := Builtin.Tuple.tupleExact _) (wpAny_newObj_type (wpAny_bind (wpAny_pure (wpAny_pure ⟨_, rfl, h⟩))) ok)
      | exact wpAny_bind (wpAny_bind (m := Builtin.Tuple.tupleExact _) (wpAny_newObj_type (wpAny_pure (wpAny_pure ⟨_, rfl, h⟩)) ok))
      | exact wpAny_bind (wpAny_bind (m := Builtin.Tuple.tupleExact _) (wpAny_newObj_type (wpAny_pure ⟨_, rfl, h⟩) ok))
  refine wpAny_bind (wpAny_sequenceKey ht.typeIs (by decide) ?_)
  refine wpAny_bind (wpAny_callSpecial?_slot (name := Str.ofString "__getitem__") ht.typeIs PyProof.Rows.slot_tuple_getitem ?_)
  refine wpAny_call_entry PyProof.Rows.slot_tuple_getitem ht.typeIs entry_tuple_getitem ?_ (args_tuple_getitem _ _)
  exact wpAny_mono key (fun f s' z => ⟨z.choose, z.choose_spec.1, wpAny_pure z.choose_spec.2⟩) fun _ _ z => z
end
def tRevT (K : PySem.W.Frag) (te : TE) : TE := fun σ H Q => te σ H fun x H1 => ∃ a xs, x = .ref a ∧ SqT K H1 a xs ∧ ∀ p, H1 p = none → Q (.ref p) (upd H1 p (.tup xs.reverse))
section
variable {X : Cx} {e : Expr} {te : TE} {k : Nat} {p1 p2 p3 pos : Pos}
theorem pe_revT {K : PySem.W.Frag} (he : PE X e te) (hK : X.K = K := by rfl) : PE X (.Subscript e (.Slice none none (some (.UnaryOp .USub (.Constant (.int 1) k p1) p2)) p3) pos) (tRevT K te) := by
  subst hK
  refine ⟨fun pins s σ H Q I h => Subscript_ (thn (he.run pins s σ H _ I h) ?_)⟩
  rintro v s1 ⟨x, H1, I1, r1, a, xs, rfl, hx, q⟩
  cases r1
  refine wpAny_Slice (thn (po_none.run pins s1 σ H1 (fun o H2 => o = none ∧ H2 = H1) I1 ⟨rfl, rfl⟩) ?_)
  rintro vl s2 ⟨l, H2, I2, pl, rfl, rfl⟩
  refine thn (po_none.run pins s2 σ H2 (fun o H3 => o = none ∧ H3 = H2) I2 ⟨rfl, rfl⟩) ?_
  rintro vu s3 ⟨u, H3, I3, pu, rfl, rfl⟩
  refine thn ((po_some (pe_un un_neg pe_int)).run pins s3 σ H3 (fun o H4 => o = some (-1) ∧ H4 = H3) I3 ⟨1, rfl, -1, rfl, rfl, rfl⟩) ?_
  rintro vs s4 ⟨o, H4, I4, ps, rfl, rfl⟩
  cases pl
  cases pu
  have I5 : Inv X pins σ H4 { s4 with heap := s4.heap.push { cls := .type "slice", data := .fields #[.none, .none, vs] } } := I4.kept (t' := s4.toks) fun b ob q => Heap.get?_push_of_some _ q
  obtain ⟨its, r, ht, hz⟩ := I5.tuple hx
  have hlen := r.length
  show wpAny (model X.prog X.w) X.A (subscriptTail e (.Slice none none (some (.UnaryOp .USub (.Constant (.int 1) k p1) p2)) p3) (.ref a) (.ref s4.heap.objs.size)) (EP X pins σ Q) X.xe { s4 with heap := s4.heap.push { cls := .type "slice", data := .fields #[.none, .none, vs] } }
  refine tail_any (ops := [.ref a, .ref s4.heap.objs.size]) ht.typeIs (PyProof.Rows.slot_tuple_getitem.lookup) ?_ (by with_unfolding_all rfl)
  refine item_back ht (Heap.IsSliceOf.new _ .none .none vs) ps (by rw [List.size_toArray]; omega) ?_
  refine ⟨.ref _, _, I5.laid (t' := s4.toks) (o := .tup xs.reverse) (fun b ob q => Heap.get?_push_of_some _ q) (Nat.le_refl _) ?_, rfl, q _ (I5.hok.fresh (Nat.le_refl _))⟩
  exact ⟨by rw [List.length_reverse]; exact hz, _, r.reverse, IsTup.new _ _⟩
end
end Ly

/-! ### the mathematics: rows, signs, totals -/
namespace Ly
open PySem L2
/-- a row of hands -/
def RowOk (hands : Int) (row : List Int) : Prop := 2 ≤ hands ∧ hands ≤ 4 ∧ row ≠ [] ∧ row.length ≤ 64 ∧ ∀ z ∈ row, 0 ≤ z ∧ z < hands
def signOf (t a b : Int) : Int := if t = a then 1 else if t = b then -1 else 0
def signsOf (row : List Int) (a b : Int) : List Int := row.map fun t => signOf t a b
theorem signsOf_len (row : List Int) (a b : Int) : (signsOf row a b).length = row.length := by rw [signsOf, List.length_map]
theorem signOf_small (t a b : Int) : signOf t a b = 1 ∨ signOf t a b = -1 ∨ signOf t a b = 0 := by
  unfold signOf
  split
  · exact .inl rfl
  · split
    · exact .inr (.inl rfl)
    · exact .inr (.inr rfl)
/-- what a hand has -/
def tot (row ws : List Int) (h : Int) : Int := ((row.zip ws).map fun p => if p.1 = h then p.2 else 0).sum
def totsOf (hands : Int) (row ws : List Int) : List Int := (List.range hands.toNat).map fun (h : Nat) => tot row ws (h : Int)
theorem tot_more {row ws : List Int} {i : Nat} {t w h : Int} (e1 : row[i]? = some t) (e2 : ws[i]? = some w) : tot (row.take (i + 1)) (ws.take (i + 1)) h = tot (row.take i) (ws.take i) h + if t = h then w else 0 := by
  have e : (row.take (i + 1)).zip (ws.take (i + 1)) = (row.take i).zip (ws.take i) ++ [(t, w)] := by
    rw [List.take_add_one, List.take_add_one, e1, e2]
    refine List.zip_append ?_
    have l1 := (List.getElem?_eq_some_iff.mp e1).1
    have l2 := (List.getElem?_eq_some_iff.mp e2).1
    rw [List.length_take, List.length_take]
    omega
  unfold tot
  rw [e, List.map_append, List.sum_append]
  simp
theorem totsOf_at {hands : Int} {row ws : List Int} {h : Nat} (hh : (h : Int) < hands) : (totsOf hands row ws)[h]? = some (tot row ws (h : Int)) := by
  unfold totsOf
  rw [List.getElem?_map, List.getElem?_range (by omega)]
  rfl
theorem totsOf_len {hands : Int} {row ws : List Int} : (totsOf hands row ws).length = hands.toNat := by
  unfold totsOf
  rw [List.length_map, List.length_range]
theorem totsOf_more {hands : Int} {row ws : List Int} {i : Nat} {t w : Int} (e1 : row[i]? = some t) (e2 : ws[i]? = some w) (h0 : 0 ≤ t) (h1 : t < hands) :
    totsOf hands (row.take (i + 1)) (ws.take (i + 1)) = (totsOf hands (row.take i) (ws.take i)).set t.toNat (tot (row.take i) (ws.take i) t + w) := by
  refine List.ext_getElem? fun k => ?_
  rw [List.getElem?_set, totsOf_len]
  by_cases hk : k < hands.toNat
  · have hk2 : (k : Int) < hands := by omega
    rw [totsOf_at hk2, tot_more e1 e2]
    by_cases hc : t.toNat = k
    · have ht : t = (k : Int) := by omega
      rw [if_pos hc, if_pos (show t.toNat < hands.toNat by omega), if_pos ht, ht]
    · rw [if_neg hc, totsOf_at hk2, if_neg (by omega), Int.add_zero]
  · rw [List.getElem?_eq_none (by rw [totsOf_len]; omega), if_neg (by omega), List.getElem?_eq_none (by rw [totsOf_len]; omega)]
theorem totsOf_nil {hands : Int} : totsOf hands [] [] = List.replicate hands.toNat 0 := by
  refine List.ext_getElem? fun k => ?_
  by_cases hk : k < hands.toNat
  · rw [totsOf_at (by omega), List.getElem?_replicate, if_pos hk]
    rfl
  · rw [List.getElem?_eq_none (by rw [totsOf_len]; omega), List.getElem?_eq_none (by rw [List.length_replicate]; omega)]

/-- a lead by signs -/
def leadBy (sg ws : List Int) : Int := ((sg.zip ws).map fun p => p.1 * p.2).sum
theorem leadBy_cons (s w : Int) (sg ws : List Int) : leadBy (s :: sg) (w :: ws) = s * w + leadBy sg ws := by
  unfold leadBy
  rw [List.zip_cons_cons, List.map_cons, List.sum_cons]
theorem tot_cons (t w h : Int) (row ws : List Int) : tot (t :: row) (w :: ws) h = (if t = h then w else 0) + tot row ws h := by
  unfold tot
  rw [List.zip_cons_cons, List.map_cons, List.sum_cons]
theorem lead_tot {a b : Int} (hab : a ≠ b) : ∀ row ws : List Int, leadBy (signsOf row a b) ws = tot row ws a - tot row ws b
  | [], ws => by simp [leadBy, signsOf, tot]
  | t :: r, [] => by simp [leadBy, tot]
  | t :: r, w :: ws => by
    have ih := lead_tot hab r ws
    show leadBy (signOf t a b :: signsOf r a b) (w :: ws) = _
    rw [leadBy_cons, tot_cons, tot_cons, ih]
    unfold signOf
    by_cases h1 : t = a
    · rw [if_pos h1, if_pos h1, if_neg (fun z => hab (h1.symm.trans z))]
      omega
    · by_cases h2 : t = b
      · rw [if_neg h1, if_pos h2, if_neg h1, if_pos h2]
        omega
      · rw [if_neg h1, if_neg h2, if_neg h1, if_neg h2]
        omega
theorem erase_perm : ∀ (l : List Int) {i : Nat} (h : i < l.length), (l[i] :: l.eraseIdx i).Perm l
  | [], _, h => absurd h (Nat.not_lt_zero _)
  | a :: r, 0, _ => .refl _
  | a :: r, i + 1, h => (List.Perm.swap a (r[i]'(Nat.lt_of_succ_lt_succ h)) (r.eraseIdx i)).trans ((erase_perm r (Nat.lt_of_succ_lt_succ h)).cons a)
theorem erase_map : ∀ (l : List Int) (i : Nat), (l.map V.int).eraseIdx i = (l.eraseIdx i).map V.int
  | [], _ => rfl
  | a :: r, 0 => rfl
  | a :: r, i + 1 => by
    rw [List.map_cons, List.eraseIdx_cons_succ, erase_map r i, List.eraseIdx_cons_succ, List.map_cons]
/-- the numbers below m -/
def nums (m : Nat) : List Int := (List.range m).map fun (i : Nat) => (i : Int)
theorem nums_len (m : Nat) : (nums m).length = m := by rw [nums, List.length_map, List.length_range]
theorem nums_mem {m : Nat} {z : Int} : z ∈ nums m ↔ 0 ≤ z ∧ z < (m : Int) := by
  unfold nums
  rw [List.mem_map]
  constructor
  · rintro ⟨i, hi, e⟩
    rw [List.mem_range] at hi
    omega
  · rintro ⟨h1, h2⟩
    exact ⟨z.toNat, List.mem_range.mpr (by omega), by omega⟩
theorem nums_nodup (m : Nat) : (nums m).Nodup := List.Pairwise.map _ (fun x y h e => h (Int.ofNat.inj e)) List.nodup_range
/-- a row put into another one -/
def putL (hands : Int) (row other : List Int) : List Int := other.flatMap fun t => row.map fun x => (x + t) % hands
theorem putL_len (hands : Int) (row other : List Int) : (putL hands row other).length = other.length * row.length := by
  induction other with
  | nil => simp [putL]
  | cons t r ih =>
    show (row.map (fun x => (x + t) % hands) ++ putL hands row r).length = _
    rw [List.length_append, List.length_map, ih, List.length_cons, Nat.add_mul, Nat.one_mul, Nat.add_comm]
theorem putL_mem {hands : Int} (h : 0 < hands) {row other : List Int} : ∀ z ∈ putL hands row other, 0 ≤ z ∧ z < hands := by
  intro z hz
  obtain ⟨t, _, hz⟩ := List.mem_flatMap.mp hz
  obtain ⟨x, _, e⟩ := List.mem_map.mp hz
  rw [← e]
  exact ⟨Int.emod_nonneg _ (by omega), Int.emod_lt_of_pos _ h⟩
theorem putL_more (hands : Int) (row : List Int) {other : List Int} {i : Nat} {t : Int} (h : other[i]? = some t) : putL hands row (other.take (i + 1)) = putL hands row (other.take i) ++ row.map fun x => (x + t) % hands := by
  unfold putL
  rw [List.take_add_one, h, List.flatMap_append]
  congr 1
  show (row.map _) ++ [] = _
  rw [List.append_nil]
end Ly

/-! one answer of a reading; all that answer themselves -/
local macro_rules | `(tactic| walk_at "ar") => `(tactic| first | decide | omega | (simp only [List.length_map, List.length_append, List.length_cons, List.length_nil] <;> omega))
local macro_rules | `(tactic| walk_at "rd1") => `(tactic| first
  | (refine ⟨_, rfl, ?_⟩)
  | (refine ⟨_, _, rfl, rfl, ?_⟩)
  | (refine ⟨_, _, rfl, .inl (by assumption), ?_⟩)
  | (refine ⟨_, _, rfl, .inr (by assumption), ?_⟩)
  | (refine ⟨_, _, _, _, rfl, rfl, (by assumption), Ly.at_intI (by walk_at "ar") (by walk_at "ar"), ?_⟩)
  | (refine ⟨_, _, (rfl : [L2.V.int _, L2.V.int _] = [L2.V.int _, L2.V.int _]), ?_⟩)
  | (refine And.intro rfl ?_)
  | (refine And.intro (by walk_at "ar") ?_)
  | (refine And.intro (And.intro (by walk_at "ar") (by walk_at "ar")) ?_)
  | (refine And.intro (Or.inr (And.intro (by decide) (by decide))) ?_)
  | (refine And.intro (Or.inl (And.intro (by decide) (by decide))) ?_))
local macro_rules | `(tactic| walk_at "rd") => `(tactic| repeat (walk_at "rd1"))

namespace Ev
open PySem PySem.Spec PyProof.Rows L2 RZ Ly
def topS (i : Nat) : Stmt := PySem.Challenge.pw_evenrows_k01_whole_totals.main.body.getD i (.Pass ⟨0, 0, 0, 0⟩)
abbrev S__law_cell_at : Stmt := topS 29
theorem sc__law_cell_at : FnScope ["_law_script", "_law_k", "_law_spare", "_law_again"] ["_law_script", "_law_k"] (defScope S__law_cell_at) := ⟨rfl, rfl, rfl, by decide +kernel, rfl, by decide +kernel, by decide +kernel⟩
abbrev S__law_mixed : Stmt := topS 30
theorem sc__law_mixed : FnScope ["_law_script", "_law_k", "_law_reach", "_law_spun"] ["_law_script", "_law_k", "_law_reach"] (defScope S__law_mixed) := ⟨rfl, rfl, rfl, by decide +kernel, rfl, by decide +kernel, by decide +kernel⟩
abbrev S__law_draw : Stmt := topS 31
theorem sc__law_draw : FnScope ["_law_script", "_law_town", "_law_reach"] ["_law_script", "_law_town", "_law_reach"] (defScope S__law_draw) := ⟨rfl, rfl, rfl, by decide +kernel, rfl, by decide +kernel, by decide +kernel⟩
abbrev S__law_signs_so : Stmt := topS 33
theorem sc__law_signs_so : FnScope ["_law_row", "_law_one", "_law_other", "_law_hand"] ["_law_row", "_law_one", "_law_other"] (defScope S__law_signs_so) := ⟨rfl, rfl, rfl, by decide +kernel, rfl, by decide +kernel, by decide +kernel⟩
abbrev S__law_lead_so : Stmt := topS 34
theorem sc__law_lead_so : FnScope ["_law_row", "_law_one", "_law_other", "_law_worths", "_law_sign", "_law_worth"] ["_law_row", "_law_one", "_law_other", "_law_worths"] (defScope S__law_lead_so) := ⟨rfl, rfl, rfl, by decide +kernel, rfl, by decide +kernel, by decide +kernel⟩
abbrev S__law_some_row : Stmt := topS 32
theorem sc__law_some_row : FnScope ["_law_script", "_law_town", "_law_hands", "_law_reach", "_law_place"] ["_law_script", "_law_town", "_law_hands", "_law_reach"] (defScope S__law_some_row) := ⟨rfl, rfl, rfl, by decide +kernel, rfl, by decide +kernel, by decide +kernel⟩
abbrev S_is_whole : Stmt := topS 10
theorem sc_is_whole : FnScope ["thing"] ["thing"] (defScope S_is_whole) := ⟨rfl, rfl, rfl, by decide +kernel, rfl, by decide +kernel, by decide +kernel⟩
abbrev S_is_from_to : Stmt := topS 11
theorem sc_is_from_to : FnScope ["thing", "least", "most"] ["thing", "least", "most"] (defScope S_is_from_to) := ⟨rfl, rfl, rfl, by decide +kernel, rfl, by decide +kernel, by decide +kernel⟩
abbrev S_check_hands : Stmt := topS 14
theorem sc_check_hands : FnScope ["hands"] ["hands"] (defScope S_check_hands) := ⟨rfl, rfl, rfl, by decide +kernel, rfl, by decide +kernel, by decide +kernel⟩
abbrev S_is_hand : Stmt := topS 12
theorem sc_is_hand : FnScope ["hands", "thing"] ["hands", "thing"] (defScope S_is_hand) := ⟨rfl, rfl, rfl, by decide +kernel, rfl, by decide +kernel, by decide +kernel⟩
abbrev S_fits_row : Stmt := topS 13
theorem sc_fits_row : FnScope ["hands", "thing", "turn"] ["hands", "thing"] (defScope S_fits_row) := ⟨rfl, rfl, rfl, by decide +kernel, rfl, by decide +kernel, by decide +kernel⟩
abbrev S_is_row : Stmt := topS 21
theorem sc_is_row : FnScope ["hands", "thing"] ["hands", "thing"] (defScope S_is_row) := ⟨rfl, rfl, rfl, by decide +kernel, rfl, by decide +kernel, by decide +kernel⟩
abbrev S_check_row : Stmt := topS 15
theorem sc_check_row : FnScope ["hands", "row"] ["hands", "row"] (defScope S_check_row) := ⟨rfl, rfl, rfl, by decide +kernel, rfl, by decide +kernel, by decide +kernel⟩
abbrev S_check_two_hands : Stmt := topS 17
theorem sc_check_two_hands : FnScope ["hands", "one", "other"] ["hands", "one", "other"] (defScope S_check_two_hands) := ⟨rfl, rfl, rfl, by decide +kernel, rfl, by decide +kernel, by decide +kernel⟩
abbrev S_check_two : Stmt := topS 16
theorem sc_check_two : FnScope ["hands", "row", "one", "other"] ["hands", "row", "one", "other"] (defScope S_check_two) := ⟨rfl, rfl, rfl, by decide +kernel, rfl, by decide +kernel, by decide +kernel⟩
abbrev S_check_worths : Stmt := topS 18
theorem sc_check_worths : FnScope ["worths", "worth"] ["worths"] (defScope S_check_worths) := ⟨rfl, rfl, rfl, by decide +kernel, rfl, by decide +kernel, by decide +kernel⟩
abbrev S_check_worths_of : Stmt := topS 19
theorem sc_check_worths_of : FnScope ["row", "worths"] ["row", "worths"] (defScope S_check_worths_of) := ⟨rfl, rfl, rfl, by decide +kernel, rfl, by decide +kernel, by decide +kernel⟩
abbrev S_totals_of : Stmt := topS 27
theorem sc_totals_of : FnScope ["hands", "row", "worths", "found", "turn", "worth"] ["hands", "row", "worths"] (defScope S_totals_of) := ⟨rfl, rfl, rfl, by decide +kernel, rfl, by decide +kernel, by decide +kernel⟩
abbrev S_lead : Stmt := topS 24
theorem sc_lead : FnScope ["hands", "row", "one", "other", "worths", "found"] ["hands", "row", "one", "other", "worths"] (defScope S_lead) := ⟨rfl, rfl, rfl, by decide +kernel, rfl, by decide +kernel, by decide +kernel⟩
abbrev S_sign_of : Stmt := topS 26
theorem sc_sign_of : FnScope ["turn", "one", "other"] ["turn", "one", "other"] (defScope S_sign_of) := ⟨rfl, rfl, rfl, by decide +kernel, rfl, by decide +kernel, by decide +kernel⟩
abbrev S_signs_of : Stmt := topS 25
theorem sc_signs_of : FnScope ["row", "one", "other", "turn"] ["row", "one", "other"] (defScope S_signs_of) := ⟨rfl, rfl, rfl, by decide +kernel, rfl, by decide +kernel, by decide +kernel⟩
abbrev S_signs : Stmt := topS 22
theorem sc_signs : FnScope ["hands", "row", "one", "other"] ["hands", "row", "one", "other"] (defScope S_signs) := ⟨rfl, rfl, rfl, by decide +kernel, rfl, by decide +kernel, by decide +kernel⟩
abbrev S_totals : Stmt := topS 23
theorem sc_totals : FnScope ["hands", "row", "worths"] ["hands", "row", "worths"] (defScope S_totals) := ⟨rfl, rfl, rfl, by decide +kernel, rfl, by decide +kernel, by decide +kernel⟩
abbrev S_law : Stmt := topS 35
theorem sc_law : FnScope ["_law_script", "_law_town", "_law_hands", "_law_row", "_law_worths", "_law_made", "_law_due", "_law_one", "_law_other", "_law_own", "_law_place", "_law_hand", "_law_turn", "_law_worth"] ["_law_script"] (defScope S_law) := ⟨rfl, rfl, rfl, by decide +kernel, rfl, by decide +kernel, by decide +kernel⟩
/-- what the top has left, by names -/
structure Txt (K : PySem.W.Frag) (mg : Str → Option Value) : Prop where
  f__law_cell_at : At K mg "_law_cell_at" S__law_cell_at []
  f__law_mixed : At K mg "_law_mixed" S__law_mixed []
  f__law_draw : At K mg "_law_draw" S__law_draw []
  f__law_signs_so : At K mg "_law_signs_so" S__law_signs_so []
  f__law_lead_so : At K mg "_law_lead_so" S__law_lead_so []
  f__law_some_row : At K mg "_law_some_row" S__law_some_row []
  f_is_whole : At K mg "is_whole" S_is_whole []
  f_is_from_to : At K mg "is_from_to" S_is_from_to []
  f_check_hands : At K mg "check_hands" S_check_hands []
  f_is_hand : At K mg "is_hand" S_is_hand []
  f_fits_row : At K mg "fits_row" S_fits_row []
  f_is_row : At K mg "is_row" S_is_row []
  f_check_row : At K mg "check_row" S_check_row []
  f_check_two_hands : At K mg "check_two_hands" S_check_two_hands []
  f_check_two : At K mg "check_two" S_check_two []
  f_check_worths : At K mg "check_worths" S_check_worths []
  f_check_worths_of : At K mg "check_worths_of" S_check_worths_of []
  f_totals_of : At K mg "totals_of" S_totals_of []
  f_lead : At K mg "lead" S_lead []
  f_sign_of : At K mg "sign_of" S_sign_of []
  f_signs_of : At K mg "signs_of" S_signs_of []
  f_signs : At K mg "signs" S_signs []
  f_totals : At K mg "totals" S_totals []
  b_all : mg "all" = none
  b_bool : mg "bool" = none
  b_int : mg "int" = none
  b_isinstance : mg "isinstance" = none
  b_len : mg "len" = none
  b_min : mg "min" = none
  b_range : mg "range" = none
  b_sum : mg "sum" = none
  b_tuple : mg "tuple" = none
  b_zip : mg "zip" = none
  k_FEWEST_HANDS : ∃ t, mg "FEWEST_HANDS" = some (.int (2) t)
  k_MOST_HANDS : ∃ t, mg "MOST_HANDS" = some (.int (4) t)
  k_MOST_PLACES : ∃ t, mg "MOST_PLACES" = some (.int (64) t)
section
variable {P : Program} {w : World} {K : PySem.W.Frag} {mg : Str → Option Value} {base : Heap}

/-! _law_cell_at -/
/-- some whole number -/
def sp__law_cell_at (K : PySem.W.Frag) : Sp := fun vs H Q _ => ∃ (a : Addr) (ns : List Int) (k : Nat), vs = [.ref a, .int (k : Int)] ∧ SqL K H a (ns.map V.int) ∧ ns.length ≤ 63 ∧ ∀ (z : Int) (H' : Hp), Same H H' → Q (.int z) H'
theorem c__law_cell_at (T : Txt K mg) : Cal P w K mg base 1 "_law_cell_at" ["_law_script", "_law_k"] (sp__law_cell_at K) := by
  refine T.f__law_cell_at.cal sc__law_cell_at (fun _ _ _ _ _ _ us hl => match us, hl with | [_, _], _ => rfl) (fun vs H Q E h => by first | (obtain ⟨_, rfl, _⟩ := h; rfl) | (obtain ⟨_, _, rfl, _⟩ := h; rfl) | (obtain ⟨_, _, _, rfl, _⟩ := h; rfl) | (obtain ⟨_, _, _, _, rfl, _⟩ := h; rfl) | (obtain ⟨_, _, _, _, _, rfl, _⟩ := h; rfl) | (obtain ⟨_, _, _, _, _, _, rfl, _⟩ := h; rfl) | (obtain ⟨_, _, _, _, _, _, _, rfl, _⟩ := h; rfl) | (obtain ⟨_, _, _, _, _, _, _, _, rfl, _⟩ := h; rfl) | (obtain ⟨_, _, _, _, _, _, _, _, _, rfl, _⟩ := h; rfl) | (obtain ⟨_, _, _, _, _, _, _, _, _, _, rfl, _⟩ := h; rfl) | (obtain ⟨_, _, _, _, _, _, _, _, _, _, _, rfl, _⟩ := h; rfl) | (obtain ⟨_, _, _, _, _, _, _, _, _, _, _, _, rfl, _⟩ := h; rfl) | (obtain ⟨_, _, _, _, _, _, _, _, _, _, _, _, _, rfl, _⟩ := h; rfl)) (fun cdv A outer s H vs Q E f hr h => ?_)
  obtain ⟨a, ns, k, rfl, hS, hl, q⟩ := h
  refine ⟨_, (pss_cons (ps_if (pt_cmpR op_lt (pv 1) (pe_callB (kz_len (K := K)) (by rfl) T.b_len bt_len (pa_cons (pv 0) pa_nil)) (nomark _)) (pss_one (ps_ret (pe_ix (kz_ixL (K := K)) (pv 0) (pv 1) (fun _ _ => rfl)))) pss_nil)
    (pss_cons (ps_if (pt_cmpR (kz_eqD (K := K) hr.units) (pv 0) (pe_lst pa_nil) (nomark _)) (pss_one (ps_ret pe_int)) pss_nil)
    (pss_cons (ps_set (i := 2) sc__law_cell_at.nd rfl (.inl rfl) (pe_ix (kz_ixL (K := K)) (pv 0) (pe_op op_mod (pv 1) (pe_callB (kz_len (K := K)) (by rfl) T.b_len bt_len (pa_cons (pv 0) pa_nil))) (fun _ _ => rfl)))
    (pss_cons (ps_for PassesOwn.never rfl (pi_range1 (by rfl) T.b_range (pa_cons (pe_callB (call_min2 rfl) (by rfl) T.b_min bt_min (pa_cons (pe_op op_fdiv (pv 1) (pe_callB (kz_len (K := K)) (by rfl) T.b_len bt_len (pa_cons (pv 0) pa_nil))) (pa_cons pe_int pa_nil))) pa_nil)) (pg_name (i := 3) sc__law_cell_at.nd rfl (.inl rfl)) (pss_one (ps_set (i := 2) sc__law_cell_at.nd rfl (.inl rfl) (pe_op op_fdiv (pv 2) pe_int))))
    (pss_one (ps_ret (pe_op op_add (pe_op op_add (pe_op op_mul (pe_ix (kz_ixL (K := K)) (pv 0) (pe_op op_mod (pv 1) (pe_callB (kz_len (K := K)) (by rfl) T.b_len bt_len (pa_cons (pv 0) pa_nil))) (fun _ _ => rfl)) pe_int) (pv 1)) (pe_op op_mul (pv 2) pe_int)))))))), ?_⟩
  walk_at "rd"
  refine ite2 (fun c => ?_) (fun c => ?_)
  · have hk : k < ns.length := by simpa using c
    walk_at "rd"
    exact q _ _ (L2.Same.refl H)
  · walk_at "rd"
    refine fun p np => eqL0 (seqL (same_new np) hS) upd_same ?_
    have sm : Same H (upd H p (.lst [])) := same_new np
    have hS2 := seqL sm hS
    walk_at "rd"
    refine ite2 (fun c => q _ _ sm) (fun c => ?_)
    have h0 : ns ≠ [] := fun z => c (decide_eq_true z)
    have h1 : 0 < ns.length := List.length_pos_iff.mpr h0
    have g : 0 ≤ (k : Int) % (ns.length : Int) ∧ (k : Int) % (ns.length : Int) < (ns.length : Int) := ⟨Int.emod_nonneg _ (by omega), Int.emod_lt_of_pos _ (by omega)⟩
    have g2 : 0 ≤ (k : Int) / (ns.length : Int) := Int.ediv_nonneg (by omega) (by omega)
    walk_at "rd"
    refine for_range (fun _ σ H' => ∃ (z : Int) (y : Option V), σ = [some (.ref a), some (.int (k : Int)), some (.int z), y] ∧ H' = upd H p (.lst [])) ⟨_, none, rfl, rfl⟩ ?_ ?_
    · rintro i σ H' _ ⟨z, y, rfl, rfl⟩
      exact ⟨_, rfl, _, _, rfl, rfl, ⟨by decide, by decide⟩, _, _, rfl, rfl⟩
    · rintro σ H' ⟨z, y, rfl, rfl⟩
      walk_at "rd"
      exact q _ _ sm

/-! _law_mixed -/
/-- a whole number from 0 to below the reach -/
def sp__law_mixed (K : PySem.W.Frag) : Sp := fun vs H Q _ => ∃ (a : Addr) (ns : List Int) (k : Nat) (r : Int), vs = [.ref a, .int (k : Int), .int r] ∧ SqL K H a (ns.map V.int) ∧ ns.length ≤ 63 ∧ 0 < r ∧
  ∀ (z : Int) (H' : Hp), 0 ≤ z → z < r → Same H H' → Q (.int z) H'
theorem c__law_mixed (T : Txt K mg) : Cal P w K mg base 2 "_law_mixed" ["_law_script", "_law_k", "_law_reach"] (sp__law_mixed K) := by
  refine T.f__law_mixed.cal sc__law_mixed (fun _ _ _ _ _ _ us hl => match us, hl with | [_, _, _], _ => rfl) (fun vs H Q E h => by first | (obtain ⟨_, rfl, _⟩ := h; rfl) | (obtain ⟨_, _, rfl, _⟩ := h; rfl) | (obtain ⟨_, _, _, rfl, _⟩ := h; rfl) | (obtain ⟨_, _, _, _, rfl, _⟩ := h; rfl) | (obtain ⟨_, _, _, _, _, rfl, _⟩ := h; rfl) | (obtain ⟨_, _, _, _, _, _, rfl, _⟩ := h; rfl) | (obtain ⟨_, _, _, _, _, _, _, rfl, _⟩ := h; rfl) | (obtain ⟨_, _, _, _, _, _, _, _, rfl, _⟩ := h; rfl) | (obtain ⟨_, _, _, _, _, _, _, _, _, rfl, _⟩ := h; rfl) | (obtain ⟨_, _, _, _, _, _, _, _, _, _, rfl, _⟩ := h; rfl) | (obtain ⟨_, _, _, _, _, _, _, _, _, _, _, rfl, _⟩ := h; rfl) | (obtain ⟨_, _, _, _, _, _, _, _, _, _, _, _, rfl, _⟩ := h; rfl) | (obtain ⟨_, _, _, _, _, _, _, _, _, _, _, _, _, rfl, _⟩ := h; rfl)) (fun cdv A outer s H vs Q E f hr h => ?_)
  obtain ⟨a, ns, k, r, rfl, hS, hl, hr0, q⟩ := h
  refine ⟨_, (pss_cons (ps_set (i := 3) sc__law_mixed.nd rfl (.inl rfl) (pe_op op_mod (pe_op op_add (pe_op op_add (pe_op op_mul (pe_cal (c__law_cell_at T) hr (by decide) (pa_cons (pv 0) (pa_cons (pv 1) pa_nil))) pe_int) (pe_op op_mul pe_int (pv 1))) pe_int) pe_int))
    (pss_one (ps_ret (pe_op op_mod (pe_op op_mod (pe_op op_mod (pe_op op_pow (pv 3) pe_int) pe_int) pe_int) (pv 2))))), ?_⟩
  walk_at "rd"
  refine ⟨a, ns, k, rfl, hS, hl, fun z H' sm => ?_⟩
  have g : ∀ x : Int, 0 ≤ x % 2147483647 ∧ x % 2147483647 < 2147483647 := fun x => ⟨Int.emod_nonneg _ (by decide), Int.emod_lt_of_pos _ (by decide)⟩
  have := g (z * 1103515245 + 7919 * (k : Int) + 12345)
  walk_at "rd"
  exact q _ _ (Int.emod_nonneg _ (by omega)) (Int.emod_lt_of_pos _ hr0) sm

/-! _law_draw -/
/-- the town grows by one; a whole number from 0 to below the reach -/
def sp__law_draw (K : PySem.W.Frag) : Sp := fun vs H Q _ => ∃ (a b : Addr) (ns : List Int) (n : Nat) (r : Int), vs = [.ref a, .ref b, .int r] ∧ Scr K H b a ns ∧ Town b n H ∧ n < 90000 ∧ 0 < r ∧
  ∀ (z : Int) (H' : Hp), 0 ≤ z → z < r → But b H H' → Town b (n + 1) H' → Q (.int z) H'
theorem c__law_draw (T : Txt K mg) : Cal P w K mg base 3 "_law_draw" ["_law_script", "_law_town", "_law_reach"] (sp__law_draw K) := by
  refine T.f__law_draw.cal sc__law_draw (fun _ _ _ _ _ _ us hl => match us, hl with | [_, _, _], _ => rfl) (fun vs H Q E h => by first | (obtain ⟨_, rfl, _⟩ := h; rfl) | (obtain ⟨_, _, rfl, _⟩ := h; rfl) | (obtain ⟨_, _, _, rfl, _⟩ := h; rfl) | (obtain ⟨_, _, _, _, rfl, _⟩ := h; rfl) | (obtain ⟨_, _, _, _, _, rfl, _⟩ := h; rfl) | (obtain ⟨_, _, _, _, _, _, rfl, _⟩ := h; rfl) | (obtain ⟨_, _, _, _, _, _, _, rfl, _⟩ := h; rfl) | (obtain ⟨_, _, _, _, _, _, _, _, rfl, _⟩ := h; rfl) | (obtain ⟨_, _, _, _, _, _, _, _, _, rfl, _⟩ := h; rfl) | (obtain ⟨_, _, _, _, _, _, _, _, _, _, rfl, _⟩ := h; rfl) | (obtain ⟨_, _, _, _, _, _, _, _, _, _, _, rfl, _⟩ := h; rfl) | (obtain ⟨_, _, _, _, _, _, _, _, _, _, _, _, rfl, _⟩ := h; rfl) | (obtain ⟨_, _, _, _, _, _, _, _, _, _, _, _, _, rfl, _⟩ := h; rfl)) (fun cdv A outer s H vs Q E f hr h => ?_)
  obtain ⟨a, b, ns, n, r, rfl, hS, ⟨xs, hb, hx⟩, hn, hr0, q⟩ := h
  refine ⟨_, (pss_cons (ps_expr (pe_bm PySem.F.plainAttrs_list PySem.F.slot_list_append PySem.F.type_list_append mt_append (pv 1) (pa_cons pe_int pa_nil)))
    (pss_one (ps_ret (pe_cal (c__law_mixed T) hr (by decide) (pa_cons (pv 0) (pa_cons (pe_callB (kz_len (K := K)) (by rfl) T.b_len bt_len (pa_cons (pv 1) pa_nil)) (pa_cons (pv 2) pa_nil))))))), ?_⟩
  refine ⟨_, rfl, .inl ⟨rfl, _, .inl (.inl hb)⟩, b, xs, _, rfl, rfl, hb, szl (by omega), ?_⟩
  have hS2 : Scr K (upd H b (.lst (xs ++ [V.int 0]))) b a ns := hS.but But.at
  refine ⟨_, rfl, _, rfl, _, _, rfl, .inl (.inl (.inl upd_same)), ?_⟩
  refine ⟨_, rfl, a, ns, (xs ++ [V.int 0]).length, r, rfl, hS2.sq, hS2.1, hr0, fun z H' z0 zr sm => q z H' z0 zr (But.at.same sm) ⟨_, sm _ _ upd_same, ?_⟩⟩
  rw [List.length_append]
  show xs.length + 1 ≤ n + 1
  omega

/-! _law_signs_so -/
def sp__law_signs_so (K : PySem.W.Frag) : Sp := fun vs H Q _ => ∃ (r : Addr) (row : List Int) (a b : Int), vs = [.ref r, .int a, .int b] ∧ SqT K H r (row.map V.int) ∧ row.length ≤ 100000 ∧ a ≠ b ∧
  ∀ (p : Addr) (H' : Hp), H p = none → Same H H' → H' p = some (.lst ((signsOf row a b).map V.int)) → Q (.ref p) H'
theorem c__law_signs_so (T : Txt K mg) : Cal P w K mg base 1 "_law_signs_so" ["_law_row", "_law_one", "_law_other"] (sp__law_signs_so K) := by
  refine T.f__law_signs_so.cal sc__law_signs_so (fun _ _ _ _ _ _ us hl => match us, hl with | [_, _, _], _ => rfl) (fun vs H Q E h => by first | (obtain ⟨_, rfl, _⟩ := h; rfl) | (obtain ⟨_, _, rfl, _⟩ := h; rfl) | (obtain ⟨_, _, _, rfl, _⟩ := h; rfl) | (obtain ⟨_, _, _, _, rfl, _⟩ := h; rfl) | (obtain ⟨_, _, _, _, _, rfl, _⟩ := h; rfl) | (obtain ⟨_, _, _, _, _, _, rfl, _⟩ := h; rfl) | (obtain ⟨_, _, _, _, _, _, _, rfl, _⟩ := h; rfl) | (obtain ⟨_, _, _, _, _, _, _, _, rfl, _⟩ := h; rfl) | (obtain ⟨_, _, _, _, _, _, _, _, _, rfl, _⟩ := h; rfl) | (obtain ⟨_, _, _, _, _, _, _, _, _, _, rfl, _⟩ := h; rfl) | (obtain ⟨_, _, _, _, _, _, _, _, _, _, _, rfl, _⟩ := h; rfl) | (obtain ⟨_, _, _, _, _, _, _, _, _, _, _, _, rfl, _⟩ := h; rfl) | (obtain ⟨_, _, _, _, _, _, _, _, _, _, _, _, _, rfl, _⟩ := h; rfl)) (fun cdv A outer s H vs Q E f hr h => ?_)
  obtain ⟨r, row, a, b, rfl, hS, hl, hab, q⟩ := h
  refine ⟨_, (pss_one (ps_ret (pe_lc (own := [("_law_hand", 3)]) (g := (gName 3)) (tt := tYes) rfl sc__law_signs_so.nd (kz_piT (K := K) (pv 0)) (blkOk_by (own := [("_law_hand", 3)]) (N := ["_law_row", "_law_one", "_law_other", "_law_hand"]) (sc := defScope S__law_signs_so) (by decide +kernel)) (fun _ _ _ _ _ => (pg_name (i := 3) sc__law_signs_so.nd rfl (.inl rfl))) (fun _ _ _ _ _ => pts_nil) (fun _ _ _ _ _ => (pe_dget2 (hu_of hr) (pe_disp (pps_cons (pv 1) pe_int (pps_cons (pv 2) (pe_un un_neg pe_int) pps_nil)) (by rfl) (by rfl) (fun z => by cases z) (by decide)) (pv 3) pe_int m2_of))))), ?_⟩
  refine ⟨_, rfl, _, rfl, ⟨_, hS⟩, fun D nD => ?_⟩
  refine lcp walk_tup nD (fun i => ((signsOf row a b).map V.int).take i) rfl (fun i _ => ?_) (fun H2 s2 => seqT s2 hS) ?_ ?_
  · rw [List.length_take, List.length_map, signsOf_len]
    omega
  · rintro i x H2 H' R N hi s2 ⟨rfl, hx⟩ k _
    obtain ⟨t, ht, rfl⟩ := map_at hx
    refine ⟨rfl, fun p np => ?_⟩
    walk_at "rd"
    refine ⟨upd_same, [(.inl a, .int 1), (.inl b, .int (-1))], rfl, Nat.le_of_ble_eq_true rfl, ?_⟩
    refine ⟨p, rfl, .inl ⟨_, .inl upd_same⟩, ?_⟩
    walk_at "rd"
    refine ⟨_, .inl ⟨_, .inl t, .inl upd_same, rfl, rfl⟩, k _ _ (fun c o hc => ?_) ?_⟩
    · have ne : c ≠ p := ne_of_none hc np
      rw [upd_ne ne, upd_ne ne]
      exact hc
    · rw [List.take_add_one, List.getElem?_map, signsOf, List.getElem?_map, ht]
      have e : (valV (mergeK [] [(.inl a, .int 1), (.inl b, .int (-1))]) (Sum.inl t : Key)).getD (.int 0) = V.int (signOf t a b) := by
        show (valV (putK (putK [] (Sum.inl a) (.int 1)) (Sum.inl b) (.int (-1))) (Sum.inl t : Key)).getD (.int 0) = _
        rw [valV_put, valV_put, valV_nil, signOf]
        by_cases c1 : t = a
        · have c2 : ¬ (Sum.inl t : Key) = Sum.inl b := fun z => hab (c1.symm.trans (Sum.inl.inj z))
          rw [if_neg c2, if_pos (congrArg Sum.inl c1), if_pos c1]
          rfl
        · have c3 : ¬ (Sum.inl t : Key) = Sum.inl a := fun z => c1 (Sum.inl.inj z)
          rw [if_neg c1, if_neg c3]
          by_cases c2 : t = b
          · rw [if_pos c2, if_pos (congrArg Sum.inl c2)]
            rfl
          · rw [if_neg c2, if_neg (fun z => c2 (Sum.inl.inj z))]
            rfl
      rw [e]
      rfl
  · intro H2 s2 hD
    refine q D H2 nD s2 ?_
    rw [hD, List.take_of_length_le]
    rw [List.length_map, signsOf_len, List.length_map]
    exact Nat.le_refl _

/-! _law_lead_so -/
def sp__law_lead_so (K : PySem.W.Frag) : Sp := fun vs H Q _ => ∃ (r u : Addr) (row ws : List Int) (a b : Int), vs = [.ref r, .int a, .int b, .ref u] ∧ SqT K H r (row.map V.int) ∧ SqT K H u (ws.map V.int) ∧ row.length ≤ 100000 ∧ ws.length = row.length ∧ a ≠ b ∧
  ∀ H', Same H H' → Q (.int (leadBy (signsOf row a b) ws)) H'
theorem c__law_lead_so (T : Txt K mg) : Cal P w K mg base 2 "_law_lead_so" ["_law_row", "_law_one", "_law_other", "_law_worths"] (sp__law_lead_so K) := by
  refine T.f__law_lead_so.cal sc__law_lead_so (fun _ _ _ _ _ _ us hl => match us, hl with | [_, _, _, _], _ => rfl) (fun vs H Q E h => by first | (obtain ⟨_, rfl, _⟩ := h; rfl) | (obtain ⟨_, _, rfl, _⟩ := h; rfl) | (obtain ⟨_, _, _, rfl, _⟩ := h; rfl) | (obtain ⟨_, _, _, _, rfl, _⟩ := h; rfl) | (obtain ⟨_, _, _, _, _, rfl, _⟩ := h; rfl) | (obtain ⟨_, _, _, _, _, _, rfl, _⟩ := h; rfl) | (obtain ⟨_, _, _, _, _, _, _, rfl, _⟩ := h; rfl) | (obtain ⟨_, _, _, _, _, _, _, _, rfl, _⟩ := h; rfl) | (obtain ⟨_, _, _, _, _, _, _, _, _, rfl, _⟩ := h; rfl) | (obtain ⟨_, _, _, _, _, _, _, _, _, _, rfl, _⟩ := h; rfl) | (obtain ⟨_, _, _, _, _, _, _, _, _, _, _, rfl, _⟩ := h; rfl) | (obtain ⟨_, _, _, _, _, _, _, _, _, _, _, _, rfl, _⟩ := h; rfl) | (obtain ⟨_, _, _, _, _, _, _, _, _, _, _, _, _, rfl, _⟩ := h; rfl)) (fun cdv A outer s H vs Q E f hr h => ?_)
  obtain ⟨r, u, row, ws, a, b, rfl, hS, hU, hl, he, hab, q⟩ := h
  refine ⟨_, (pss_one (ps_ret (pe_callB (kz_sum (K := K) rfl) (by rfl) T.b_sum bt_sum (pa_cons (pe_lc (own := [("_law_sign", 4), ("_law_worth", 5)]) (g := (gTup K 2 (gCons (gName 4) (gCons (gName 5) gNil)))) (tt := tYes) rfl sc__law_lead_so.nd (kz_zipLT (K := K) (by rfl) T.b_zip (pa_cons (pe_cal (c__law_signs_so T) hr (by decide) (pa_cons (pv 0) (pa_cons (pv 1) (pa_cons (pv 2) pa_nil)))) (pa_cons (pv 3) pa_nil))) (blkOk_by (own := [("_law_sign", 4), ("_law_worth", 5)]) (N := ["_law_row", "_law_one", "_law_other", "_law_worths", "_law_sign", "_law_worth"]) (sc := defScope S__law_lead_so) (by decide +kernel)) (fun _ _ _ _ _ => (kz_gtup (K := K) 2 rfl (pgs_cons (pg_name (i := 4) sc__law_lead_so.nd rfl (.inl rfl)) (pgs_cons (pg_name (i := 5) sc__law_lead_so.nd rfl (.inl rfl)) pgs_nil)))) (fun _ _ _ _ _ => pts_nil) (fun _ _ _ _ _ => (pe_op op_mul (pv 4) (pv 5)))) pa_nil)))), ?_⟩
  walk_at "rd"
  refine ⟨r, row, a, b, rfl, hS, hl, hab, fun p H2 np s2 hp => ?_⟩
  have hU2 := seqT s2 hU
  refine ⟨_, rfl, p, u, _, _, rfl, .inl (.inl hp), hU2, fun D nD => ?_⟩
  have lz : (((signsOf row a b).zip ws).map fun p => V.int (p.1 * p.2)).length = row.length := by
    rw [List.length_map, List.length_zip, signsOf_len]
    omega
  refine lcp (walk_zipLT (n := row.length) (xs := (signsOf row a b).map V.int) (ys := ws.map V.int) (by rw [List.length_map, List.length_map, signsOf_len]; omega)) nD (fun i => (((signsOf row a b).zip ws).map fun p => V.int (p.1 * p.2)).take i) rfl (fun i _ => ?_)
    (fun H3 s3 => ⟨.inl (.inl (s3 _ _ hp)), seqT s3 hU2⟩) ?_ ?_
  · rw [List.length_take, lz]
    omega
  · rintro i x H3 H' R N hi s3 ⟨T1, v1, v2, rfl, nT, rfl, h1, h2⟩ k _
    obtain ⟨s, hs, rfl⟩ := map_at h1
    obtain ⟨w1, hw, rfl⟩ := map_at h2
    have sb : s = 1 ∨ s = -1 ∨ s = 0 := by
      obtain ⟨t, _, e⟩ := List.mem_map.mp (List.mem_of_getElem? hs)
      rw [← e]
      exact signOf_small t a b
    refine ⟨T1, _, rfl, .inl (.inl upd_same), rfl, _, _, rfl, _, _, rfl, rfl, rfl, ?_⟩
    refine ⟨_, rfl, _, rfl, _, _, rfl, rfl, .inl ⟨by omega, by omega⟩, k _ _ (same_new nT) ?_⟩
    rw [List.take_add_one, List.getElem?_map, (List.getElem?_zip_eq_some (z := (s, w1))).mpr ⟨hs, hw⟩]
    rfl
  · intro H3 s3 hD
    refine ⟨D, ((signsOf row a b).zip ws).map fun (p : Int × Int) => p.1 * p.2, rfl, ?_, q _ (s2.trans s3)⟩
    rw [List.take_of_length_le (by rw [lz]; exact Nat.le_refl _)] at hD
    rw [List.map_map]
    exact .inl (.inl hD)

/-! _law_some_row -/
/-- a new tuple of hands, of so many places at most -/
def sp__law_some_row (K : PySem.W.Frag) : Sp := fun vs H Q _ => ∃ (a b : Addr) (ns : List Int) (n : Nat) (h r : Int), vs = [.ref a, .ref b, .int h, .int r] ∧ Scr K H b a ns ∧ Town b n H ∧ n < 80000 ∧ 0 < h ∧ 0 < r ∧ r < 1000 ∧
  ∀ (p : Addr) (row : List Int) (H' : Hp), row ≠ [] → (row.length : Int) ≤ r → (∀ z ∈ row, 0 ≤ z ∧ z < h) → p ≠ b → H p = none → H' p = some (.tup (row.map V.int)) → But b H H' → Town b (n + 1001) H' → Q (.ref p) H'
theorem c__law_some_row (T : Txt K mg) : Cal P w K mg base 4 "_law_some_row" ["_law_script", "_law_town", "_law_hands", "_law_reach"] (sp__law_some_row K) := by
  refine T.f__law_some_row.cal sc__law_some_row (fun _ _ _ _ _ _ us hl => match us, hl with | [_, _, _, _], _ => rfl) (fun vs H Q E h => by first | (obtain ⟨_, rfl, _⟩ := h; rfl) | (obtain ⟨_, _, rfl, _⟩ := h; rfl) | (obtain ⟨_, _, _, rfl, _⟩ := h; rfl) | (obtain ⟨_, _, _, _, rfl, _⟩ := h; rfl) | (obtain ⟨_, _, _, _, _, rfl, _⟩ := h; rfl) | (obtain ⟨_, _, _, _, _, _, rfl, _⟩ := h; rfl) | (obtain ⟨_, _, _, _, _, _, _, rfl, _⟩ := h; rfl) | (obtain ⟨_, _, _, _, _, _, _, _, rfl, _⟩ := h; rfl) | (obtain ⟨_, _, _, _, _, _, _, _, _, rfl, _⟩ := h; rfl) | (obtain ⟨_, _, _, _, _, _, _, _, _, _, rfl, _⟩ := h; rfl) | (obtain ⟨_, _, _, _, _, _, _, _, _, _, _, rfl, _⟩ := h; rfl) | (obtain ⟨_, _, _, _, _, _, _, _, _, _, _, _, rfl, _⟩ := h; rfl) | (obtain ⟨_, _, _, _, _, _, _, _, _, _, _, _, _, rfl, _⟩ := h; rfl)) (fun cdv A outer s H vs Q E f hr h => ?_)
  obtain ⟨a, b, ns, n, h, r, rfl, hS, hT, hn, hh, hr0, hr1, q⟩ := h
  refine ⟨_, (pss_one (ps_ret (pe_callTy (kz_tuple (K := K)) (by rfl) T.b_tuple bt_tuple (pa_cons (pe_lc (own := [("_law_place", 4)]) (g := (gName 4)) (tt := tYes) rfl sc__law_some_row.nd (pi_range1 (by rfl) T.b_range (pa_cons (pe_op op_add pe_int (pe_cal (c__law_draw T) hr (by decide) (pa_cons (pv 0) (pa_cons (pv 1) (pa_cons (pv 3) pa_nil))))) pa_nil)) (blkOk_by (own := [("_law_place", 4)]) (N := ["_law_script", "_law_town", "_law_hands", "_law_reach", "_law_place"]) (sc := defScope S__law_some_row) (by decide +kernel)) (fun _ _ _ _ _ => (pg_name (i := 4) sc__law_some_row.nd rfl (.inl rfl))) (fun _ _ _ _ _ => pts_nil) (fun _ _ _ _ _ => (pe_cal (c__law_draw T) hr (by decide) (pa_cons (pv 0) (pa_cons (pv 1) (pa_cons (pv 2) pa_nil)))))) pa_nil)))), ?_⟩
  walk_at "rd"
  refine ⟨a, b, ns, n, r, rfl, hS, hT, by omega, hr0, fun z H1 z0 zr b1 t1 => ?_⟩
  walk_at "rd"
  intro D nD
  refine lct walk_range (fun z => 0 ≤ z ∧ z < h) (c := 1) t1 nD (by omega) (fun _ _ => trivial) ?_ ?_
  · rintro i x H2 H' R hi b2 t2 ⟨rfl, rfl⟩ k
    refine ⟨rfl, ?_⟩
    walk_at "rd"
    exact ⟨a, b, ns, n + 1 + 1 * i, h, rfl, hS.but (b1.trans b2), t2, by omega, hh, fun z H4 z0 zh b4 t4 => k z H4 ⟨z0, zh⟩ b4 (t4.le (by omega))⟩
  · intro zs H2 lz pz b2 t2 hD
    refine ⟨D, _, rfl, .inl ⟨.inl (.inl hD), fun p np => ?_⟩⟩
    have t3 : Town b (n + 1 + 1 * (1 + z).toNat) (upd H2 p (.tup (zs.map V.int))) := t2.same (same_new np)
    have npb : p ≠ b := t2.ne_new np
    refine q p zs _ (fun e => ?_) (by omega) pz npb (but_none (b1.trans b2) npb np) upd_same ((b1.trans b2).same (same_new np)) (t3.le (by omega))
    rw [e] at lz
    simp only [List.length_nil] at lz
    omega

/-! is_whole -/
def sp_is_whole (K : PySem.W.Frag) : Sp := fun vs H Q _ => ∃ (v : V) (b : Bool), vs = [v] ∧ Wh K H v b ∧ Q (.bl b) H
theorem c_is_whole (T : Txt K mg) : Cal P w K mg base 1 "is_whole" ["thing"] (sp_is_whole K) := by
  refine T.f_is_whole.cal sc_is_whole (fun _ _ _ _ _ _ us hl => match us, hl with | [_], _ => rfl) (fun vs H Q E h => by first | (obtain ⟨_, rfl, _⟩ := h; rfl) | (obtain ⟨_, _, rfl, _⟩ := h; rfl) | (obtain ⟨_, _, _, rfl, _⟩ := h; rfl) | (obtain ⟨_, _, _, _, rfl, _⟩ := h; rfl) | (obtain ⟨_, _, _, _, _, rfl, _⟩ := h; rfl) | (obtain ⟨_, _, _, _, _, _, rfl, _⟩ := h; rfl) | (obtain ⟨_, _, _, _, _, _, _, rfl, _⟩ := h; rfl) | (obtain ⟨_, _, _, _, _, _, _, _, rfl, _⟩ := h; rfl) | (obtain ⟨_, _, _, _, _, _, _, _, _, rfl, _⟩ := h; rfl) | (obtain ⟨_, _, _, _, _, _, _, _, _, _, rfl, _⟩ := h; rfl) | (obtain ⟨_, _, _, _, _, _, _, _, _, _, _, rfl, _⟩ := h; rfl) | (obtain ⟨_, _, _, _, _, _, _, _, _, _, _, _, rfl, _⟩ := h; rfl) | (obtain ⟨_, _, _, _, _, _, _, _, _, _, _, _, _, rfl, _⟩ := h; rfl)) (fun cdv A outer s H vs Q E f hr h => ?_)
  obtain ⟨v, b, rfl, hw, q⟩ := h
  refine ⟨_, (pss_one (ps_ret (pe_and (pe_callB (kz_isi (K := K)) (by rfl) T.b_isinstance bt_isinstance (pa_cons (pv 0) (pa_cons (pe_ty (by rfl) T.b_int bt_int) pa_nil))) (pe_one (pe_not (pe_callB (kz_isi (K := K)) (by rfl) T.b_isinstance bt_isinstance (pa_cons (pv 0) (pa_cons (pe_ty (by rfl) T.b_bool bt_bool) pa_nil)))))))), ?_⟩
  walk_at "rd"
  cases hw with
  | int i =>
    refine ⟨_, _, _, _, _, rfl, .ty _, .base (.int i), kit_ty kit_int_int, _, rfl, iteT ?_⟩
    walk_at "rd"
    exact ⟨_, _, _, _, _, rfl, .ty _, .base (.int i), kit_ty kit_int_bool, _, rfl, q⟩
  | bl b =>
    refine ⟨_, _, _, _, _, rfl, .ty _, .base (.bl b), kit_ty kit_bool_int, _, rfl, iteT ?_⟩
    walk_at "rd"
    exact ⟨_, _, _, _, _, rfl, .ty _, .base (.bl b), kit_ty kit_bool_bool, _, rfl, q⟩
  | no h k nb => exact ⟨_, _, _, _, _, rfl, .ty _, h, kit_ty k, _, rfl, iteF q⟩

/-! is_from_to -/
def sp_is_from_to (K : PySem.W.Frag) : Sp := fun vs H Q _ => ∃ (v : V) (lo hi : Int) (b : Bool), vs = [v, .int lo, .int hi] ∧ Wh K H v b ∧ Q (.bl (whB v lo hi)) H
theorem c_is_from_to (T : Txt K mg) : Cal P w K mg base 2 "is_from_to" ["thing", "least", "most"] (sp_is_from_to K) := by
  refine T.f_is_from_to.cal sc_is_from_to (fun _ _ _ _ _ _ us hl => match us, hl with | [_, _, _], _ => rfl) (fun vs H Q E h => by first | (obtain ⟨_, rfl, _⟩ := h; rfl) | (obtain ⟨_, _, rfl, _⟩ := h; rfl) | (obtain ⟨_, _, _, rfl, _⟩ := h; rfl) | (obtain ⟨_, _, _, _, rfl, _⟩ := h; rfl) | (obtain ⟨_, _, _, _, _, rfl, _⟩ := h; rfl) | (obtain ⟨_, _, _, _, _, _, rfl, _⟩ := h; rfl) | (obtain ⟨_, _, _, _, _, _, _, rfl, _⟩ := h; rfl) | (obtain ⟨_, _, _, _, _, _, _, _, rfl, _⟩ := h; rfl) | (obtain ⟨_, _, _, _, _, _, _, _, _, rfl, _⟩ := h; rfl) | (obtain ⟨_, _, _, _, _, _, _, _, _, _, rfl, _⟩ := h; rfl) | (obtain ⟨_, _, _, _, _, _, _, _, _, _, _, rfl, _⟩ := h; rfl) | (obtain ⟨_, _, _, _, _, _, _, _, _, _, _, _, rfl, _⟩ := h; rfl) | (obtain ⟨_, _, _, _, _, _, _, _, _, _, _, _, _, rfl, _⟩ := h; rfl)) (fun cdv A outer s H vs Q E f hr h => ?_)
  obtain ⟨v, lo, hi, b, rfl, hw, q⟩ := h
  refine ⟨_, (pss_one (ps_ret (pe_and (pe_cal (c_is_whole T) hr (by decide) (pa_cons (pv 0) pa_nil)) (pe_one (pe_chain op_le op_le (pv 1) (pv 0) (pv 2)))))), ?_⟩
  walk_at "rd"
  refine ⟨v, b, rfl, hw, _, rfl, ?_⟩
  rcases hw.cases_ with ⟨i, rfl, rfl⟩ | ⟨hv, rfl⟩
  · refine iteT ?_
    walk_at "rd"
    have e : whB (.int i) lo hi = (decide (lo ≤ i) && decide (i ≤ hi)) := Bool.decide_and ..
    rw [e] at q
    by_cases c : lo ≤ i
    · rw [decide_eq_true c] at q ⊢
      refine iteT ?_
      walk_at "rd"
      exact q
    · rw [decide_eq_false c] at q ⊢
      exact iteF q
  · rw [whB_no hv] at q
    exact iteF q

/-! check_hands -/
def sp_check_hands (K : PySem.W.Frag) : Sp := fun vs H Q _ => ∃ hands : Int, vs = [.int hands] ∧ 2 ≤ hands ∧ hands ≤ 4 ∧ Q .non H
theorem c_check_hands (T : Txt K mg) : Cal P w K mg base 3 "check_hands" ["hands"] (sp_check_hands K) := by
  refine T.f_check_hands.cal sc_check_hands (fun _ _ _ _ _ _ us hl => match us, hl with | [_], _ => rfl) (fun vs H Q E h => by first | (obtain ⟨_, rfl, _⟩ := h; rfl) | (obtain ⟨_, _, rfl, _⟩ := h; rfl) | (obtain ⟨_, _, _, rfl, _⟩ := h; rfl) | (obtain ⟨_, _, _, _, rfl, _⟩ := h; rfl) | (obtain ⟨_, _, _, _, _, rfl, _⟩ := h; rfl) | (obtain ⟨_, _, _, _, _, _, rfl, _⟩ := h; rfl) | (obtain ⟨_, _, _, _, _, _, _, rfl, _⟩ := h; rfl) | (obtain ⟨_, _, _, _, _, _, _, _, rfl, _⟩ := h; rfl) | (obtain ⟨_, _, _, _, _, _, _, _, _, rfl, _⟩ := h; rfl) | (obtain ⟨_, _, _, _, _, _, _, _, _, _, rfl, _⟩ := h; rfl) | (obtain ⟨_, _, _, _, _, _, _, _, _, _, _, rfl, _⟩ := h; rfl) | (obtain ⟨_, _, _, _, _, _, _, _, _, _, _, _, rfl, _⟩ := h; rfl) | (obtain ⟨_, _, _, _, _, _, _, _, _, _, _, _, _, rfl, _⟩ := h; rfl)) (fun cdv A outer s H vs Q E f hr h => ?_)
  obtain ⟨hands, rfl, h1, h2, q⟩ := h
  refine ⟨_, (pss_one (ps_if (pt_not (pt_val (pe_cal (c_is_from_to T) hr (by decide) (pa_cons (pv 0) (pa_cons (pe_kon T.k_FEWEST_HANDS) (pa_cons (pe_kon T.k_MOST_HANDS) pa_nil)))))) (pss_one ps_never) pss_nil)), ?_⟩
  walk_at "rd"
  refine ⟨.int hands, 2, 4, true, rfl, .int _, _, rfl, ?_⟩
  have e : whB (.int hands) 2 4 = true := decide_eq_true ⟨h1, h2⟩
  rw [e]
  exact iteF q

/-! is_hand -/
def sp_is_hand (K : PySem.W.Frag) : Sp := fun vs H Q _ => ∃ (v : V) (hands : Int) (b : Bool), vs = [.int hands, v] ∧ Wh K H v b ∧ Q (.bl (whB v 0 (hands - 1))) H
theorem c_is_hand (T : Txt K mg) : Cal P w K mg base 3 "is_hand" ["hands", "thing"] (sp_is_hand K) := by
  refine T.f_is_hand.cal sc_is_hand (fun _ _ _ _ _ _ us hl => match us, hl with | [_, _], _ => rfl) (fun vs H Q E h => by first | (obtain ⟨_, rfl, _⟩ := h; rfl) | (obtain ⟨_, _, rfl, _⟩ := h; rfl) | (obtain ⟨_, _, _, rfl, _⟩ := h; rfl) | (obtain ⟨_, _, _, _, rfl, _⟩ := h; rfl) | (obtain ⟨_, _, _, _, _, rfl, _⟩ := h; rfl) | (obtain ⟨_, _, _, _, _, _, rfl, _⟩ := h; rfl) | (obtain ⟨_, _, _, _, _, _, _, rfl, _⟩ := h; rfl) | (obtain ⟨_, _, _, _, _, _, _, _, rfl, _⟩ := h; rfl) | (obtain ⟨_, _, _, _, _, _, _, _, _, rfl, _⟩ := h; rfl) | (obtain ⟨_, _, _, _, _, _, _, _, _, _, rfl, _⟩ := h; rfl) | (obtain ⟨_, _, _, _, _, _, _, _, _, _, _, rfl, _⟩ := h; rfl) | (obtain ⟨_, _, _, _, _, _, _, _, _, _, _, _, rfl, _⟩ := h; rfl) | (obtain ⟨_, _, _, _, _, _, _, _, _, _, _, _, _, rfl, _⟩ := h; rfl)) (fun cdv A outer s H vs Q E f hr h => ?_)
  obtain ⟨v, hands, b, rfl, hw, q⟩ := h
  refine ⟨_, (pss_one (ps_ret (pe_cal (c_is_from_to T) hr (by decide) (pa_cons (pv 1) (pa_cons pe_int (pa_cons (pe_op op_sub (pv 0) pe_int) pa_nil)))))), ?_⟩
  walk_at "rd"
  exact ⟨v, 0, hands - 1, b, rfl, hw, q⟩

/-! fits_row -/
def fitsB (hands : Int) (xs : List V) : Bool := decide (1 ≤ xs.length ∧ xs.length ≤ 64) && xs.all fun x => whB x 0 (hands - 1)
theorem fitsB_row {hands : Int} {row : List Int} (h1 : row ≠ []) (h2 : row.length ≤ 64) (h3 : ∀ z ∈ row, 0 ≤ z ∧ z < hands) : fitsB hands (row.map V.int) = true := by
  have h1' : 0 < row.length := List.length_pos_iff.mpr h1
  unfold fitsB
  rw [Bool.and_eq_true]
  refine ⟨decide_eq_true (by rw [List.length_map]; omega), List.all_eq_true.mpr fun x hx => ?_⟩
  obtain ⟨z, hz, rfl⟩ := List.mem_map.mp hx
  have := h3 z hz
  exact decide_eq_true (by omega)
def sp_fits_row (K : PySem.W.Frag) : Sp := fun vs H Q _ => ∃ (hands : Int) (v : V), vs = [.int hands, v] ∧
  ((∃ n : String, TyX K H v (.type n) ∧ kitB n "tuple" = some false ∧ Q (.bl false) H) ∨
   ∃ (r : Addr) (xs : List V), v = .ref r ∧ SqT K H r xs ∧ xs.length ≤ 100000 ∧ (∀ x ∈ xs, ∃ b, ∀ H', Same H H' → Wh K H' x b) ∧ ∀ H', Same H H' → Q (.bl (fitsB hands xs)) H')
theorem c_fits_row (T : Txt K mg) : Cal P w K mg base 4 "fits_row" ["hands", "thing"] (sp_fits_row K) := by
  refine T.f_fits_row.cal sc_fits_row (fun _ _ _ _ _ _ us hl => match us, hl with | [_, _], _ => rfl) (fun vs H Q E h => by first | (obtain ⟨_, rfl, _⟩ := h; rfl) | (obtain ⟨_, _, rfl, _⟩ := h; rfl) | (obtain ⟨_, _, _, rfl, _⟩ := h; rfl) | (obtain ⟨_, _, _, _, rfl, _⟩ := h; rfl) | (obtain ⟨_, _, _, _, _, rfl, _⟩ := h; rfl) | (obtain ⟨_, _, _, _, _, _, rfl, _⟩ := h; rfl) | (obtain ⟨_, _, _, _, _, _, _, rfl, _⟩ := h; rfl) | (obtain ⟨_, _, _, _, _, _, _, _, rfl, _⟩ := h; rfl) | (obtain ⟨_, _, _, _, _, _, _, _, _, rfl, _⟩ := h; rfl) | (obtain ⟨_, _, _, _, _, _, _, _, _, _, rfl, _⟩ := h; rfl) | (obtain ⟨_, _, _, _, _, _, _, _, _, _, _, rfl, _⟩ := h; rfl) | (obtain ⟨_, _, _, _, _, _, _, _, _, _, _, _, rfl, _⟩ := h; rfl) | (obtain ⟨_, _, _, _, _, _, _, _, _, _, _, _, _, rfl, _⟩ := h; rfl)) (fun cdv A outer s H vs Q E f hr h => ?_)
  obtain ⟨hands, v, rfl, ⟨n, ht, hk, q⟩ | ⟨r, xs, rfl, hS, hl, hw, q⟩⟩ := h
  · refine ⟨_, (pss_cons (ps_if (pt_not (pt_val (pe_callB (kz_isi (K := K)) (by rfl) T.b_isinstance bt_isinstance (pa_cons (pv 1) (pa_cons (pe_ty (by rfl) T.b_tuple bt_tuple) pa_nil))))) (pss_one (ps_ret pe_bl)) pss_nil)
    (pss_cons (ps_if (pt_not (pt_chain op_le op_le pe_int (pe_callB (kz_len (K := K)) (by rfl) T.b_len bt_len (pa_cons (pv 1) pa_nil)) (pe_kon T.k_MOST_PLACES))) (pss_one (ps_ret pe_bl)) pss_nil)
    (pss_one (ps_ret (pe_callB (kz_all (K := K) rfl) (by rfl) T.b_all bt_all (pa_cons (pe_lc (own := [("turn", 2)]) (g := (gName 2)) (tt := tYes) rfl sc_fits_row.nd (kz_piT (K := K) (pv 1)) (blkOk_by (own := [("turn", 2)]) (N := ["hands", "thing", "turn"]) (sc := defScope S_fits_row) (by decide +kernel)) (fun _ _ _ _ _ => (pg_name (i := 2) sc_fits_row.nd rfl (.inl rfl))) (fun _ _ _ _ _ => pts_nil) (fun _ _ _ _ _ => (pe_cal (c_is_hand T) hr (by decide) (pa_cons (pv 0) (pa_cons (pv 2) pa_nil))))) pa_nil)))))), ?_⟩
    walk_at "rd"
    exact ⟨_, _, _, _, _, rfl, .ty _, ht, kit_ty hk, _, rfl, iteT q⟩
  · refine ⟨_, (pss_cons (ps_if (pt_not (pt_val (pe_callB (kz_isi (K := K)) (by rfl) T.b_isinstance bt_isinstance (pa_cons (pv 1) (pa_cons (pe_ty (by rfl) T.b_tuple bt_tuple) pa_nil))))) (pss_one (ps_ret pe_bl)) pss_nil)
    (pss_cons (ps_if (pt_not (pt_chain op_le op_le pe_int (pe_callB (kz_len (K := K)) (by rfl) T.b_len bt_len (pa_cons (pv 1) pa_nil)) (pe_kon T.k_MOST_PLACES))) (pss_one (ps_ret pe_bl)) pss_nil)
    (pss_one (ps_ret (pe_callB (kz_all (K := K) rfl) (by rfl) T.b_all bt_all (pa_cons (pe_lc (own := [("turn", 2)]) (g := (gName 2)) (tt := tYes) rfl sc_fits_row.nd (kz_piT (K := K) (pv 1)) (blkOk_by (own := [("turn", 2)]) (N := ["hands", "thing", "turn"]) (sc := defScope S_fits_row) (by decide +kernel)) (fun _ _ _ _ _ => (pg_name (i := 2) sc_fits_row.nd rfl (.inl rfl))) (fun _ _ _ _ _ => pts_nil) (fun _ _ _ _ _ => (pe_cal (c_is_hand T) hr (by decide) (pa_cons (pv 0) (pa_cons (pv 2) pa_nil))))) pa_nil)))))), ?_⟩
    walk_at "rd"
    refine ⟨_, _, _, _, _, rfl, .ty _, ty_tup hS, kit_ty kit_tup_tup, _, rfl, iteF ?_⟩
    have out : ∀ i, ((xs.map fun x => V.bl (whB x 0 (hands - 1))).take i).length ≤ xs.length := fun i => by
      rw [List.length_take, List.length_map]
      exact Nat.min_le_right _ _
    walk_at "rd"
    have fin : 1 ≤ xs.length ∧ xs.length ≤ 64 → tRet (tCB (rAll K) (tCons (tLc (iTup K (tVar 1)) (gName 2) tYes (tCall (sp_is_hand K) [] E0 (tCons (tVar 0) (tCons (tVar 2) tNil))) [2]) tNil)) { nx := fun _ H' => Q .non H', rt := Q } [some (.int hands), some (.ref r), none] H := fun c => by
      refine ⟨_, rfl, _, rfl, ⟨_, hS⟩, fun D nD => ?_⟩
      refine lcp walk_tup nD (fun i => (xs.map fun x => V.bl (whB x 0 (hands - 1))).take i) rfl (fun i _ => Nat.lt_of_le_of_lt (out i) (by omega)) (fun H2 s2 => seqT s2 hS) ?_ ?_
      · rintro i x H2 H' R N hi s2 ⟨rfl, hx⟩ k _
        refine ⟨rfl, ?_⟩
        walk_at "rd"
        obtain ⟨b, hb⟩ := hw x (List.mem_of_getElem? hx)
        refine ⟨x, hands, b, rfl, hb _ s2, k _ _ (L2.Same.refl _) ?_⟩
        rw [List.take_add_one, List.getElem?_map, hx]
        rfl
      · intro H2 s2 hD
        rw [List.take_of_length_le (by rw [List.length_map]; exact Nat.le_refl _)] at hD
        refine ⟨D, xs.map fun x => whB x 0 (hands - 1), rfl, ?_, ?_⟩
        · rw [List.map_map]
          exact .inl (.inl hD)
        · have e : fitsB hands xs = (xs.map fun x => whB x 0 (hands - 1)).all id := by
            unfold fitsB
            rw [decide_eq_true c, Bool.true_and, List.all_map]
            rfl
          rw [← e]
          exact q _ s2
    by_cases c1 : (1 : Int) ≤ (xs.length : Int)
    · rw [decide_eq_true c1]
      refine iteT ?_
      walk_at "rd"
      by_cases c2 : (xs.length : Int) ≤ 64
      · rw [decide_eq_true c2]
        exact iteF (fin ⟨by omega, by omega⟩)
      · rw [decide_eq_false c2]
        refine iteT ?_
        have e : fitsB hands xs = false := by
          unfold fitsB
          rw [decide_eq_false (by omega), Bool.false_and]
        rw [e] at q
        exact q _ (L2.Same.refl _)
    · rw [decide_eq_false c1]
      refine iteF ?_
      walk_at "rd"
      refine iteT ?_
      have e : fitsB hands xs = false := by
        unfold fitsB
        rw [decide_eq_false (by omega), Bool.false_and]
      rw [e] at q
      exact q _ (L2.Same.refl _)

/-! is_row -/
def sp_is_row (K : PySem.W.Frag) : Sp := fun vs H Q _ => ∃ (hands : Int) (r : Addr) (row : List Int), vs = [.int hands, .ref r] ∧ RowOk hands row ∧ SqT K H r (row.map V.int) ∧ ∀ H', Same H H' → Q (.bl true) H'
theorem c_is_row (T : Txt K mg) : Cal P w K mg base 5 "is_row" ["hands", "thing"] (sp_is_row K) := by
  refine T.f_is_row.cal sc_is_row (fun _ _ _ _ _ _ us hl => match us, hl with | [_, _], _ => rfl) (fun vs H Q E h => by first | (obtain ⟨_, rfl, _⟩ := h; rfl) | (obtain ⟨_, _, rfl, _⟩ := h; rfl) | (obtain ⟨_, _, _, rfl, _⟩ := h; rfl) | (obtain ⟨_, _, _, _, rfl, _⟩ := h; rfl) | (obtain ⟨_, _, _, _, _, rfl, _⟩ := h; rfl) | (obtain ⟨_, _, _, _, _, _, rfl, _⟩ := h; rfl) | (obtain ⟨_, _, _, _, _, _, _, rfl, _⟩ := h; rfl) | (obtain ⟨_, _, _, _, _, _, _, _, rfl, _⟩ := h; rfl) | (obtain ⟨_, _, _, _, _, _, _, _, _, rfl, _⟩ := h; rfl) | (obtain ⟨_, _, _, _, _, _, _, _, _, _, rfl, _⟩ := h; rfl) | (obtain ⟨_, _, _, _, _, _, _, _, _, _, _, rfl, _⟩ := h; rfl) | (obtain ⟨_, _, _, _, _, _, _, _, _, _, _, _, rfl, _⟩ := h; rfl) | (obtain ⟨_, _, _, _, _, _, _, _, _, _, _, _, _, rfl, _⟩ := h; rfl)) (fun cdv A outer s H vs Q E f hr h => ?_)
  obtain ⟨hands, r, row, rfl, ⟨h1, h2, h3, h4, h5⟩, hS, q⟩ := h
  refine ⟨_, (pss_cons (ps_expr (pe_cal (c_check_hands T) hr (by decide) (pa_cons (pv 0) pa_nil)))
    (pss_one (ps_ret (pe_cal (c_fits_row T) hr (by decide) (pa_cons (pv 0) (pa_cons (pv 1) pa_nil)))))), ?_⟩
  walk_at "rd"
  refine ⟨hands, _, rfl, .inr ⟨r, _, rfl, hS, by rw [List.length_map]; omega, fun x hx => ?_, fun H' s2 => ?_⟩⟩
  · obtain ⟨z, hz, rfl⟩ := List.mem_map.mp hx
    exact ⟨true, fun _ _ => .int z⟩
  · rw [fitsB_row h3 h4 h5]
    exact q H' s2

/-! check_row -/
def sp_check_row (K : PySem.W.Frag) : Sp := fun vs H Q _ => ∃ (hands : Int) (r : Addr) (row : List Int), vs = [.int hands, .ref r] ∧ RowOk hands row ∧ SqT K H r (row.map V.int) ∧ ∀ H', Same H H' → Q .non H'
theorem c_check_row (T : Txt K mg) : Cal P w K mg base 5 "check_row" ["hands", "row"] (sp_check_row K) := by
  refine T.f_check_row.cal sc_check_row (fun _ _ _ _ _ _ us hl => match us, hl with | [_, _], _ => rfl) (fun vs H Q E h => by first | (obtain ⟨_, rfl, _⟩ := h; rfl) | (obtain ⟨_, _, rfl, _⟩ := h; rfl) | (obtain ⟨_, _, _, rfl, _⟩ := h; rfl) | (obtain ⟨_, _, _, _, rfl, _⟩ := h; rfl) | (obtain ⟨_, _, _, _, _, rfl, _⟩ := h; rfl) | (obtain ⟨_, _, _, _, _, _, rfl, _⟩ := h; rfl) | (obtain ⟨_, _, _, _, _, _, _, rfl, _⟩ := h; rfl) | (obtain ⟨_, _, _, _, _, _, _, _, rfl, _⟩ := h; rfl) | (obtain ⟨_, _, _, _, _, _, _, _, _, rfl, _⟩ := h; rfl) | (obtain ⟨_, _, _, _, _, _, _, _, _, _, rfl, _⟩ := h; rfl) | (obtain ⟨_, _, _, _, _, _, _, _, _, _, _, rfl, _⟩ := h; rfl) | (obtain ⟨_, _, _, _, _, _, _, _, _, _, _, _, rfl, _⟩ := h; rfl) | (obtain ⟨_, _, _, _, _, _, _, _, _, _, _, _, _, rfl, _⟩ := h; rfl)) (fun cdv A outer s H vs Q E f hr h => ?_)
  obtain ⟨hands, r, row, rfl, ⟨h1, h2, h3, h4, h5⟩, hS, q⟩ := h
  refine ⟨_, (pss_cons (ps_expr (pe_cal (c_check_hands T) hr (by decide) (pa_cons (pv 0) pa_nil)))
    (pss_one (ps_if (pt_not (pt_val (pe_cal (c_fits_row T) hr (by decide) (pa_cons (pv 0) (pa_cons (pv 1) pa_nil))))) (pss_one ps_never) pss_nil))), ?_⟩
  walk_at "rd"
  refine ⟨hands, _, rfl, .inr ⟨r, _, rfl, hS, by rw [List.length_map]; omega, fun x hx => ?_, fun H' s2 => ⟨_, rfl, ?_⟩⟩⟩
  · obtain ⟨z, hz, rfl⟩ := List.mem_map.mp hx
    exact ⟨true, fun _ _ => .int z⟩
  · rw [fitsB_row h3 h4 h5]
    exact iteF (q H' s2)

/-! check_two_hands -/
def sp_check_two_hands (K : PySem.W.Frag) : Sp := fun vs H Q _ => ∃ (hands : Int) (a b : Int), vs = [.int hands, .int a, .int b] ∧ (0 ≤ a ∧ a < hands) ∧ (0 ≤ b ∧ b < hands) ∧ a ≠ b ∧ Q .non H
theorem c_check_two_hands (T : Txt K mg) : Cal P w K mg base 4 "check_two_hands" ["hands", "one", "other"] (sp_check_two_hands K) := by
  refine T.f_check_two_hands.cal sc_check_two_hands (fun _ _ _ _ _ _ us hl => match us, hl with | [_, _, _], _ => rfl) (fun vs H Q E h => by first | (obtain ⟨_, rfl, _⟩ := h; rfl) | (obtain ⟨_, _, rfl, _⟩ := h; rfl) | (obtain ⟨_, _, _, rfl, _⟩ := h; rfl) | (obtain ⟨_, _, _, _, rfl, _⟩ := h; rfl) | (obtain ⟨_, _, _, _, _, rfl, _⟩ := h; rfl) | (obtain ⟨_, _, _, _, _, _, rfl, _⟩ := h; rfl) | (obtain ⟨_, _, _, _, _, _, _, rfl, _⟩ := h; rfl) | (obtain ⟨_, _, _, _, _, _, _, _, rfl, _⟩ := h; rfl) | (obtain ⟨_, _, _, _, _, _, _, _, _, rfl, _⟩ := h; rfl) | (obtain ⟨_, _, _, _, _, _, _, _, _, _, rfl, _⟩ := h; rfl) | (obtain ⟨_, _, _, _, _, _, _, _, _, _, _, rfl, _⟩ := h; rfl) | (obtain ⟨_, _, _, _, _, _, _, _, _, _, _, _, rfl, _⟩ := h; rfl) | (obtain ⟨_, _, _, _, _, _, _, _, _, _, _, _, _, rfl, _⟩ := h; rfl)) (fun cdv A outer s H vs Q E f hr h => ?_)
  obtain ⟨hands, a, b, rfl, ha, hb, hab, q⟩ := h
  have e : ∀ z : Int, 0 ≤ z ∧ z < hands → whB (.int z) 0 (hands - 1) = true := fun z hz => decide_eq_true ⟨by omega, by omega⟩
  refine ⟨_, (pss_cons (ps_if (PW.pt (pw_or (pt_not (pt_val (pe_cal (c_is_hand T) hr (by decide) (pa_cons (pv 0) (pa_cons (pv 1) pa_nil))))) (pw_or1 (pt_not (pt_val (pe_cal (c_is_hand T) hr (by decide) (pa_cons (pv 0) (pa_cons (pv 2) pa_nil)))))))) (pss_one ps_never) pss_nil)
    (pss_one (ps_if (pt_cmpR op_eq (pv 1) (pv 2) (nomark _)) (pss_one ps_never) pss_nil))), ?_⟩
  walk_at "rd"
  refine ⟨.int a, hands, true, rfl, .int _, _, rfl, ?_⟩
  rw [e a ha]
  refine iteF ?_
  walk_at "rd"
  refine ⟨.int b, hands, true, rfl, .int _, _, rfl, ?_⟩
  rw [e b hb]
  refine iteF ?_
  walk_at "rd"
  refine ite2 (fun c => absurd (V.int.inj (of_decide_eq_true c)) hab) (fun _ => q)

/-! check_two -/
def sp_check_two (K : PySem.W.Frag) : Sp := fun vs H Q _ => ∃ (hands : Int) (r : Addr) (row : List Int) (a b : Int), vs = [.int hands, .ref r, .int a, .int b] ∧ RowOk hands row ∧ SqT K H r (row.map V.int) ∧ (0 ≤ a ∧ a < hands) ∧ (0 ≤ b ∧ b < hands) ∧ a ≠ b ∧ ∀ H', Same H H' → Q .non H'
theorem c_check_two (T : Txt K mg) : Cal P w K mg base 6 "check_two" ["hands", "row", "one", "other"] (sp_check_two K) := by
  refine T.f_check_two.cal sc_check_two (fun _ _ _ _ _ _ us hl => match us, hl with | [_, _, _, _], _ => rfl) (fun vs H Q E h => by first | (obtain ⟨_, rfl, _⟩ := h; rfl) | (obtain ⟨_, _, rfl, _⟩ := h; rfl) | (obtain ⟨_, _, _, rfl, _⟩ := h; rfl) | (obtain ⟨_, _, _, _, rfl, _⟩ := h; rfl) | (obtain ⟨_, _, _, _, _, rfl, _⟩ := h; rfl) | (obtain ⟨_, _, _, _, _, _, rfl, _⟩ := h; rfl) | (obtain ⟨_, _, _, _, _, _, _, rfl, _⟩ := h; rfl) | (obtain ⟨_, _, _, _, _, _, _, _, rfl, _⟩ := h; rfl) | (obtain ⟨_, _, _, _, _, _, _, _, _, rfl, _⟩ := h; rfl) | (obtain ⟨_, _, _, _, _, _, _, _, _, _, rfl, _⟩ := h; rfl) | (obtain ⟨_, _, _, _, _, _, _, _, _, _, _, rfl, _⟩ := h; rfl) | (obtain ⟨_, _, _, _, _, _, _, _, _, _, _, _, rfl, _⟩ := h; rfl) | (obtain ⟨_, _, _, _, _, _, _, _, _, _, _, _, _, rfl, _⟩ := h; rfl)) (fun cdv A outer s H vs Q E f hr h => ?_)
  obtain ⟨hands, r, row, a, b, rfl, ok, hS, ha, hb, hab, q⟩ := h
  refine ⟨_, (pss_cons (ps_expr (pe_cal (c_check_row T) hr (by decide) (pa_cons (pv 0) (pa_cons (pv 1) pa_nil))))
    (pss_one (ps_expr (pe_cal (c_check_two_hands T) hr (by decide) (pa_cons (pv 0) (pa_cons (pv 2) (pa_cons (pv 3) pa_nil))))))), ?_⟩
  walk_at "rd"
  refine ⟨hands, r, row, rfl, ok, hS, fun H' s2 => ?_⟩
  walk_at "rd"
  exact ⟨hands, a, b, rfl, ha, hb, hab, q H' s2⟩

/-! check_worths -/
def sp_check_worths (K : PySem.W.Frag) : Sp := fun vs H Q _ => ∃ (r : Addr) (ws : List Int), vs = [.ref r] ∧ ws ≠ [] ∧ ws.length ≤ 100000 ∧ SqT K H r (ws.map V.int) ∧ ∀ H', Same H H' → Q .non H'
theorem c_check_worths (T : Txt K mg) : Cal P w K mg base 2 "check_worths" ["worths"] (sp_check_worths K) := by
  refine T.f_check_worths.cal sc_check_worths (fun _ _ _ _ _ _ us hl => match us, hl with | [_], _ => rfl) (fun vs H Q E h => by first | (obtain ⟨_, rfl, _⟩ := h; rfl) | (obtain ⟨_, _, rfl, _⟩ := h; rfl) | (obtain ⟨_, _, _, rfl, _⟩ := h; rfl) | (obtain ⟨_, _, _, _, rfl, _⟩ := h; rfl) | (obtain ⟨_, _, _, _, _, rfl, _⟩ := h; rfl) | (obtain ⟨_, _, _, _, _, _, rfl, _⟩ := h; rfl) | (obtain ⟨_, _, _, _, _, _, _, rfl, _⟩ := h; rfl) | (obtain ⟨_, _, _, _, _, _, _, _, rfl, _⟩ := h; rfl) | (obtain ⟨_, _, _, _, _, _, _, _, _, rfl, _⟩ := h; rfl) | (obtain ⟨_, _, _, _, _, _, _, _, _, _, rfl, _⟩ := h; rfl) | (obtain ⟨_, _, _, _, _, _, _, _, _, _, _, rfl, _⟩ := h; rfl) | (obtain ⟨_, _, _, _, _, _, _, _, _, _, _, _, rfl, _⟩ := h; rfl) | (obtain ⟨_, _, _, _, _, _, _, _, _, _, _, _, _, rfl, _⟩ := h; rfl)) (fun cdv A outer s H vs Q E f hr h => ?_)
  obtain ⟨r, ws, rfl, h0, hl, hS, q⟩ := h
  have h1 : 0 < ws.length := List.length_pos_iff.mpr h0
  refine ⟨_, (pss_cons (ps_if (PW.pt (pw_or (pt_not (pt_val (pe_callB (kz_isi (K := K)) (by rfl) T.b_isinstance bt_isinstance (pa_cons (pv 0) (pa_cons (pe_ty (by rfl) T.b_tuple bt_tuple) pa_nil))))) (pw_or1 (pt_cmpR op_eq (pe_callB (kz_len (K := K)) (by rfl) T.b_len bt_len (pa_cons (pv 0) pa_nil)) pe_int (nomark _))))) (pss_one ps_never) pss_nil)
    (pss_one (ps_if (pt_not (pt_val (pe_callB (kz_all (K := K) rfl) (by rfl) T.b_all bt_all (pa_cons (pe_lc (own := [("worth", 1)]) (g := (gName 1)) (tt := tYes) rfl sc_check_worths.nd (kz_piT (K := K) (pv 0)) (blkOk_by (own := [("worth", 1)]) (N := ["worths", "worth"]) (sc := defScope S_check_worths) (by decide +kernel)) (fun _ _ _ _ _ => (pg_name (i := 1) sc_check_worths.nd rfl (.inl rfl))) (fun _ _ _ _ _ => pts_nil) (fun _ _ _ _ _ => (pe_cal (c_is_whole T) hr (by decide) (pa_cons (pv 1) pa_nil)))) pa_nil)))) (pss_one ps_never) pss_nil))), ?_⟩
  walk_at "rd"
  refine ⟨_, _, _, _, _, rfl, .ty _, ty_tup hS, kit_ty kit_tup_tup, _, rfl, iteF ?_⟩
  walk_at "rd"
  rw [List.length_map]
  refine ite2 (fun c => absurd (V.int.inj (of_decide_eq_true c)) (by omega)) (fun _ => ?_)
  refine ⟨_, rfl, _, rfl, ⟨_, hS⟩, fun D nD => ?_⟩
  refine lcp walk_tup nD (fun i => (ws.map fun _ => V.bl true).take i) rfl (fun i _ => ?_) (fun H2 s2 => seqT s2 hS) ?_ ?_
  · rw [List.length_take, List.length_map]
    omega
  · rintro i x H2 H' R N hi s2 ⟨rfl, hx⟩ k _
    obtain ⟨z, hz, rfl⟩ := map_at hx
    refine ⟨rfl, ?_⟩
    walk_at "rd"
    refine ⟨.int z, true, rfl, .int z, k _ _ (L2.Same.refl _) ?_⟩
    rw [List.take_add_one, List.getElem?_map, hz]
    rfl
  · intro H2 s2 hD
    rw [List.take_of_length_le (by rw [List.length_map, List.length_map]; exact Nat.le_refl _)] at hD
    refine ⟨D, ws.map fun _ => true, rfl, ?_, _, rfl, ?_⟩
    · rw [List.map_map]
      exact .inl (.inl hD)
    · have e : (ws.map fun _ => true).all id = true := List.all_eq_true.mpr fun x hx => by
        obtain ⟨_, _, e⟩ := List.mem_map.mp hx
        exact e.symm
      rw [e]
      exact iteF (q _ s2)

/-! check_worths_of -/
def sp_check_worths_of (K : PySem.W.Frag) : Sp := fun vs H Q _ => ∃ (r u : Addr) (row ws : List Int), vs = [.ref r, .ref u] ∧ row ≠ [] ∧ row.length ≤ 100000 ∧ ws.length = row.length ∧ SqT K H r (row.map V.int) ∧ SqT K H u (ws.map V.int) ∧ ∀ H', Same H H' → Q .non H'
theorem c_check_worths_of (T : Txt K mg) : Cal P w K mg base 3 "check_worths_of" ["row", "worths"] (sp_check_worths_of K) := by
  refine T.f_check_worths_of.cal sc_check_worths_of (fun _ _ _ _ _ _ us hl => match us, hl with | [_, _], _ => rfl) (fun vs H Q E h => by first | (obtain ⟨_, rfl, _⟩ := h; rfl) | (obtain ⟨_, _, rfl, _⟩ := h; rfl) | (obtain ⟨_, _, _, rfl, _⟩ := h; rfl) | (obtain ⟨_, _, _, _, rfl, _⟩ := h; rfl) | (obtain ⟨_, _, _, _, _, rfl, _⟩ := h; rfl) | (obtain ⟨_, _, _, _, _, _, rfl, _⟩ := h; rfl) | (obtain ⟨_, _, _, _, _, _, _, rfl, _⟩ := h; rfl) | (obtain ⟨_, _, _, _, _, _, _, _, rfl, _⟩ := h; rfl) | (obtain ⟨_, _, _, _, _, _, _, _, _, rfl, _⟩ := h; rfl) | (obtain ⟨_, _, _, _, _, _, _, _, _, _, rfl, _⟩ := h; rfl) | (obtain ⟨_, _, _, _, _, _, _, _, _, _, _, rfl, _⟩ := h; rfl) | (obtain ⟨_, _, _, _, _, _, _, _, _, _, _, _, rfl, _⟩ := h; rfl) | (obtain ⟨_, _, _, _, _, _, _, _, _, _, _, _, _, rfl, _⟩ := h; rfl)) (fun cdv A outer s H vs Q E f hr h => ?_)
  obtain ⟨r, u, row, ws, rfl, h0, hl, he, hS, hU, q⟩ := h
  have h1 : 0 < row.length := List.length_pos_iff.mpr h0
  refine ⟨_, (pss_cons (ps_expr (pe_cal (c_check_worths T) hr (by decide) (pa_cons (pv 1) pa_nil)))
    (pss_one (ps_if (pt_cmpR op_ne (pe_callB (kz_len (K := K)) (by rfl) T.b_len bt_len (pa_cons (pv 1) pa_nil)) (pe_callB (kz_len (K := K)) (by rfl) T.b_len bt_len (pa_cons (pv 0) pa_nil)) (nomark _)) (pss_one ps_never) pss_nil))), ?_⟩
  walk_at "rd"
  refine ⟨u, ws, rfl, fun z => ?_, by omega, hU, fun H' s2 => ?_⟩
  · rw [z] at he
    simp only [List.length_nil] at he
    omega
  · have hS2 := seqT s2 hS
    have hU2 := seqT s2 hU
    refine ⟨_, rfl, u, _, rfl, .inr hU2, _, rfl, r, _, rfl, .inr hS2, rfl, _, rfl, ?_⟩
    rw [List.length_map, List.length_map, he]
    refine ite2 (fun c => ?_) (fun _ => q _ s2)
    rw [decide_eq_true rfl] at c
    cases c

/-! totals_of -/
/-- two rows to go along with: both lists, both tuples, a tuple and a list -/
abbrev SqM (K : PySem.W.Frag) (H : Hp) (r u : Addr) (xs ys : List V) : Prop := SqL K H r xs ∧ SqL K H u ys ∨ SqT K H r xs ∧ SqT K H u ys ∨ SqT K H r xs ∧ SqL K H u ys
def sp_totals_of (K : PySem.W.Frag) : Sp := fun vs H Q _ => ∃ (hands : Int) (r u : Addr) (row ws : List Int), vs = [.int hands, .ref r, .ref u] ∧ (0 ≤ hands ∧ hands ≤ 4) ∧ (∀ z ∈ row, 0 ≤ z ∧ z < hands) ∧ ws.length = row.length ∧ SqM K H r u (row.map V.int) (ws.map V.int) ∧
  ∀ (p : Addr) (H' : Hp), H p = none → Same H H' → H' p = some (.lst ((totsOf hands row ws).map V.int)) → Q (.ref p) H'
theorem c_totals_of (T : Txt K mg) : Cal P w K mg base 1 "totals_of" ["hands", "row", "worths"] (sp_totals_of K) := by
  refine T.f_totals_of.cal sc_totals_of (fun _ _ _ _ _ _ us hl => match us, hl with | [_, _, _], _ => rfl) (fun vs H Q E h => by first | (obtain ⟨_, rfl, _⟩ := h; rfl) | (obtain ⟨_, _, rfl, _⟩ := h; rfl) | (obtain ⟨_, _, _, rfl, _⟩ := h; rfl) | (obtain ⟨_, _, _, _, rfl, _⟩ := h; rfl) | (obtain ⟨_, _, _, _, _, rfl, _⟩ := h; rfl) | (obtain ⟨_, _, _, _, _, _, rfl, _⟩ := h; rfl) | (obtain ⟨_, _, _, _, _, _, _, rfl, _⟩ := h; rfl) | (obtain ⟨_, _, _, _, _, _, _, _, rfl, _⟩ := h; rfl) | (obtain ⟨_, _, _, _, _, _, _, _, _, rfl, _⟩ := h; rfl) | (obtain ⟨_, _, _, _, _, _, _, _, _, _, rfl, _⟩ := h; rfl) | (obtain ⟨_, _, _, _, _, _, _, _, _, _, _, rfl, _⟩ := h; rfl) | (obtain ⟨_, _, _, _, _, _, _, _, _, _, _, _, rfl, _⟩ := h; rfl) | (obtain ⟨_, _, _, _, _, _, _, _, _, _, _, _, _, rfl, _⟩ := h; rfl)) (fun cdv A outer s H vs Q E f hr h => ?_)
  obtain ⟨hands, r, u, row, ws, rfl, hh, hz, he, hSU, q⟩ := h
  refine ⟨_, (pss_cons (ps_set (i := 3) sc_totals_of.nd rfl (.inl rfl) (pe_op op_rep (pe_lst (pa_cons pe_int pa_nil)) (pv 0)))
    (pss_cons (ps_for PassesOwn.never rfl (kz_zipB (K := K) (by rfl) T.b_zip (pa_cons (pv 1) (pa_cons (pv 2) pa_nil))) (kz_gtup (K := K) 2 rfl (pgs_cons (pg_name (i := 4) sc_totals_of.nd rfl (.inl rfl)) (pgs_cons (pg_name (i := 5) sc_totals_of.nd rfl (.inl rfl)) pgs_nil))) (pss_one (ps_augS (pv 3) (pv 4) (kz_getL (K := K)) (pv 5) ip_add set_list)))
    (pss_one (ps_ret (pv 3))))), ?_⟩
  walk_at "rd"
  intro p1 n1
  refine ⟨_, rfl, p1, hands, [V.int 0], rfl, rfl, upd_same, by omega, by omega, sz (by show 1 * hands.toNat ≤ 100000; omega), fun p n2 => ?_⟩
  have s1 : Same H (upd H p1 (.lst [V.int 0])) := same_new n1
  have s2 := same_then (o := .lst (List.replicate hands.toNat [V.int 0]).flatten) s1 n2
  have np : H p = none := none_back s1 n2
  have e0 : (List.replicate hands.toNat [V.int 0]).flatten = (totsOf hands (row.take 0) (ws.take 0)).map V.int := by
    rw [flat_rep, List.take_zero, List.take_zero, totsOf_nil, List.map_replicate]
  rw [e0] at s2 ⊢
  refine ⟨_, rfl, _, rfl, ?_⟩
  rcases hSU with ⟨hS, hU⟩ | ⟨hS, hU⟩ | ⟨hS, hU⟩
  · refine ⟨r, u, _, _, rfl, .inl ⟨seqL s2 hS, seqL s2 hU, ?_⟩⟩
    refine for_it (walk_zip (n := row.length) (xs := row.map V.int) (ys := ws.map V.int) (by rw [List.length_map, List.length_map]; omega)) (fun i σ H2 => ∃ y4 y5, σ = [some (.int hands), some (.ref r), some (.ref u), some (.ref p), y4, y5] ∧ Same H H2 ∧ H2 p = some (.lst ((totsOf hands (row.take i) (ws.take i)).map V.int)))
      ⟨none, none, rfl, s2, upd_same⟩ (fun i σ H2 _ h => ?_) ?_ ?_
    · obtain ⟨_, _, _, sm, _⟩ := h
      exact ⟨seqL sm hS, seqL sm hU⟩
    · rintro i x σ H2 H' hi ⟨y4, y5, rfl, sm, hp⟩ ⟨T1, v1, v2, rfl, nT, rfl, h1, h2⟩
      obtain ⟨t, ht, rfl⟩ := map_at h1
      obtain ⟨w1, hw, rfl⟩ := map_at h2
      obtain ⟨t0, t1⟩ := hz t (List.mem_of_getElem? ht)
      have npT : p ≠ T1 := ne_of_none hp nT
      have hp2 : (upd H2 T1 (.tup [.int t, .int w1])) p = some (.lst ((totsOf hands (row.take i) (ws.take i)).map V.int)) := by
        rw [upd_ne npT]
        exact hp
      have et : t = (t.toNat : Int) := (Int.toNat_of_nonneg t0).symm
      have eg : ((totsOf hands (row.take i) (ws.take i)).map V.int)[t.toNat]? = some (.int (tot (row.take i) (ws.take i) t)) := by
        rw [List.getElem?_map, totsOf_at (by omega), ← et]
        rfl
      refine ⟨T1, _, rfl, .inl (.inl upd_same), rfl, _, _, rfl, _, _, rfl, rfl, ?_⟩
      refine ⟨_, rfl, _, rfl, p, _, t.toNat, _, rfl, by rw [← et], .inl (.inl hp2), eg, _, rfl, _, _, rfl, rfl, p, _, t, t.toNat, rfl, rfl, hp2, ?_, ?_⟩
      · unfold ixN
        rw [if_pos t0, if_pos (by rw [List.length_map, totsOf_len]; omega)]
      · refine ⟨_, _, rfl, fun c o hc => ?_, ?_⟩
        · rw [upd_ne (fun z => by rw [z, np] at hc; cases hc)]
          exact same_new nT _ _ (sm _ _ hc)
        · rw [upd_same, totsOf_more ht hw t0 t1, List.map_set]
    · rintro σ H2 ⟨y4, y5, rfl, sm, hp⟩
      rw [List.take_length, ← he, List.take_length] at hp
      exact ⟨_, rfl, q p H2 np sm hp⟩
  · refine ⟨r, u, _, _, rfl, .inr (.inl ⟨seqT s2 hS, seqT s2 hU, ?_⟩)⟩
    refine for_it (walk_zipT (n := row.length) (xs := row.map V.int) (ys := ws.map V.int) (by rw [List.length_map, List.length_map]; omega)) (fun i σ H2 => ∃ y4 y5, σ = [some (.int hands), some (.ref r), some (.ref u), some (.ref p), y4, y5] ∧ Same H H2 ∧ H2 p = some (.lst ((totsOf hands (row.take i) (ws.take i)).map V.int)))
      ⟨none, none, rfl, s2, upd_same⟩ (fun i σ H2 _ h => ?_) ?_ ?_
    · obtain ⟨_, _, _, sm, _⟩ := h
      exact ⟨seqT sm hS, seqT sm hU⟩
    · rintro i x σ H2 H' hi ⟨y4, y5, rfl, sm, hp⟩ ⟨T1, v1, v2, rfl, nT, rfl, h1, h2⟩
      obtain ⟨t, ht, rfl⟩ := map_at h1
      obtain ⟨w1, hw, rfl⟩ := map_at h2
      obtain ⟨t0, t1⟩ := hz t (List.mem_of_getElem? ht)
      have npT : p ≠ T1 := ne_of_none hp nT
      have hp2 : (upd H2 T1 (.tup [.int t, .int w1])) p = some (.lst ((totsOf hands (row.take i) (ws.take i)).map V.int)) := by
        rw [upd_ne npT]
        exact hp
      have et : t = (t.toNat : Int) := (Int.toNat_of_nonneg t0).symm
      have eg : ((totsOf hands (row.take i) (ws.take i)).map V.int)[t.toNat]? = some (.int (tot (row.take i) (ws.take i) t)) := by
        rw [List.getElem?_map, totsOf_at (by omega), ← et]
        rfl
      refine ⟨T1, _, rfl, .inl (.inl upd_same), rfl, _, _, rfl, _, _, rfl, rfl, ?_⟩
      refine ⟨_, rfl, _, rfl, p, _, t.toNat, _, rfl, by rw [← et], .inl (.inl hp2), eg, _, rfl, _, _, rfl, rfl, p, _, t, t.toNat, rfl, rfl, hp2, ?_, ?_⟩
      · unfold ixN
        rw [if_pos t0, if_pos (by rw [List.length_map, totsOf_len]; omega)]
      · refine ⟨_, _, rfl, fun c o hc => ?_, ?_⟩
        · rw [upd_ne (fun z => by rw [z, np] at hc; cases hc)]
          exact same_new nT _ _ (sm _ _ hc)
        · rw [upd_same, totsOf_more ht hw t0 t1, List.map_set]
    · rintro σ H2 ⟨y4, y5, rfl, sm, hp⟩
      rw [List.take_length, ← he, List.take_length] at hp
      exact ⟨_, rfl, q p H2 np sm hp⟩
  · refine ⟨r, u, _, _, rfl, .inr (.inr ⟨seqT s2 hS, seqL s2 hU, ?_⟩)⟩
    refine for_it (walk_zipTL (n := row.length) (xs := row.map V.int) (ys := ws.map V.int) (by rw [List.length_map, List.length_map]; omega)) (fun i σ H2 => ∃ y4 y5, σ = [some (.int hands), some (.ref r), some (.ref u), some (.ref p), y4, y5] ∧ Same H H2 ∧ H2 p = some (.lst ((totsOf hands (row.take i) (ws.take i)).map V.int)))
      ⟨none, none, rfl, s2, upd_same⟩ (fun i σ H2 _ h => ?_) ?_ ?_
    · obtain ⟨_, _, _, sm, _⟩ := h
      exact ⟨seqT sm hS, seqL sm hU⟩
    · rintro i x σ H2 H' hi ⟨y4, y5, rfl, sm, hp⟩ ⟨T1, v1, v2, rfl, nT, rfl, h1, h2⟩
      obtain ⟨t, ht, rfl⟩ := map_at h1
      obtain ⟨w1, hw, rfl⟩ := map_at h2
      obtain ⟨t0, t1⟩ := hz t (List.mem_of_getElem? ht)
      have npT : p ≠ T1 := ne_of_none hp nT
      have hp2 : (upd H2 T1 (.tup [.int t, .int w1])) p = some (.lst ((totsOf hands (row.take i) (ws.take i)).map V.int)) := by
        rw [upd_ne npT]
        exact hp
      have et : t = (t.toNat : Int) := (Int.toNat_of_nonneg t0).symm
      have eg : ((totsOf hands (row.take i) (ws.take i)).map V.int)[t.toNat]? = some (.int (tot (row.take i) (ws.take i) t)) := by
        rw [List.getElem?_map, totsOf_at (by omega), ← et]
        rfl
      refine ⟨T1, _, rfl, .inl (.inl upd_same), rfl, _, _, rfl, _, _, rfl, rfl, ?_⟩
      refine ⟨_, rfl, _, rfl, p, _, t.toNat, _, rfl, by rw [← et], .inl (.inl hp2), eg, _, rfl, _, _, rfl, rfl, p, _, t, t.toNat, rfl, rfl, hp2, ?_, ?_⟩
      · unfold ixN
        rw [if_pos t0, if_pos (by rw [List.length_map, totsOf_len]; omega)]
      · refine ⟨_, _, rfl, fun c o hc => ?_, ?_⟩
        · rw [upd_ne (fun z => by rw [z, np] at hc; cases hc)]
          exact same_new nT _ _ (sm _ _ hc)
        · rw [upd_same, totsOf_more ht hw t0 t1, List.map_set]
    · rintro σ H2 ⟨y4, y5, rfl, sm, hp⟩
      rw [List.take_length, ← he, List.take_length] at hp
      exact ⟨_, rfl, q p H2 np sm hp⟩

/-! lead -/
def sp_lead (K : PySem.W.Frag) : Sp := fun vs H Q _ => ∃ (hands : Int) (r u : Addr) (row ws : List Int) (a b : Int), vs = [.int hands, .ref r, .int a, .int b, .ref u] ∧ RowOk hands row ∧ ws.length = row.length ∧ SqT K H r (row.map V.int) ∧ SqT K H u (ws.map V.int) ∧
  (0 ≤ a ∧ a < hands) ∧ (0 ≤ b ∧ b < hands) ∧ a ≠ b ∧ ∀ H', Same H H' → Q (.int (tot row ws a - tot row ws b)) H'
theorem c_lead (T : Txt K mg) : Cal P w K mg base 7 "lead" ["hands", "row", "one", "other", "worths"] (sp_lead K) := by
  refine T.f_lead.cal sc_lead (fun _ _ _ _ _ _ us hl => match us, hl with | [_, _, _, _, _], _ => rfl) (fun vs H Q E h => by first | (obtain ⟨_, rfl, _⟩ := h; rfl) | (obtain ⟨_, _, rfl, _⟩ := h; rfl) | (obtain ⟨_, _, _, rfl, _⟩ := h; rfl) | (obtain ⟨_, _, _, _, rfl, _⟩ := h; rfl) | (obtain ⟨_, _, _, _, _, rfl, _⟩ := h; rfl) | (obtain ⟨_, _, _, _, _, _, rfl, _⟩ := h; rfl) | (obtain ⟨_, _, _, _, _, _, _, rfl, _⟩ := h; rfl) | (obtain ⟨_, _, _, _, _, _, _, _, rfl, _⟩ := h; rfl) | (obtain ⟨_, _, _, _, _, _, _, _, _, rfl, _⟩ := h; rfl) | (obtain ⟨_, _, _, _, _, _, _, _, _, _, rfl, _⟩ := h; rfl) | (obtain ⟨_, _, _, _, _, _, _, _, _, _, _, rfl, _⟩ := h; rfl) | (obtain ⟨_, _, _, _, _, _, _, _, _, _, _, _, rfl, _⟩ := h; rfl) | (obtain ⟨_, _, _, _, _, _, _, _, _, _, _, _, _, rfl, _⟩ := h; rfl)) (fun cdv A outer s H vs Q E f hr h => ?_)
  obtain ⟨hands, r, u, row, ws, a, b, rfl, ok, he, hS, hU, ha, hb, hab, q⟩ := h
  obtain ⟨h1, h2, h3, h4, h5⟩ := id ok
  refine ⟨_, (pss_cons (ps_expr (pe_cal (c_check_two T) hr (by decide) (pa_cons (pv 0) (pa_cons (pv 1) (pa_cons (pv 2) (pa_cons (pv 3) pa_nil))))))
    (pss_cons (ps_expr (pe_cal (c_check_worths_of T) hr (by decide) (pa_cons (pv 1) (pa_cons (pv 4) pa_nil))))
    (pss_cons (ps_set (i := 5) sc_lead.nd rfl (.inl rfl) (pe_cal (c_totals_of T) hr (by decide) (pa_cons (pv 0) (pa_cons (pv 1) (pa_cons (pv 4) pa_nil)))))
    (pss_one (ps_ret (pe_op op_sub (pe_ix (kz_ixL (K := K)) (pv 5) (pv 2) (fun _ _ => rfl)) (pe_ix (kz_ixL (K := K)) (pv 5) (pv 3) (fun _ _ => rfl)))))))), ?_⟩
  walk_at "rd"
  refine ⟨hands, r, row, a, b, rfl, ok, hS, ha, hb, hab, fun H1 s1 => ?_⟩
  walk_at "rd"
  refine ⟨r, u, row, ws, rfl, h3, by omega, he, seqT s1 hS, seqT s1 hU, fun H2 s2 => ?_⟩
  walk_at "rd"
  have s12 := s1.trans s2
  refine ⟨hands, r, u, row, ws, rfl, ⟨by omega, by omega⟩, h5, he, .inr (.inl ⟨seqT s12 hS, seqT s12 hU⟩), fun p H3 np s3 hp => ?_⟩
  have hP : SqL K H3 p ((totsOf hands row ws).map V.int) := .inl (.inl hp)
  have at_ : ∀ z : Int, 0 ≤ z ∧ z < hands → atI ((totsOf hands row ws).map V.int) z = some (.int (tot row ws z)) := fun z hz => by
    have e : ((z.toNat : Nat) : Int) = z := Int.toNat_of_nonneg hz.1
    have g : (totsOf hands row ws)[z.toNat]? = some (tot row ws z) := by
      rw [totsOf_at (by omega), e]
    rw [← e]
    rw [e]
    rw [← e, at_int g]
    rw [e]
  refine ⟨_, rfl, _, rfl, _, _, _, _, rfl, rfl, hP, at_ a ha, ?_⟩
  refine ⟨_, rfl, _, rfl, _, _, _, _, rfl, rfl, hP, at_ b hb, ?_⟩
  walk_at "rd"
  exact q _ (s12.trans s3)

/-! sign_of -/
def sp_sign_of (K : PySem.W.Frag) : Sp := fun vs H Q _ => ∃ (t a b : Int), vs = [.int t, .int a, .int b] ∧ Q (.int (signOf t a b)) H
theorem c_sign_of (T : Txt K mg) : Cal P w K mg base 1 "sign_of" ["turn", "one", "other"] (sp_sign_of K) := by
  refine T.f_sign_of.cal sc_sign_of (fun _ _ _ _ _ _ us hl => match us, hl with | [_, _, _], _ => rfl) (fun vs H Q E h => by first | (obtain ⟨_, rfl, _⟩ := h; rfl) | (obtain ⟨_, _, rfl, _⟩ := h; rfl) | (obtain ⟨_, _, _, rfl, _⟩ := h; rfl) | (obtain ⟨_, _, _, _, rfl, _⟩ := h; rfl) | (obtain ⟨_, _, _, _, _, rfl, _⟩ := h; rfl) | (obtain ⟨_, _, _, _, _, _, rfl, _⟩ := h; rfl) | (obtain ⟨_, _, _, _, _, _, _, rfl, _⟩ := h; rfl) | (obtain ⟨_, _, _, _, _, _, _, _, rfl, _⟩ := h; rfl) | (obtain ⟨_, _, _, _, _, _, _, _, _, rfl, _⟩ := h; rfl) | (obtain ⟨_, _, _, _, _, _, _, _, _, _, rfl, _⟩ := h; rfl) | (obtain ⟨_, _, _, _, _, _, _, _, _, _, _, rfl, _⟩ := h; rfl) | (obtain ⟨_, _, _, _, _, _, _, _, _, _, _, _, rfl, _⟩ := h; rfl) | (obtain ⟨_, _, _, _, _, _, _, _, _, _, _, _, _, rfl, _⟩ := h; rfl)) (fun cdv A outer s H vs Q E f hr h => ?_)
  obtain ⟨t, a, b, rfl, q⟩ := h
  refine ⟨_, (pss_cons (ps_if (pt_cmpR op_eq (pv 0) (pv 1) (nomark _)) (pss_one (ps_ret pe_int)) pss_nil)
    (pss_cons (ps_if (pt_cmpR op_eq (pv 0) (pv 2) (nomark _)) (pss_one (ps_ret (pe_un un_neg pe_int))) pss_nil)
    (pss_one (ps_ret pe_int)))), ?_⟩
  unfold signOf at q
  walk_at "rd"
  refine ite2 (fun c => ?_) (fun c => ?_)
  · rw [if_pos (show t = a from V.int.inj (of_decide_eq_true c))] at q
    exact q
  · rw [if_neg (show ¬ t = a from fun z => c (decide_eq_true (congrArg V.int z)))] at q
    walk_at "rd"
    refine ite2 (fun c => ?_) (fun c => ?_)
    · rw [if_pos (show t = b from V.int.inj (of_decide_eq_true c))] at q
      walk_at "rd"
      exact q
    · rw [if_neg (show ¬ t = b from fun z => c (decide_eq_true (congrArg V.int z)))] at q
      exact q

/-! signs_of -/
def sp_signs_of (K : PySem.W.Frag) : Sp := fun vs H Q _ => ∃ (r : Addr) (row : List Int) (a b : Int), vs = [.ref r, .int a, .int b] ∧ SqT K H r (row.map V.int) ∧ row.length ≤ 100000 ∧
  ∀ (p : Addr) (H' : Hp), H p = none → Same H H' → H' p = some (.lst ((signsOf row a b).map V.int)) → Q (.ref p) H'
theorem c_signs_of (T : Txt K mg) : Cal P w K mg base 2 "signs_of" ["row", "one", "other"] (sp_signs_of K) := by
  refine T.f_signs_of.cal sc_signs_of (fun _ _ _ _ _ _ us hl => match us, hl with | [_, _, _], _ => rfl) (fun vs H Q E h => by first | (obtain ⟨_, rfl, _⟩ := h; rfl) | (obtain ⟨_, _, rfl, _⟩ := h; rfl) | (obtain ⟨_, _, _, rfl, _⟩ := h; rfl) | (obtain ⟨_, _, _, _, rfl, _⟩ := h; rfl) | (obtain ⟨_, _, _, _, _, rfl, _⟩ := h; rfl) | (obtain ⟨_, _, _, _, _, _, rfl, _⟩ := h; rfl) | (obtain ⟨_, _, _, _, _, _, _, rfl, _⟩ := h; rfl) | (obtain ⟨_, _, _, _, _, _, _, _, rfl, _⟩ := h; rfl) | (obtain ⟨_, _, _, _, _, _, _, _, _, rfl, _⟩ := h; rfl) | (obtain ⟨_, _, _, _, _, _, _, _, _, _, rfl, _⟩ := h; rfl) | (obtain ⟨_, _, _, _, _, _, _, _, _, _, _, rfl, _⟩ := h; rfl) | (obtain ⟨_, _, _, _, _, _, _, _, _, _, _, _, rfl, _⟩ := h; rfl) | (obtain ⟨_, _, _, _, _, _, _, _, _, _, _, _, _, rfl, _⟩ := h; rfl)) (fun cdv A outer s H vs Q E f hr h => ?_)
  obtain ⟨r, row, a, b, rfl, hS, hl, q⟩ := h
  refine ⟨_, (pss_one (ps_ret (pe_lc (own := [("turn", 3)]) (g := (gName 3)) (tt := tYes) rfl sc_signs_of.nd (kz_piT (K := K) (pv 0)) (blkOk_by (own := [("turn", 3)]) (N := ["row", "one", "other", "turn"]) (sc := defScope S_signs_of) (by decide +kernel)) (fun _ _ _ _ _ => (pg_name (i := 3) sc_signs_of.nd rfl (.inl rfl))) (fun _ _ _ _ _ => pts_nil) (fun _ _ _ _ _ => (pe_cal (c_sign_of T) hr (by decide) (pa_cons (pv 3) (pa_cons (pv 1) (pa_cons (pv 2) pa_nil)))))))), ?_⟩
  refine ⟨_, rfl, _, rfl, ⟨_, hS⟩, fun D nD => ?_⟩
  have len : ∀ i, (((signsOf row a b).map V.int).take i).length ≤ row.length := fun i => by
    rw [List.length_take, List.length_map, signsOf, List.length_map]
    exact Nat.min_le_right _ _
  refine lcp walk_tup nD (fun i => ((signsOf row a b).map V.int).take i) rfl (fun i _ => Nat.lt_of_le_of_lt (len i) (by omega)) (fun H2 s2 => seqT s2 hS) ?_ ?_
  · rintro i x H2 H' R N hi s2 ⟨rfl, hx⟩ k _
    obtain ⟨z, hz, rfl⟩ := map_at hx
    refine ⟨rfl, ?_⟩
    walk_at "rd"
    refine ⟨z, a, b, rfl, k _ _ (L2.Same.refl _) ?_⟩
    rw [List.take_add_one, List.getElem?_map, signsOf, List.getElem?_map, hz]
    rfl
  · intro H2 s2 hD
    refine q D H2 nD s2 ?_
    rw [hD, List.take_of_length_le]
    rw [List.length_map, List.length_map, signsOf, List.length_map]
    exact Nat.le_refl _

/-! signs -/
def sp_signs (K : PySem.W.Frag) : Sp := fun vs H Q _ => ∃ (hands : Int) (r : Addr) (row : List Int) (a b : Int), vs = [.int hands, .ref r, .int a, .int b] ∧ RowOk hands row ∧ SqT K H r (row.map V.int) ∧ (0 ≤ a ∧ a < hands) ∧ (0 ≤ b ∧ b < hands) ∧ a ≠ b ∧
  ∀ (p : Addr) (H' : Hp), H p = none → Same H H' → H' p = some (.lst ((signsOf row a b).map V.int)) → Q (.ref p) H'
theorem c_signs (T : Txt K mg) : Cal P w K mg base 7 "signs" ["hands", "row", "one", "other"] (sp_signs K) := by
  refine T.f_signs.cal sc_signs (fun _ _ _ _ _ _ us hl => match us, hl with | [_, _, _, _], _ => rfl) (fun vs H Q E h => by first | (obtain ⟨_, rfl, _⟩ := h; rfl) | (obtain ⟨_, _, rfl, _⟩ := h; rfl) | (obtain ⟨_, _, _, rfl, _⟩ := h; rfl) | (obtain ⟨_, _, _, _, rfl, _⟩ := h; rfl) | (obtain ⟨_, _, _, _, _, rfl, _⟩ := h; rfl) | (obtain ⟨_, _, _, _, _, _, rfl, _⟩ := h; rfl) | (obtain ⟨_, _, _, _, _, _, _, rfl, _⟩ := h; rfl) | (obtain ⟨_, _, _, _, _, _, _, _, rfl, _⟩ := h; rfl) | (obtain ⟨_, _, _, _, _, _, _, _, _, rfl, _⟩ := h; rfl) | (obtain ⟨_, _, _, _, _, _, _, _, _, _, rfl, _⟩ := h; rfl) | (obtain ⟨_, _, _, _, _, _, _, _, _, _, _, rfl, _⟩ := h; rfl) | (obtain ⟨_, _, _, _, _, _, _, _, _, _, _, _, rfl, _⟩ := h; rfl) | (obtain ⟨_, _, _, _, _, _, _, _, _, _, _, _, _, rfl, _⟩ := h; rfl)) (fun cdv A outer s H vs Q E f hr h => ?_)
  obtain ⟨hands, r, row, a, b, rfl, ok, hS, ha, hb, hab, q⟩ := h
  obtain ⟨h1, h2, h3, h4, h5⟩ := id ok
  refine ⟨_, (pss_cons (ps_expr (pe_cal (c_check_two T) hr (by decide) (pa_cons (pv 0) (pa_cons (pv 1) (pa_cons (pv 2) (pa_cons (pv 3) pa_nil))))))
    (pss_one (ps_ret (pe_cal (c_signs_of T) hr (by decide) (pa_cons (pv 1) (pa_cons (pv 2) (pa_cons (pv 3) pa_nil))))))), ?_⟩
  walk_at "rd"
  refine ⟨hands, r, row, a, b, rfl, ok, hS, ha, hb, hab, fun H1 s1 => ?_⟩
  walk_at "rd"
  exact ⟨r, row, a, b, rfl, seqT s1 hS, by omega, fun p H2 np s2 hp => q p H2 (none_back s1 np) (s1.trans s2) hp⟩

/-! totals -/
def sp_totals (K : PySem.W.Frag) : Sp := fun vs H Q _ => ∃ (hands : Int) (r u : Addr) (row ws : List Int), vs = [.int hands, .ref r, .ref u] ∧ RowOk hands row ∧ ws.length = row.length ∧ SqT K H r (row.map V.int) ∧ SqT K H u (ws.map V.int) ∧
  ∀ (p : Addr) (H' : Hp), H p = none → Same H H' → H' p = some (.lst ((totsOf hands row ws).map V.int)) → Q (.ref p) H'
theorem c_totals (T : Txt K mg) : Cal P w K mg base 6 "totals" ["hands", "row", "worths"] (sp_totals K) := by
  refine T.f_totals.cal sc_totals (fun _ _ _ _ _ _ us hl => match us, hl with | [_, _, _], _ => rfl) (fun vs H Q E h => by first | (obtain ⟨_, rfl, _⟩ := h; rfl) | (obtain ⟨_, _, rfl, _⟩ := h; rfl) | (obtain ⟨_, _, _, rfl, _⟩ := h; rfl) | (obtain ⟨_, _, _, _, rfl, _⟩ := h; rfl) | (obtain ⟨_, _, _, _, _, rfl, _⟩ := h; rfl) | (obtain ⟨_, _, _, _, _, _, rfl, _⟩ := h; rfl) | (obtain ⟨_, _, _, _, _, _, _, rfl, _⟩ := h; rfl) | (obtain ⟨_, _, _, _, _, _, _, _, rfl, _⟩ := h; rfl) | (obtain ⟨_, _, _, _, _, _, _, _, _, rfl, _⟩ := h; rfl) | (obtain ⟨_, _, _, _, _, _, _, _, _, _, rfl, _⟩ := h; rfl) | (obtain ⟨_, _, _, _, _, _, _, _, _, _, _, rfl, _⟩ := h; rfl) | (obtain ⟨_, _, _, _, _, _, _, _, _, _, _, _, rfl, _⟩ := h; rfl) | (obtain ⟨_, _, _, _, _, _, _, _, _, _, _, _, _, rfl, _⟩ := h; rfl)) (fun cdv A outer s H vs Q E f hr h => ?_)
  obtain ⟨hands, r, u, row, ws, rfl, ok, he, hS, hU, q⟩ := h
  obtain ⟨h1, h2, h3, h4, h5⟩ := id ok
  refine ⟨_, (pss_cons (ps_expr (pe_cal (c_check_row T) hr (by decide) (pa_cons (pv 0) (pa_cons (pv 1) pa_nil))))
    (pss_cons (ps_expr (pe_cal (c_check_worths_of T) hr (by decide) (pa_cons (pv 1) (pa_cons (pv 2) pa_nil))))
    (pss_one (ps_ret (pe_cal (c_totals_of T) hr (by decide) (pa_cons (pv 0) (pa_cons (pv 1) (pa_cons (pv 2) pa_nil)))))))), ?_⟩
  walk_at "rd"
  refine ⟨hands, r, row, rfl, ok, hS, fun H1 s1 => ?_⟩
  walk_at "rd"
  refine ⟨r, u, row, ws, rfl, h3, by omega, he, seqT s1 hS, seqT s1 hU, fun H2 s2 => ?_⟩
  walk_at "rd"
  have s12 := s1.trans s2
  exact ⟨hands, r, u, row, ws, rfl, ⟨by omega, by omega⟩, h5, he, .inr (.inl ⟨seqT s12 hS, seqT s12 hU⟩), fun p H3 np s3 hp => q p H3 (none_back s12 np) (s12.trans s3) hp⟩

/-! law -/
theorem due_tot (row ws : List Int) (h : Int) : (((row.zip ws).filter fun p => decide (p.1 = h)).map fun p => p.2).sum = tot row ws h := by
  unfold tot
  generalize row.zip ws = l
  induction l with
  | nil => rfl
  | cons p r ih =>
    rw [List.map_cons, List.sum_cons, ← ih]
    by_cases c : p.1 = h
    · rw [List.filter_cons_of_pos (by rw [decide_eq_true c]), List.map_cons, List.sum_cons, if_pos c]
    · rw [List.filter_cons_of_neg (by rw [decide_eq_false c]; exact Bool.false_ne_true), if_neg c, Int.zero_add]
theorem sum_totals {hands : Int} : ∀ {row ws : List Int}, ws.length = row.length → (∀ z ∈ row, 0 ≤ z ∧ z < hands) → (totsOf hands row ws).sum = ws.sum
  | [], [], _, _ => by
    rw [totsOf_nil]
    generalize hands.toNat = n
    induction n with
    | zero => rfl
    | succ n ih =>
      rw [List.replicate_succ, List.sum_cons, ih]
      rfl
  | t :: r, w :: ws, h, hz => by
    have ih := sum_totals (hands := hands) (row := r) (ws := ws) (Nat.succ.inj h) fun z m => hz z (List.mem_cons_of_mem _ m)
    obtain ⟨t0, t1⟩ := hz t List.mem_cons_self
    have e : totsOf hands (t :: r) (w :: ws) = (totsOf hands r ws).set t.toNat (tot r ws t + w) := by
      refine List.ext_getElem? fun k => ?_
      rw [List.getElem?_set, totsOf_len]
      by_cases hk : k < hands.toNat
      · have hk2 : (k : Int) < hands := by omega
        rw [totsOf_at hk2, tot_cons]
        by_cases hc : t.toNat = k
        · have ht : t = (k : Int) := by omega
          rw [if_pos hc, if_pos (show t.toNat < hands.toNat by omega), if_pos ht, ht]
          congr 1
          omega
        · rw [if_neg hc, totsOf_at hk2, if_neg (by omega), Int.zero_add]
      · rw [List.getElem?_eq_none (by rw [totsOf_len]; omega), if_neg (by omega), List.getElem?_eq_none (by rw [totsOf_len]; omega)]
    have g : (totsOf hands r ws)[t.toNat]? = some (tot r ws t) := by
      rw [totsOf_at (by omega), Int.toNat_of_nonneg t0]
    rw [e, sum_set g, ih, List.sum_cons]
    omega
def sp_law (K : PySem.W.Frag) : Sp := fun vs H Q _ => ∃ (a : Addr) (ns : List Int), vs = [.ref a] ∧ SqL K H a (ns.map V.int) ∧ ns.length ≤ 63 ∧ ∀ H', Q (.bl true) H'
theorem ok_law (T : Txt K mg) {f : Addr} {fd : FuncData} (F : FunD K "law" "law" (defArgs S_law) (defBody S_law) (defScope S_law) [] [] f fd) : FnOk P w K mg base CX0 8 f fd ["_law_script"] (sp_law K) := by
  refine fn_ok F sc_law (fun vs H Q E h => by first | (obtain ⟨_, rfl, _⟩ := h; rfl) | (obtain ⟨_, _, rfl, _⟩ := h; rfl) | (obtain ⟨_, _, _, rfl, _⟩ := h; rfl) | (obtain ⟨_, _, _, _, rfl, _⟩ := h; rfl) | (obtain ⟨_, _, _, _, _, rfl, _⟩ := h; rfl) | (obtain ⟨_, _, _, _, _, _, rfl, _⟩ := h; rfl) | (obtain ⟨_, _, _, _, _, _, _, rfl, _⟩ := h; rfl) | (obtain ⟨_, _, _, _, _, _, _, _, rfl, _⟩ := h; rfl) | (obtain ⟨_, _, _, _, _, _, _, _, _, rfl, _⟩ := h; rfl) | (obtain ⟨_, _, _, _, _, _, _, _, _, _, rfl, _⟩ := h; rfl) | (obtain ⟨_, _, _, _, _, _, _, _, _, _, _, rfl, _⟩ := h; rfl) | (obtain ⟨_, _, _, _, _, _, _, _, _, _, _, _, rfl, _⟩ := h; rfl) | (obtain ⟨_, _, _, _, _, _, _, _, _, _, _, _, _, rfl, _⟩ := h; rfl)) (fun cdv A outer s H vs Q E hr h => ?_)
  obtain ⟨a, ns, rfl, hS0, hl, q⟩ := h
  refine ⟨_, (pss_cons (ps_set (i := 1) sc_law.nd rfl (.inr rfl) (pe_lst pa_nil))
    (pss_cons (ps_set (i := 2) sc_law.nd rfl (.inl rfl) (pe_op op_add pe_int (pe_cal (c__law_draw T) hr (by decide) (pa_cons (pv 0) (pa_cons (pv 1) (pa_cons pe_int pa_nil))))))
    (pss_cons (ps_set (i := 3) sc_law.nd rfl (.inr rfl) (pe_cal (c__law_some_row T) hr (by decide) (pa_cons (pv 0) (pa_cons (pv 1) (pa_cons (pv 2) (pa_cons pe_int pa_nil))))))
    (pss_cons (ps_set (i := 4) sc_law.nd rfl (.inr rfl) (pe_callTy (kz_tuple (K := K)) (by rfl) T.b_tuple bt_tuple (pa_cons (pe_lc (own := [("_law_place", 10)]) (g := (gName 10)) (tt := tYes) rfl sc_law.nd (kz_piT (K := K) (pv 3)) (blkOk_by (own := [("_law_place", 10)]) (N := ["_law_script", "_law_town", "_law_hands", "_law_row", "_law_worths", "_law_made", "_law_due", "_law_one", "_law_other", "_law_own", "_law_place", "_law_hand", "_law_turn", "_law_worth"]) (sc := defScope S_law) (by decide +kernel)) (fun _ _ _ _ _ => (pg_name (i := 10) sc_law.nd rfl (.inl rfl))) (fun _ _ _ _ _ => pts_nil) (fun _ _ _ _ _ => (pe_op op_sub (pe_cal (c__law_draw T) hr (by decide) (pa_cons (pv 0) (pa_cons (pv 1) (pa_cons pe_int pa_nil)))) pe_int))) pa_nil)))
    (pss_cons (ps_set (i := 5) sc_law.nd rfl (.inl rfl) (pe_cal (c_totals T) hr (by decide) (pa_cons (pv 2) (pa_cons (pv 3) (pa_cons (pv 4) pa_nil)))))
    (pss_cons (ps_setLc (i := 6) (own := [("_law_hand", 11)]) (g := (gName 11)) (tt := tYes) rfl sc_law.nd rfl rfl (sw_true rfl rfl rfl (by decide +kernel)) (pi_range1 (by rfl) T.b_range (pa_cons (pv 2) pa_nil)) (blkOk_by (own := [("_law_hand", 11)]) (N := ["_law_script", "_law_town", "_law_hands", "_law_row", "_law_worths", "_law_made", "_law_due", "_law_one", "_law_other", "_law_own", "_law_place", "_law_hand", "_law_turn", "_law_worth"]) (sc := defScope S_law) (by decide +kernel)) (fun _ _ _ _ _ => (pg_name (i := 11) sc_law.nd rfl (.inr rfl))) (fun _ _ _ _ _ => pts_nil) (fun _ _ _ _ _ => (pe_callB (kz_sum (K := K) rfl) (by rfl) T.b_sum bt_sum (pa_cons (pe_lc (own := [("_law_turn", 12), ("_law_worth", 13)]) (g := (gTup K 2 (gCons (gName 12) (gCons (gName 13) gNil)))) (tt := _) rfl sc_law.nd (kz_zip (K := K) (by rfl) T.b_zip (pa_cons (pv 3) (pa_cons (pv 4) pa_nil))) (blkOk_in (own := [("_law_turn", 12), ("_law_worth", 13)]) (by with_unfolding_all rfl)) (fun _ _ _ _ _ => (kz_gtup (K := K) 2 rfl (pgs_cons (pg_name (i := 12) sc_law.nd rfl (.inl rfl)) (pgs_cons (pg_name (i := 13) sc_law.nd rfl (.inl rfl)) pgs_nil)))) (fun _ _ _ _ _ => pts_one (pt_cmpR op_eq (pv 12) (pv 11) (nomark _))) (fun _ _ _ _ _ => (pv 13))) pa_nil))))
    (pss_cons (ps_if (PW.pt (pw_or (pt_cmpR op_notBl (pe_cal (c_is_row T) hr (by decide) (pa_cons (pv 2) (pa_cons (pv 3) pa_nil))) pe_bl (nomark _)) (pw_or (pt_cmpR (kz_neD (K := K) hr.units) (pv 5) (pv 6) (nomark _)) (pw_or1 (pt_cmpR op_ne (pe_callB (kz_sum (K := K) rfl) (by rfl) T.b_sum bt_sum (pa_cons (pv 5) pa_nil)) (pe_callB (kz_sumT (K := K) rfl) (by rfl) T.b_sum bt_sum (pa_cons (pv 4) pa_nil)) (nomark _)))))) (pss_one (ps_ret pe_bl)) pss_nil)
    (pss_cons (ps_for PassesOwn.never rfl (pi_range1 (by rfl) T.b_range (pa_cons (pv 2) pa_nil)) (pg_name (i := 7) sc_law.nd rfl (.inl rfl)) (pss_one (ps_for PassesOwn.never rfl (pi_range1 (by rfl) T.b_range (pa_cons (pv 2) pa_nil)) (pg_name (i := 8) sc_law.nd rfl (.inl rfl)) (pss_one (ps_if (pt_cmpR op_ne (pv 7) (pv 8) (nomark _)) (pss_cons (ps_set (i := 9) sc_law.nd rfl (.inl rfl) (pe_cal (c_lead T) hr (by decide) (pa_cons (pv 2) (pa_cons (pv 3) (pa_cons (pv 7) (pa_cons (pv 8) (pa_cons (pv 4) pa_nil)))))))
    (pss_cons (ps_if (pt_cmpR (kz_neD (K := K) hr.units) (pe_cal (c_signs T) hr (by decide) (pa_cons (pv 2) (pa_cons (pv 3) (pa_cons (pv 7) (pa_cons (pv 8) pa_nil))))) (pe_cal (c__law_signs_so T) hr (by decide) (pa_cons (pv 3) (pa_cons (pv 7) (pa_cons (pv 8) pa_nil)))) (nomark _)) (pss_one (ps_ret pe_bl)) pss_nil)
    (pss_cons (ps_if (pt_cmpR op_ne (pv 9) (pe_op op_sub (pe_ix (kz_ixL (K := K)) (pv 5) (pv 7) (fun _ _ => rfl)) (pe_ix (kz_ixL (K := K)) (pv 5) (pv 8) (fun _ _ => rfl))) (nomark _)) (pss_one (ps_ret pe_bl)) pss_nil)
    (pss_one (ps_if (PW.pt (pw_or (pt_cmpR op_ne (pv 9) (pe_cal (c__law_lead_so T) hr (by decide) (pa_cons (pv 3) (pa_cons (pv 7) (pa_cons (pv 8) (pa_cons (pv 4) pa_nil))))) (nomark _)) (pw_or1 (pt_cmpR op_ne (pe_cal (c_lead T) hr (by decide) (pa_cons (pv 2) (pa_cons (pv 3) (pa_cons (pv 8) (pa_cons (pv 7) (pa_cons (pv 4) pa_nil)))))) (pe_op op_sub pe_int (pv 9)) (nomark _))))) (pss_one (ps_ret pe_bl)) pss_nil))))) pss_nil)))))
    (pss_one (ps_ret pe_bl)))))))))), ?_⟩
  walk_at "rd"
  intro b nb
  have hS : Scr K (upd H b (.lst [])) b a ns := .of hS0 hl nb
  have t0 : Town b 0 (upd H b (.lst [])) := ⟨[], upd_same, Nat.le_refl _⟩
  walk_at "rd"
  refine ⟨a, b, ns, 0, 3, rfl, hS, t0, by omega, by omega, fun z1 H1 z10 z11 b1 t1 => ?_⟩
  refine ⟨_, _, rfl, rfl, ?_⟩
  change tSeq _ _ _ [some (.ref a), some (.ref b), some (.int (2 + z1)), none, none, none, none, none, none, none, none, none, none, none] H1
  generalize hh : 2 + z1 = hands
  walk_at "rd"
  refine ⟨a, b, ns, 1, hands, 64, rfl, hS.but b1, t1, by omega, by omega, by omega, by omega, fun r row H2 r0 r1 r2 nr _ hr b2 t2 => ?_⟩
  have ok : RowOk hands row := ⟨by omega, by omega, r0, by omega, r2⟩
  have hS2 := (hS.but b1).but b2
  -- the worths
  refine ⟨_, rfl, _, rfl, ⟨_, .inl (.inl hr)⟩, fun D nD => ?_⟩
  refine lct (walk_tup (xs := row.map V.int)) (fun _ => True) (c := 1) t2 nD (by rw [List.length_map]; omega) (fun H3 b3 => butT b3 nr (.inl (.inl hr))) ?_ ?_
  · rintro i x H3 H' R hi b3 t3 ⟨rfl, hx⟩ k
    rw [List.length_map] at hi
    refine ⟨rfl, ?_⟩
    walk_at "rd"
    refine ⟨a, b, ns, _, 201, rfl, hS2.but b3, t3, by omega, by omega, fun z H4 _ _ b4 t4 => ?_⟩
    walk_at "rd"
    exact k _ _ trivial b4 (t4.le (by omega))
  intro ws H3 lw _ b3 t3 hD
  rw [List.length_map] at lw
  have hr3 : SqT K H3 r (row.map V.int) := butT b3 nr (.inl (.inl hr))
  refine ⟨D, _, rfl, .inl ⟨.inl (.inl hD), fun u nu => ?_⟩⟩
  have s4 : Same H3 (upd H3 u (.tup (ws.map V.int))) := same_new nu
  generalize hH4 : upd H3 u (.tup (ws.map V.int)) = H4 at s4 ⊢
  have hr4 : SqT K H4 r (row.map V.int) := seqT s4 hr3
  have hu4 : SqT K H4 u (ws.map V.int) := by
    rw [← hH4]
    exact .inl (.inl upd_same)
  -- made
  walk_at "rd"
  refine ⟨hands, r, u, row, ws, rfl, ok, lw, hr4, hu4, fun p H5 np s5 hp => ?_⟩
  have hr5 := seqT s5 hr4
  have hu5 := seqT s5 hu4
  change tSeq _ _ _ [some (.ref a), some (.ref b), some (.int hands), some (.ref r), some (.ref u), some (.ref p), none, none, none, none, none, none, none, none] H5
  -- due
  walk_at "rd"
  intro E nE
  refine lcp walk_range nE (fun i => ((totsOf hands row ws).map V.int).take i) rfl (fun i hi => ?_) (fun _ _ => trivial) ?_ ?_
  · rw [List.length_take]
    omega
  · rintro i x H6 H' R N hi s6 ⟨rfl, rfl⟩ k _
    refine ⟨rfl, ?_⟩
    walk_at "rd"
    refine ⟨r, u, _, _, rfl, .inr ⟨seqT s6 hr5, seqT s6 hu5, fun D2 nD2 => ?_⟩⟩
    have zl : (row.zip ws).length = row.length := by
      rw [List.length_zip]
      omega
    refine lcp (walk_zipT (n := row.length) (xs := row.map V.int) (ys := ws.map V.int) (by rw [List.length_map, List.length_map]; omega)) nD2 (fun j => (((row.zip ws).take j).filter fun p => decide (p.1 = 0 + (i : Int))).map fun p => V.int p.2) rfl (fun j hj => ?_)
      (fun H7 s7 => ⟨seqT s7 (seqT s6 hr5), seqT s7 (seqT s6 hu5)⟩) ?_ ?_
    · rw [List.length_map]
      refine Nat.lt_of_le_of_lt (List.length_filter_le _ _) ?_
      rw [List.length_take]
      omega
    · rintro j x H7 H8 R2 N2 hj s7 ⟨T1, v1, v2, rfl, nT, rfl, h1, h2⟩ k1 k2
      obtain ⟨t, ht, rfl⟩ := map_at h1
      obtain ⟨w1, hw, rfl⟩ := map_at h2
      have step : ((row.zip ws).take (j + 1)).filter (fun p => decide (p.1 = 0 + (i : Int))) = ((row.zip ws).take j).filter (fun p => decide (p.1 = 0 + (i : Int))) ++ if t = 0 + (i : Int) then [(t, w1)] else [] := by
        rw [List.take_add_one, (List.getElem?_zip_eq_some (z := (t, w1))).mpr ⟨ht, hw⟩, List.filter_append]
        congr 1
        by_cases c : t = 0 + (i : Int)
        · rw [if_pos c]
          exact List.filter_cons_of_pos (by rw [decide_eq_true c])
        · rw [if_neg c]
          exact List.filter_cons_of_neg (by rw [decide_eq_false c]; exact Bool.false_ne_true)
      refine ⟨T1, _, rfl, .inl (.inl upd_same), rfl, _, _, rfl, _, _, rfl, rfl, rfl, ?_⟩
      refine ⟨_, rfl, _, rfl, rfl, _, rfl, ?_⟩
      refine ite2 (fun c => ?_) (fun c => ?_)
      · have c2 : t = 0 + (i : Int) := V.int.inj (of_decide_eq_true c)
        refine ⟨_, rfl, k1 _ _ (same_new nT) ?_⟩
        rw [step, if_pos c2, List.map_append]
        rfl
      · have c2 : ¬ t = 0 + (i : Int) := fun z => c (decide_eq_true (congrArg V.int z))
        refine k2 _ (same_new nT) ?_
        rw [step, if_neg c2, List.append_nil]
    · intro H7 s7 hD2
      refine ⟨D2, ((row.zip ws).filter fun p => decide (p.1 = 0 + (i : Int))).map fun p => p.2, rfl, ?_, k _ _ s7 ?_⟩
      · rw [List.map_map]
        rw [List.take_of_length_le (by rw [zl]; exact Nat.le_refl _)] at hD2
        exact .inl (.inl hD2)
      · rw [due_tot, List.take_add_one, List.getElem?_map, totsOf_at (by omega), Int.zero_add]
        rfl
  intro H6 s6 hE
  rw [List.take_of_length_le (by rw [List.length_map, totsOf_len]; exact Nat.le_refl _)] at hE
  have hr6 := seqT s6 hr5
  have hu6 := seqT s6 hu5
  have hp6 : SqL K H6 p ((totsOf hands row ws).map V.int) := .inl (.inl (s6 _ _ hp))
  have hE6 : SqL K H6 E ((totsOf hands row ws).map V.int) := .inl (.inl hE)
  change tSeq _ _ _ [some (.ref a), some (.ref b), some (.int hands), some (.ref r), some (.ref u), some (.ref p), some (.ref E), none, none, none, none, none, none, none] H6
  walk_at "rd"
  refine ⟨hands, r, row, rfl, ok, hr6, fun H7 s7 => ?_⟩
  walk_at "rd"
  have hr7 := seqT s7 hr6
  have hu7 := seqT s7 hu6
  have hp7 := seqL s7 hp6
  refine neL hp7 (seqL s7 hE6) ?_
  rw [decide_eq_true rfl]
  walk_at "rd"
  refine ⟨p, _, rfl, hp7, _, rfl, u, _, rfl, hu7, rfl, ?_⟩
  rw [sum_totals lw r2, decide_eq_true rfl]
  walk_at "rd"
  -- the pairs
  refine for_range (fun _ σ H8 => ∃ y7 y8 y9, σ = [some (.ref a), some (.ref b), some (.int hands), some (.ref r), some (.ref u), some (.ref p), some (.ref E), y7, y8, y9, none, none, none, none] ∧ Same H7 H8) ⟨none, none, none, rfl, L2.Same.refl _⟩ ?_ ?_
  · rintro i σ H8 hi ⟨y7, y8, y9, rfl, s8⟩
    walk_at "rd"
    refine for_range (fun _ σ H9 => ∃ y8 y9, σ = [some (.ref a), some (.ref b), some (.int hands), some (.ref r), some (.ref u), some (.ref p), some (.ref E), some (.int (0 + (i : Int))), y8, y9, none, none, none, none] ∧ Same H7 H9) ⟨y8, y9, rfl, s8⟩ ?_ ?_
    · rintro j σ H9 hj ⟨y8, y9, rfl, s9⟩
      walk_at "rd"
      refine ite2 (fun c => ?_) (fun c => ⟨_, _, rfl, s9⟩)
      have hij : (0 + (i : Int)) ≠ 0 + (j : Int) := fun z => by
        rw [z, decide_eq_true rfl] at c
        cases c
      have ha : 0 ≤ 0 + (i : Int) ∧ 0 + (i : Int) < hands := by omega
      have hb : 0 ≤ 0 + (j : Int) ∧ 0 + (j : Int) < hands := by omega
      have at_ : ∀ z : Int, 0 ≤ z ∧ z < hands → atI ((totsOf hands row ws).map V.int) z = some (.int (tot row ws z)) := fun z hz => by
        have e : ((z.toNat : Nat) : Int) = z := Int.toNat_of_nonneg hz.1
        have g : (totsOf hands row ws)[z.toNat]? = some (tot row ws ((z.toNat : Nat) : Int)) := totsOf_at (by omega)
        rw [← e, at_int g]
      generalize 0 + (i : Int) = x at *
      generalize 0 + (j : Int) = y at *
      walk_at "rd"
      refine ⟨hands, r, u, row, ws, x, y, rfl, ok, lw, seqT s9 hr7, seqT s9 hu7, ha, hb, hij, fun H10 s10 => ?_⟩
      have s10 := s9.trans s10
      walk_at "rd"
      refine ⟨hands, r, row, x, y, rfl, ok, seqT s10 hr7, ha, hb, hij, fun p1 H11 _ s11 hp1 => ?_⟩
      have s11' := s10.trans s11
      walk_at "rd"
      refine ⟨r, row, x, y, rfl, seqT s11' hr7, by omega, hij, fun p2 H12 _ s12 hp2 => ?_⟩
      have s12' := s11'.trans s12
      refine neL (.inl (.inl (s12 _ _ hp1))) (.inl (.inl hp2)) ?_
      rw [decide_eq_true rfl]
      walk_at "rd"
      have hp12 := seqL s12' hp7
      refine ⟨_, _, _, _, rfl, rfl, hp12, at_ x ha, ?_⟩
      refine ⟨_, rfl, _, rfl, _, _, _, _, rfl, rfl, hp12, at_ y hb, ?_⟩
      refine ⟨_, _, rfl, rfl, rfl, ?_⟩
      rw [decide_eq_true rfl]
      walk_at "rd"
      refine ⟨r, u, row, ws, x, y, rfl, seqT s12' hr7, seqT s12' hu7, by omega, lw, hij, fun H13 s13 => ?_⟩
      have s13' := s12'.trans s13
      refine ⟨rfl, ?_⟩
      rw [lead_tot hij, decide_eq_true rfl]
      walk_at "rd"
      refine ⟨hands, r, u, row, ws, y, x, rfl, ok, lw, seqT s13' hr7, seqT s13' hu7, hb, ha, hij.symm, fun H14 s14 => ?_⟩
      have s14' := s13'.trans s14
      walk_at "rd"
      have e : tot row ws y - tot row ws x = 0 - (tot row ws x - tot row ws y) := by omega
      rw [e, decide_eq_true rfl]
      exact ⟨_, _, rfl, s14'⟩
    · rintro σ H9 ⟨y8, y9, rfl, s9⟩
      exact ⟨_, _, _, rfl, s9⟩
  · rintro σ H8 ⟨y7, y8, y9, rfl, s8⟩
    exact q _

end
end Ev

/-! ### the head -/
namespace Ev
open PySem PySem.Spec PyProof.Rows L2 RZ Ly
def d__law_cell_at : He.DefD := ⟨("_law_cell_at", none), "_law_cell_at", "_law_cell_at", defArgs S__law_cell_at, defBody S__law_cell_at, defScope S__law_cell_at, [], []⟩
def d__law_mixed : He.DefD := ⟨("_law_mixed", none), "_law_mixed", "_law_mixed", defArgs S__law_mixed, defBody S__law_mixed, defScope S__law_mixed, [], []⟩
def d__law_draw : He.DefD := ⟨("_law_draw", none), "_law_draw", "_law_draw", defArgs S__law_draw, defBody S__law_draw, defScope S__law_draw, [], []⟩
def d__law_signs_so : He.DefD := ⟨("_law_signs_so", none), "_law_signs_so", "_law_signs_so", defArgs S__law_signs_so, defBody S__law_signs_so, defScope S__law_signs_so, [], []⟩
def d__law_lead_so : He.DefD := ⟨("_law_lead_so", none), "_law_lead_so", "_law_lead_so", defArgs S__law_lead_so, defBody S__law_lead_so, defScope S__law_lead_so, [], []⟩
def d__law_some_row : He.DefD := ⟨("_law_some_row", none), "_law_some_row", "_law_some_row", defArgs S__law_some_row, defBody S__law_some_row, defScope S__law_some_row, [], []⟩
def d_is_whole : He.DefD := ⟨("is_whole", none), "is_whole", "is_whole", defArgs S_is_whole, defBody S_is_whole, defScope S_is_whole, [], []⟩
def d_is_from_to : He.DefD := ⟨("is_from_to", none), "is_from_to", "is_from_to", defArgs S_is_from_to, defBody S_is_from_to, defScope S_is_from_to, [], []⟩
def d_check_hands : He.DefD := ⟨("check_hands", none), "check_hands", "check_hands", defArgs S_check_hands, defBody S_check_hands, defScope S_check_hands, [], []⟩
def d_is_hand : He.DefD := ⟨("is_hand", none), "is_hand", "is_hand", defArgs S_is_hand, defBody S_is_hand, defScope S_is_hand, [], []⟩
def d_fits_row : He.DefD := ⟨("fits_row", none), "fits_row", "fits_row", defArgs S_fits_row, defBody S_fits_row, defScope S_fits_row, [], []⟩
def d_is_row : He.DefD := ⟨("is_row", none), "is_row", "is_row", defArgs S_is_row, defBody S_is_row, defScope S_is_row, [], []⟩
def d_check_row : He.DefD := ⟨("check_row", none), "check_row", "check_row", defArgs S_check_row, defBody S_check_row, defScope S_check_row, [], []⟩
def d_check_two_hands : He.DefD := ⟨("check_two_hands", none), "check_two_hands", "check_two_hands", defArgs S_check_two_hands, defBody S_check_two_hands, defScope S_check_two_hands, [], []⟩
def d_check_two : He.DefD := ⟨("check_two", none), "check_two", "check_two", defArgs S_check_two, defBody S_check_two, defScope S_check_two, [], []⟩
def d_check_worths : He.DefD := ⟨("check_worths", none), "check_worths", "check_worths", defArgs S_check_worths, defBody S_check_worths, defScope S_check_worths, [], []⟩
def d_check_worths_of : He.DefD := ⟨("check_worths_of", none), "check_worths_of", "check_worths_of", defArgs S_check_worths_of, defBody S_check_worths_of, defScope S_check_worths_of, [], []⟩
def d_totals_of : He.DefD := ⟨("totals_of", none), "totals_of", "totals_of", defArgs S_totals_of, defBody S_totals_of, defScope S_totals_of, [], []⟩
def d_lead : He.DefD := ⟨("lead", none), "lead", "lead", defArgs S_lead, defBody S_lead, defScope S_lead, [], []⟩
def d_sign_of : He.DefD := ⟨("sign_of", none), "sign_of", "sign_of", defArgs S_sign_of, defBody S_sign_of, defScope S_sign_of, [], []⟩
def d_signs_of : He.DefD := ⟨("signs_of", none), "signs_of", "signs_of", defArgs S_signs_of, defBody S_signs_of, defScope S_signs_of, [], []⟩
def d_signs : He.DefD := ⟨("signs", none), "signs", "signs", defArgs S_signs, defBody S_signs, defScope S_signs, [], []⟩
def d_totals : He.DefD := ⟨("totals", none), "totals", "totals", defArgs S_totals, defBody S_totals, defScope S_totals, [], []⟩
def d_law : He.DefD := ⟨("law", none), "law", "law", defArgs S_law, defBody S_law, defScope S_law, [], []⟩
def fnL : List He.DefD := [d__law_cell_at, d__law_mixed, d__law_draw, d__law_signs_so, d__law_lead_so, d__law_some_row, d_is_whole, d_is_from_to, d_check_hands, d_is_hand, d_fits_row, d_is_row, d_check_row, d_check_two_hands, d_check_two, d_check_worths, d_check_worths_of, d_totals_of, d_lead, d_sign_of, d_signs_of, d_signs, d_totals, d_law]
def faL : List He.Fa := [.glo "_law_cell_at", .glo "_law_mixed", .glo "_law_draw", .glo "_law_signs_so", .glo "_law_lead_so", .glo "_law_some_row", .glo "is_whole", .glo "is_from_to", .glo "check_hands", .glo "is_hand", .glo "fits_row", .glo "is_row", .glo "check_row", .glo "check_two_hands", .glo "check_two", .glo "check_worths", .glo "check_worths_of", .glo "totals_of", .glo "lead", .glo "sign_of", .glo "signs_of", .glo "signs", .glo "totals", .glo "law", .free "all", .free "bool", .free "int", .free "isinstance", .free "len", .free "min", .free "range", .free "sum", .free "tuple", .free "zip", .int "FEWEST_HANDS" (2), .int "MOST_HANDS" (4), .int "MOST_PLACES" (64)]
abbrev Rw : PySem.W.OpenRow := PySem.W.OpenLaw.row PySem.Challenge.rw_evenrows_k01_whole_totals
abbrev hk : PySem.W.Hook := He.hookD 5 faL fnL
def ob (s : PySem.W.SharedT) : He.AlD := He.obsDG 5 faL fnL (HandSHeadRun.getT s)
theorem ob_eq (s : PySem.W.SharedT) : ob s = hk.obs s.abs := He.obsDG_eq (HandSHeadRun.getT_eq s)
def loose0 : List PySem.Str := ["TurnError", "NoHands", "NoRow", "NoHand", "NoWorths", "FEWEST_HANDS", "MOST_HANDS", "MOST_PLACES", "is_whole", "is_from_to", "is_hand", "fits_row", "check_hands", "check_row", "check_two", "check_two_hands", "check_worths", "check_worths_of", "is_row", "signs", "totals", "lead", "signs_of", "sign_of", "totals_of", "_law_cell_at", "_law_mixed", "_law_draw", "_law_some_row", "_law_signs_so"]
def loose1 : List PySem.Str := ["_law_lead_so"]
def looseL : List PySem.Str := loose0 ++ loose1
theorem run (w : World) : HandSHeadRun.RunEq Rw (PySem.W.view Rw.prog [35]) hk ob 20000 looseL w := by
  intro os
  kernel_rfl
theorem txt {K : PySem.W.Frag} {h : Heap} {mg : Str → Option Value} (X : K.In h) (G : h.Ns mainGlobals mg) (c : He.SaysD faL fnL K) : Txt K mg where
  f__law_cell_at := at_of (d := d__law_cell_at) X G c 0 0 rfl rfl rfl
  f__law_mixed := at_of (d := d__law_mixed) X G c 1 1 rfl rfl rfl
  f__law_draw := at_of (d := d__law_draw) X G c 2 2 rfl rfl rfl
  f__law_signs_so := at_of (d := d__law_signs_so) X G c 3 3 rfl rfl rfl
  f__law_lead_so := at_of (d := d__law_lead_so) X G c 4 4 rfl rfl rfl
  f__law_some_row := at_of (d := d__law_some_row) X G c 5 5 rfl rfl rfl
  f_is_whole := at_of (d := d_is_whole) X G c 6 6 rfl rfl rfl
  f_is_from_to := at_of (d := d_is_from_to) X G c 7 7 rfl rfl rfl
  f_check_hands := at_of (d := d_check_hands) X G c 8 8 rfl rfl rfl
  f_is_hand := at_of (d := d_is_hand) X G c 9 9 rfl rfl rfl
  f_fits_row := at_of (d := d_fits_row) X G c 10 10 rfl rfl rfl
  f_is_row := at_of (d := d_is_row) X G c 11 11 rfl rfl rfl
  f_check_row := at_of (d := d_check_row) X G c 12 12 rfl rfl rfl
  f_check_two_hands := at_of (d := d_check_two_hands) X G c 13 13 rfl rfl rfl
  f_check_two := at_of (d := d_check_two) X G c 14 14 rfl rfl rfl
  f_check_worths := at_of (d := d_check_worths) X G c 15 15 rfl rfl rfl
  f_check_worths_of := at_of (d := d_check_worths_of) X G c 16 16 rfl rfl rfl
  f_totals_of := at_of (d := d_totals_of) X G c 17 17 rfl rfl rfl
  f_lead := at_of (d := d_lead) X G c 18 18 rfl rfl rfl
  f_sign_of := at_of (d := d_sign_of) X G c 19 19 rfl rfl rfl
  f_signs_of := at_of (d := d_signs_of) X G c 20 20 rfl rfl rfl
  f_signs := at_of (d := d_signs) X G c 21 21 rfl rfl rfl
  f_totals := at_of (d := d_totals) X G c 22 22 rfl rfl rfl
  b_all := He.free_ok X G (c.fact 24 (f := .free "all") rfl)
  b_bool := He.free_ok X G (c.fact 25 (f := .free "bool") rfl)
  b_int := He.free_ok X G (c.fact 26 (f := .free "int") rfl)
  b_isinstance := He.free_ok X G (c.fact 27 (f := .free "isinstance") rfl)
  b_len := He.free_ok X G (c.fact 28 (f := .free "len") rfl)
  b_min := He.free_ok X G (c.fact 29 (f := .free "min") rfl)
  b_range := He.free_ok X G (c.fact 30 (f := .free "range") rfl)
  b_sum := He.free_ok X G (c.fact 31 (f := .free "sum") rfl)
  b_tuple := He.free_ok X G (c.fact 32 (f := .free "tuple") rfl)
  b_zip := He.free_ok X G (c.fact 33 (f := .free "zip") rfl)
  k_FEWEST_HANDS := He.int_ok X G (c.fact 34 (f := .int "FEWEST_HANDS" (2)) rfl)
  k_MOST_HANDS := He.int_ok X G (c.fact 35 (f := .int "MOST_HANDS" (4)) rfl)
  k_MOST_PLACES := He.int_ok X G (c.fact 36 (f := .int "MOST_PLACES" (64)) rfl)
theorem facts {P : Program} {w : World} {K : PySem.W.Frag} {h : Heap} {mg : Str → Option Value} {f : Addr} (X : K.In h) (G : h.Ns mainGlobals mg) (hfa : mg ("law" : Str) = some (.ref f)) (c : He.SaysD faL fnL K) :
    ∃ fd : FuncData, (∀ (s : Shared) (v : Value), BindsTo s fd ⟨[v], []⟩ [("_law_script", v)]) ∧ ∀ base : Heap, K.In base → base.Ns mainGlobals mg → FnOk P w K mg base CX0 8 f fd ["_law_script"] (sp_law K) := by
  obtain ⟨fd, F⟩ := c.def_ 23 (d := d_law) rfl
  have e := hfa.symm.trans (He.glo_ok X G (c.fact 23 (f := .glo "law") rfl))
  cases e
  have b := FunD.bindsA (ps := ["_law_script"]) F fun _ _ _ _ _ _ us hl => match us, hl with | [_], _ => rfl
  exact ⟨fd, fun s v => b s [v] rfl, fun base _ _ => ok_law (txt X G c) F⟩
end Ev
open PySem PySem.W PySem.Calls PyProof.Rows
set_option maxHeartbeats 0 in
theorem PySem.Challenge.cw_evenrows_k01_whole_totals_holds : PySem.Challenge.rw_evenrows_k01_whole_totals.Holds := by
  w_on; o_law
  refine HandSHeadRun.head_any (r := (OpenLaw.row PySem.Challenge.rw_evenrows_k01_whole_totals)) (q := view (OpenLaw.row PySem.Challenge.rw_evenrows_k01_whole_totals).prog [35]) (H := Ev.hk) (ob := Ev.ob) (M := 20000) (loose := Ev.looseL) (d := HandSHeadRun.topDef (OpenLaw.row PySem.Challenge.rw_evenrows_k01_whole_totals).prog 35) (kwd := []) Ev.ob_eq
    (by kernel_rfl) (fun s => by kernel_rfl) Ev.run (by kernel_rfl) (by kernel_rfl) (by kernel_rfl) (by rfl) (by first | assumption | decide +kernel) (by decide +kernel) ⟨rfl, rfl, rfl, rfl, rfl, by decide +kernel⟩ ?hw ?hc
  case hw => w_witness2
  case hc =>
    refine L2.walk_ofE (l := PySem.Challenge.rw_evenrows_k01_whole_totals) (n := 63) (k := 8) (x := "_law_script") (CX := L2.CX0) rfl (by decide) (by kernel_rfl) ⟨rfl, by decide, by decide⟩ ?F (fun _ _ _ _ z => z)
    intro w mg fa h Y G hmg0
    obtain ⟨K, KX, c⟩ := Y
    have hmg : mg ("law" : PySem.Str) = some (.ref fa) := by
      have e : (HandSHeadRun.topDef (OpenLaw.row PySem.Challenge.rw_evenrows_k01_whole_totals).prog 35).name = ("law" : PySem.Str) := by kernel_rfl
      rw [← e]
      exact hmg0
    obtain ⟨fd, hb, hF⟩ := Ev.facts (P := (PySem.Challenge.rw_evenrows_k01_whole_totals).prog) (w := w) KX G hmg c
    exact ⟨K, fd, Ev.sp_law K, KX, hb, fun H a ns hl _ hS => ⟨a, ns, rfl, hS, hl, fun _ => rfl⟩, hF⟩
