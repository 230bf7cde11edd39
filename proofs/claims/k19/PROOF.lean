import PyProof.Rows.All
import Wide.All
import OpenK.AllK
import Wide.FinOn
import Lean
import KE.GoesEnum
import KE.KTupSum
import KE.KRevSl
import KE.GoesMore
import KE.GoesZip
import KE.DataMinMax
import KE.SortData
import PyProof.EqAt
import PyProof.EqKinds
import PyProof.TupleCall
import HandS.Base
import HandS.Call
import HandS.List
import HandS.Comp
import HandS.Ends
import HandS.Dict
import HandS.Iter
import HandS.Walk
import HandS.Text
import HandS.Words
import HandS.WordsList
import HandS.WordsDict
import HandS.Exc
import HandS.Zip
import HandS.Conv
import HandS.TryOnly
import HandS.TupAny
import HandS.Style
import HandS.IsInst
import HandS.Wide
import HandS.Defaults
import HandS.Head0
import HandS.Head1
import HandS.Head2
import HandS.HeadEnd
import HandS.HeadHook1
import HandS.HeadHook2
import HandS.Star
import HandS.SetFor
import HandS.Head3
import HandS.TupMul
import HandS.Codes
import HandS.Strs
import PySem.Challenge.RW_evenrows_k19_whole_smooth_worths_added

set_option Elab.async false
set_option linter.all false
set_option maxRecDepth 100000
set_option maxHeartbeats 4000000

namespace Ly
open PySem PySem.Spec PyProof.Rows L2

/-! ### the text by names: a def as it stands, a def as it is called -/
/-- the def st stands under the module's name x -/
structure At (K : PySem.W.Frag) (mg : Str → Option Value) (x : Str) (st : Stmt) (kws : List (Str × V)) : Prop where
  ex : ∃ f fd, FunD K x x (defArgs st) (defBody st) (defScope st) [] kws f fd ∧ mg x = some (.ref f)
/-- the module's name x can be called by so many positional values, and keeps the promise sp -/
structure Cal (P : Program) (w : World) (K : PySem.W.Frag) (mg : Str → Option Value) (base : Heap) (k : Nat) (x : Str) (ps : List Str) (sp : Sp) : Prop where
  ex : ∃ f fd, FnOk P w K mg base CX0 k f fd ps sp ∧ mg x = some (.ref f) ∧ PySem.W.keepIn K (.ref f) = true ∧ Binds K fd ps []
/-- with the default of its one keyword-only name filled in -/
structure CalD (P : Program) (w : World) (K : PySem.W.Frag) (mg : Str → Option Value) (base : Heap) (k : Nat) (x : Str) (ps : List Str) (sp : Sp) (dv : V) : Prop where
  ex : ∃ f fd ds, FnOk P w K mg base CX0 k f fd ps sp ∧ mg x = some (.ref f) ∧ PySem.W.keepIn K (.ref f) = true ∧ Binds K fd ps ds ∧ Vals [dv] ds
/-- with its one keyword-only name written, behind n others -/
structure CalK (P : Program) (w : World) (K : PySem.W.Frag) (mg : Str → Option Value) (base : Heap) (k : Nat) (x : Str) (ps : List Str) (sp : Sp) (n : Nat) (kw : Str) : Prop where
  ex : ∃ f fd, FnOk P w K mg base CX0 k f fd ps sp ∧ mg x = some (.ref f) ∧ PySem.W.keepIn K (.ref f) = true ∧ KBn K fd ps n [kw] (fun us ws => us ++ ws) (fun vs zs => vs ++ zs)

section
variable {X : Cx} {j k : Nat} {x : Str} {ps : List Str} {sp : Sp} {p pos : Pos} {e : Expr} {es : List Expr} {t : TA} {dv : V}
theorem pe_cal (C : Cal X.prog X.w X.K X.mg X.base j x ps sp) (hr : Room k X.A) (hj : j ≤ k) (ha : PA X (e :: es) t) (hg : Gl X x := by rfl) (hdb : (x == ("__debug__" : Str)) = false := by decide)
    (he : starEach (e :: es) X.env = (false, eval e X.env) :: starEach es X.env := by rfl) (hpl : (backTo pos (starEach es X.env)).any (·.1) = false := by rfl) :
    PE X (.Call (.Name x p) (e :: es) [] pos) (tCall sp [] E0 t) := by
  obtain ⟨f, fd, F, m, kp, b⟩ := C.ex
  exact pe_call F (hr.mono hj) hg m kp b .nil pass0 ha hdb he hpl
theorem pe_calD (C : CalD X.prog X.w X.K X.mg X.base j x ps sp dv) (hr : Room k X.A) (hj : j ≤ k) (ha : PA X (e :: es) t) (hg : Gl X x := by rfl) (hdb : (x == ("__debug__" : Str)) = false := by decide)
    (he : starEach (e :: es) X.env = (false, eval e X.env) :: starEach es X.env := by rfl) (hpl : (backTo pos (starEach es X.env)).any (·.1) = false := by rfl) :
    PE X (.Call (.Name x p) (e :: es) [] pos) (tCall sp [dv] E0 t) := by
  obtain ⟨f, fd, ds, F, m, kp, b, r⟩ := C.ex
  exact pe_call F (hr.mono hj) hg m kp b r pass0 ha hdb he hpl
theorem pe_calK {n : Nat} {kw : Str} {kws : List Keyword} {tk : TA} (C : CalK X.prog X.w X.K X.mg X.base j x ps sp n kw) (hr : Room k X.A) (hj : j ≤ k) (ha : PA X (e :: es) t) (hkw : PK X kws tk) (hg : Gl X x := by rfl)
    (hall : (backToKw pos (keywordEach kws X.env)).all (·.1.isSome) = true := by rfl) (hks : (backToKw pos (keywordEach kws X.env)).filterMap (·.1) = [kw] := by rfl) (hdb : (x == ("__debug__" : Str)) = false := by decide)
    (he : starEach (e :: es) X.env = (false, eval e X.env) :: starEach es X.env := by rfl)
    (hpl : ((backTo pos (starEach (e :: es) X.env)).any (·.1) || (backToKw pos (keywordEach kws X.env)).any (·.1.isNone)) = false := by rfl) :
    PE X (.Call (.Name x p) (e :: es) kws pos) (tCallN n 1 sp (fun vs zs => vs ++ zs) E0 t tk) := by
  obtain ⟨f, fd, F, m, kp, b⟩ := C.ex
  exact pe_callN F (hr.mono hj) hg m kp b pass0 ha hkw hall hks hdb he hpl
/-- a module's whole number -/
theorem pe_kon {y : Str} {i : Int} {q : Pos} (h : ∃ t, X.mg y = some (.int i t)) (hg : Gl X y := by rfl) (hd : (y == ("__debug__" : Str)) = false := by decide) : PE X (.Name y q) (tC (.int i)) := by
  obtain ⟨u, m⟩ := h
  exact pe_glob hg m ⟨u, rfl⟩ hd
/-- a built-in class as a value -/
theorem pe_ty {y : Str} {n : String} {q : Pos} (hg : Gl X y) (hm : X.mg y = none) (hv : bootBuiltins y = some (.type n)) (hn : y ≠ "__name__" := by decide) (hd : (y == ("__debug__" : Str)) = false := by decide) : PE X (.Name y q) (tC (.ty n)) := pe_bltn hg hm hv rfl hn hd
end
theorem bt_len : bootBuiltins "len" = some (.builtin "len") := by decide +kernel
theorem bt_sum : bootBuiltins "sum" = some (.builtin "sum") := by decide +kernel
theorem bt_all : bootBuiltins "all" = some (.builtin "all") := by decide +kernel
theorem bt_any : bootBuiltins "any" = some (.builtin "any") := by decide +kernel
theorem bt_min : bootBuiltins "min" = some (.builtin "min") := by decide +kernel
theorem bt_max : bootBuiltins "max" = some (.builtin "max") := by decide +kernel
theorem bt_abs : bootBuiltins "abs" = some (.builtin "abs") := by decide +kernel
theorem bt_isinstance : bootBuiltins "isinstance" = some (.builtin "isinstance") := by decide +kernel
theorem bt_int : bootBuiltins "int" = some (.type "int") := by decide +kernel
theorem bt_bool : bootBuiltins "bool" = some (.type "bool") := by decide +kernel
theorem bt_tuple : bootBuiltins "tuple" = some (.type "tuple") := by decide +kernel
theorem bt_list : bootBuiltins "list" = some (.type "list") := by decide +kernel
theorem bt_str : bootBuiltins "str" = some (.type "str") := by decide +kernel

section
variable {P : Program} {w : World} {K : PySem.W.Frag} {mg : Str → Option Value} {base : Heap} {x : Str} {st : Stmt} {N ps : List Str} {k : Nat} {sp : Sp} {kws : List (Str × V)}
/-- a def's body walked: its promise -/
theorem At.fn (F : At K mg x st kws) (S : FnScope N ps (defScope st)) (len : ∀ vs H Q E, sp vs H Q E → vs.length = ps.length)
    (hbody : ∀ (cdv : Value) (A : Around) (outer : List Env) (s : Shared) (H : Hp) (vs : List V) (Q : VK) (E : XK) (f : Addr), Room k (A.deeper (envOfC x (defScope st) s.heap.objs.size f cdv)) → sp vs H Q E →
      ∃ t, PSs (cxOf CX0 P w K mg base N x (defScope st) f cdv A outer s H E).nox (defBody st) t ∧ t { nx := fun _ H' => Q .non H', rt := Q } (start N vs) H) :
    ∃ f fd, FunD K x x (defArgs st) (defBody st) (defScope st) [] kws f fd ∧ mg x = some (.ref f) ∧ FnOk P w K mg base CX0 (k + 1) f fd ps sp := by
  obtain ⟨f, fd, F, m⟩ := F.ex
  refine ⟨f, fd, F, m, F.ok (CX := CX0) S len fun cdv A outer s H vs Q E hr h => ?_⟩
  obtain ⟨t, h1, h2⟩ := hbody cdv A outer s H vs Q E f hr h
  exact ⟨t, PSs.nox h1, h2⟩
theorem At.cal (F : At K mg x st []) (S : FnScope N ps (defScope st))
    (hb : ∀ (kV doc pm : Value) (an : Option Addr) (cdv ct : Value) (us : List Value), us.length = ps.length → bindArgs (PySem.W.fnOf x x (defArgs st) (defBody st) (defScope st) .none kV doc pm an cdv ct) ⟨us, []⟩ = pure (ps.zip us))
    (len : ∀ vs H Q E, sp vs H Q E → vs.length = ps.length)
    (hbody : ∀ (cdv : Value) (A : Around) (outer : List Env) (s : Shared) (H : Hp) (vs : List V) (Q : VK) (E : XK) (f : Addr), Room k (A.deeper (envOfC x (defScope st) s.heap.objs.size f cdv)) → sp vs H Q E →
      ∃ t, PSs (cxOf CX0 P w K mg base N x (defScope st) f cdv A outer s H E).nox (defBody st) t ∧ t { nx := fun _ H' => Q .non H', rt := Q } (start N vs) H) : Cal P w K mg base (k + 1) x ps sp := by
  obtain ⟨f, fd, F, m, G⟩ := F.fn S len hbody
  exact ⟨f, fd, G, m, F.kp, F.bindsN hb⟩
end
section
variable {P : Program} {w : World} {K : PySem.W.Frag} {mg : Str → Option Value} {base : Heap} {x : Str} {st : Stmt} {N ps : List Str} {k : Nat} {sp : Sp} {kws : List (Str × V)} {f : Addr} {fd : FuncData}
/-- the law's own def, at a given place -/
theorem fn_ok (F : FunD K x x (defArgs st) (defBody st) (defScope st) [] kws f fd) (S : FnScope N ps (defScope st)) (len : ∀ vs H Q E, sp vs H Q E → vs.length = ps.length)
    (hbody : ∀ (cdv : Value) (A : Around) (outer : List Env) (s : Shared) (H : Hp) (vs : List V) (Q : VK) (E : XK), Room k (A.deeper (envOfC x (defScope st) s.heap.objs.size f cdv)) → sp vs H Q E →
      ∃ t, PSs (cxOf CX0 P w K mg base N x (defScope st) f cdv A outer s H E).nox (defBody st) t ∧ t { nx := fun _ H' => Q .non H', rt := Q } (start N vs) H) : FnOk P w K mg base CX0 (k + 1) f fd ps sp :=
  F.ok (CX := CX0) S len fun cdv A outer s H vs Q E hr h => by
    obtain ⟨t, h1, h2⟩ := hbody cdv A outer s H vs Q E hr h
    exact ⟨t, PSs.nox h1, h2⟩
/-- a def among the head's facts -/
theorem at_of {fa : List He.Fa} {fn : List He.DefD} {h : Heap} {d : He.DefD} (X : K.In h) (G : h.Ns mainGlobals mg) (c : He.SaysD fa fn K) (i j : Nat) (hd : fn[i]? = some d) (hf : fa[j]? = some (.glo x)) (e : d = ⟨(x, none), x, x, defArgs st, defBody st, defScope st, [], d.kwd⟩) : At K mg x st (d.kws K) := by
  obtain ⟨fd, F⟩ := c.def_ i (d := d) hd
  rw [e] at F
  exact ⟨_, fd, F, He.glo_ok X G (c.fact j (f := .glo x) hf)⟩
end
/-- how so many parameters bind -/
theorem len1 {a : List V} {v : V} (h : a = [v]) : a.length = 1 := by rw [h]; rfl

/-! ### heaps -/
theorem same_new {H : Hp} {p : Addr} {o : HO} (h : H p = none) : Same H (upd H p o) := fun b x e => by
  rw [upd_ne (ne_of_none e h)]
  exact e
theorem same_then {H H' : Hp} {p : Addr} {o : HO} (s : Same H H') (h : H' p = none) : Same H (upd H' p o) := fun b x e => same_new h b x (s b x e)
theorem seqL {K : PySem.W.Frag} {H H' : Hp} {a : Addr} {xs : List V} (s : Same H H') (h : SqL K H a xs) : SqL K H' a xs := by
  rcases h with (h | ⟨o, h⟩) | h
  · exact .inl (.inl (s _ _ h))
  · exact .inl (.inr ⟨o, s _ _ h⟩)
  · exact .inr h
theorem seqT {K : PySem.W.Frag} {H H' : Hp} {a : Addr} {xs : List V} (s : Same H H') (h : SqT K H a xs) : SqT K H' a xs := by
  rcases h with (h | ⟨o, h⟩) | h
  · exact .inl (.inl (s _ _ h))
  · exact .inl (.inr ⟨o, s _ _ h⟩)
  · exact .inr h
theorem none_back {H H' : Hp} {p : Addr} (s : Same H H') (n : H' p = none) : H p = none := by
  cases e : H p with
  | none => rfl
  | some o =>
    rw [s _ _ e] at n
    cases n
theorem flat_rep {α : Type} (v : α) : ∀ n : Nat, (List.replicate n [v]).flatten = List.replicate n v
  | 0 => rfl
  | n + 1 => by
    rw [List.replicate_succ, List.flatten_cons, flat_rep v n]
    rfl
/-- all but what stands at b is as it was -/
def But (b : Addr) (H H' : Hp) : Prop := ∀ c o, c ≠ b → H c = some o → H' c = some o
theorem But.refl (b : Addr) (H : Hp) : But b H H := fun _ _ _ e => e
theorem But.trans {b : Addr} {H H1 H2 : Hp} (h : But b H H1) (k : But b H1 H2) : But b H H2 := fun c o n e => k c o n (h c o n e)
theorem But.of_same {b : Addr} {H H' : Hp} (s : Same H H') : But b H H' := fun c o _ e => s c o e
theorem But.at {b : Addr} {H : Hp} {o : HO} : But b H (upd H b o) := fun c o n e => by
  rw [upd_ne n]
  exact e
theorem But.same {b : Addr} {H H1 H2 : Hp} (h : But b H H1) (s : Same H1 H2) : But b H H2 := h.trans (.of_same s)
/-- the town at b: a list of so many things at most -/
def Town (b : Addr) (n : Nat) (H : Hp) : Prop := ∃ xs, H b = some (.lst xs) ∧ xs.length ≤ n
theorem Town.same {b : Addr} {n : Nat} {H H' : Hp} (s : Same H H') (h : Town b n H) : Town b n H' := by
  obtain ⟨xs, e, l⟩ := h
  exact ⟨xs, s _ _ e, l⟩
theorem Town.le {b : Addr} {n m : Nat} {H : Hp} (h : Town b n H) (l : n ≤ m) : Town b m H := by
  obtain ⟨xs, e, q⟩ := h
  exact ⟨xs, e, Nat.le_trans q l⟩
theorem Town.ne_new {b p : Addr} {n : Nat} {H : Hp} (h : Town b n H) (np : H p = none) : p ≠ b := fun z => by
  obtain ⟨xs, e, _⟩ := h
  rw [← z, np] at e
  cases e
theorem but_none {b : Addr} {H H' : Hp} {p : Addr} (s : But b H H') (nb : p ≠ b) (n : H' p = none) : H p = none := by
  cases e : H p with
  | none => rfl
  | some o =>
    rw [s _ _ nb e] at n
    cases n
theorem butL {K : PySem.W.Frag} {b : Addr} {H H' : Hp} {a : Addr} {xs : List V} (s : But b H H') (n : a ≠ b) (h : SqL K H a xs) : SqL K H' a xs := by
  rcases h with (h | ⟨o, h⟩) | h
  · exact .inl (.inl (s _ _ n h))
  · exact .inl (.inr ⟨o, s _ _ n h⟩)
  · exact .inr h
theorem butT {K : PySem.W.Frag} {b : Addr} {H H' : Hp} {a : Addr} {xs : List V} (s : But b H H') (n : a ≠ b) (h : SqT K H a xs) : SqT K H' a xs := by
  rcases h with (h | ⟨o, h⟩) | h
  · exact .inl (.inl (s _ _ n h))
  · exact .inl (.inr ⟨o, s _ _ n h⟩)
  · exact .inr h
/-- the script at a is read, and what stands at b is another thing -/
def Scr (K : PySem.W.Frag) (H : Hp) (b a : Addr) (ns : List Int) : Prop := ns.length ≤ 63 ∧ ((∀ H', SqL K H' a (ns.map V.int)) ∨ (SqL K H a (ns.map V.int) ∧ a ≠ b))
theorem Scr.sq {K : PySem.W.Frag} {H : Hp} {b a : Addr} {ns : List Int} (h : Scr K H b a ns) : SqL K H a (ns.map V.int) := h.2.elim (fun k => k H) (fun k => k.1)
theorem Scr.but {K : PySem.W.Frag} {H H' : Hp} {b a : Addr} {ns : List Int} (h : Scr K H b a ns) (s : But b H H') : Scr K H' b a ns := ⟨h.1, h.2.elim (fun k => .inl k) (fun k => .inr ⟨butL s k.2 k.1, k.2⟩)⟩
theorem Scr.same {K : PySem.W.Frag} {H H' : Hp} {b a : Addr} {ns : List Int} (h : Scr K H b a ns) (s : Same H H') : Scr K H' b a ns := h.but (.of_same s)
theorem Scr.of {K : PySem.W.Frag} {H : Hp} {b a : Addr} {ns : List Int} {o : HO} (h : SqL K H a (ns.map V.int)) (l : ns.length ≤ 63) (n : H b = none) : Scr K (upd H b o) b a ns := by
  rcases h with (h | ⟨u, h⟩) | h
  · exact ⟨l, .inr ⟨.inl (.inl (by rw [upd_ne (ne_of_none h n)]; exact h)), ne_of_none h n⟩⟩
  · exact ⟨l, .inr ⟨.inl (.inr ⟨u, by rw [upd_ne (ne_of_none h n)]; exact h⟩), ne_of_none h n⟩⟩
  · exact ⟨l, .inl fun _ => .inr h⟩
theorem szl {n : Nat} (h : n < 100000) : n < sizeLine := Nat.lt_of_lt_of_le h (by decide)
theorem sz {n : Nat} (h : n ≤ 100000) : n ≤ sizeLine := Nat.le_trans h (by decide)

/-! ### further rules -/
/-- an item read by place, the place not below 0 -/
def rGetL (K : PySem.W.Frag) : V → V → Hp → VK → Prop := fun o i H Q => ∃ (p : Addr) (xs : List V) (j : Nat) (v : V), o = .ref p ∧ i = .int (j : Int) ∧ SqL K H p xs ∧ xs[j]? = some v ∧ Q v H
section
variable {X : Cx}
theorem get_list : PGet X (rGetL X.K) := by
  intro pins s σ H o i ov iv Q I ro ri h
  obtain ⟨p, xs, j, z, rfl, rfl, hq, he, q⟩ := h
  cases ro
  obtain ⟨t, rfl⟩ := ri
  obtain ⟨its, r, pl, hz⟩ := I.list hq
  obtain ⟨w, ew, rw'⟩ := r.get he
  have hl := r.length
  have hn := line63
  have hj : j < its.length := (List.getElem?_eq_some_iff.mp ew).1
  exact wpAny_getItem_list pl.isList (by omega) (by omega) (by simpa using ew) ⟨z, H, I, rw', q⟩
end
theorem m2_of {X : Cx} {o : Expr} {m : Str} {apos : Pos} {e f : Expr} {cpos : Pos} (h1 : attributeBase o m X.env (eval o X.env) = eval o X.env := by rfl)
    (h2 : ((backTo cpos (starEach [e, f] X.env)).all (fun x => !x.1) && (backToKw cpos (keywordEach [] X.env)).all (fun x => x.1.isSome) && decide (([e, f] : List Expr).length + ([] : List Keyword).length + (if ([] : List Keyword).isEmpty then 0 else 1) < 30)) = true := by rfl)
    (h3 : (apos.endLine == cpos.line) = true := by rfl) (h4 : backTo cpos (starEach [e, f] X.env) = [(false, eval e X.env), (false, eval f X.env)] := by rfl) : M2 X o m apos e f cpos := ⟨h1, h2, h3, h4⟩

/-! ### data compared -/
theorem dp_ints {K : PySem.W.Frag} {H : Hp} : ∀ ns : List Int, DpAll K H (ns.map V.int) (ns.map PyData.int)
  | [] => .nil
  | n :: r => .cons (.int n) (dp_ints r)
theorem eqvAll_ints : ∀ ns ms : List Int, PyData.eqvAll (ns.map PyData.int) (ms.map PyData.int) = decide (ns = ms)
  | [], [] => by simp [PyData.eqvAll]
  | [], _ :: _ => by simp [PyData.eqvAll]
  | _ :: _, [] => by simp [PyData.eqvAll]
  | a :: r, b :: t => by
    simp only [List.map_cons, PyData.eqvAll, PyData.eqv, eqvAll_ints r t]
    by_cases h : a = b <;> by_cases h2 : r = t <;> simp [h, h2]
theorem eqv_lst (ns ms : List Int) : PyData.eqv (.list (ns.map PyData.int)) (.list (ms.map PyData.int)) = decide (ns = ms) := by
  simp only [PyData.eqv]
  exact eqvAll_ints ns ms
theorem eqv_tup (ns ms : List Int) : PyData.eqv (.tuple (ns.map PyData.int)) (.tuple (ms.map PyData.int)) = decide (ns = ms) := by
  simp only [PyData.eqv]
  exact eqvAll_ints ns ms
theorem shaped_lst (ns : List Int) : SeqAt.shaped (.list (ns.map PyData.int)) = true := by
  simp [SeqAt.shaped, PyData.canLay0, PyData.depth, PySem.W.ke_canLayAll0, PySem.W.ke_depthAll]
theorem shaped_tup (ns : List Int) : SeqAt.shaped (.tuple (ns.map PyData.int)) = true := by
  simp [SeqAt.shaped, PyData.canLay0, PyData.depth, PySem.W.ke_canLayAll0, PySem.W.ke_depthAll]
section
variable {K : PySem.W.Frag} {H : Hp} {a b : Addr} {ns ms : List Int} {Q : VK}
theorem eqL (h1 : SqL K H a (ns.map V.int)) (h2 : SqL K H b (ms.map V.int)) (q : Q (.bl (decide (ns = ms))) H) : rEqD K (.ref a) (.ref b) H Q :=
  ⟨_, _, .lst h1 (dp_ints ns), .lst h2 (dp_ints ms), shaped_lst ns, shaped_lst ms, by rw [eqv_lst]; exact q⟩
theorem neL (h1 : SqL K H a (ns.map V.int)) (h2 : SqL K H b (ms.map V.int)) (q : Q (.bl (!decide (ns = ms))) H) : rNeD K (.ref a) (.ref b) H Q :=
  ⟨_, _, .lst h1 (dp_ints ns), .lst h2 (dp_ints ms), shaped_lst ns, shaped_lst ms, by rw [eqv_lst]; exact q⟩
theorem eqT (h1 : SqT K H a (ns.map V.int)) (h2 : SqT K H b (ms.map V.int)) (q : Q (.bl (decide (ns = ms))) H) : rEqD K (.ref a) (.ref b) H Q :=
  ⟨_, _, .tup h1 (dp_ints ns), .tup h2 (dp_ints ms), shaped_tup ns, shaped_tup ms, by rw [eqv_tup]; exact q⟩
theorem neT (h1 : SqT K H a (ns.map V.int)) (h2 : SqT K H b (ms.map V.int)) (q : Q (.bl (!decide (ns = ms))) H) : rNeD K (.ref a) (.ref b) H Q :=
  ⟨_, _, .tup h1 (dp_ints ns), .tup h2 (dp_ints ms), shaped_tup ns, shaped_tup ms, by rw [eqv_tup]; exact q⟩
/-- a list is not empty, or is -/
theorem eqL0 (h1 : SqL K H a (ns.map V.int)) (h2 : H b = some (.lst [])) (q : Q (.bl (decide (ns = []))) H) : rEqD K (.ref a) (.ref b) H Q := eqL (ms := []) h1 (.inl (.inl h2)) q
end
/-- lines of whole numbers -/
def Flat (d : PyData) : Prop := ∃ ns : List Int, d = .list (ns.map PyData.int) ∨ d = .tuple (ns.map PyData.int)
theorem flat_lay : ∀ ds : List PyData, (∀ d ∈ ds, Flat d) → PyData.canLayAll0 ds = true ∧ PyData.depthAll ds ≤ 1
  | [], _ => by simp [PyData.canLayAll0, PyData.depthAll]
  | d :: r, h => by
    obtain ⟨h1, h2⟩ := flat_lay r fun x hx => h x (List.mem_cons_of_mem _ hx)
    obtain ⟨ns, e | e⟩ := h d List.mem_cons_self
    · rw [e]
      simp [PyData.canLayAll0, PyData.depthAll, PyData.canLay0, PyData.depth, PySem.W.ke_canLayAll0, PySem.W.ke_depthAll, h1]
      omega
    · rw [e]
      simp [PyData.canLayAll0, PyData.depthAll, PyData.canLay0, PyData.depth, PySem.W.ke_canLayAll0, PySem.W.ke_depthAll, h1]
      omega
theorem shaped_flat {ds : List PyData} (h : ∀ d ∈ ds, Flat d) : SeqAt.shaped (.list ds) = true := by
  obtain ⟨h1, h2⟩ := flat_lay ds h
  simp [SeqAt.shaped, PyData.canLay0, PyData.depth, h1]
  omega
theorem eqv_nil (ds : List PyData) : PyData.eqv (.list ds) (.list []) = decide (ds = []) := by
  cases ds <;> simp [PyData.eqv, PyData.eqvAll]
theorem shaped_nil : SeqAt.shaped (.list []) = true := shaped_flat fun _ h => (nomatch h)
section
variable {K : PySem.W.Frag} {H : Hp} {a b : Addr} {xs : List V} {ds : List PyData} {Q : VK}
/-- a list of lines is empty, or is not -/
theorem eqF0 (h1 : SqL K H a xs) (hd : DpAll K H xs ds) (hf : ∀ d ∈ ds, Flat d) (h2 : H b = some (.lst [])) (q : Q (.bl (decide (ds = []))) H) : rEqD K (.ref a) (.ref b) H Q :=
  ⟨_, _, .lst h1 hd, .lst (.inl (.inl h2)) .nil, shaped_flat hf, shaped_nil, by rw [eqv_nil]; exact q⟩
end
theorem at_int {ns : List Int} {j : Nat} {z : Int} (h : ns[j]? = some z) : atI (ns.map V.int) (j : Int) = some (.int z) := atI_nat (by rw [List.getElem?_map, h]; rfl)
theorem at_intE {ns : List Int} {i : Int} {j : Nat} {z : Int} (e : i = (j : Int)) (h : ns[j]? = some z) : atI (ns.map V.int) i = some (.int z) := by
  rw [e]
  exact at_int h
theorem at_intI {ns : List Int} {i : Int} (h0 : 0 ≤ i) (h : i < ns.length) : atI (ns.map V.int) i = some (.int (ns.getD i.toNat 0)) := by
  have e : ((i.toNat : Nat) : Int) = i := Int.toNat_of_nonneg h0
  rw [← e]
  have l : i.toNat < ns.length := by omega
  refine at_int ?_
  rw [Int.toNat_natCast, List.getElem?_eq_getElem l, List.getD_eq_getElem?_getD, List.getElem?_eq_getElem l]
  rfl
theorem map_at {ns : List Int} {i : Nat} {x : V} (h : (ns.map V.int)[i]? = some x) : ∃ z, ns[i]? = some z ∧ x = .int z := by
  rw [List.getElem?_map] at h
  cases e : ns[i]? with
  | none =>
    rw [e] at h
    cases h
  | some z =>
    rw [e] at h
    exact ⟨z, rfl, (Option.some.inj h).symm⟩

/-! ### comprehensions -/
section
variable {J : It} {n : Nat} {G : Hp → Prop} {Y : Nat → Hp → V → Hp → Prop} {g : TG} {tt : TT} {te : TE} {vs : List Nat} {σ : L2.St} {H1 : Hp} {D : Addr} {Qd : Hp → Prop}
/-- nothing that stood changes: what is made so far is told -/
theorem lcp (w : Walk J n G Y) (nD : H1 D = none) (out : Nat → List V) (o0 : out 0 = []) (ol : ∀ i, i ≤ n → (out i).length < 1000000) (hG : ∀ H, Same H1 H → G H)
    (hs : ∀ i x H H' (R : VK) (N : Hp → Prop), i < n → Same H1 H → Y i H x H' → (∀ y H4, Same H H4 → out (i + 1) = out i ++ [y] → R y H4) → (∀ H3, Same H H3 → out (i + 1) = out i → N H3) →
      g x (wipe σ vs) H' fun σ2 H2 => wipe σ2 vs = wipe σ vs ∧ tt σ2 H2 fun b H3 => if b = true then te σ2 H3 R else N H3)
    (hd : ∀ H, Same H1 H → H D = some (.lst (out n)) → Qd H) :
    ∃ W : Nat → Nat → Hp → Prop, (∃ m, W 0 m (upd H1 D (.lst []))) ∧ ∀ i m H, W i m H →
      (J.stop i H ∧ Qd H) ∨ (J.go i H ∧ ∃ Nx : Hp → Prop, (∀ H', Nx H' → ∃ m', m' < m ∧ W (i + 1) m' H') ∧ ∀ x H', J.yld i H x H' → g x (wipe σ vs) H' fun σ2 H2 => wipe σ2 vs = wipe σ vs ∧ tt σ2 H2 fun b H3 =>
        if b = true then te σ2 H3 fun y H4 => ∃ acc, H4 D = some (.lst acc) ∧ acc.length < sizeLine ∧ Nx (upd H4 D (.lst (acc ++ [y]))) else Nx H3) := by
  refine lc_it w (fun i H => Same H1 H ∧ H D = some (.lst (out i))) ⟨same_new nD, by rw [o0]; exact upd_same⟩ (fun _ H _ h => hG H h.1) ?_ fun H h => hd H h.1 h.2
  rintro i x H H' hi ⟨sm, hD⟩ hy
  refine hs i x H H' _ _ hi sm hy (fun y H4 s4 e => ⟨out i, s4 _ _ hD, Nat.lt_of_lt_of_le (ol i (Nat.le_of_lt hi)) (by decide), ?_, ?_⟩) fun H3 s3 e => ⟨sm.trans s3, by rw [e]; exact s3 _ _ hD⟩
  · intro c o hc
    rw [upd_ne (ne_of_none hc nD)]
    exact s4 _ _ (sm _ _ hc)
  · rw [e]
    exact upd_same
/-- whole numbers, what stands at b grows by so many a turn -/
theorem lct (w : Walk J n G Y) (Pz : Int → Prop) {b : Addr} {m0 c : Nat} (t0 : Town b m0 H1) (nD : H1 D = none) (hn : n < 1000000) (hG : ∀ H, But b H1 H → G H)
    (hs : ∀ i x H H' (R : VK), i < n → But b H1 H → Town b (m0 + c * i) H → Y i H x H' → (∀ z H4, Pz z → But b H H4 → Town b (m0 + c * (i + 1)) H4 → R (.int z) H4) →
      g x (wipe σ vs) H' fun σ2 H2 => wipe σ2 vs = wipe σ vs ∧ te σ2 H2 R)
    (hd : ∀ (zs : List Int) (H : Hp), zs.length = n → (∀ z ∈ zs, Pz z) → But b H1 H → Town b (m0 + c * n) H → H D = some (.lst (zs.map V.int)) → Qd H) :
    ∃ W : Nat → Nat → Hp → Prop, (∃ m, W 0 m (upd H1 D (.lst []))) ∧ ∀ i m H, W i m H →
      (J.stop i H ∧ Qd H) ∨ (J.go i H ∧ ∃ Nx : Hp → Prop, (∀ H', Nx H' → ∃ m', m' < m ∧ W (i + 1) m' H') ∧ ∀ x H', J.yld i H x H' → g x (wipe σ vs) H' fun σ2 H2 => wipe σ2 vs = wipe σ vs ∧ tYes σ2 H2 fun b H3 =>
        if b = true then te σ2 H3 fun y H4 => ∃ acc, H4 D = some (.lst acc) ∧ acc.length < sizeLine ∧ Nx (upd H4 D (.lst (acc ++ [y]))) else Nx H3) := by
  have nb : D ≠ b := t0.ne_new nD
  refine lc_it w (fun i H => But b H1 H ∧ Town b (m0 + c * i) H ∧ ∃ zs : List Int, zs.length = i ∧ (∀ z ∈ zs, Pz z) ∧ H D = some (.lst (zs.map V.int))) ⟨.of_same (same_new nD), ?_, [], rfl, fun _ h => (nomatch h), upd_same⟩ (fun _ H _ h => hG H h.1) ?_ ?_
  · rw [Nat.mul_zero]
    exact t0.same (same_new nD)
  · rintro i x H H' hi ⟨bt, tw, zs, lz, pz, hD⟩ hy
    refine hs i x H H' _ hi bt tw hy fun z H4 hz b4 t4 => ?_
    refine ⟨zs.map V.int, b4 _ _ nb hD, ?_, ?_, ?_, zs ++ [z], by rw [List.length_append, lz]; rfl, fun u hu => ?_, ?_⟩
    · rw [List.length_map, lz]
      exact Nat.lt_of_lt_of_le (Nat.lt_trans hi hn) (by decide)
    · intro a o na ha
      rw [upd_ne (ne_of_none ha nD)]
      exact b4 _ _ na (bt _ _ na ha)
    · obtain ⟨xs, e, l⟩ := t4
      exact ⟨xs, by rw [upd_ne (Ne.symm nb)]; exact e, l⟩
    · rcases List.mem_append.mp hu with h | h
      · exact pz u h
      · rw [List.mem_singleton.mp h]
        exact hz
    · rw [List.map_append]
      exact upd_same
  · rintro H ⟨bt, tw, zs, lz, pz, hD⟩
    exact hd zs H lz pz bt tw hD
/-- new things: what stands at each is told -/
theorem lcr (w : Walk J n G Y) (nD : H1 D = none) (hn : n < 1000000) (o : Nat → HO) (hG : ∀ H, Same H1 H → G H)
    (hs : ∀ i x H H' (R : VK), i < n → Same H1 H → Y i H x H' → (∀ u H4, H u = none → Same H H4 → H4 u = some (o i) → R (.ref u) H4) → g x (wipe σ vs) H' fun σ2 H2 => wipe σ2 vs = wipe σ vs ∧ te σ2 H2 R)
    (hd : ∀ (xs : List V) (H : Hp), xs.length = n → Same H1 H → (∀ j, j < n → ∃ u, xs[j]? = some (.ref u) ∧ H u = some (o j)) → H D = some (.lst xs) → Qd H) :
    ∃ W : Nat → Nat → Hp → Prop, (∃ m, W 0 m (upd H1 D (.lst []))) ∧ ∀ i m H, W i m H →
      (J.stop i H ∧ Qd H) ∨ (J.go i H ∧ ∃ Nx : Hp → Prop, (∀ H', Nx H' → ∃ m', m' < m ∧ W (i + 1) m' H') ∧ ∀ x H', J.yld i H x H' → g x (wipe σ vs) H' fun σ2 H2 => wipe σ2 vs = wipe σ vs ∧ tYes σ2 H2 fun b H3 =>
        if b = true then te σ2 H3 fun y H4 => ∃ acc, H4 D = some (.lst acc) ∧ acc.length < sizeLine ∧ Nx (upd H4 D (.lst (acc ++ [y]))) else Nx H3) := by
  refine lc_it w (fun i H => Same H1 H ∧ ∃ xs : List V, xs.length = i ∧ (∀ j, j < i → ∃ u, u ≠ D ∧ xs[j]? = some (.ref u) ∧ H u = some (o j)) ∧ H D = some (.lst xs)) ⟨same_new nD, [], rfl, fun _ h => absurd h (Nat.not_lt_zero _), upd_same⟩ (fun _ H _ h => hG H h.1) ?_ ?_
  · rintro i x H H' hi ⟨sm, xs, lx, hx, hD⟩ hy
    refine hs i x H H' _ hi sm hy fun u H4 nu s4 hu => ?_
    have uD : u ≠ D := fun e => by
      rw [e, hD] at nu
      cases nu
    refine ⟨xs, s4 _ _ hD, by rw [lx]; exact Nat.lt_of_lt_of_le (Nat.lt_trans hi hn) (by decide), ?_, xs ++ [.ref u], by rw [List.length_append, lx]; rfl, fun j hj => ?_, upd_same⟩
    · intro c z hc
      rw [upd_ne (ne_of_none hc nD)]
      exact s4 _ _ (sm _ _ hc)
    · by_cases c : j < i
      · obtain ⟨v, vD, e1, e2⟩ := hx j c
        exact ⟨v, vD, by rw [List.getElem?_append_left (by omega)]; exact e1, by rw [upd_ne vD]; exact s4 _ _ e2⟩
      · have e : j = i := by omega
        rw [e]
        exact ⟨u, uD, by rw [List.getElem?_append_right (by omega), lx, Nat.sub_self]; rfl, by rw [upd_ne uD]; exact hu⟩
  · rintro H ⟨sm, xs, lx, hx, hD⟩
    exact hd xs H lx sm (fun j hj => by
      obtain ⟨u, _, r⟩ := hx j hj
      exact ⟨u, r⟩) hD
end

/-! ### kinds of things -/
theorem ty_tup {K : PySem.W.Frag} {H : Hp} {a : Addr} {xs : List V} (h : SqT K H a xs) : TyX K H (.ref a) (.type "tuple") := by
  rcases h with (h | ⟨o, h⟩) | ⟨o, its, n, h, c, _⟩
  · exact .base (.tup h)
  · exact .fTuple h
  · exact .kTuple h c
theorem ty_lst {K : PySem.W.Frag} {H : Hp} {a : Addr} {xs : List V} (h : SqL K H a xs) : TyX K H (.ref a) (.type "list") := by
  rcases h with (h | ⟨o, h⟩) | ⟨o, its, n, h, c, _⟩
  · exact .base (.lst h)
  · exact .base (.frz h)
  · exact .kList h c
/-- whether a thing is a whole number -/
inductive Wh (K : PySem.W.Frag) (H : Hp) : V → Bool → Prop
  | int (i : Int) : Wh K H (.int i) true
  | bl (b : Bool) : Wh K H (.bl b) false
  | no {v : V} {n : String} (h : TyX K H v (.type n)) (k : kitB n "int" = some false) (nb : ∀ i, v ≠ .int i) : Wh K H v false
/-- from lo to hi -/
def whB (v : V) (lo hi : Int) : Bool := match v with
  | .int i => decide (lo ≤ i ∧ i ≤ hi)
  | _ => false
theorem Wh.cases_ {K : PySem.W.Frag} {H : Hp} {v : V} {b : Bool} (h : Wh K H v b) : (∃ i, v = .int i ∧ b = true) ∨ ((∀ i, v ≠ .int i) ∧ b = false) := by
  cases h with
  | int i => exact .inl ⟨i, rfl, rfl⟩
  | bl b => exact .inr ⟨fun i z => V.noConfusion z, rfl⟩
  | no h k nb => exact .inr ⟨nb, rfl⟩
theorem whB_no {v : V} {lo hi : Int} (h : ∀ i, v ≠ .int i) : whB v lo hi = false := by
  cases v with
  | int i => exact absurd rfl (h i)
  | _ => rfl
theorem kit_int_int : kitB "int" "int" = some true := by decide +kernel
theorem kit_int_bool : kitB "int" "bool" = some false := by decide +kernel
theorem kit_bool_int : kitB "bool" "int" = some true := by decide +kernel
theorem kit_bool_bool : kitB "bool" "bool" = some true := by decide +kernel
theorem kit_tup_tup : kitB "tuple" "tuple" = some true := by decide +kernel
theorem isi {K : PySem.W.Frag} {H : Hp} {x : V} {a n : String} {b : Bool} {Q : VK} (t : TyX K H x (.type a)) (k : kitB a n = some b) (q : Q (.bl b) H) : rIsi K [x, .ty n] H Q := ⟨x, .ty n, .type a, .type n, b, rfl, .ty n, t, kit_ty k, q⟩
theorem row_ok {K : PySem.W.Frag} {H : Hp} {row : List Int} {i : Nat} {x : V} (h : (row.map V.int)[i]? = some x) : ∃ z, row[i]? = some z ∧ x = .int z ∧ z ∈ row := by
  obtain ⟨z, e, r⟩ := map_at h
  exact ⟨z, e, r, List.mem_of_getElem? e⟩

/-! ### zip of tuples -/
theorem walk_zipT {K : PySem.W.Frag} {a b : Addr} {xs ys : List V} {n : Nat} (hn : n = min xs.length ys.length) : Walk (RZ.ItzT K a b) n (fun H => SqT K H a xs ∧ SqT K H b ys) (YPair (fun i => xs[i]?) (fun i => ys[i]?)) := by
  refine ⟨fun i H hi q => ⟨xs, ys, xs[i]'(by omega), ys[i]'(by omega), q.1, q.2, List.getElem?_eq_getElem _, List.getElem?_eq_getElem _⟩, fun H q => ⟨xs, ys, q.1, q.2, by omega⟩, fun i H v H' hi q y => ?_⟩
  obtain ⟨T, x, z, h1, h2, h3, h4, h5⟩ := y
  exact ⟨T, x, z, h1, h2, h3, h4 xs q.1, h5 ys q.2⟩
/-- sum of a tuple of whole numbers -/
def rSumT (K : PySem.W.Frag) : List V → Hp → VK → Prop := fun vs H Q => ∃ (a : Addr) (ns : List Int), vs = [V.ref a] ∧ SqT K H a (ns.map V.int) ∧ Q (.int ns.sum) H
theorem cr_sumA {X : Cx} (hc : X.calm = true) : CallR X (.builtin "sum") (rSumT X.K) := by
  intro pins s σ H vs us Q I r h
  obtain ⟨a, ns, rfl, hs, q⟩ := h
  obtain ⟨its, rv, hl, _⟩ := I.tuple hs
  rw [Vals.ref1 r]
  obtain ⟨xs, e⟩ := rv.ints.allInts.items
  have hn : PySem.numsOf (intItems xs).toList = ns := by
    rw [← e]
    exact rv.ints.numsOf
  rw [PySem.nums_intItems] at hn
  have hl2 : s.heap.IsTuple a (intItems xs) := by
    rw [← e]
    exact hl
  refine PySem.W.ktm_sumG (I.ok.hd hc) hl2 fun h' tk t' hk => ?_
  rw [PySem.preSum_eq, List.take_of_length_le (by simp), hn]
  exact ⟨.int _, H, I.kept hk, ⟨_, rfl⟩, q⟩
/-- a comprehension in a comprehension: the block's names -/
theorem blkOk_in {N : List Str} {sc scope : Scope} {own : List (Str × Nat)} (h : blkC N sc scope own = true) : BlkOk N sc scope own := blkOk_by h

/-! ### the same rules, the written part said -/
def rLenQ (K : PySem.W.Frag) : List V → Hp → VK → Prop := fun xs H Q => ∃ p ys, xs = [.ref p] ∧ (SqL K H p ys ∨ SqT K H p ys) ∧ Q (.int ys.length) H
def rTupQ (K : PySem.W.Frag) : List V → Hp → VK → Prop := fun xs H Q => ∃ p ys, xs = [.ref p] ∧ ((SqL K H p ys ∧ ∀ l, H l = none → Q (.ref l) (upd H l (.tup ys))) ∨ (SqT K H p ys ∧ Q (.ref p) H))
def rLstQ (K : PySem.W.Frag) : List V → Hp → VK → Prop := fun xs H Q => ∃ p ys, xs = [.ref p] ∧ (SqL K H p ys ∨ SqT K H p ys) ∧ ∀ l, H l = none → Q (.ref l) (upd H l (.lst ys))
section
variable {X : Cx} {K : PySem.W.Frag}
theorem kz_len (hK : X.K = K := by rfl) : CallR X (.builtin "len") (rLenQ K) := hK ▸ call_len_seq
theorem kz_sum (hc : X.calm = true) (hK : X.K = K := by rfl) : CallR X (.builtin "sum") (rSum K) := hK ▸ cr_sum hc
theorem kz_sumT (hc : X.calm = true) (hK : X.K = K := by rfl) : CallR X (.builtin "sum") (rSumT K) := hK ▸ cr_sumA hc
theorem kz_all (hc : X.calm = true) (hK : X.K = K := by rfl) : CallR X (.builtin "all") (rAll K) := hK ▸ cr_all hc
theorem kz_any (hc : X.calm = true) (hK : X.K = K := by rfl) : CallR X (.builtin "any") (rAny K) := hK ▸ cr_any hc
theorem kz_max (hc : X.calm = true) (hK : X.K = K := by rfl) : CallR X (.builtin "max") (rMax K) := hK ▸ cr_max hc
theorem kz_min (hc : X.calm = true) (hK : X.K = K := by rfl) : CallR X (.builtin "min") (rMin K) := hK ▸ cr_min hc
theorem kz_isi (hK : X.K = K := by rfl) : CallR X (.builtin "isinstance") (rIsi K) := hK ▸ call_isi
theorem kz_tuple (hK : X.K = K := by rfl) : CallR X (.type "tuple") (rTupQ K) := hK ▸ call_tuple_of
theorem kz_list (hK : X.K = K := by rfl) : CallR X (.type "list") (rLstQ K) := hK ▸ call_list_of
theorem kz_ixL (hK : X.K = K := by rfl) : IxR X (rIxL K) := hK ▸ ix_list
theorem kz_ixT (hK : X.K = K := by rfl) : IxR X (rIxT K) := hK ▸ ix_tup
theorem kz_eqD (hu : X.A.units + 64 < cLine) (hK : X.K = K := by rfl) : OpR X (compareOp .Eq) (rEqD K) := hK ▸ op_eqD hu
theorem kz_neD (hu : X.A.units + 64 < cLine) (hK : X.K = K := by rfl) : OpR X (compareOp .NotEq) (rNeD K) := hK ▸ op_neD hu
theorem kz_in (hK : X.K = K := by rfl) : OpR X (compareOp .In) (rIn K false) := hK ▸ op_in_seq
theorem kz_notIn (hK : X.K = K := by rfl) : OpR X (compareOp .NotIn) (rIn K true) := hK ▸ op_notIn_seq
theorem kz_catT (hK : X.K = K := by rfl) : OpR X (binaryOp .Add) (rCatA K) := hK ▸ op_catA
theorem kz_slL (hK : X.K = K := by rfl) : SlR X (rSlL K) := hK ▸ sl_list
theorem kz_slT (hK : X.K = K := by rfl) : SlR X (rSlA K) := hK ▸ sl_tupA
theorem kz_getL (hK : X.K = K := by rfl) : PGet X (rGetL K) := hK ▸ get_list
variable {tg l e e2 : Expr} {tl : TE} {ta : TA} {p pos tpos : Pos} {elts : List Expr} {kk : Nat}
theorem kz_piL (hl : PE X l tl) (hK : X.K = K := by rfl) : PI X tg l (iList K tl) := hK ▸ pi_list hl
theorem kz_piT (hl : PE X l tl) (hK : X.K = K := by rfl) : PI X tg l (iTup K tl) := hK ▸ pi_tup hl
theorem kz_zip (hg : Gl X "zip") (hm : X.mg "zip" = none) (ha : PA X [e, e2] ta) (hK : X.K = K := by rfl)
    (hs : starEach [e, e2] X.env = (false, eval e X.env) :: starEach [e2] X.env := by rfl) (hpl : (backTo pos (starEach [e2] X.env)).any (·.1) = false := by rfl) :
    PI X (.Tuple elts kk tpos) (.Call (.Name "zip" p) [e, e2] [] pos) (RZ.iZipA K ta) := hK ▸ RZ.pi_zipA hg hm ha hs hpl
theorem kz_enum (hg : Gl X "enumerate") (hm : X.mg "enumerate" = none) (ha : PA X [e] ta) (hK : X.K = K := by rfl) (hs : starEach [e] X.env = [(false, eval e X.env)] := by rfl) :
    PI X (.Tuple elts kk tpos) (.Call (.Name "enumerate" p) [e] [] pos) (iEnum K ta) := hK ▸ pi_enum hg hm ha hs
theorem kz_gtup {es : List Expr} {k : Nat} {t : TGs} (n : Nat) (hc : X.calm = true) (h : PGs X es t) (hK : X.K = K := by rfl)
    (hn : (assignEach es X.env).length = n := by rfl) (hst : (assignEach es X.env).findIdx? (·.1) = none := by rfl) : PG X (.Tuple es k pos) (gTup K n t) := hK ▸ pg_tup hc h hn hst
theorem kz_glst {es : List Expr} {k : Nat} {t : TGs} (n : Nat) (hc : X.calm = true) (h : PGs X es t) (hK : X.K = K := by rfl)
    (hn : (assignEach es X.env).length = n := by rfl) (hst : (assignEach es X.env).findIdx? (·.1) = none := by rfl) : PG X (.Tuple es k pos) (gLst K n t) := hK ▸ pg_lst hc h hn hst
end
end Ly

/-! ### zip of a list and a tuple -/
namespace Ly
open PySem PySem.Spec PyProof.Rows L2
/-- the list at a, the tuple at b as they stand at each turn, the items in new pairs -/
def ItzLT (K : PySem.W.Frag) (a b : Addr) : It :=
  ⟨fun i H => ∃ (xs ys : List V) (x y : V), SqL K H a xs ∧ SqT K H b ys ∧ xs[i]? = some x ∧ ys[i]? = some y,
   fun i H v H' => ∃ T x y, v = .ref T ∧ H T = none ∧ H' = upd H T (.tup [x, y]) ∧ (∀ xs, SqL K H a xs → xs[i]? = some x) ∧ (∀ ys, SqT K H b ys → ys[i]? = some y),
   fun i H => ∃ (xs ys : List V), SqL K H a xs ∧ SqT K H b ys ∧ i ≤ xs.length ∧ i ≤ ys.length ∧ (i = xs.length ∨ i = ys.length)⟩
/-- the five cells of such a zip, made when so many stood -/
structure ZCells (n : Nat) (a b : Addr) (i : Nat) (h : Heap) : Prop where
  hz : IsZip h (n + 4) (n + 2) (n + 3) .none
  ti : IsTupOf2 h (n + 2) (.ref n) (.ref (n + 1))
  out : ∃ u v, IsTupOf2 h (n + 3) u v
  fst : h.IsListIter n a i
  snd : h.IsTupleIter (n + 1) b i
def zfp (n : Nat) : List Addr := [n + 4, n + 2, n + 3, n, n + 1]
theorem zfp_mem {n c : Nat} (h : c ∈ zfp n) : n ≤ c ∧ c < n + 5 ∧ (c = n + 4 ∨ c = n + 2 ∨ c = n + 3 ∨ c = n ∨ c = n + 1) := by
  have e : c = n + 4 ∨ c = n + 2 ∨ c = n + 3 ∨ c = n ∨ c = n + 1 := by simpa [zfp] using h
  refine ⟨?_, ?_, e⟩ <;> omega
theorem not_zfp {n c : Nat} (h : c ∉ zfp n) : c ≠ n + 4 ∧ c ≠ n + 3 ∧ c ≠ n ∧ c ≠ n + 1 := by
  simp only [zfp, List.mem_cons, List.not_mem_nil, or_false, not_or] at h
  obtain ⟨h1, h2, h3, h4, h5⟩ := h
  exact ⟨h1, h3, h4, h5⟩
theorem ZCells.keep {n : Nat} {a b : Addr} {i : Nat} {h h' : Heap} (z : ZCells n a b i h) (k : ∀ c ∈ zfp n, ∀ o, h.get? c = some o → h'.get? c = some o) : ZCells n a b i h' := by
  obtain ⟨u, v, e⟩ := z.out
  exact ⟨k _ (by simp [zfp]) _ z.hz, k _ (by simp [zfp]) _ z.ti, ⟨u, v, k _ (by simp [zfp]) _ e⟩, z.fst.at fun o q => k _ (by simp [zfp]) o q, z.snd.at fun o q => k _ (by simp [zfp]) o q⟩
theorem lt_ne {x y z : Nat} (h : x < y) (k : y ≤ z) : x ≠ z := by omega
theorem turn_zipLT {P : Program} {w : World} {K : PySem.W.Frag} {elts : List Expr} {kk : Nat} {tpos : Pos} {a b : Addr} {n : Nat} (ha : a < n) (hb : b < n) :
    Turn P w K (.Tuple elts kk tpos) (ItzLT K a b) (zfp n) (n + 4) (fun i h => ZCells n a b i h) where
  mem := by simp [zfp]
  obj := fun i h z c hc => by
    obtain ⟨u, v, e⟩ := z.out
    obtain ⟨o1, e1, _, d1⟩ := z.fst
    obtain ⟨o2, e2, _, d2⟩ := z.snd
    rcases (zfp_mem hc).2.2 with q | q | q | q | q
    · rw [q]; exact ⟨_, z.hz, fun v q => nomatch q⟩
    · rw [q]; exact ⟨_, z.ti, fun v q => nomatch q⟩
    · rw [q]; exact ⟨_, e, fun v q => nomatch q⟩
    · rw [q]; exact ⟨o1, e1, fun v q => by rw [d1] at q; cases q⟩
    · rw [q]; exact ⟨o2, e2, fun v q => by rw [d2] at q; cases q⟩
  keep := fun i h h' z k => z.keep k
  item := by
    intro X hP hw hK hc i pins s σ H E I hf z hg
    subst hP hw hK
    obtain ⟨xs, ys, x, y, qx, qy, hx, hy⟩ := hg
    obtain ⟨l1, r1, p1, _⟩ := I.list qx
    obtain ⟨l2, r2, p2, _⟩ := I.tuple qy
    obtain ⟨u1, hu1, ru1⟩ := r1.get hx
    obtain ⟨u2, hu2, ru2⟩ := r2.get hy
    obtain ⟨o1, o2, hout⟩ := z.out
    have hA : X.A.in1.handled = none := I.ok.hd hc
    have big : n + 4 < s.heap.objs.size := Heap.lt_size z.hz
    have sep : ZipSep2 (n + 4) (n + 2) (n + 3) n (n + 1) [n, a] [n + 1, b] := zip_sep2 (N := n) (fp1 := [a]) (fp2 := [b]) (fun c hc => by rw [List.mem_singleton.mp hc]; exact ha) (fun c hc => by rw [List.mem_singleton.mp hc]; exact hb)
    refine wpAny_pyNext_zipD2_item (i := i) sep (Draws.list hA n a (Nat.ne_of_lt ha) l1.toArray) (Draws.tuple hA (n + 1) b (Nat.ne_of_lt (Nat.lt_succ_of_lt hb)) l2.toArray) z.hz z.ti hout ⟨z.fst, p1.isList⟩ ⟨z.snd, show s.heap.IsTuple b l2.toArray from p2⟩
      (by rw [List.size_toArray]; exact (List.getElem?_eq_some_iff.mp hu1).1) (by rw [List.size_toArray]; exact (List.getElem?_eq_some_iff.mp hu2).1) ?_
    intro v1 v2 h' tk e1 e2 hz' hto' st1 st2 hT hsz hk
    have e1' : u1 = v1 := by
      have q : l1[i]? = some v1 := by simpa using e1
      rw [hu1] at q
      exact Option.some.inj q
    have e2' : u2 = v2 := by
      have q : l2[i]? = some v2 := by simpa using e2
      rw [hu2] at q
      exact Option.some.inj q
    subst e1' e2'
    refine ⟨_, rfl, wpAny_letOwnedTupleGo_zip (s := { s with heap := h', toks := tk }) hz' fun h2 hz2 sb => ?_⟩
    have nz : s.heap.objs.size ≠ n + 4 := Nat.ne_of_gt big
    have hT2 : h2.get? s.heap.objs.size = some { cls := .type "tuple", data := .seq #[u1, u2] } := (sb.2 _ nz).trans hT
    have nw : ObjOk X.prog X.w (upd H s.heap.objs.size (.tup [x, y])) h2 s.heap.objs.size (.tup [x, y]) := ⟨by show 2 ≤ sizeLine; decide, [u1, u2], .cons ru1 (.cons ru2 .nil), ⟨_, hT2, rfl, _, rfl⟩⟩
    have old : ∀ c o, c ∉ zfp n → s.heap.get? c = some o → h2.get? c = some o := fun c o hc q => by
      obtain ⟨c1, c2, c3, c4⟩ := not_zfp hc
      exact (sb.2 c c1).trans (hk c o c1 c2 c3 c4 q)
    refine ⟨.ref s.heap.objs.size, _, I.turnedNew (t' := tk) (ch := zfp n) old hf (Nat.le_refl _) nw, rfl, ⟨_, x, y, rfl, I.hok.fresh (Nat.le_refl _), rfl, fun l hl => ?_, fun l hl => by rw [I.tuple_inj hl qy]; exact hy⟩, ⟨hz2, ?_, ⟨u1, u2, ?_⟩, ?_, ?_⟩, fun c hcm => ?_⟩
    · rw [I.list_inj hl qx]
      exact hx
    · have m1 : (n + 2 : Nat) ≠ n + 4 := by omega
      exact (sb.2 _ m1).trans (hk _ _ m1 (show (n + 2 : Nat) ≠ n + 3 by omega) (show (n + 2 : Nat) ≠ n by omega) (show (n + 2 : Nat) ≠ n + 1 by omega) z.ti)
    · exact (sb.2 _ (show (n + 3 : Nat) ≠ n + 4 by omega)).trans hto'
    · exact st1.1.at fun o q => (sb.2 _ (show (n : Nat) ≠ n + 4 by omega)).trans q
    · exact st2.1.at fun o q => (sb.2 _ (show (n + 1 : Nat) ≠ n + 4 by omega)).trans q
    · have hlt : c < s.heap.objs.size := Nat.lt_of_le_of_lt (Nat.le_of_lt_succ (zfp_mem hcm).2.1) big
      rw [upd_ne (Nat.ne_of_lt hlt)]
      exact (hf c hcm).1
  done := by
    intro X hP hw hK hc i pins s σ H E I hf z hg
    subst hP hw hK
    obtain ⟨xs, ys, qx, qy, b1, b2, be⟩ := hg
    obtain ⟨l1, r1, p1, _⟩ := I.list qx
    obtain ⟨l2, r2, p2, _⟩ := I.tuple qy
    obtain ⟨o1, o2, hout⟩ := z.out
    have hA : X.A.in1.handled = none := I.ok.hd hc
    have g1 := r1.length
    have g2 := r2.length
    have sep : ZipSep2 (n + 4) (n + 2) (n + 3) n (n + 1) [n, a] [n + 1, b] := zip_sep2 (N := n) (fp1 := [a]) (fp2 := [b]) (fun c hc => by rw [List.mem_singleton.mp hc]; exact ha) (fun c hc => by rw [List.mem_singleton.mp hc]; exact hb)
    refine wpAny_pyNext_zipD2_end (i := i) sep (Draws.list hA n a (Nat.ne_of_lt ha) l1.toArray) (Draws.tuple hA (n + 1) b (Nat.ne_of_lt (Nat.lt_succ_of_lt hb)) l2.toArray) z.hz z.ti hout ⟨z.fst, p1.isList⟩ ⟨z.snd, show s.heap.IsTuple b l2.toArray from p2⟩
      (by rw [List.size_toArray]; omega) (by rw [List.size_toArray]; omega) (by rw [List.size_toArray, List.size_toArray]; omega) ?_
    intro h' tk hk
    exact ⟨rfl, I.turnedL (t' := tk) (ch := zfp n) (fun c o hc q => by
      obtain ⟨c1, c2, c3, c4⟩ := not_zfp hc
      exact hk c o c1 c2 c3 c4 q) hf⟩
  self := fun A i s Q E z h => wpAny_pyIter_zip z.hz h
def iZipLT (K : PySem.W.Frag) (ta : TA) : TI := fun σ H R => ta σ H fun vs H1 => ∃ a b xs ys, vs = [.ref a, .ref b] ∧ SqL K H1 a xs ∧ SqT K H1 b ys ∧ R (ItzLT K a b) H1
theorem pi_zipLT {X : Cx} {e e2 : Expr} {ta : TA} {p pos tpos : Pos} {elts : List Expr} {kk : Nat} (hg : Gl X "zip") (hm : X.mg "zip" = none) (ha : PA X [e, e2] ta)
    (hs : starEach [e, e2] X.env = (false, eval e X.env) :: starEach [e2] X.env := by rfl) (hpl : (backTo pos (starEach [e2] X.env)).any (·.1) = false := by rfl) :
    PI X (.Tuple elts kk tpos) (.Call (.Name "zip" p) [e, e2] [] pos) (iZipLT X.K ta) := by
  refine ⟨fun pins s σ H R I h => Call_ (ld_blt I hg hm PyProof.Rows.boot_zip (PyProof.Rows.callWith_type1 (thn (ha.run pos pins s σ H _ I h) ?_) hs hpl))⟩
  rintro us s1 ⟨vs, H1, I1, r1, a, b, xs, ys, rfl, qx, qy, q⟩
  cases r1 with
  | cons e1 r2 =>
    cases r2 with
    | cons e3 r3 =>
      cases r3
      cases e1
      cases e3
      obtain ⟨l1, v1, p1, _⟩ := I1.list qx
      obtain ⟨l2, v2, p2, _⟩ := I1.tuple qy
      obtain ⟨o1, g1, _⟩ := id p1.isList
      obtain ⟨o2, g2, _⟩ := id (show s1.heap.IsTuple b l2.toArray from p2)
      refine zip_begins2 (begins_list a l1.toArray) (begins_tuple b l2.toArray) p1.isList (show s1.heap.IsTuple b l2.toArray from p2) fun h' hz hti hto n1 n2 hsz hk => wpAny_pyIter_zip hz ?_
      have I2 : Inv X pins σ H1 { s1 with heap := h' } := I1.kept (t' := s1.toks) hk
      refine ⟨_, zfp s1.heap.objs.size, _, _, H1, rfl, I2, turn_zipLT (Heap.lt_size g1) (Heap.lt_size g2), ⟨hz, hti, ⟨_, _, hto⟩, ⟨_, n1, rfl, rfl⟩, ⟨_, n2, rfl, rfl⟩⟩, fun c hc => ?_, q⟩
      exact I1.fpOk (zfp_mem hc).1 (I1.hok.fresh (zfp_mem hc).1)
theorem walk_zipLT {K : PySem.W.Frag} {a b : Addr} {xs ys : List V} {n : Nat} (hn : n = min xs.length ys.length) : Walk (ItzLT K a b) n (fun H => SqL K H a xs ∧ SqT K H b ys) (YPair (fun i => xs[i]?) (fun i => ys[i]?)) := by
  refine ⟨fun i H hi q => ⟨xs, ys, xs[i]'(by omega), ys[i]'(by omega), q.1, q.2, List.getElem?_eq_getElem _, List.getElem?_eq_getElem _⟩, fun H q => ⟨xs, ys, q.1, q.2, by omega, by omega, by omega⟩, fun i H v H' hi q y => ?_⟩
  obtain ⟨T, x, z, h1, h2, h3, h4, h5⟩ := y
  exact ⟨T, x, z, h1, h2, h3, h4 xs q.1, h5 ys q.2⟩
theorem kz_zipLT {X : Cx} {K : PySem.W.Frag} {e e2 : Expr} {ta : TA} {p pos tpos : Pos} {elts : List Expr} {kk : Nat} (hg : Gl X "zip") (hm : X.mg "zip" = none) (ha : PA X [e, e2] ta) (hK : X.K = K := by rfl)
    (hs : starEach [e, e2] X.env = (false, eval e X.env) :: starEach [e2] X.env := by rfl) (hpl : (backTo pos (starEach [e2] X.env)).any (·.1) = false := by rfl) :
    PI X (.Tuple elts kk tpos) (.Call (.Name "zip" p) [e, e2] [] pos) (iZipLT K ta) := hK ▸ pi_zipLT hg hm ha hs hpl
end Ly

/-! ### zip of a tuple and a list, of any two -/
namespace Ly
open PySem PySem.Spec PyProof.Rows L2 RZ
/-- the list at a, the tuple at b as they stand at each turn, the items in new pairs -/
def ItzTL (K : PySem.W.Frag) (a b : Addr) : It :=
  ⟨fun i H => ∃ (xs ys : List V) (x y : V), SqT K H a xs ∧ SqL K H b ys ∧ xs[i]? = some x ∧ ys[i]? = some y,
   fun i H v H' => ∃ T x y, v = .ref T ∧ H T = none ∧ H' = upd H T (.tup [x, y]) ∧ (∀ xs, SqT K H a xs → xs[i]? = some x) ∧ (∀ ys, SqL K H b ys → ys[i]? = some y),
   fun i H => ∃ (xs ys : List V), SqT K H a xs ∧ SqL K H b ys ∧ i ≤ xs.length ∧ i ≤ ys.length ∧ (i = xs.length ∨ i = ys.length)⟩
/-- the five cells of such a zip, made when so many stood -/
structure ZCellsT (n : Nat) (a b : Addr) (i : Nat) (h : Heap) : Prop where
  hz : IsZip h (n + 4) (n + 2) (n + 3) .none
  ti : IsTupOf2 h (n + 2) (.ref n) (.ref (n + 1))
  out : ∃ u v, IsTupOf2 h (n + 3) u v
  fst : h.IsTupleIter n a i
  snd : h.IsListIter (n + 1) b i
theorem ZCellsT.keep {n : Nat} {a b : Addr} {i : Nat} {h h' : Heap} (z : ZCellsT n a b i h) (k : ∀ c ∈ zfp n, ∀ o, h.get? c = some o → h'.get? c = some o) : ZCellsT n a b i h' := by
  obtain ⟨u, v, e⟩ := z.out
  exact ⟨k _ (by simp [zfp]) _ z.hz, k _ (by simp [zfp]) _ z.ti, ⟨u, v, k _ (by simp [zfp]) _ e⟩, z.fst.at fun o q => k _ (by simp [zfp]) o q, z.snd.at fun o q => k _ (by simp [zfp]) o q⟩
theorem turn_zipTL {P : Program} {w : World} {K : PySem.W.Frag} {elts : List Expr} {kk : Nat} {tpos : Pos} {a b : Addr} {n : Nat} (ha : a < n) (hb : b < n) :
    Turn P w K (.Tuple elts kk tpos) (ItzTL K a b) (zfp n) (n + 4) (fun i h => ZCellsT n a b i h) where
  mem := by simp [zfp]
  obj := fun i h z c hc => by
    obtain ⟨u, v, e⟩ := z.out
    obtain ⟨o1, e1, _, d1⟩ := z.fst
    obtain ⟨o2, e2, _, d2⟩ := z.snd
    rcases (zfp_mem hc).2.2 with q | q | q | q | q
    · rw [q]; exact ⟨_, z.hz, fun v q => nomatch q⟩
    · rw [q]; exact ⟨_, z.ti, fun v q => nomatch q⟩
    · rw [q]; exact ⟨_, e, fun v q => nomatch q⟩
    · rw [q]; exact ⟨o1, e1, fun v q => by rw [d1] at q; cases q⟩
    · rw [q]; exact ⟨o2, e2, fun v q => by rw [d2] at q; cases q⟩
  keep := fun i h h' z k => z.keep k
  item := by
    intro X hP hw hK hc i pins s σ H E I hf z hg
    subst hP hw hK
    obtain ⟨xs, ys, x, y, qx, qy, hx, hy⟩ := hg
    obtain ⟨l1, r1, p1, _⟩ := I.tuple qx
    obtain ⟨l2, r2, p2, _⟩ := I.list qy
    obtain ⟨u1, hu1, ru1⟩ := r1.get hx
    obtain ⟨u2, hu2, ru2⟩ := r2.get hy
    obtain ⟨o1, o2, hout⟩ := z.out
    have hA : X.A.in1.handled = none := I.ok.hd hc
    have big : n + 4 < s.heap.objs.size := Heap.lt_size z.hz
    have sep : ZipSep2 (n + 4) (n + 2) (n + 3) n (n + 1) [n, a] [n + 1, b] := zip_sep2 (N := n) (fp1 := [a]) (fp2 := [b]) (fun c hc => by rw [List.mem_singleton.mp hc]; exact ha) (fun c hc => by rw [List.mem_singleton.mp hc]; exact hb)
    refine wpAny_pyNext_zipD2_item (i := i) sep (Draws.tuple hA n a (Nat.ne_of_lt ha) l1.toArray) (Draws.list hA (n + 1) b (Nat.ne_of_lt (Nat.lt_succ_of_lt hb)) l2.toArray) z.hz z.ti hout ⟨z.fst, show s.heap.IsTuple a l1.toArray from p1⟩ ⟨z.snd, p2.isList⟩
      (by rw [List.size_toArray]; exact (List.getElem?_eq_some_iff.mp hu1).1) (by rw [List.size_toArray]; exact (List.getElem?_eq_some_iff.mp hu2).1) ?_
    intro v1 v2 h' tk e1 e2 hz' hto' st1 st2 hT hsz hk
    have e1' : u1 = v1 := by
      have q : l1[i]? = some v1 := by simpa using e1
      rw [hu1] at q
      exact Option.some.inj q
    have e2' : u2 = v2 := by
      have q : l2[i]? = some v2 := by simpa using e2
      rw [hu2] at q
      exact Option.some.inj q
    subst e1' e2'
    refine ⟨_, rfl, wpAny_letOwnedTupleGo_zip (s := { s with heap := h', toks := tk }) hz' fun h2 hz2 sb => ?_⟩
    have nz : s.heap.objs.size ≠ n + 4 := Nat.ne_of_gt big
    have hT2 : h2.get? s.heap.objs.size = some { cls := .type "tuple", data := .seq #[u1, u2] } := (sb.2 _ nz).trans hT
    have nw : ObjOk X.prog X.w (upd H s.heap.objs.size (.tup [x, y])) h2 s.heap.objs.size (.tup [x, y]) := ⟨by show 2 ≤ sizeLine; decide, [u1, u2], .cons ru1 (.cons ru2 .nil), ⟨_, hT2, rfl, _, rfl⟩⟩
    have old : ∀ c o, c ∉ zfp n → s.heap.get? c = some o → h2.get? c = some o := fun c o hc q => by
      obtain ⟨c1, c2, c3, c4⟩ := not_zfp hc
      exact (sb.2 c c1).trans (hk c o c1 c2 c3 c4 q)
    refine ⟨.ref s.heap.objs.size, _, I.turnedNew (t' := tk) (ch := zfp n) old hf (Nat.le_refl _) nw, rfl, ⟨_, x, y, rfl, I.hok.fresh (Nat.le_refl _), rfl, fun l hl => ?_, fun l hl => by rw [I.list_inj hl qy]; exact hy⟩, ⟨hz2, ?_, ⟨u1, u2, ?_⟩, ?_, ?_⟩, fun c hcm => ?_⟩
    · rw [I.tuple_inj hl qx]
      exact hx
    · have m1 : (n + 2 : Nat) ≠ n + 4 := by omega
      exact (sb.2 _ m1).trans (hk _ _ m1 (show (n + 2 : Nat) ≠ n + 3 by omega) (show (n + 2 : Nat) ≠ n by omega) (show (n + 2 : Nat) ≠ n + 1 by omega) z.ti)
    · exact (sb.2 _ (show (n + 3 : Nat) ≠ n + 4 by omega)).trans hto'
    · exact st1.1.at fun o q => (sb.2 _ (show (n : Nat) ≠ n + 4 by omega)).trans q
    · exact st2.1.at fun o q => (sb.2 _ (show (n + 1 : Nat) ≠ n + 4 by omega)).trans q
    · have hlt : c < s.heap.objs.size := Nat.lt_of_le_of_lt (Nat.le_of_lt_succ (zfp_mem hcm).2.1) big
      rw [upd_ne (Nat.ne_of_lt hlt)]
      exact (hf c hcm).1
  done := by
    intro X hP hw hK hc i pins s σ H E I hf z hg
    subst hP hw hK
    obtain ⟨xs, ys, qx, qy, b1, b2, be⟩ := hg
    obtain ⟨l1, r1, p1, _⟩ := I.tuple qx
    obtain ⟨l2, r2, p2, _⟩ := I.list qy
    obtain ⟨o1, o2, hout⟩ := z.out
    have hA : X.A.in1.handled = none := I.ok.hd hc
    have g1 := r1.length
    have g2 := r2.length
    have sep : ZipSep2 (n + 4) (n + 2) (n + 3) n (n + 1) [n, a] [n + 1, b] := zip_sep2 (N := n) (fp1 := [a]) (fp2 := [b]) (fun c hc => by rw [List.mem_singleton.mp hc]; exact ha) (fun c hc => by rw [List.mem_singleton.mp hc]; exact hb)
    refine wpAny_pyNext_zipD2_end (i := i) sep (Draws.tuple hA n a (Nat.ne_of_lt ha) l1.toArray) (Draws.list hA (n + 1) b (Nat.ne_of_lt (Nat.lt_succ_of_lt hb)) l2.toArray) z.hz z.ti hout ⟨z.fst, show s.heap.IsTuple a l1.toArray from p1⟩ ⟨z.snd, p2.isList⟩
      (by rw [List.size_toArray]; omega) (by rw [List.size_toArray]; omega) (by rw [List.size_toArray, List.size_toArray]; omega) ?_
    intro h' tk hk
    exact ⟨rfl, I.turnedL (t' := tk) (ch := zfp n) (fun c o hc q => by
      obtain ⟨c1, c2, c3, c4⟩ := not_zfp hc
      exact hk c o c1 c2 c3 c4 q) hf⟩
  self := fun A i s Q E z h => wpAny_pyIter_zip z.hz h
theorem walk_zipTL {K : PySem.W.Frag} {a b : Addr} {xs ys : List V} {n : Nat} (hn : n = min xs.length ys.length) : Walk (ItzTL K a b) n (fun H => SqT K H a xs ∧ SqL K H b ys) (YPair (fun i => xs[i]?) (fun i => ys[i]?)) := by
  refine ⟨fun i H hi q => ⟨xs, ys, xs[i]'(by omega), ys[i]'(by omega), q.1, q.2, List.getElem?_eq_getElem _, List.getElem?_eq_getElem _⟩, fun H q => ⟨xs, ys, q.1, q.2, by omega, by omega, by omega⟩, fun i H v H' hi q y => ?_⟩
  obtain ⟨T, x, z, h1, h2, h3, h4, h5⟩ := y
  exact ⟨T, x, z, h1, h2, h3, h4 xs q.1, h5 ys q.2⟩

/-- zip of two lists, of two tuples, of a tuple and a list -/
def iZipB (K : PySem.W.Frag) (ta : TA) : TI := fun σ H R => ta σ H fun vs H1 => ∃ a b xs ys, vs = [.ref a, .ref b] ∧ (SqL K H1 a xs ∧ SqL K H1 b ys ∧ R (Itz K a b) H1 ∨ SqT K H1 a xs ∧ SqT K H1 b ys ∧ R (ItzT K a b) H1 ∨ SqT K H1 a xs ∧ SqL K H1 b ys ∧ R (ItzTL K a b) H1)
theorem pi_zipB {X : Cx} {e e2 : Expr} {ta : TA} {p pos tpos : Pos} {elts : List Expr} {kk : Nat} (hg : Gl X "zip") (hm : X.mg "zip" = none) (ha : PA X [e, e2] ta)
    (hs : starEach [e, e2] X.env = (false, eval e X.env) :: starEach [e2] X.env := by rfl) (hpl : (backTo pos (starEach [e2] X.env)).any (·.1) = false := by rfl) :
    PI X (.Tuple elts kk tpos) (.Call (.Name "zip" p) [e, e2] [] pos) (iZipB X.K ta) := by
  refine ⟨fun pins s σ H R I h => Call_ (ld_blt I hg hm PyProof.Rows.boot_zip (PyProof.Rows.callWith_type1 (thn (ha.run pos pins s σ H _ I h) fun us s1 ⟨vs, H1, I1, r1, q1⟩ => ?_) hs hpl))⟩
  obtain ⟨a, b, xs, ys, ex, q1⟩ := q1
  subst ex
  cases r1 with
  | cons r rr =>
    cases rr with
    | cons r' rr =>
      cases rr
      cases r
      cases r'
      have fresh5 : ∀ c, c ∈ zfp s1.heap.objs.size → FpOk X pins H1 c := fun c hc => I1.fpOk (zfp_mem hc).1 (I1.hok.fresh (zfp_mem hc).1)
      rcases q1 with ⟨hqx, hqy, q⟩ | ⟨hqx, hqy, q⟩ | ⟨hqx, hqy, q⟩
      · obtain ⟨its, rv, p1, _⟩ := I1.list hqx
        obtain ⟨its2, rv2, p2, _⟩ := I1.list hqy
        refine call_zip_2 p1.isList p2.isList fun h' hz hTI hTO h1 h2 hsz hk => wpAny_pyIter_zip hz ?_
        have I2 : Inv X pins σ H1 { s1 with heap := h' } := I1.kept (t' := s1.toks) hk
        exact ⟨s1.heap.objs.size + 4, zfp s1.heap.objs.size, _, _, H1, rfl, I2, turn_zip (PySem.W.ktu_apart s1.heap.objs.size a b p1.lt p2.lt), ⟨hz, hTI, ⟨_, _, hTO⟩, h1, h2⟩, fresh5, q⟩
      · obtain ⟨its, rv, p1, _⟩ := I1.tuple hqx
        obtain ⟨its2, rv2, p2, _⟩ := I1.tuple hqy
        obtain ⟨o1, ho1, _⟩ := id p1
        obtain ⟨o2, ho2, _⟩ := id p2
        refine call_zipT (show s1.heap.IsTuple a its.toArray from p1) (show s1.heap.IsTuple b its2.toArray from p2) fun h' hz hTI hTO h1 h2 hsz hk => wpAny_pyIter_zip hz ?_
        have I2 : Inv X pins σ H1 { s1 with heap := h' } := I1.kept (t' := s1.toks) hk
        exact ⟨s1.heap.objs.size + 4, zfp s1.heap.objs.size, _, _, H1, rfl, I2, turn_zipT (PySem.W.ktu_apart s1.heap.objs.size a b (Heap.lt_size ho1) (Heap.lt_size ho2)), ⟨hz, hTI, ⟨_, _, hTO⟩, h1, h2⟩, fresh5, q⟩
      · obtain ⟨l1, v1, p1, _⟩ := I1.tuple hqx
        obtain ⟨l2, v2, p2, _⟩ := I1.list hqy
        obtain ⟨o1, g1, _⟩ := id (show s1.heap.IsTuple a l1.toArray from p1)
        obtain ⟨o2, g2, _⟩ := id p2.isList
        refine zip_begins2 (begins_tuple a l1.toArray) (begins_list b l2.toArray) (show s1.heap.IsTuple a l1.toArray from p1) p2.isList fun h' hz hti hto n1 n2 hsz hk => wpAny_pyIter_zip hz ?_
        have I2 : Inv X pins σ H1 { s1 with heap := h' } := I1.kept (t' := s1.toks) hk
        exact ⟨_, zfp s1.heap.objs.size, _, _, H1, rfl, I2, turn_zipTL (Heap.lt_size g1) (Heap.lt_size g2), ⟨hz, hti, ⟨_, _, hto⟩, ⟨_, n1, rfl, rfl⟩, ⟨_, n2, rfl, rfl⟩⟩, fresh5, q⟩
theorem kz_zipB {X : Cx} {K : PySem.W.Frag} {e e2 : Expr} {ta : TA} {p pos tpos : Pos} {elts : List Expr} {kk : Nat} (hg : Gl X "zip") (hm : X.mg "zip" = none) (ha : PA X [e, e2] ta) (hK : X.K = K := by rfl)
    (hs : starEach [e, e2] X.env = (false, eval e X.env) :: starEach [e2] X.env := by rfl) (hpl : (backTo pos (starEach [e2] X.env)).any (·.1) = false := by rfl) :
    PI X (.Tuple elts kk tpos) (.Call (.Name "zip" p) [e, e2] [] pos) (iZipB K ta) := hK ▸ pi_zipB hg hm ha hs hpl
end Ly

/-! ### a tuple turned round: t[::-1] -/
namespace Ly
open PySem PySem.Spec PyProof.Rows L2
section
variable {prog : Program} {w : World} {A : Around} {E : Value → Shared → Prop} {s : Shared}
theorem part_is {v : Value} {o : Option Int} {Q : Option Int → Shared → Prop} (p : IsPart v o) (h : Q o s) : wpAny (model prog w) A (Builtin.Slice.slicePartIndex v) Q E s := HT.slicePart_ p h
theorem adj_back (n : Nat) : Builtin.Slice.sliceAdjust none none (-1) (n : Int) = ((n : Int) - 1, -1) := by
  have g : (-1 : Int) < 0 := by decide
  unfold Builtin.Slice.sliceAdjust
  simp only [g, if_true]
theorem places_back (n : Nat) : Builtin.Slice.slicePlaces ((n : Int) - 1) (-1) (-1) = n := by
  have g : ¬ ((-1 : Int) > 0) := by decide
  unfold Builtin.Slice.slicePlaces
  rw [if_neg g]
  by_cases c : (n : Int) - 1 > -1
  · rw [if_pos c, show (- (-1 : Int)) = 1 from rfl, Int.ediv_one]
    omega
  · rw [if_neg c]
    omega
theorem pick_back (xs : Array Value) : ((List.range xs.size).filterMap fun (k : Nat) => xs[((xs.size : Int) - 1 + (k : Int) * (-1)).toNat]?).toArray = xs.toList.reverse.toArray := by
  have e : (fun (k : Nat) => xs[((xs.size : Int) - 1 + (k : Int) * (-1)).toNat]?) = fun k => xs[xs.size - 1 - k]? := by
    funext k
    have q : ((xs.size : Int) - 1 + (k : Int) * (-1)).toNat = xs.size - 1 - k := by omega
    rw [q]
  have k := PySem.W.krv_pick xs
  unfold slicePick at k
  rw [PySem.W.krv_bounds] at k
  have k2 : ((sliceRange ((xs.size : Int) - 1) (-1) (-1)).filterMap (xs[·]?)).toArray = xs.toList.reverse.toArray := k
  rw [PySem.W.krv_sliceRange, List.filterMap_map] at k2
  rw [e]
  exact k2
theorem applied_back {sl : Addr} {vs : Value} {n : Nat} {Q : Int × Int × Nat → Shared → Prop} (hs : s.heap.IsSliceOf sl .none .none vs) (pv : IsPart vs (some (-1)))
    (h : Q ((n : Int) - 1, -1, n) s) : wpAny (model prog w) A (Builtin.Slice.sliceApplied (.ref sl) (pure (n : Int))) Q E s := by
  obtain ⟨o, ho, _, hd⟩ := id hs
  unfold Builtin.Slice.sliceApplied Builtin.Slice.sliceFields
  have f0 : ∀ {R : Value → Shared → Prop}, R .none s → wpAny (model prog w) A (field (.ref sl) 0) R E s := fun r => wpAny_field ho hd (x := .none) rfl r
  have f1 : ∀ {R : Value → Shared → Prop}, R .none s → wpAny (model prog w) A (field (.ref sl) 1) R E s := fun r => wpAny_field ho hd (x := .none) rfl r
  have f2 : ∀ {R : Value → Shared → Prop}, R vs s → wpAny (model prog w) A (field (.ref sl) 2) R E s := fun r => wpAny_field ho hd (x := vs) rfl r
  refine wpAny_bind (wpAny_bind (f0 (wpAny_bind (f1 (wpAny_bind (f2 (wpAny_pure ?_)))))))
  refine wpAny_bind (part_is pv ?_)
  show wpAny _ _ (if ((-1 : Int) == 0) = true then _ else _) _ _ s
  rw [if_neg (show ¬ ((-1 : Int) == 0) = true by decide)]
  refine wpAny_bind (part_is .none (wpAny_bind (part_is .none (wpAny_bind (wpAny_pure ?_)))))
  show wpAny _ _ (match Builtin.Slice.sliceAdjust none none (-1) (n : Int) with | (x, y) => pure (x, (-1 : Int), Builtin.Slice.slicePlaces x y (-1))) _ _ s
  rw [adj_back]
  show wpAny _ _ (pure ((n : Int) - 1, (-1 : Int), Builtin.Slice.slicePlaces ((n : Int) - 1) (-1) (-1))) _ _ s
  rw [places_back]
  exact wpAny_pure h
theorem item_back {t sl : Addr} {items : Array Value} {vs : Value} {Q : Value → Shared → Prop} (ht : IsTup s.heap t items) (hs : s.heap.IsSliceOf sl .none .none vs) (pv : IsPart vs (some (-1))) (hz : items.size ≤ sizeLine)
    (h : Q (.ref s.heap.objs.size) { s with heap := s.heap.push { cls := .type "tuple", data := .seq items.toList.reverse.toArray } }) : wpAny (model prog w) A (getItem (.ref t) (.ref sl)) Q E s := by
  have ok : sizeOk (.seq items.toList.reverse.toArray) := by
    show items.toList.reverse.toArray.size ≤ sizeLine
    rw [List.size_toArray, List.length_reverse, Array.length_toList]
    exact hz
  obtain ⟨o, ho, hc, _⟩ := id hs
  unfold getItem
  try with_reducible refine wpAny_holding ?_
  first | refine wpAny_bind (wpAny_pure ?_) | skip
  have key : wpAny (model prog w) A.in1 (Builtin.«tuple.__getitem__» ⟨[.ref t, .ref sl], []⟩) (fun fin s' => ∃ v, fin = .done (.ret v) ∧ Q v s') E s := by
    show wpAny _ _ (Builtin.Tuple.tupleItemsOf (.ref t) >>= _) _ _ s
    refine wpAny_bind (tupleItemsOf_ ht (wpAny_bind (wpAny_typeOf (show s.TypeIs (.ref sl) "slice" from ⟨o, ho, hc⟩) ?_)))
    rw [if_pos (by decide)]
    refine wpAny_bind (applied_back hs pv ?_)
    show wpAny _ _ (if (((items.size : Int) - 1 == 0) && ((-1 : Int) == 1) && (items.size == items.size)) = true then _ else _) _ _ s
    rw [if_neg (by rw [show ((-1 : Int) == 1) = false from rfl, Bool.and_false, Bool.false_and]; exact Bool.false_ne_true), pick_back]
    first
      | exact wpAny_bind (m := Builtin.Tuple.tupleExact _) (wpAny_newObj_type (wpAny_pure ⟨_, rfl, h⟩) ok)
      | exact wpAny_bind (m := Builtin.Tuple.tupleExact _) (wpAny_newObj_type (wpAny_bind (wpAny_pure (wpAny_pure ⟨_, rfl, h⟩))) ok)
      | exact wpAny_bind (wpAny_bind (m := Builtin.Tuple.tupleExact _) (wpAny_newObj_type (wpAny_pure (wpAny_pure ⟨_, rfl, h⟩)) ok))
      | exact wpAny_bind (wpAny_bind (m := Builtin.Tuple.tupleExact _) (wpAny_newObj_type (wpAny_pure ⟨_, rfl, h⟩) ok))
  refine wpAny_bind (wpAny_sequenceKey ht.typeIs (by decide) ?_)
  refine wpAny_bind (wpAny_callSpecial?_slot (name := Str.ofString "__getitem__") ht.typeIs PyProof.Rows.slot_tuple_getitem ?_)
  refine wpAny_call_entry PyProof.Rows.slot_tuple_getitem ht.typeIs entry_tuple_getitem ?_ (args_tuple_getitem _ _)
  exact wpAny_mono key (fun f s' z => ⟨z.choose, z.choose_spec.1, wpAny_pure z.choose_spec.2⟩) fun _ _ z => z
end
def tRevT (K : PySem.W.Frag) (te : TE) : TE := fun σ H Q => te σ H fun x H1 => ∃ a xs, x = .ref a ∧ SqT K H1 a xs ∧ ∀ p, H1 p = none → Q (.ref p) (upd H1 p (.tup xs.reverse))
section
variable {X : Cx} {e : Expr} {te : TE} {k : Nat} {p1 p2 p3 pos : Pos}
theorem pe_revT {K : PySem.W.Frag} (he : PE X e te) (hK : X.K = K := by rfl) : PE X (.Subscript e (.Slice none none (some (.UnaryOp .USub (.Constant (.int 1) k p1) p2)) p3) pos) (tRevT K te) := by
  subst hK
  refine ⟨fun pins s σ H Q I h => Subscript_ (thn (he.run pins s σ H _ I h) ?_)⟩
  rintro v s1 ⟨x, H1, I1, r1, a, xs, rfl, hx, q⟩
  cases r1
  refine wpAny_Slice (thn (po_none.run pins s1 σ H1 (fun o H2 => o = none ∧ H2 = H1) I1 ⟨rfl, rfl⟩) ?_)
  rintro vl s2 ⟨l, H2, I2, pl, rfl, rfl⟩
  refine thn (po_none.run pins s2 σ H2 (fun o H3 => o = none ∧ H3 = H2) I2 ⟨rfl, rfl⟩) ?_
  rintro vu s3 ⟨u, H3, I3, pu, rfl, rfl⟩
  refine thn ((po_some (pe_un un_neg pe_int)).run pins s3 σ H3 (fun o H4 => o = some (-1) ∧ H4 = H3) I3 ⟨1, rfl, -1, rfl, rfl, rfl⟩) ?_
  rintro vs s4 ⟨o, H4, I4, ps, rfl, rfl⟩
  cases pl
  cases pu
  have I5 : Inv X pins σ H4 { s4 with heap := s4.heap.push { cls := .type "slice", data := .fields #[.none, .none, vs] } } := I4.kept (t' := s4.toks) fun b ob q => Heap.get?_push_of_some _ q
  obtain ⟨its, r, ht, hz⟩ := I5.tuple hx
  have hlen := r.length
  show wpAny (model X.prog X.w) X.A (subscriptTail e (.Slice none none (some (.UnaryOp .USub (.Constant (.int 1) k p1) p2)) p3) (.ref a) (.ref s4.heap.objs.size)) (EP X pins σ Q) X.xe { s4 with heap := s4.heap.push { cls := .type "slice", data := .fields #[.none, .none, vs] } }
  refine tail_any (ops := [.ref a, .ref s4.heap.objs.size]) ht.typeIs (PyProof.Rows.slot_tuple_getitem.lookup) ?_ (by with_unfolding_all rfl)
  refine item_back ht (Heap.IsSliceOf.new _ .none .none vs) ps (by rw [List.size_toArray]; omega) ?_
  refine ⟨.ref _, _, I5.laid (t' := s4.toks) (o := .tup xs.reverse) (fun b ob q => Heap.get?_push_of_some _ q) (Nat.le_refl _) ?_, rfl, q _ (I5.hok.fresh (Nat.le_refl _))⟩
  exact ⟨by rw [List.length_reverse]; exact hz, _, r.reverse, IsTup.new _ _⟩
end
end Ly

/-! ### the mathematics: rows, signs, totals -/
namespace Ly
open PySem L2
/-- a row of hands -/
def RowOk (hands : Int) (row : List Int) : Prop := 2 ≤ hands ∧ hands ≤ 4 ∧ row ≠ [] ∧ row.length ≤ 64 ∧ ∀ z ∈ row, 0 ≤ z ∧ z < hands
def signOf (t a b : Int) : Int := if t = a then 1 else if t = b then -1 else 0
def signsOf (row : List Int) (a b : Int) : List Int := row.map fun t => signOf t a b
theorem signsOf_len (row : List Int) (a b : Int) : (signsOf row a b).length = row.length := by rw [signsOf, List.length_map]
theorem signOf_small (t a b : Int) : signOf t a b = 1 ∨ signOf t a b = -1 ∨ signOf t a b = 0 := by
  unfold signOf
  split
  · exact .inl rfl
  · split
    · exact .inr (.inl rfl)
    · exact .inr (.inr rfl)
/-- what a hand has -/
def tot (row ws : List Int) (h : Int) : Int := ((row.zip ws).map fun p => if p.1 = h then p.2 else 0).sum
def totsOf (hands : Int) (row ws : List Int) : List Int := (List.range hands.toNat).map fun (h : Nat) => tot row ws (h : Int)
theorem tot_more {row ws : List Int} {i : Nat} {t w h : Int} (e1 : row[i]? = some t) (e2 : ws[i]? = some w) : tot (row.take (i + 1)) (ws.take (i + 1)) h = tot (row.take i) (ws.take i) h + if t = h then w else 0 := by
  have e : (row.take (i + 1)).zip (ws.take (i + 1)) = (row.take i).zip (ws.take i) ++ [(t, w)] := by
    rw [List.take_add_one, List.take_add_one, e1, e2]
    refine List.zip_append ?_
    have l1 := (List.getElem?_eq_some_iff.mp e1).1
    have l2 := (List.getElem?_eq_some_iff.mp e2).1
    rw [List.length_take, List.length_take]
    omega
  unfold tot
  rw [e, List.map_append, List.sum_append]
  simp
theorem totsOf_at {hands : Int} {row ws : List Int} {h : Nat} (hh : (h : Int) < hands) : (totsOf hands row ws)[h]? = some (tot row ws (h : Int)) := by
  unfold totsOf
  rw [List.getElem?_map, List.getElem?_range (by omega)]
  rfl
theorem totsOf_len {hands : Int} {row ws : List Int} : (totsOf hands row ws).length = hands.toNat := by
  unfold totsOf
  rw [List.length_map, List.length_range]
theorem totsOf_more {hands : Int} {row ws : List Int} {i : Nat} {t w : Int} (e1 : row[i]? = some t) (e2 : ws[i]? = some w) (h0 : 0 ≤ t) (h1 : t < hands) :
    totsOf hands (row.take (i + 1)) (ws.take (i + 1)) = (totsOf hands (row.take i) (ws.take i)).set t.toNat (tot (row.take i) (ws.take i) t + w) := by
  refine List.ext_getElem? fun k => ?_
  rw [List.getElem?_set, totsOf_len]
  by_cases hk : k < hands.toNat
  · have hk2 : (k : Int) < hands := by omega
    rw [totsOf_at hk2, tot_more e1 e2]
    by_cases hc : t.toNat = k
    · have ht : t = (k : Int) := by omega
      rw [if_pos hc, if_pos (show t.toNat < hands.toNat by omega), if_pos ht, ht]
    · rw [if_neg hc, totsOf_at hk2, if_neg (by omega), Int.add_zero]
  · rw [List.getElem?_eq_none (by rw [totsOf_len]; omega), if_neg (by omega), List.getElem?_eq_none (by rw [totsOf_len]; omega)]
theorem totsOf_nil {hands : Int} : totsOf hands [] [] = List.replicate hands.toNat 0 := by
  refine List.ext_getElem? fun k => ?_
  by_cases hk : k < hands.toNat
  · rw [totsOf_at (by omega), List.getElem?_replicate, if_pos hk]
    rfl
  · rw [List.getElem?_eq_none (by rw [totsOf_len]; omega), List.getElem?_eq_none (by rw [List.length_replicate]; omega)]

/-- a lead by signs -/
def leadBy (sg ws : List Int) : Int := ((sg.zip ws).map fun p => p.1 * p.2).sum
theorem leadBy_cons (s w : Int) (sg ws : List Int) : leadBy (s :: sg) (w :: ws) = s * w + leadBy sg ws := by
  unfold leadBy
  rw [List.zip_cons_cons, List.map_cons, List.sum_cons]
theorem tot_cons (t w h : Int) (row ws : List Int) : tot (t :: row) (w :: ws) h = (if t = h then w else 0) + tot row ws h := by
  unfold tot
  rw [List.zip_cons_cons, List.map_cons, List.sum_cons]
theorem lead_tot {a b : Int} (hab : a ≠ b) : ∀ row ws : List Int, leadBy (signsOf row a b) ws = tot row ws a - tot row ws b
  | [], ws => by simp [leadBy, signsOf, tot]
  | t :: r, [] => by simp [leadBy, tot]
  | t :: r, w :: ws => by
    have ih := lead_tot hab r ws
    show leadBy (signOf t a b :: signsOf r a b) (w :: ws) = _
    rw [leadBy_cons, tot_cons, tot_cons, ih]
    unfold signOf
    by_cases h1 : t = a
    · rw [if_pos h1, if_pos h1, if_neg (fun z => hab (h1.symm.trans z))]
      omega
    · by_cases h2 : t = b
      · rw [if_neg h1, if_pos h2, if_neg h1, if_pos h2]
        omega
      · rw [if_neg h1, if_neg h2, if_neg h1, if_neg h2]
        omega
theorem erase_perm : ∀ (l : List Int) {i : Nat} (h : i < l.length), (l[i] :: l.eraseIdx i).Perm l
  | [], _, h => absurd h (Nat.not_lt_zero _)
  | a :: r, 0, _ => .refl _
  | a :: r, i + 1, h => (List.Perm.swap a (r[i]'(Nat.lt_of_succ_lt_succ h)) (r.eraseIdx i)).trans ((erase_perm r (Nat.lt_of_succ_lt_succ h)).cons a)
theorem erase_map : ∀ (l : List Int) (i : Nat), (l.map V.int).eraseIdx i = (l.eraseIdx i).map V.int
  | [], _ => rfl
  | a :: r, 0 => rfl
  | a :: r, i + 1 => by
    rw [List.map_cons, List.eraseIdx_cons_succ, erase_map r i, List.eraseIdx_cons_succ, List.map_cons]
/-- the numbers below m -/
def nums (m : Nat) : List Int := (List.range m).map fun (i : Nat) => (i : Int)
theorem nums_len (m : Nat) : (nums m).length = m := by rw [nums, List.length_map, List.length_range]
theorem nums_mem {m : Nat} {z : Int} : z ∈ nums m ↔ 0 ≤ z ∧ z < (m : Int) := by
  unfold nums
  rw [List.mem_map]
  constructor
  · rintro ⟨i, hi, e⟩
    rw [List.mem_range] at hi
    omega
  · rintro ⟨h1, h2⟩
    exact ⟨z.toNat, List.mem_range.mpr (by omega), by omega⟩
theorem nums_nodup (m : Nat) : (nums m).Nodup := List.Pairwise.map _ (fun x y h e => h (Int.ofNat.inj e)) List.nodup_range
/-- a row put into another one -/
def putL (hands : Int) (row other : List Int) : List Int := other.flatMap fun t => row.map fun x => (x + t) % hands
theorem putL_len (hands : Int) (row other : List Int) : (putL hands row other).length = other.length * row.length := by
  induction other with
  | nil => simp [putL]
  | cons t r ih =>
    show (row.map (fun x => (x + t) % hands) ++ putL hands row r).length = _
    rw [List.length_append, List.length_map, ih, List.length_cons, Nat.add_mul, Nat.one_mul, Nat.add_comm]
theorem putL_mem {hands : Int} (h : 0 < hands) {row other : List Int} : ∀ z ∈ putL hands row other, 0 ≤ z ∧ z < hands := by
  intro z hz
  obtain ⟨t, _, hz⟩ := List.mem_flatMap.mp hz
  obtain ⟨x, _, e⟩ := List.mem_map.mp hz
  rw [← e]
  exact ⟨Int.emod_nonneg _ (by omega), Int.emod_lt_of_pos _ h⟩
theorem putL_more (hands : Int) (row : List Int) {other : List Int} {i : Nat} {t : Int} (h : other[i]? = some t) : putL hands row (other.take (i + 1)) = putL hands row (other.take i) ++ row.map fun x => (x + t) % hands := by
  unfold putL
  rw [List.take_add_one, h, List.flatMap_append]
  congr 1
  show (row.map _) ++ [] = _
  rw [List.append_nil]
end Ly

/-! ### the mathematics: differences -/
namespace Ly
/-- the differences of a line -/
def diffs : List Int → List Int
  | x :: y :: r => (y - x) :: diffs (y :: r)
  | _ => []
def diffsN : Nat → List Int → List Int
  | 0, l => l
  | n + 1, l => diffs (diffsN n l)
theorem diffs_len : ∀ l : List Int, (diffs l).length = l.length - 1
  | [] => rfl
  | [_] => rfl
  | x :: y :: r => by
    show (diffs (y :: r)).length + 1 = r.length + 1 + 1 - 1
    rw [diffs_len (y :: r), List.length_cons]
    omega
theorem diffs_at : ∀ (l : List Int) (i : Nat) (x y : Int), l[i]? = some x → l[i + 1]? = some y → (diffs l)[i]? = some (y - x)
  | [], _, _, _, h, _ => by simp at h
  | [_], 0, _, _, _, h => by simp at h
  | [_], _ + 1, _, _, h, _ => by simp at h
  | a :: b :: r, 0, x, y, h, h2 => by
    rw [← Option.some.inj h, ← Option.some.inj h2]
    rfl
  | a :: b :: r, i + 1, x, y, h, h2 => diffs_at (b :: r) i x y h h2
theorem diffsN_len (n : Nat) (l : List Int) : (diffsN n l).length = l.length - n := by
  induction n with
  | zero => rfl
  | succ n ih =>
    show (diffs (diffsN n l)).length = _
    rw [diffs_len, ih]
    omega
/-- differences of numbers that go on -/
def Df (f : Nat → Int) : Nat → Int := fun n => f (n + 1) - f n
def DN : Nat → (Nat → Int) → Nat → Int
  | 0, f => f
  | m + 1, f => Df (DN m f)
theorem DN_succ (m : Nat) (f : Nat → Int) : DN (m + 1) f = DN m (Df f) := by
  induction m with
  | zero => rfl
  | succ m ih =>
    show Df (DN (m + 1) f) = Df (DN m (Df f))
    rw [ih]
/-- a line as the first so many of f -/
def line (f : Nat → Int) (n : Nat) : List Int := (List.range n).map f
theorem line_len (f : Nat → Int) (n : Nat) : (line f n).length = n := by rw [line, List.length_map, List.length_range]
theorem line_at {f : Nat → Int} {n i : Nat} (h : i < n) : (line f n)[i]? = some (f i) := by
  rw [line, List.getElem?_map, List.getElem?_range h]
  rfl
theorem line_ext {l : List Int} {f : Nat → Int} {n : Nat} (hl : l.length = n) (h : ∀ i, i < n → l[i]? = some (f i)) : l = line f n := by
  refine List.ext_getElem? fun i => ?_
  by_cases hi : i < n
  · rw [h i hi, line_at hi]
  · rw [List.getElem?_eq_none (by omega), List.getElem?_eq_none (by rw [line_len]; omega)]
theorem diffs_line (f : Nat → Int) (n : Nat) : diffs (line f n) = line (Df f) (n - 1) := by
  refine line_ext (by rw [diffs_len, line_len]) fun i hi => ?_
  exact diffs_at _ i _ _ (line_at (by omega)) (line_at (by omega))
theorem diffsN_line (m : Nat) (f : Nat → Int) (n : Nat) : diffsN m (line f n) = line (DN m f) (n - m) := by
  induction m with
  | zero => rfl
  | succ m ih =>
    show diffs (diffsN m (line f n)) = _
    rw [ih, diffs_line]
    show line (DN (m + 1) f) (n - m - 1) = line (DN (m + 1) f) (n - (m + 1))
    rw [show n - m - 1 = n - (m + 1) by omega]
/-- every line goes on somehow -/
theorem line_of (l : List Int) : l = line (fun i => l.getD i 0) l.length := by
  refine line_ext rfl fun i hi => ?_
  rw [List.getD_eq_getElem?_getD, List.getElem?_eq_getElem hi]
  rfl
/-! smooth: the differences of order m are nought -/
def Sm (m : Nat) (f : Nat → Int) : Prop := ∀ n, DN m f n = 0
theorem Sm.step {m : Nat} {f : Nat → Int} (h : Sm m (Df f)) : Sm (m + 1) f := fun n => by
  rw [DN_succ]
  exact h n
theorem Sm.back {m : Nat} {f : Nat → Int} (h : Sm (m + 1) f) : Sm m (Df f) := fun n => by
  rw [← DN_succ]
  exact h n
theorem Sm.more {m : Nat} {f : Nat → Int} (h : Sm m f) : Sm (m + 1) f := fun n => by
  show DN m f (n + 1) - DN m f n = 0
  rw [h, h]
  rfl
theorem Sm.le {m k : Nat} {f : Nat → Int} (h : Sm m f) (l : m ≤ k) : Sm k f := by
  induction l with
  | refl => exact h
  | step _ ih => exact ih.more
theorem DN_add (m : Nat) : ∀ (f g : Nat → Int), DN m (fun n => f n + g n) = fun n => DN m f n + DN m g n := by
  induction m with
  | zero => intros; rfl
  | succ m ih =>
    intro f g
    funext n
    show DN m (fun n => f n + g n) (n + 1) - DN m (fun n => f n + g n) n = (DN m f (n + 1) - DN m f n) + (DN m g (n + 1) - DN m g n)
    rw [ih]
    show (DN m f (n + 1) + DN m g (n + 1)) - (DN m f n + DN m g n) = _
    omega
theorem DN_mul (m : Nat) (c : Int) : ∀ f : Nat → Int, DN m (fun n => c * f n) = fun n => c * DN m f n := by
  induction m with
  | zero => intros; rfl
  | succ m ih =>
    intro f
    funext n
    show DN m (fun n => c * f n) (n + 1) - DN m (fun n => c * f n) n = c * (DN m f (n + 1) - DN m f n)
    rw [ih]
    show c * DN m f (n + 1) - c * DN m f n = _
    rw [Int.mul_sub]
theorem DN_shift (m : Nat) : ∀ f : Nat → Int, DN m (fun n => f (n + 1)) = fun n => DN m f (n + 1) := by
  induction m with
  | zero => intros; rfl
  | succ m ih =>
    intro f
    funext n
    show DN m (fun n => f (n + 1)) (n + 1) - DN m (fun n => f (n + 1)) n = DN m f (n + 1 + 1) - DN m f (n + 1)
    rw [ih]
theorem Sm.add {m : Nat} {f g : Nat → Int} (h : Sm m f) (k : Sm m g) : Sm m (fun n => f n + g n) := fun n => by
  rw [DN_add]
  show DN m f n + DN m g n = 0
  rw [h, k]
  rfl
theorem Sm.mul {m : Nat} {f : Nat → Int} (c : Int) (h : Sm m f) : Sm m (fun n => c * f n) := fun n => by
  rw [DN_mul]
  show c * DN m f n = 0
  rw [h, Int.mul_zero]
theorem Sm.zero (m : Nat) : Sm m (fun _ => 0) := Sm.le (m := 0) (fun _ => rfl) (Nat.zero_le m)
theorem Sm.times {m : Nat} : ∀ {f : Nat → Int}, Sm m f → Sm (m + 1) (fun (n : Nat) => (n : Int) * f n) := by
  induction m with
  | zero =>
    intro f h n
    have e : ∀ k, f k = 0 := h
    show ((n + 1 : Nat) : Int) * f (n + 1) - (n : Int) * f n = 0
    rw [e, e]
    simp
  | succ m ih =>
    intro f h
    refine Sm.step ?_
    have e : Df (fun (n : Nat) => (n : Int) * f n) = fun (n : Nat) => (n : Int) * Df f n + f (n + 1) := by
      funext n
      show ((n + 1 : Nat) : Int) * f (n + 1) - (n : Int) * f n = (n : Int) * (f (n + 1) - f n) + f (n + 1)
      rw [Int.natCast_add, Int.add_mul, Int.mul_sub]
      omega
    rw [e]
    refine Sm.add (ih h.back) fun n => ?_
    rw [DN_shift]
    exact h (n + 1)
theorem Sm.pow : ∀ k : Nat, Sm (k + 1) (fun n => (n : Int) ^ k)
  | 0 => fun n => by
    show ((n + 1 : Nat) : Int) ^ 0 - ((n : Nat) : Int) ^ 0 = 0
    simp
  | k + 1 => by
    have h := (Sm.pow k).times
    have e : (fun n : Nat => (n : Int) * (n : Int) ^ k) = fun n : Nat => (n : Int) ^ (k + 1) := by
      funext n
      rw [Int.pow_succ, Int.mul_comm]
    rw [e] at h
    exact h
/-- made of powers -/
def poly (cs : List Int) (n : Nat) : Int := (cs.zipIdx.map fun p => p.1 * (n : Int) ^ p.2).sum
theorem sm_polyFrom : ∀ (cs : List Int) (k m : Nat), k + cs.length ≤ m → Sm m (fun n => ((cs.zipIdx k).map fun p => p.1 * (n : Int) ^ p.2).sum)
  | [], _, m, _ => Sm.zero m
  | c :: r, k, m, h => by
    have ih := sm_polyFrom r (k + 1) m (by rw [List.length_cons] at h; omega)
    have e : (fun n : Nat => (((c :: r).zipIdx k).map fun p => p.1 * (n : Int) ^ p.2).sum) = fun n : Nat => c * (n : Int) ^ k + ((r.zipIdx (k + 1)).map fun p => p.1 * (n : Int) ^ p.2).sum := by
      funext n
      rw [List.zipIdx_cons, List.map_cons, List.sum_cons]
    rw [e]
    exact Sm.add (Sm.mul c ((Sm.pow k).le (by rw [List.length_cons] at h; omega))) ih
theorem sm_poly (cs : List Int) : Sm cs.length (poly cs) := sm_polyFrom cs 0 cs.length (by omega)
/-- a line is smooth to d -/
def SmL (m : Nat) (l : List Int) : Prop := ∀ z ∈ diffsN m l, z = 0
theorem SmL.of {m n : Nat} {f : Nat → Int} (h : Sm m f) : SmL m (line f n) := fun z hz => by
  rw [diffsN_line] at hz
  obtain ⟨i, _, e⟩ := List.mem_map.mp hz
  rw [← e]
  exact h i
/-! one worth changed -/
def bump (i : Nat) (n : Nat) : Int := if n = i then 1 else 0
def bin : Nat → Nat → Nat
  | _, 0 => 1
  | 0, _ + 1 => 0
  | n + 1, k + 1 => bin n k + bin n (k + 1)
def alt (n : Nat) : Int := if n % 2 = 0 then 1 else -1
theorem alt_succ (n : Nat) : alt (n + 1) = - alt n := by
  unfold alt
  rcases Nat.mod_two_eq_zero_or_one n with h | h
  · rw [if_neg (by omega), if_pos h]
  · rw [if_pos (by omega), if_neg (by omega)]
    rfl
theorem bin_pos : ∀ {n k : Nat}, k ≤ n → 0 < bin n k
  | n, 0, _ => by
    cases n <;> exact Nat.one_pos
  | 0, k + 1, h => by omega
  | n + 1, k + 1, h => by
    have := bin_pos (n := n) (k := k) (by omega)
    show 0 < bin n k + bin n (k + 1)
    omega
theorem bin_big : ∀ {n k : Nat}, n < k → bin n k = 0
  | _, 0, h => by omega
  | 0, _ + 1, _ => rfl
  | n + 1, k + 1, h => by
    show bin n k + bin n (k + 1) = 0
    rw [bin_big (by omega), bin_big (by omega)]
theorem alt_sq (n : Nat) : alt n = 1 ∨ alt n = -1 := by
  unfold alt
  split
  · exact .inl rfl
  · exact .inr rfl
theorem DN_bump (m : Nat) : ∀ i j : Nat, DN m (bump i) j = if j ≤ i then alt (m + i + j) * (bin m (i - j) : Int) else 0 := by
  induction m with
  | zero =>
    intro i j
    show bump i j = _
    unfold bump
    by_cases h : j = i
    · rw [if_pos h, if_pos (by omega), h, Nat.sub_self]
      have e : alt (0 + i + i) = 1 := by
        unfold alt
        rw [if_pos (by omega)]
      rw [e]
      cases i <;> rfl
    · rw [if_neg h]
      by_cases h2 : j ≤ i
      · rw [if_pos h2, bin_big (by omega)]
        simp
      · rw [if_neg h2]
  | succ m ih =>
    intro i j
    show DN m (bump i) (j + 1) - DN m (bump i) j = _
    rw [ih, ih]
    have e1 : alt (m + i + (j + 1)) = - alt (m + i + j) := by
      rw [← alt_succ, Nat.add_assoc (m + i) j 1]
    have e2 : alt (m + 1 + i + j) = - alt (m + i + j) := by
      rw [← alt_succ, show m + i + j + 1 = m + 1 + i + j by omega]
    by_cases h1 : j + 1 ≤ i
    · rw [if_pos h1, if_pos (by omega), if_pos (by omega), e1, e2]
      obtain ⟨k, hk⟩ : ∃ k, i - j = k + 1 := ⟨i - j - 1, by omega⟩
      rw [hk, show i - (j + 1) = k by omega]
      show _ = -alt (m + i + j) * ((bin m k + bin m (k + 1) : Nat) : Int)
      rw [Int.natCast_add, Int.mul_add, Int.neg_mul, Int.neg_mul]
      omega
    · rw [if_neg h1]
      by_cases h2 : j ≤ i
      · rw [if_pos h2, if_pos h2, e2, show i - j = 0 by omega]
        have e3 : ∀ n, bin n 0 = 1 := fun n => by cases n <;> rfl
        rw [e3, e3, Int.neg_mul]
        omega
      · rw [if_neg h2, if_neg h2]
        rfl
/-- smooth numbers with one changed are not smooth -/
theorem bent_not {m n i : Nat} {f : Nat → Int} {c : Int} (h : Sm m f) (hi : i < n) (hm : m < n) (hc : c ≠ 0) : ¬ SmL m (line (fun k => f k + c * bump i k) n) := fun z => by
  have hj : min i (n - 1 - m) < n - m := by omega
  have q := z (DN m (fun k => f k + c * bump i k) (min i (n - 1 - m))) (by
    rw [diffsN_line]
    exact List.mem_map.mpr ⟨_, List.mem_range.mpr hj, rfl⟩)
  rw [DN_add, DN_mul] at q
  have q2 : DN m f (min i (n - 1 - m)) + c * DN m (bump i) (min i (n - 1 - m)) = 0 := q
  rw [h, DN_bump, if_pos (by omega), Int.zero_add] at q2
  have p := bin_pos (n := m) (k := i - min i (n - 1 - m)) (by omega)
  rcases Int.mul_eq_zero.mp q2 with e | e
  · exact hc e
  · rcases Int.mul_eq_zero.mp e with e | e
    · rcases alt_sq (m + i + min i (n - 1 - m)) with a | a <;> rw [a] at e <;> omega
    · omega
end Ly
namespace Ly
open PySem L2
theorem cut1 (xs : List V) : cutV xs (some 1) none = xs.drop 1 := by
  unfold cutV
  rw [show HT.sIx xs.length 0 (some 1) = min 1 xs.length from HT.sIx_nat xs.length 0 1, HT.sIx_none]
  cases xs with
  | nil => rfl
  | cons x r =>
    rw [show min 1 (x :: r).length = 1 by rw [List.length_cons]; omega, List.take_of_length_le]
    rw [List.length_drop]
    exact Nat.le_refl _
/-- all differences of an order are nought -/
def smB (m : Nat) (l : List Int) : Bool := (diffsN m l).all fun z => decide (z = 0)
theorem smB_iff {m : Nat} {l : List Int} : smB m l = true ↔ SmL m l := by
  unfold smB SmL
  rw [List.all_eq_true]
  exact ⟨fun h z hz => of_decide_eq_true (h z hz), fun h z hz => decide_eq_true (h z hz)⟩
end Ly

/-! ### the mathematics: sums, moments, evenness -/
namespace Ly
/-- the sum of the first n -/
def sumTo : Nat → (Nat → Int) → Int
  | 0, _ => 0
  | n + 1, g => sumTo n g + g n
theorem sumTo_ext {n : Nat} {f g : Nat → Int} (h : ∀ i, i < n → f i = g i) : sumTo n f = sumTo n g := by
  induction n with
  | zero => rfl
  | succ n ih =>
    show sumTo n f + f n = sumTo n g + g n
    rw [ih fun i hi => h i (by omega), h n (by omega)]
theorem sumTo_add (n : Nat) (f g : Nat → Int) : sumTo n (fun i => f i + g i) = sumTo n f + sumTo n g := by
  induction n with
  | zero => rfl
  | succ n ih =>
    show sumTo n (fun i => f i + g i) + (f n + g n) = (sumTo n f + f n) + (sumTo n g + g n)
    rw [ih]
    omega
theorem sumTo_mul (n : Nat) (c : Int) (f : Nat → Int) : sumTo n (fun i => c * f i) = c * sumTo n f := by
  induction n with
  | zero => rw [sumTo, sumTo, Int.mul_zero]
  | succ n ih =>
    show sumTo n (fun i => c * f i) + c * f n = c * (sumTo n f + f n)
    rw [ih, Int.mul_add]
theorem sumTo_zero {n : Nat} {f : Nat → Int} (h : ∀ i, i < n → f i = 0) : sumTo n f = 0 := by
  induction n with
  | zero => rfl
  | succ n ih =>
    show sumTo n f + f n = 0
    rw [ih fun i hi => h i (by omega), h n (by omega)]
    rfl
theorem sumTo_sub (n : Nat) (f g : Nat → Int) : sumTo n (fun i => f i - g i) = sumTo n f - sumTo n g := by
  induction n with
  | zero => rfl
  | succ n ih =>
    show sumTo n (fun i => f i - g i) + (f n - g n) = (sumTo n f + f n) - (sumTo n g + g n)
    rw [ih]
    omega
theorem line_sum (f : Nat → Int) (n : Nat) : (line f n).sum = sumTo n f := by
  induction n with
  | zero => rfl
  | succ n ih =>
    rw [line, List.range_succ, List.map_append, List.sum_append]
    show (line f n).sum + _ = sumTo n f + f n
    rw [ih, List.map_singleton, List.sum_cons, List.sum_nil, Int.add_zero]
/-- sums over all places up to each -/
def Su (s : Nat → Int) : Nat → Int := fun i => sumTo (i + 1) s
def SN : Nat → (Nat → Int) → Nat → Int
  | 0, s => s
  | k + 1, s => Su (SN k s)
theorem SN_succ (k : Nat) (s : Nat → Int) : SN (k + 1) s = SN k (Su s) := by
  induction k with
  | zero => rfl
  | succ k ih =>
    show Su (SN (k + 1) s) = Su (SN k (Su s))
    rw [ih]
theorem SN_ext {k : Nat} {s t : Nat → Int} {n : Nat} (h : ∀ i, i < n → s i = t i) : ∀ i, i < n → SN k s i = SN k t i := by
  induction k with
  | zero => exact h
  | succ k ih => exact fun i hi => sumTo_ext fun j hj => ih j (by omega)
/-- the sums of order k of a line -/
def psums (l : List Int) : List Int := (List.range l.length).map fun i => (l.take (i + 1)).sum
def psumsN : Nat → List Int → List Int
  | 0, l => l
  | k + 1, l => psums (psumsN k l)
theorem psums_len (l : List Int) : (psums l).length = l.length := by rw [psums, List.length_map, List.length_range]
theorem psumsN_len (k : Nat) (l : List Int) : (psumsN k l).length = l.length := by
  induction k with
  | zero => rfl
  | succ k ih =>
    show (psums (psumsN k l)).length = _
    rw [psums_len, ih]
theorem line_take {f : Nat → Int} {n i : Nat} (h : i ≤ n) : (line f n).take i = line f i := by
  refine line_ext (by rw [List.length_take, line_len]; omega) fun j hj => ?_
  rw [List.getElem?_take_of_lt hj, line_at (by omega)]
theorem psums_line (s : Nat → Int) (n : Nat) : psums (line s n) = line (Su s) n := by
  refine line_ext (by rw [psums_len, line_len]) fun i hi => ?_
  rw [psums, List.getElem?_map, line_len, List.getElem?_range hi]
  show some ((line s n).take (i + 1)).sum = _
  rw [line_take (by omega), line_sum]
  rfl
theorem psumsN_line (k : Nat) (s : Nat → Int) (n : Nat) : psumsN k (line s n) = line (SN k s) n := by
  induction k with
  | zero => rfl
  | succ k ih =>
    show psums (psumsN k (line s n)) = _
    rw [ih, psums_line]
    rfl
/-- the last sums of the orders from 1 to m are nought -/
def Lz (n : Nat) (s : Nat → Int) (m : Nat) : Prop := ∀ k, k < m → sumTo n (SN k s) = 0
theorem Lz.first {n m : Nat} {s : Nat → Int} (h : Lz n s (m + 1)) : sumTo n s = 0 := h 0 (by omega)
theorem Lz.rest {n m : Nat} {s : Nat → Int} (h : Lz n s (m + 1)) : Lz n (Su s) m := fun k hk => by
  rw [← SN_succ]
  exact h (k + 1) (by omega)
theorem Lz.mk {n m : Nat} {s : Nat → Int} (h : sumTo n s = 0) (r : Lz n (Su s) m) : Lz n s (m + 1) := fun k hk => by
  cases k with
  | zero => exact h
  | succ k =>
    rw [SN_succ]
    exact r k (by omega)
/-- sums by parts -/
theorem parts (n : Nat) (s f : Nat → Int) : sumTo n (fun i => s i * f i) = sumTo n s * f n - sumTo n (fun i => Su s i * Df f i) := by
  induction n with
  | zero =>
    show (0 : Int) = 0 * f 0 - 0
    rw [Int.zero_mul]
    rfl
  | succ n ih =>
    show sumTo n (fun i => s i * f i) + s n * f n = sumTo (n + 1) s * f (n + 1) - (sumTo n (fun i => Su s i * Df f i) + sumTo (n + 1) s * (f (n + 1) - f n))
    rw [ih, Int.mul_sub]
    show _ = sumTo (n + 1) s * f (n + 1) - (_ + (_ - (sumTo n s + s n) * f n))
    rw [Int.add_mul]
    omega
theorem parts0 {n : Nat} {s : Nat → Int} (h : sumTo n s = 0) (f : Nat → Int) : sumTo n (fun i => s i * f i) = - sumTo n (fun i => Su s i * Df f i) := by
  rw [parts, h, Int.zero_mul]
  omega
/-- then at all that is smooth it comes to nought -/
theorem Lz.smooth {m : Nat} : ∀ {n : Nat} {s f : Nat → Int}, Lz n s m → Sm m f → sumTo n (fun i => s i * f i) = 0 := by
  induction m with
  | zero =>
    intro n s f _ hf
    have e : ∀ i, f i = 0 := hf
    exact sumTo_zero fun i _ => by rw [e i, Int.mul_zero]
  | succ m ih =>
    intro n s f h hf
    rw [parts0 h.first, ih h.rest hf.back]
    rfl
/-- moments below m are nought -/
def Mz (n : Nat) (s : Nat → Int) (m : Nat) : Prop := ∀ k, k < m → sumTo n (fun i => s i * (i : Int) ^ k) = 0
theorem Lz.moments {n m : Nat} {s : Nat → Int} (h : Lz n s m) : Mz n s m := fun k hk => h.smooth ((Sm.pow k).le hk)
/-- made of powers below m -/
inductive Pw (m : Nat) : (Nat → Int) → Prop
  | nil : Pw m (fun _ => 0)
  | more {f : Nat → Int} (c : Int) (k : Nat) (hk : k < m) : Pw m f → Pw m (fun i => c * (i : Int) ^ k + f i)
theorem Pw.add {m : Nat} {f g : Nat → Int} (hf : Pw m f) (hg : Pw m g) : Pw m (fun i => f i + g i) := by
  induction hf with
  | nil =>
    have e : (fun i => (0 : Int) + g i) = g := funext fun i => Int.zero_add _
    rw [e]
    exact hg
  | @more f c k hk _ ih =>
    have e : (fun i : Nat => c * (i : Int) ^ k + f i + g i) = fun i : Nat => c * (i : Int) ^ k + (f i + g i) := funext fun i => Int.add_assoc _ _ _
    rw [e]
    exact .more c k hk ih
theorem Pw.le {m k : Nat} {f : Nat → Int} (h : Pw m f) (l : m ≤ k) : Pw k f := by
  induction h with
  | nil => exact .nil
  | more c j hj _ ih => exact .more c j (by omega) ih
theorem Pw.times {m : Nat} {f : Nat → Int} (h : Pw m f) : Pw (m + 1) (fun i => (i : Int) * f i) := by
  induction h with
  | nil =>
    have e : (fun i : Nat => (i : Int) * 0) = fun _ => (0 : Int) := funext fun i => Int.mul_zero _
    rw [e]
    exact .nil
  | @more f c k hk _ ih =>
    have e : (fun i : Nat => (i : Int) * (c * (i : Int) ^ k + f i)) = fun i : Nat => c * (i : Int) ^ (k + 1) + (i : Int) * f i := funext fun i => by
      rw [Int.mul_add, Int.pow_succ, ← Int.mul_assoc, Int.mul_comm (i : Int) c, Int.mul_assoc, Int.mul_comm (i : Int) ((i : Int) ^ k)]
    rw [e]
    exact .more c (k + 1) (by omega) ih
theorem Pw.at {m n : Nat} {s f : Nat → Int} (h : Pw m f) (z : Mz n s m) : sumTo n (fun i => s i * f i) = 0 := by
  induction h with
  | nil => exact sumTo_zero fun i _ => Int.mul_zero _
  | @more f c k hk _ ih =>
    have e : (fun i : Nat => s i * (c * (i : Int) ^ k + f i)) = fun i => c * (s i * (i : Int) ^ k) + s i * f i := funext fun i => by
      rw [Int.mul_add, ← Int.mul_assoc, Int.mul_comm (s i) c, Int.mul_assoc]
    rw [e, sumTo_add, sumTo_mul, z k hk, ih, Int.mul_zero]
    rfl
/-- the difference of a power -/
theorem pow_step (k : Nat) : ∃ r, Pw k r ∧ ∀ i : Nat, ((i : Int) + 1) ^ (k + 1) = (i : Int) ^ (k + 1) + ((k : Int) + 1) * (i : Int) ^ k + r i := by
  induction k with
  | zero => exact ⟨_, .nil, fun i => by simp [Int.pow_succ, Int.pow_zero]⟩
  | succ k ih =>
    obtain ⟨r, hr, h⟩ := ih
    refine ⟨fun i => ((k : Int) + 1) * (i : Int) ^ k + ((i : Int) * r i + r i), .more _ k (by omega) (Pw.add hr.times (hr.le (by omega))), fun i => ?_⟩
    have e1 : (i : Int) ^ (k + 1 + 1) = (i : Int) ^ (k + 1) * (i : Int) := Int.pow_succ _ _
    have e2 : (i : Int) ^ (k + 1) = (i : Int) ^ k * (i : Int) := Int.pow_succ _ _
    show _ = (i : Int) ^ (k + 1 + 1) + (((k + 1 : Nat) : Int) + 1) * (i : Int) ^ (k + 1) + (((k : Int) + 1) * (i : Int) ^ k + ((i : Int) * r i + r i))
    rw [Int.pow_succ, h i, e1, e2, Int.mul_add, Int.add_mul, Int.add_mul, Int.mul_one, Int.natCast_succ]
    generalize (i : Int) ^ k = p
    generalize (i : Int) = x
    generalize r i = q
    generalize (k : Int) = c
    have a1 : (c + 1) * p * x = (c + 1) * (p * x) := Int.mul_assoc _ _ _
    have a2 : (c + 1 + 1) * (p * x) = (c + 1) * (p * x) + p * x := by rw [Int.add_mul (c + 1) 1, Int.one_mul]
    rw [a1, a2, Int.mul_comm x q]
    generalize (c + 1) * (p * x) = u
    generalize (c + 1) * p = v
    omega
theorem Mz.sums {n m : Nat} {s : Nat → Int} (h : Mz n s (m + 1)) : Mz n (Su s) m := by
  have h0 : sumTo n s = 0 := by
    rw [← h 0 (by omega)]
    exact sumTo_ext fun i _ => by rw [Int.pow_zero, Int.mul_one]
  intro k
  refine Nat.strongRecOn k ?_
  intro k ih hk
  obtain ⟨r, hr, e⟩ := pow_step k
  have z := parts0 h0 (fun i : Nat => (i : Int) ^ (k + 1))
  rw [h (k + 1) (by omega)] at z
  have e2 : (fun i => Su s i * Df (fun i : Nat => (i : Int) ^ (k + 1)) i) = fun i => ((k : Int) + 1) * (Su s i * (i : Int) ^ k) + Su s i * r i := funext fun i => by
    show Su s i * (((i + 1 : Nat) : Int) ^ (k + 1) - (i : Int) ^ (k + 1)) = _
    rw [Int.natCast_succ, e i]
    have e3 : (i : Int) ^ (k + 1) + ((k : Int) + 1) * (i : Int) ^ k + r i - (i : Int) ^ (k + 1) = ((k : Int) + 1) * (i : Int) ^ k + r i := by omega
    rw [e3, Int.mul_add, ← Int.mul_assoc, Int.mul_comm (Su s i) ((k : Int) + 1), Int.mul_assoc]
  rw [e2, sumTo_add, sumTo_mul, hr.at fun j hj => ih j hj (by omega)] at z
  have z2 : ((k : Int) + 1) * sumTo n (fun i => Su s i * (i : Int) ^ k) = 0 := by omega
  rcases Int.mul_eq_zero.mp z2 with q | q
  · omega
  · exact q
theorem Mz.last {m : Nat} : ∀ {n : Nat} {s : Nat → Int}, Mz n s m → Lz n s m := by
  induction m with
  | zero => exact fun _ k hk => absurd hk (Nat.not_lt_zero k)
  | succ m ih =>
    intro n s h
    refine .mk ?_ (ih h.sums)
    rw [← h 0 (by omega)]
    exact sumTo_ext fun i _ => by rw [Int.pow_zero, Int.mul_one]
theorem lz_iff {n m : Nat} {s : Nat → Int} : Lz n s m ↔ Mz n s m := ⟨Lz.moments, Mz.last⟩
/-- numbers gone on smoothly -/
theorem smooth_on : ∀ (n : Nat) (l : List Int), l.length = n → ∃ f, Sm n f ∧ ∀ i, i < n → l[i]? = some (f i)
  | 0, _, _ => ⟨fun _ => 0, fun _ => rfl, fun i h => absurd h (Nat.not_lt_zero i)⟩
  | n + 1, l, hl => by
    obtain ⟨g, hg, h⟩ := smooth_on n (diffs l) (by rw [diffs_len]; omega)
    refine ⟨fun i => l.getD 0 0 + sumTo i g, .step ?_, ?_⟩
    · have e : Df (fun i => l.getD 0 0 + sumTo i g) = g := funext fun i => by
        show l.getD 0 0 + (sumTo i g + g i) - (l.getD 0 0 + sumTo i g) = g i
        omega
      rw [e]
      exact hg
    · intro i hi
      induction i with
      | zero =>
        rw [List.getElem?_eq_getElem (by omega)]
        show some _ = some (l.getD 0 0 + 0)
        rw [List.getD_eq_getElem?_getD, List.getElem?_eq_getElem (by omega), Int.add_zero]
        rfl
      | succ i ih =>
        have a := ih (by omega)
        have b := h i (by omega)
        have c := List.getElem?_eq_getElem (l := l) (i := i + 1) (by omega)
        rw [diffs_at l i _ _ a c] at b
        have b2 : l[i + 1] - (l.getD 0 0 + sumTo i g) = g i := Option.some.inj b
        rw [c]
        show some _ = some (l.getD 0 0 + (sumTo i g + g i))
        congr 1
        omega
theorem sq_sum {n : Nat} {f : Nat → Int} (h : sumTo n (fun i => f i * f i) = 0) : ∀ i, i < n → f i = 0 := by
  have pos : ∀ n, 0 ≤ sumTo n (fun i => f i * f i) := fun n => by
    induction n with
    | zero => exact Int.le_refl 0
    | succ n ih =>
      have q : 0 ≤ f n * f n := by
        rcases Int.le_total 0 (f n) with c | c
        · exact Int.mul_nonneg c c
        · exact Int.mul_nonneg_of_nonpos_of_nonpos c c
      show 0 ≤ sumTo n (fun i => f i * f i) + f n * f n
      omega
  induction n with
  | zero => exact fun i hi => absurd hi (Nat.not_lt_zero i)
  | succ n ih =>
    have q : 0 ≤ f n * f n := by
      rcases Int.le_total 0 (f n) with c | c
      · exact Int.mul_nonneg c c
      · exact Int.mul_nonneg_of_nonpos_of_nonpos c c
    have z : sumTo n (fun i => f i * f i) + f n * f n = 0 := h
    have p := pos n
    intro i hi
    by_cases c : i = n
    · rw [c]
      rcases Int.mul_eq_zero.mp (show f n * f n = 0 by omega) with e | e <;> exact e
    · exact ih (by omega) i (by omega)
/-- as many last sums as places are nought of nothing but noughts -/
theorem Lz.none {n : Nat} {s : Nat → Int} (h : Lz n s n) : ∀ i, i < n → s i = 0 := by
  obtain ⟨f, hf, e⟩ := smooth_on n (line s n) (line_len s n)
  have e2 : ∀ i, i < n → f i = s i := fun i hi => by
    have a := e i hi
    rw [line_at hi] at a
    exact (Option.some.inj a).symm
  have z := h.smooth hf
  rw [sumTo_ext (g := fun i => s i * s i) fun i hi => by rw [e2 i hi]] at z
  exact sq_sum z
end Ly
namespace Ly
open PySem L2
/-- the signs of two hands, place by place -/
def sg (row : List Int) (a b : Int) : Nat → Int := fun i => signOf (row.getD i 0) a b
theorem signsOf_line (row : List Int) (a b : Int) : signsOf row a b = line (sg row a b) row.length := by
  refine line_ext (signsOf_len row a b) fun i hi => ?_
  rw [signsOf, List.getElem?_map, List.getElem?_eq_getElem hi]
  show some (signOf row[i] a b) = some (signOf (row.getD i 0) a b)
  rw [List.getD_eq_getElem?_getD, List.getElem?_eq_getElem hi]
  rfl
/-- each two of the hands are even: the last sums of the orders from 1 to m are nought -/
def REv (hands : Int) (row : List Int) (m : Nat) : Prop := ∀ a b : Nat, a < b → (b : Int) < hands → Lz row.length (sg row a b) m
/-- what a hand has of the k-th powers of its places -/
def mom (row : List Int) (h : Int) (k : Nat) : Int := sumTo row.length fun i => if row.getD i 0 = h then (i : Int) ^ k else 0
theorem sg_mom (row : List Int) {a b : Int} (hab : a ≠ b) (k : Nat) : sumTo row.length (fun i => sg row a b i * (i : Int) ^ k) = mom row a k - mom row b k := by
  rw [mom, mom, ← sumTo_sub]
  refine sumTo_ext fun i _ => ?_
  unfold sg signOf
  by_cases h1 : row.getD i 0 = a
  · rw [if_pos h1, if_pos h1, if_neg (fun z => hab (h1.symm.trans z)), Int.one_mul, Int.sub_zero]
  · by_cases h2 : row.getD i 0 = b
    · rw [if_neg h1, if_pos h2, if_neg h1, if_pos h2, Int.neg_mul, Int.one_mul, Int.zero_sub]
    · rw [if_neg h1, if_neg h2, if_neg h1, if_neg h2, Int.zero_mul]
      rfl
theorem rev_mom {hands : Int} (hh : 0 < hands) {row : List Int} {m : Nat} : REv hands row m ↔ ∀ h : Nat, (h : Int) < hands → ∀ k, k < m → mom row h k = mom row 0 k := by
  have key : ∀ a b : Nat, a < b → (Lz row.length (sg row a b) m ↔ ∀ k, k < m → mom row a k = mom row b k) := fun a b hab => by
    rw [lz_iff]
    have ne : (a : Int) ≠ (b : Int) := by omega
    constructor
    · intro h k hk
      have := h k hk
      rw [sg_mom row ne] at this
      omega
    · intro h k hk
      show sumTo row.length (fun i => sg row a b i * (i : Int) ^ k) = 0
      rw [sg_mom row ne, h k hk]
      omega
  constructor
  · intro h x hx k hk
    cases x with
    | zero => rfl
    | succ x =>
      have := (key 0 (x + 1) (by omega)).mp (h 0 (x + 1) (by omega) hx) k hk
      exact this.symm
  · intro h a b hab hb
    exact (key a b hab).mpr fun k hk => by rw [h a (by omega) k hk, h b hb k hk]
/-- no row of hands is even to a degree as great as places -/
theorem rev_ends {hands : Int} {row : List Int} (ok : RowOk hands row) : ¬ REv hands row row.length := by
  obtain ⟨h1, _, h3, _, h5⟩ := ok
  intro h
  cases row with
  | nil => exact h3 rfl
  | cons t r =>
    obtain ⟨t0, t1⟩ := h5 t List.mem_cons_self
    have s1 : ∀ a b : Nat, a < b → (b : Int) < hands → sg (t :: r) a b 0 = 0 := fun a b hab hb => (h a b hab hb).none 0 (by rw [List.length_cons]; omega)
    have e : ∀ a b : Nat, sg (t :: r) a b 0 = signOf t a b := fun a b => rfl
    by_cases c : t = 0
    · have := s1 0 1 (by omega) (by omega)
      rw [e, signOf, if_pos (show t = ((0 : Nat) : Int) from c)] at this
      cases this
    · have := s1 0 t.toNat (by omega) (by omega)
      rw [e, signOf, if_neg (show ¬ t = ((0 : Nat) : Int) from c), if_pos (Int.toNat_of_nonneg t0).symm] at this
      cases this
theorem REv.le {hands : Int} {row : List Int} {m k : Nat} (h : REv hands row m) (l : k ≤ m) : REv hands row k := fun a b hab hb j hj => h a b hab hb j (by omega)
/-- the evenness: to just one degree it is the first that fails -/
theorem evn_one {p : Nat → Prop} {d e : Nat} (h1 : ∀ j, j < d → p j) (h2 : ¬ p d) (h3 : ∀ j, j < e → p j) (h4 : ¬ p e) : d = e := by
  rcases Nat.lt_trichotomy d e with c | c | c
  · exact absurd (h3 d c) h2
  · exact c
  · exact absurd (h1 e c) h4
theorem cut_to (xs : List V) (j : Nat) : cutV xs none (some (j : Int)) = xs.take j := by
  unfold cutV
  rw [show HT.sIx xs.length xs.length (some (j : Int)) = min j xs.length from HT.sIx_nat xs.length xs.length j, HT.sIx_none, List.drop_zero, Nat.sub_zero]
  by_cases c : j ≤ xs.length
  · rw [Nat.min_eq_left c]
  · rw [Nat.min_eq_right (by omega), List.take_length, List.take_of_length_le (by omega)]
theorem at_end {l : List Int} {n : Nat} {z : Int} (hl : l.length = n + 1) (h : l[n]? = some z) : atI (l.map V.int) (-1) = some (.int z) := by
  unfold atI ixN
  rw [if_neg (by decide), List.length_map, hl, if_pos (by omega)]
  show (l.map V.int)[((-1 : Int) + ((n + 1 : Nat) : Int)).toNat]? = _
  rw [show ((-1 : Int) + ((n + 1 : Nat) : Int)).toNat = n by omega, List.getElem?_map, h]
  rfl
/-- a pair of hands at x -/
def PrAt (H : Hp) (x : V) (a b : Nat) : Prop := ∃ u, x = .ref u ∧ H u = some (.tup [.int (a : Int), .int (b : Int)])
/-- the pairs whose first is below i -/
def Prs (i m : Nat) (rs : List V) (H : Hp) : Prop := (∀ x ∈ rs, ∃ a b, a < b ∧ b < m ∧ a < i ∧ PrAt H x a b) ∧ ∀ a b, a < b → b < m → a < i → ∃ x ∈ rs, PrAt H x a b
theorem PrAt.keep {H H' : Hp} {x : V} {a b : Nat} (h : PrAt H x a b) (k : ∀ u xs, H u = some (.tup xs) → H' u = some (.tup xs)) : PrAt H' x a b := by
  obtain ⟨u, e, r⟩ := h
  exact ⟨u, e, k _ _ r⟩
theorem Prs.keep {H H' : Hp} {i m : Nat} {rs : List V} (h : Prs i m rs H) (k : ∀ u xs, H u = some (.tup xs) → H' u = some (.tup xs)) : Prs i m rs H' := by
  refine ⟨fun x hx => ?_, fun a b h1 h2 h3 => ?_⟩
  · obtain ⟨a, b, h1, h2, h3, p⟩ := h.1 x hx
    exact ⟨a, b, h1, h2, h3, p.keep k⟩
  · obtain ⟨x, hx, p⟩ := h.2 a b h1 h2 h3
    exact ⟨x, hx, p.keep k⟩
theorem Prs.next {H : Hp} {i m : Nat} {rs ys : List V} (h : Prs i m rs H) (ly : ys.length = m - (i + 1)) (k : ∀ j, j < m - (i + 1) → ∃ x, ys[j]? = some x ∧ PrAt H x i (i + 1 + j)) : Prs (i + 1) m (rs ++ ys) H := by
  refine ⟨fun x hx => ?_, fun a b h1 h2 h3 => ?_⟩
  · rcases List.mem_append.mp hx with g | g
    · obtain ⟨a, b, h1, h2, h3, p⟩ := h.1 x g
      exact ⟨a, b, h1, h2, by omega, p⟩
    · obtain ⟨j, hj, e⟩ := List.mem_iff_getElem.mp g
      obtain ⟨y, e2, p⟩ := k j (by omega)
      rw [List.getElem?_eq_getElem hj, e] at e2
      rw [← Option.some.inj e2] at p
      exact ⟨i, i + 1 + j, by omega, by omega, by omega, p⟩
  · by_cases c : a = i
    · obtain ⟨x, e, p⟩ := k (b - (i + 1)) (by omega)
      rw [show i + 1 + (b - (i + 1)) = b by omega, ← c] at p
      exact ⟨x, List.mem_append.mpr (.inr (List.mem_of_getElem? e)), p⟩
    · obtain ⟨x, hx, p⟩ := h.2 a b h1 h2 (by omega)
      exact ⟨x, List.mem_append.mpr (.inl hx), p⟩
end Ly

/-! ### the mathematics: rows of rows, how even they are -/
namespace Ly
open PySem L2
/-- what a hand has of f at its places -/
def hs : List Int → Int → (Nat → Int) → Int
  | [], _, _ => 0
  | t :: r, h, f => (if t = h then f 0 else 0) + hs r h fun i => f (i + 1)
theorem hs_ext {h : Int} : ∀ (row : List Int) {f g : Nat → Int}, (∀ i, i < row.length → f i = g i) → hs row h f = hs row h g
  | [], _, _, _ => rfl
  | t :: r, f, g, e => by
    show (if t = h then f 0 else 0) + hs r h _ = (if t = h then g 0 else 0) + hs r h _
    rw [e 0 (by rw [List.length_cons]; omega), hs_ext r (f := fun i => f (i + 1)) (g := fun i => g (i + 1)) fun i hi => e (i + 1) (by rw [List.length_cons]; omega)]
theorem hs_add (h : Int) : ∀ (row : List Int) (f g : Nat → Int), hs row h (fun i => f i + g i) = hs row h f + hs row h g
  | [], _, _ => rfl
  | t :: r, f, g => by
    show (if t = h then f 0 + g 0 else 0) + hs r h (fun i => f (i + 1) + g (i + 1)) = ((if t = h then f 0 else 0) + hs r h _) + ((if t = h then g 0 else 0) + hs r h _)
    rw [hs_add h r]
    by_cases c : t = h
    · rw [if_pos c, if_pos c, if_pos c]
      omega
    · rw [if_neg c, if_neg c, if_neg c]
      omega
theorem hs_append (h : Int) : ∀ (a b : List Int) (f : Nat → Int), hs (a ++ b) h f = hs a h f + hs b h fun i => f (a.length + i)
  | [], b, f => by
    show hs b h f = 0 + hs b h fun i => f (0 + i)
    rw [Int.zero_add]
    exact hs_ext b fun i _ => by rw [Nat.zero_add]
  | t :: r, b, f => by
    show (if t = h then f 0 else 0) + hs (r ++ b) h _ = ((if t = h then f 0 else 0) + hs r h _) + _
    rw [hs_append h r b, Int.add_assoc, hs_ext b (f := fun i => f (r.length + i + 1)) (g := fun i => f ((t :: r).length + i)) fun i _ => by rw [List.length_cons, show r.length + i + 1 = r.length + 1 + i by omega]]
theorem hs_rev (h : Int) : ∀ (a : List Int) (f : Nat → Int), hs a.reverse h f = hs a h fun i => f (a.length - 1 - i)
  | [], _ => rfl
  | t :: r, f => by
    rw [List.reverse_cons, hs_append, hs_rev h r]
    show hs r h (fun i => f (r.length - 1 - i)) + ((if t = h then f (r.reverse.length + 0) else 0) + 0) = (if t = h then f ((t :: r).length - 1 - 0) else 0) + hs r h fun i => f ((t :: r).length - 1 - (i + 1))
    rw [List.length_reverse, List.length_cons, Int.add_zero, Int.add_comm]
    congr 1
    exact hs_ext r fun i hi => by rw [show r.length - 1 - i = r.length + 1 - 1 - (i + 1) by omega]
theorem sumTo_front (n : Nat) (f : Nat → Int) : sumTo (n + 1) f = f 0 + sumTo n fun i => f (i + 1) := by
  induction n with
  | zero =>
    show (0 : Int) + f 0 = f 0 + 0
    omega
  | succ n ih =>
    show sumTo (n + 1) f + f (n + 1) = f 0 + (sumTo n (fun i => f (i + 1)) + f (n + 1))
    rw [ih]
    omega
theorem hs_sumTo (h : Int) : ∀ (row : List Int) (f : Nat → Int), hs row h f = sumTo row.length fun i => if row.getD i 0 = h then f i else 0
  | [], _ => rfl
  | t :: r, f => by
    rw [List.length_cons, sumTo_front]
    show _ + hs r h (fun i => f (i + 1)) = _ + sumTo r.length fun i => if r.getD i 0 = h then f (i + 1) else 0
    rw [hs_sumTo h r]
    rfl
theorem sg_hs (row : List Int) {a b : Int} (hab : a ≠ b) (f : Nat → Int) : sumTo row.length (fun i => sg row a b i * f i) = hs row a f - hs row b f := by
  rw [hs_sumTo, hs_sumTo, ← sumTo_sub]
  refine sumTo_ext fun i _ => ?_
  unfold sg signOf
  by_cases h1 : row.getD i 0 = a
  · rw [if_pos h1, if_pos h1, if_neg (fun z => hab (h1.symm.trans z)), Int.one_mul, Int.sub_zero]
  · by_cases h2 : row.getD i 0 = b
    · rw [if_neg h1, if_pos h2, if_neg h1, if_pos h2, Int.neg_mul, Int.one_mul, Int.zero_sub]
    · rw [if_neg h1, if_neg h2, if_neg h1, if_neg h2, Int.zero_mul]
      rfl
/-- even: at all that is smooth all hands have alike -/
theorem rev_hs {m : Nat} (hm : 0 < m) {row : List Int} {e : Nat} : REv (m : Int) row e ↔ ∀ f, Sm e f → ∀ h : Nat, h < m → hs row (h : Int) f = hs row 0 f := by
  constructor
  · intro r f hf h hh
    cases h with
    | zero => rfl
    | succ h =>
      have := (r 0 (h + 1) (by omega) (by omega)).smooth hf
      rw [sg_hs row (by omega)] at this
      have e0 : hs row ((0 : Nat) : Int) f = hs row 0 f := rfl
      omega
  · intro r
    refine (rev_mom (by omega)).mpr fun h hh k hk => ?_
    have := r _ ((Sm.pow k).le hk) h (by omega)
    rw [hs_sumTo, hs_sumTo] at this
    exact this
theorem Sm.shift {m : Nat} {f : Nat → Int} (h : Sm m f) : ∀ c : Nat, Sm m fun i => f (c + i)
  | 0 => by
    have e : (fun i => f (0 + i)) = f := funext fun i => by rw [Nat.zero_add]
    rw [e]
    exact h
  | c + 1 => by
    have e : (fun i => f (c + 1 + i)) = fun i => (fun j => f (c + j)) (i + 1) := funext fun i => by
      show _ = f (c + (i + 1))
      rw [show c + 1 + i = c + (i + 1) by omega]
    rw [e]
    intro n
    rw [DN_shift m fun j => f (c + j)]
    exact (h.shift c) (n + 1)
theorem Sm.step_to {m : Nat} {f : Nat → Int} (h : Sm (m + 1) f) : ∀ c : Nat, Sm m fun i => f (c + i) - f i
  | 0 => by
    have e : (fun i => f (0 + i) - f i) = fun _ => 0 := funext fun i => by rw [Nat.zero_add]; exact Int.sub_self _
    rw [e]
    exact Sm.zero m
  | c + 1 => by
    have e : (fun i => f (c + 1 + i) - f i) = fun i => Df f (c + i) + (f (c + i) - f i) := funext fun i => by
      show _ = (f (c + i + 1) - f (c + i)) + _
      rw [show c + 1 + i = c + i + 1 by omega]
      omega
    rw [e]
    exact Sm.add (h.back.shift c) (h.step_to c)
theorem mod_back {m : Nat} (hm : 2 ≤ m ∧ m ≤ 4) {x t h : Int} (x0 : 0 ≤ x) (x1 : x < m) (h0 : 0 ≤ h) (h1 : h < m) : (x + t) % (m : Int) = h ↔ x = (h - t) % (m : Int) := by
  obtain ⟨a, b⟩ := hm
  have c : m = 2 ∨ m = 3 ∨ m = 4 := by omega
  rcases c with rfl | rfl | rfl <;> omega
theorem hs_moved {m : Nat} (hm : 2 ≤ m ∧ m ≤ 4) {t h : Int} (h0 : 0 ≤ h) (h1 : h < m) : ∀ {row : List Int} (_ : ∀ z ∈ row, 0 ≤ z ∧ z < (m : Int)) (f : Nat → Int), hs (row.map fun x => (x + t) % (m : Int)) h f = hs row ((h - t) % (m : Int)) f
  | [], _, _ => rfl
  | x :: r, ok, f => by
    show (if (x + t) % (m : Int) = h then f 0 else 0) + hs (r.map _) h _ = (if x = (h - t) % (m : Int) then f 0 else 0) + hs r _ _
    rw [hs_moved hm h0 h1 fun z hz => ok z (List.mem_cons_of_mem _ hz)]
    obtain ⟨x0, x1⟩ := ok x List.mem_cons_self
    have q := mod_back hm (t := t) x0 x1 h0 h1
    by_cases c : x = (h - t) % (m : Int)
    · rw [if_pos c, if_pos (q.mpr c)]
    · rw [if_neg c, if_neg (fun z => c (q.mp z))]
/-- a row put into one more of all hands: one degree more -/
theorem put_sum {m : Nat} (hm : 2 ≤ m ∧ m ≤ 4) {row : List Int} (ok : ∀ z ∈ row, 0 ≤ z ∧ z < (m : Int)) {e : Nat} (r : REv (m : Int) row e) {f : Nat → Int} (hf : Sm (e + 1) f) : ∀ (zs : List Int) (c : Nat),
    ∃ C, ∀ h : Int, 0 ≤ h → h < m → hs (putL (m : Int) row zs) h (fun i => f (c + i)) = (zs.map fun t => hs row ((h - t) % (m : Int)) f).sum + C
  | [], c => ⟨0, fun _ _ _ => rfl⟩
  | t :: zs, c => by
    obtain ⟨C, hC⟩ := put_sum hm ok r hf zs (c + row.length)
    refine ⟨C + hs row 0 (fun i => f (c + i) - f i), fun h h0 h1 => ?_⟩
    show hs (row.map (fun x => (x + t) % (m : Int)) ++ putL (m : Int) row zs) h (fun i => f (c + i)) = _
    rw [hs_append, List.length_map, hs_moved hm h0 h1 ok, List.map_cons, List.sum_cons]
    have e1 : hs (putL (m : Int) row zs) h (fun i => f (c + (row.length + i))) = _ := (hs_ext _ fun i _ => by rw [Nat.add_assoc]).trans (hC h h0 h1)
    have g0 : 0 ≤ (h - t) % (m : Int) := Int.emod_nonneg _ (by omega)
    have g1 : (h - t) % (m : Int) < m := Int.emod_lt_of_pos _ (by omega)
    have e2 : hs row ((h - t) % (m : Int)) (fun i => f (c + i)) = hs row ((h - t) % (m : Int)) f + hs row 0 (fun i => f (c + i) - f i) := by
      have := (rev_hs (by omega)).mp r _ (hf.step_to c) ((h - t) % (m : Int)).toNat (by omega)
      rw [Int.toNat_of_nonneg g0] at this
      rw [← this, ← hs_add]
      exact hs_ext row fun i _ => by omega
    rw [e1, e2]
    omega
theorem turn_sum {m : Nat} (hm : 2 ≤ m ∧ m ≤ 4) (F : Int → Int) {h : Int} (h0 : 0 ≤ h) (h1 : h < m) : ((nums m).map fun t => F ((h - t) % (m : Int))).sum = ((nums m).map F).sum := by
  obtain ⟨a, b⟩ := hm
  have c : m = 2 ∨ m = 3 ∨ m = 4 := by omega
  rcases c with rfl | rfl | rfl
  · have d : h = 0 ∨ h = 1 := by omega
    rcases d with rfl | rfl
    · show F 0 + (F 1 + 0) = F 0 + (F 1 + 0)
      rfl
    · show F 1 + (F 0 + 0) = F 0 + (F 1 + 0)
      omega
  · have d : h = 0 ∨ h = 1 ∨ h = 2 := by omega
    rcases d with rfl | rfl | rfl
    · show F 0 + (F 2 + (F 1 + 0)) = F 0 + (F 1 + (F 2 + 0))
      omega
    · show F 1 + (F 0 + (F 2 + 0)) = F 0 + (F 1 + (F 2 + 0))
      omega
    · show F 2 + (F 1 + (F 0 + 0)) = F 0 + (F 1 + (F 2 + 0))
      omega
  · have d : h = 0 ∨ h = 1 ∨ h = 2 ∨ h = 3 := by omega
    rcases d with rfl | rfl | rfl | rfl
    · show F 0 + (F 3 + (F 2 + (F 1 + 0))) = F 0 + (F 1 + (F 2 + (F 3 + 0)))
      omega
    · show F 1 + (F 0 + (F 3 + (F 2 + 0))) = F 0 + (F 1 + (F 2 + (F 3 + 0)))
      omega
    · show F 2 + (F 1 + (F 0 + (F 3 + 0))) = F 0 + (F 1 + (F 2 + (F 3 + 0)))
      omega
    · show F 3 + (F 2 + (F 1 + (F 0 + 0))) = F 0 + (F 1 + (F 2 + (F 3 + 0)))
      omega
theorem perm_sum {a b : List Int} (p : a.Perm b) : a.sum = b.sum := by
  induction p with
  | nil => rfl
  | cons x _ ih => rw [List.sum_cons, List.sum_cons, ih]
  | swap x y l =>
    simp only [List.sum_cons]
    omega
  | trans _ _ h1 h2 => exact h1.trans h2
theorem put_rev {m : Nat} (hm : 2 ≤ m ∧ m ≤ 4) {row : List Int} (ok : ∀ z ∈ row, 0 ≤ z ∧ z < (m : Int)) {e : Nat} (r : REv (m : Int) row e) {zs : List Int} (p : zs.Perm (nums m)) : REv (m : Int) (putL (m : Int) row zs) (e + 1) := by
  refine (rev_hs (by omega)).mpr fun f hf h hh => ?_
  obtain ⟨C, hC⟩ := put_sum hm ok r hf zs 0
  have key : ∀ h : Int, 0 ≤ h → h < m → hs (putL (m : Int) row zs) h f = ((nums m).map fun t => hs row t f).sum + C := fun h h0 h1 => by
    have e1 := hC h h0 h1
    rw [perm_sum (p.map fun t => hs row ((h - t) % (m : Int)) f), turn_sum hm (fun t => hs row t f) h0 h1] at e1
    rw [← e1]
    exact hs_ext _ fun i _ => by rw [Nat.zero_add]
  rw [key h (by omega) (by omega), key 0 (by omega) (by omega)]
/-- rows of all hands put into one another, the last first -/
def built (m : Nat) : List (List Int) → List Int
  | [] => [0]
  | zs :: r => putL (m : Int) (built m r) zs
theorem built_ok {m : Nat} (hm : 2 ≤ m ∧ m ≤ 4) : ∀ zss : List (List Int), ∀ z ∈ built m zss, 0 ≤ z ∧ z < (m : Int)
  | [], z, hz => by
    rw [List.mem_singleton.mp hz]
    omega
  | _ :: _, z, hz => putL_mem (by omega) z hz
theorem built_rev {m : Nat} (hm : 2 ≤ m ∧ m ≤ 4) : ∀ {zss : List (List Int)}, (∀ zs ∈ zss, zs.Perm (nums m)) → REv (m : Int) (built m zss) zss.length
  | [], _ => fun _ _ _ _ k hk => absurd hk (Nat.not_lt_zero k)
  | zs :: r, h => put_rev hm (built_ok hm r) (built_rev hm fun z hz => h z (List.mem_cons_of_mem _ hz)) (h zs List.mem_cons_self)
theorem sm2 {f : Nat → Int} (h : Sm 2 f) (i : Nat) : f i = f 0 + (i : Int) * (f 1 - f 0) := by
  have d : ∀ i, f (i + 1) - f i = f 1 - f 0 := fun i => by
    induction i with
    | zero => rfl
    | succ i ih =>
      have : (f (i + 1 + 1) - f (i + 1)) - (f (i + 1) - f i) = 0 := h i
      omega
  induction i with
  | zero => omega
  | succ i ih =>
    have := d i
    rw [Int.natCast_succ, Int.add_mul, Int.one_mul]
    omega
/-- a row and then the row from its end: to one degree at least -/
theorem twice_rev {m : Nat} (hm : 0 < m) {row : List Int} (r : REv (m : Int) row 1) : REv (m : Int) (row ++ row.reverse) 2 := by
  refine (rev_hs hm).mpr fun f hf h hh => ?_
  have key : ∀ h : Int, hs (row ++ row.reverse) h f = hs row h fun _ => 2 * f 0 + (2 * (row.length : Int) - 1) * (f 1 - f 0) := fun h => by
    rw [hs_append, hs_rev, ← hs_add]
    refine hs_ext row fun i hi => ?_
    rw [sm2 hf i, sm2 hf (row.length + (row.length - 1 - i))]
    have e : ((row.length + (row.length - 1 - i) : Nat) : Int) = 2 * (row.length : Int) - 1 - (i : Int) := by omega
    rw [e]
    generalize f 1 - f 0 = c
    rw [Int.sub_mul (2 * (row.length : Int) - 1) (i : Int) c]
    omega
  rw [key, key]
  exact (rev_hs hm).mp r _ (fun n => Int.sub_self _) h hh
end Ly

/-! ### the mathematics: rows nearly even, no row too even -/
namespace Ly
open PySem L2
theorem hs_set (h v : Int) : ∀ (row : List Int) (i : Nat) (f : Nat → Int) (hi : i < row.length), hs (row.set i v) h f = hs row h f - (if row[i] = h then f i else 0) + if v = h then f i else 0
  | [], _, _, hi => absurd hi (Nat.not_lt_zero _)
  | t :: r, 0, f, _ => by
    show (if v = h then f 0 else 0) + hs r h _ = (if t = h then f 0 else 0) + hs r h _ - (if t = h then f 0 else 0) + _
    omega
  | t :: r, i + 1, f, hi => by
    show (if t = h then f 0 else 0) + hs (r.set i v) h _ = (if t = h then f 0 else 0) + hs r h _ - (if r[i]'(Nat.lt_of_succ_lt_succ hi) = h then f (i + 1) else 0) + _
    rw [hs_set h v r i (fun j => f (j + 1)) (Nat.lt_of_succ_lt_succ hi)]
    omega
theorem rev_two {m : Nat} {row : List Int} {e : Nat} (r : REv (m : Int) row e) {f : Nat → Int} (hf : Sm e f) {p q : Int} (p0 : 0 ≤ p) (p1 : p < m) (q0 : 0 ≤ q) (q1 : q < m) : hs row p f = hs row q f := by
  have hm : 0 < m := by omega
  have a := (rev_hs hm).mp r f hf p.toNat (by omega)
  have b := (rev_hs hm).mp r f hf q.toNat (by omega)
  rw [Int.toNat_of_nonneg p0] at a
  rw [Int.toNat_of_nonneg q0] at b
  exact a.trans b.symm
theorem set_self {row : List Int} {i : Nat} {v : Int} (hi : i < row.length) (e : row[i] = v) : row.set i v = row := by
  rw [← e]
  exact List.set_getElem_self hi
/-- one turn given to another: the counts are not alike then -/
theorem one_rev {m : Nat} {row : List Int} (ok : RowOk (m : Int) row) (r : REv (m : Int) row 1) {i : Nat} (hi : i < row.length) {v : Int} (v0 : 0 ≤ v) (v1 : v < m) (n : ¬ REv (m : Int) row 10) : ¬ REv (m : Int) (row.set i v) 10 := by
  by_cases c : row[i] = v
  · rw [set_self hi c]
    exact n
  · intro r2
    obtain ⟨t0, t1⟩ := ok.2.2.2.2 row[i] (List.getElem_mem hi)
    have s1 : Sm 1 (fun _ => (1 : Int)) := fun n => Int.sub_self 1
    have a := rev_two r s1 t0 t1 v0 v1
    have b := rev_two (r2.le (show 1 ≤ 10 by decide)) s1 t0 t1 v0 v1
    rw [hs_set _ _ _ _ _ hi, hs_set _ _ _ _ _ hi, if_pos rfl, if_neg (Ne.symm c), if_neg c, if_pos rfl] at b
    omega
/-- two turns exchanged -/
theorem two_rev {m : Nat} {row : List Int} (ok : RowOk (m : Int) row) (r : REv (m : Int) row 2 ∨ row.length ≤ 10) {i j : Nat} (hi : i < row.length) (hj : j < row.length) (n : ¬ REv (m : Int) row 10) (ok2 : RowOk (m : Int) ((row.set i row[j]).set j row[i])) : ¬ REv (m : Int) ((row.set i row[j]).set j row[i]) 10 := by
  by_cases c : row[i] = row[j]
  · have e1 : row.set i row[j] = row := set_self hi c
    have e2 : (row.set i row[j]).set j row[i] = row := by
      rw [e1]
      exact set_self hj c.symm
    rw [e2]
    exact n
  · have ij : i ≠ j := fun e => by
      subst e
      exact c rfl
    rcases r with r | r
    · intro r2
      obtain ⟨t0, t1⟩ := ok.2.2.2.2 row[i] (List.getElem_mem hi)
      obtain ⟨u0, u1⟩ := ok.2.2.2.2 row[j] (List.getElem_mem hj)
      have s2 : Sm 2 (fun k : Nat => (k : Int)) := by
        have h := Sm.pow 1
        have e : (fun n : Nat => (n : Int) ^ 1) = fun k : Nat => (k : Int) := funext fun k => Int.pow_succ _ _ |>.trans (by rw [Int.pow_zero, Int.one_mul])
        rw [e] at h
        exact h
      have a := rev_two r s2 t0 t1 u0 u1
      have b := rev_two (r2.le (show 2 ≤ 10 by decide)) s2 t0 t1 u0 u1
      have lj : j < (row.set i row[j]).length := by rw [List.length_set]; exact hj
      have g : (row.set i row[j])[j] = row[j] := by rw [List.getElem_set_ne ij]
      rw [hs_set _ _ _ _ _ lj, hs_set _ _ _ _ _ lj, hs_set _ _ _ _ _ hi, hs_set _ _ _ _ _ hi, g, if_pos rfl, if_neg (Ne.symm c), if_neg (Ne.symm c), if_pos rfl, if_neg c, if_pos rfl, if_pos rfl, if_neg c] at b
      omega
    · exact fun r2 => rev_ends ok2 (r2.le (by rw [List.length_set, List.length_set]; exact r))
/-- short rows -/
theorem Sm.lin {m : Nat} {f : Nat → Int} (h : Sm m f) (c : Int) : Sm (m + 1) fun n => ((n : Int) + c) * f n := by
  have e : (fun n : Nat => ((n : Int) + c) * f n) = fun n : Nat => (n : Int) * f n + c * f n := funext fun n => Int.add_mul _ _ _
  rw [e]
  exact Sm.add h.times (Sm.mul c h.more)
/-- nought from 3 to 11 -/
def p9 (n : Nat) : Int := ((n : Int) + -3) * (((n : Int) + -4) * (((n : Int) + -5) * (((n : Int) + -6) * (((n : Int) + -7) * (((n : Int) + -8) * (((n : Int) + -9) * (((n : Int) + -10) * (((n : Int) + -11) * 1))))))))
theorem sm_one : Sm 1 fun _ => (1 : Int) := fun _ => Int.sub_self 1
theorem sm_p9 : Sm 10 p9 := ((((((((((sm_one).lin (-11)).lin (-10)).lin (-9)).lin (-8)).lin (-7)).lin (-6)).lin (-5)).lin (-4)).lin (-3))
theorem short_rev {m : Nat} {row : List Int} (ok : RowOk (m : Int) row) (l : row.length ≤ 12) : ¬ REv (m : Int) row 10 := by
  by_cases c : row.length ≤ 10
  · exact fun r => rev_ends ok (r.le c)
  · intro r
    have s1 : ∀ a b : Nat, a < b → (b : Int) < m → sg row a b 0 = 0 := fun a b hab hb => by
      have z := (r a b hab hb).smooth sm_p9
      have small : ∀ i, sg row a b i = 1 ∨ sg row a b i = -1 ∨ sg row a b i = 0 := fun i => signOf_small _ _ _
      have q0 := small 0
      have q1 := small 1
      have q2 := small 2
      have d : row.length = 11 ∨ row.length = 12 := by omega
      generalize sg row a b = s at z q0 q1 q2 ⊢
      have z2 : s 0 * (-19958400) + s 1 * (-3628800) + s 2 * (-362880) = 0 := by
        rcases d with d | d
        · rw [d] at z
          have z3 : 0 + s 0 * (-19958400) + s 1 * (-3628800) + s 2 * (-362880) + s 3 * 0 + s 4 * 0 + s 5 * 0 + s 6 * 0 + s 7 * 0 + s 8 * 0 + s 9 * 0 + s 10 * 0 = 0 := z
          omega
        · rw [d] at z
          have z3 : 0 + s 0 * (-19958400) + s 1 * (-3628800) + s 2 * (-362880) + s 3 * 0 + s 4 * 0 + s 5 * 0 + s 6 * 0 + s 7 * 0 + s 8 * 0 + s 9 * 0 + s 10 * 0 + s 11 * 0 = 0 := z
          omega
      omega
    obtain ⟨h1, h2, h3, _, h5⟩ := ok
    cases row with
    | nil => exact h3 rfl
    | cons t rest =>
      obtain ⟨t0, t1⟩ := h5 t List.mem_cons_self
      have e : ∀ a b : Nat, sg (t :: rest) a b 0 = signOf t a b := fun a b => rfl
      by_cases c : t = 0
      · have := s1 0 1 (by omega) (by omega)
        rw [e, signOf, if_pos (show t = ((0 : Nat) : Int) from c)] at this
        cases this
      · have := s1 0 t.toNat (by omega) (by omega)
        rw [e, signOf, if_neg (show ¬ t = ((0 : Nat) : Int) from c), if_pos (Int.toNat_of_nonneg t0).symm] at this
        cases this
end Ly

/-! ### the mathematics: rows of rows are not too even, all of them looked through -/
namespace Ly
open PySem L2
def wsum (w : Int → Int) (k : Nat) : Nat → List Int → Int
  | _, [] => 0
  | i, t :: r => w t * (i : Int) ^ k + wsum w k (i + 1) r
theorem wsum_hs (w : Int → Int) (k : Nat) : ∀ (row : List Int) (i : Nat), (∀ z ∈ row, 0 ≤ z ∧ z < 4) →
    wsum w k i row = w 0 * hs row 0 (fun j => ((i + j : Nat) : Int) ^ k) + w 1 * hs row 1 (fun j => ((i + j : Nat) : Int) ^ k) + w 2 * hs row 2 (fun j => ((i + j : Nat) : Int) ^ k) + w 3 * hs row 3 (fun j => ((i + j : Nat) : Int) ^ k)
  | [], _, _ => by
    show (0 : Int) = w 0 * 0 + w 1 * 0 + w 2 * 0 + w 3 * 0
    simp
  | t :: r, i, ok => by
    have ih := wsum_hs w k r (i + 1) fun z hz => ok z (List.mem_cons_of_mem _ hz)
    have ex : ∀ h : Int, hs r h (fun j => ((i + (j + 1) : Nat) : Int) ^ k) = hs r h (fun j => ((i + 1 + j : Nat) : Int) ^ k) := fun h => hs_ext r fun j _ => by rw [show i + (j + 1) = i + 1 + j by omega]
    have st : ∀ h : Int, hs (t :: r) h (fun j => ((i + j : Nat) : Int) ^ k) = (if t = h then (i : Int) ^ k else 0) + hs r h (fun j => ((i + 1 + j : Nat) : Int) ^ k) := fun h => by
      rw [← ex h]
      rfl
    show w t * (i : Int) ^ k + wsum w k (i + 1) r = _
    rw [ih, st, st, st, st, Int.mul_add, Int.mul_add, Int.mul_add, Int.mul_add]
    obtain ⟨t0, t1⟩ := ok t List.mem_cons_self
    have d : t = 0 ∨ t = 1 ∨ t = 2 ∨ t = 3 := by omega
    rcases d with rfl | rfl | rfl | rfl
    · rw [if_pos rfl, if_neg (by decide), if_neg (by decide), if_neg (by decide), Int.mul_zero, Int.mul_zero, Int.mul_zero]
      omega
    · rw [if_pos rfl, if_neg (by decide), if_neg (by decide), if_neg (by decide), Int.mul_zero, Int.mul_zero, Int.mul_zero]
      omega
    · rw [if_pos rfl, if_neg (by decide), if_neg (by decide), if_neg (by decide), Int.mul_zero, Int.mul_zero, Int.mul_zero]
      omega
    · rw [if_pos rfl, if_neg (by decide), if_neg (by decide), if_neg (by decide), Int.mul_zero, Int.mul_zero, Int.mul_zero]
      omega
/-- some power below 10 tells two kinds of hands apart -/
def chk (w : Int → Int) (row : List Int) : Bool := (List.range 10).any fun k => !decide (wsum w k 0 row = 0)
def w2 (t : Int) : Int := if t = 0 then 1 else -1
def w3 (t : Int) : Int := if t = 0 then 1 else if t = 1 then -1 else 0
def w4 (t : Int) : Int := w2 (t % 2)
def wOf (m : Nat) (t : Int) : Int := if m = 4 then w4 t else w3 t
theorem chk_rev {m : Nat} (hm : 2 ≤ m ∧ m ≤ 4) {row : List Int} (ok : ∀ z ∈ row, 0 ≤ z ∧ z < (m : Int)) (c : chk (wOf m) row = true) : ¬ REv (m : Int) row 10 := by
  intro r
  obtain ⟨k, hk, e⟩ := List.any_eq_true.mp c
  have hk := List.mem_range.mp hk
  have e : ¬ wsum (wOf m) k 0 row = 0 := fun z => by
    rw [decide_eq_true z] at e
    cases e
  apply e
  rw [wsum_hs (wOf m) k row 0 fun z hz => by have := ok z hz; omega]
  have sp : Sm 10 (fun j => ((0 + j : Nat) : Int) ^ k) := by
    have a : (fun j : Nat => ((0 + j : Nat) : Int) ^ k) = fun j : Nat => (j : Int) ^ k := funext fun j => by rw [Nat.zero_add]
    rw [a]
    exact (Sm.pow k).le hk
  obtain ⟨a, b⟩ := hm
  have d : m = 2 ∨ m = 3 ∨ m = 4 := by omega
  have r1 := rev_two r sp (show (0 : Int) ≤ 0 by decide) (by omega) (show (0 : Int) ≤ 1 by decide) (by omega)
  rcases d with rfl | rfl | rfl
  · show 1 * _ + (-1) * _ + 0 * _ + 0 * _ = (0 : Int)
    rw [r1]
    omega
  · show 1 * _ + (-1) * _ + 0 * _ + 0 * _ = (0 : Int)
    rw [r1]
    omega
  · have r2 := rev_two r sp (show (0 : Int) ≤ 2 by decide) (by decide) (show (0 : Int) ≤ 3 by decide) (by decide)
    show 1 * _ + (-1) * _ + 1 * _ + (-1) * _ = (0 : Int)
    rw [r1, r2]
    omega
theorem wsum_mod (k : Nat) : ∀ (row : List Int) (i : Nat), wsum w4 k i row = wsum w2 k i (row.map fun t => t % 2)
  | [], _ => rfl
  | t :: r, i => by
    show w4 t * _ + wsum w4 k (i + 1) r = w2 (t % 2) * _ + wsum w2 k (i + 1) (r.map _)
    rw [wsum_mod k r]
    rfl
theorem chk_mod (row : List Int) : chk w4 row = chk w2 (row.map fun t => t % 2) := by
  unfold chk
  congr 1
  funext k
  rw [wsum_mod]
theorem built_mod : ∀ zss : List (List Int), (built 4 zss).map (fun t => t % 2) = built 2 (zss.map fun zs => zs.map fun t => t % 2)
  | [] => rfl
  | zs :: r => by
    have ih := built_mod r
    show (putL 4 (built 4 r) zs).map _ = putL 2 (built 2 (r.map _)) (zs.map _)
    rw [← ih]
    generalize built 4 r = row
    induction zs with
    | nil => rfl
    | cons t zs ih2 =>
      show (row.map (fun x => (x + t) % 4) ++ putL 4 row zs).map (fun t => t % 2) = (row.map fun t => t % 2).map (fun x => (x + t % 2) % 2) ++ putL 2 (row.map fun t => t % 2) (zs.map fun t => t % 2)
      rw [List.map_append, ih2, List.map_map, List.map_map]
      congr 1
      exact List.map_congr_left fun x _ => by
        show (x + t) % 4 % 2 = (x % 2 + t % 2) % 2
        omega
/-- all choices of so many -/
def allc (P : List (List Int)) : Nat → (List (List Int) → Bool) → Bool
  | 0, p => p []
  | n + 1, p => P.all fun z => allc P n fun r => p (z :: r)
theorem allc_mem {P : List (List Int)} : ∀ (n : Nat) {p : List (List Int) → Bool}, allc P n p = true → ∀ zss : List (List Int), zss.length = n → (∀ z ∈ zss, z ∈ P) → p zss = true
  | 0, _, h, [], _, _ => h
  | 0, _, _, _ :: _, l, _ => by cases l
  | n + 1, _, _, [], l, _ => by cases l
  | n + 1, p, h, z :: r, l, hz => allc_mem n (List.all_eq_true.mp h z (hz z List.mem_cons_self)) r (Nat.succ.inj l) fun y hy => hz y (List.mem_cons_of_mem _ hy)
def P2 : List (List Int) := [[0, 1], [1, 0]]
def P3 : List (List Int) := [[0, 1, 2], [0, 2, 1], [1, 0, 2], [1, 2, 0], [2, 0, 1], [2, 1, 0]]
def P4 : List (List Int) := [[0, 0, 1, 1], [0, 1, 0, 1], [0, 1, 1, 0], [1, 0, 0, 1], [1, 0, 1, 0], [1, 1, 0, 0]]
def both (m : Nat) (w : Int → Int) (zss : List (List Int)) : Bool := chk w (built m zss) && chk w (built m zss ++ (built m zss).reverse)
theorem all2 : (allc P2 1 (both 2 w3) && allc P2 2 (both 2 w3) && allc P2 3 (both 2 w3)) = true := by decide +kernel
theorem all3 : (allc P3 1 (both 3 w3) && allc P3 2 (both 3 w3) && allc P3 3 (both 3 w3)) = true := by decide +kernel
theorem all4 : (allc P4 1 (both 2 w2) && allc P4 2 (both 2 w2) && allc P4 3 (both 2 w2)) = true := by decide +kernel
theorem perm_mem {m : Nat} {zs : List Int} (p : zs.Perm (nums m)) : ∀ z ∈ zs, 0 ≤ z ∧ z < (m : Int) := fun z hz => nums_mem.mp (p.mem_iff.mp hz)
theorem perm_len {m : Nat} {zs : List Int} (p : zs.Perm (nums m)) : zs.length = m := by rw [p.length_eq, nums_len]
theorem perm2 {zs : List Int} (p : zs.Perm (nums 2)) : zs ∈ P2 := by
  have nd : zs.Nodup := p.nodup_iff.mpr (nums_nodup 2)
  have mm := perm_mem p
  have l := perm_len p
  match zs, l with
  | [a, b], _ =>
    have ha := mm a (by simp)
    have hb := mm b (by simp)
    have da : a = 0 ∨ a = 1 := by omega
    have db : b = 0 ∨ b = 1 := by omega
    clear ha hb mm p l
    rcases da with rfl | rfl <;> rcases db with rfl | rfl <;> revert nd <;> decide
theorem perm3 {zs : List Int} (p : zs.Perm (nums 3)) : zs ∈ P3 := by
  have nd : zs.Nodup := p.nodup_iff.mpr (nums_nodup 3)
  have mm := perm_mem p
  have l := perm_len p
  match zs, l with
  | [a, b, c], _ =>
    have ha := mm a (by simp)
    have hb := mm b (by simp)
    have hc := mm c (by simp)
    have da : a = 0 ∨ a = 1 ∨ a = 2 := by omega
    have db : b = 0 ∨ b = 1 ∨ b = 2 := by omega
    have dc : c = 0 ∨ c = 1 ∨ c = 2 := by omega
    clear ha hb hc mm p l
    rcases da with rfl | rfl | rfl <;> rcases db with rfl | rfl | rfl <;> rcases dc with rfl | rfl | rfl <;> revert nd <;> decide
theorem fours : ∀ a : Fin 4, ∀ b : Fin 4, ∀ c : Fin 4, ∀ d : Fin 4, [a, b, c, d].Nodup → [((a.val : Int)) % 2, (b.val : Int) % 2, (c.val : Int) % 2, (d.val : Int) % 2] ∈ P4 := by decide +kernel
theorem perm4 {zs : List Int} (p : zs.Perm (nums 4)) : zs.map (fun t => t % 2) ∈ P4 := by
  have nd : zs.Nodup := p.nodup_iff.mpr (nums_nodup 4)
  have mm := perm_mem p
  have l := perm_len p
  match zs, l with
  | [a, b, c, d], _ =>
    have fin : ∀ z ∈ [a, b, c, d], ∃ k : Fin 4, z = (k.val : Int) := fun z hz => by
      have := mm z hz
      exact ⟨⟨z.toNat, by omega⟩, by show z = ((z.toNat : Nat) : Int); omega⟩
    obtain ⟨a, rfl⟩ := fin a (by simp)
    obtain ⟨b, rfl⟩ := fin b (by simp)
    obtain ⟨c, rfl⟩ := fin c (by simp)
    obtain ⟨d, rfl⟩ := fin d (by simp)
    refine fours a b c d ?_
    have e : [(a.val : Int), b.val, c.val, d.val] = [a, b, c, d].map fun k : Fin 4 => (k.val : Int) := rfl
    rw [e] at nd
    exact List.Pairwise.of_map _ (fun x y h e => h (by rw [e])) nd
theorem both_of {m : Nat} {w : Int → Int} {P : List (List Int)} (h : (allc P 1 (both m w) && allc P 2 (both m w) && allc P 3 (both m w)) = true) {zss : List (List Int)} (l : zss.length = 1 ∨ zss.length = 2 ∨ zss.length = 3) (hz : ∀ z ∈ zss, z ∈ P) : both m w zss = true := by
  rw [Bool.and_eq_true, Bool.and_eq_true] at h
  rcases l with l | l | l
  · exact allc_mem 1 h.1.1 zss l hz
  · exact allc_mem 2 h.1.2 zss l hz
  · exact allc_mem 3 h.2 zss l hz
theorem built_not {m : Nat} (hm : 2 ≤ m ∧ m ≤ 4) {zss : List (List Int)} (l : zss.length = 1 ∨ zss.length = 2 ∨ zss.length = 3) (h : ∀ zs ∈ zss, zs.Perm (nums m)) :
    ¬ REv (m : Int) (built m zss) 10 ∧ ¬ REv (m : Int) (built m zss ++ (built m zss).reverse) 10 := by
  have ok := built_ok hm zss
  have ok2 : ∀ z ∈ built m zss ++ (built m zss).reverse, 0 ≤ z ∧ z < (m : Int) := fun z hz => by
    rcases List.mem_append.mp hz with g | g
    · exact ok z g
    · exact ok z (List.mem_reverse.mp g)
  suffices c : chk (wOf m) (built m zss) = true ∧ chk (wOf m) (built m zss ++ (built m zss).reverse) = true from ⟨chk_rev hm ok c.1, chk_rev hm ok2 c.2⟩
  have d : m = 2 ∨ m = 3 ∨ m = 4 := by omega
  rcases d with rfl | rfl | rfl
  · exact Bool.and_eq_true _ _ |>.mp (both_of all2 l fun z hz => perm2 (h z hz))
  · exact Bool.and_eq_true _ _ |>.mp (both_of all3 l fun z hz => perm3 (h z hz))
  · have b := Bool.and_eq_true _ _ |>.mp (both_of all4 (zss := zss.map fun zs => zs.map fun t => t % 2) (by rw [List.length_map]; exact l) fun z hz => by
      obtain ⟨y, hy, e⟩ := List.mem_map.mp hz
      rw [← e]
      exact perm4 (h y hy))
    rw [← built_mod] at b
    refine ⟨(chk_mod _).trans b.1, (chk_mod _).trans ?_⟩
    rw [List.map_append, List.map_reverse]
    exact b.2
theorem built_one {m : Nat} {zs : List Int} (p : zs.Perm (nums m)) : built m [zs] = zs := by
  have mm := perm_mem p
  clear p
  show zs.flatMap (fun t => [((0 : Int) + t) % (m : Int)]) = zs
  induction zs with
  | nil => rfl
  | cons t r ih =>
    show [((0 : Int) + t) % (m : Int)] ++ r.flatMap _ = _
    rw [ih fun z hz => mm z (List.mem_cons_of_mem _ hz), Int.zero_add, Int.emod_eq_of_lt (mm t List.mem_cons_self).1 (mm t List.mem_cons_self).2]
    rfl
end Ly

/-! ### the mathematics: leads at worths told as numbers that go on -/
namespace Ly
open PySem L2
theorem hs_mul (h c : Int) : ∀ (row : List Int) (f : Nat → Int), hs row h (fun i => c * f i) = c * hs row h f
  | [], _ => (Int.mul_zero c).symm
  | t :: r, f => by
    show (if t = h then c * f 0 else 0) + hs r h (fun i => c * f (i + 1)) = c * ((if t = h then f 0 else 0) + hs r h _)
    rw [hs_mul h c r, Int.mul_add]
    by_cases d : t = h
    · rw [if_pos d, if_pos d]
    · rw [if_neg d, if_neg d, Int.mul_zero]
theorem tot_hs (h : Int) : ∀ (row ws : List Int), ws.length = row.length → tot row ws h = hs row h fun i => ws.getD i 0
  | [], _, _ => rfl
  | _ :: _, [], l => by cases l
  | t :: r, w :: ws, l => by
    rw [tot_cons, tot_hs h r ws (Nat.succ.inj l)]
    rfl
theorem tot_line (row : List Int) (f : Nat → Int) (h : Int) : tot row (line f row.length) h = hs row h f := by
  rw [tot_hs h row _ (line_len _ _)]
  refine hs_ext row fun i hi => ?_
  rw [List.getD_eq_getElem?_getD, line_at hi]
  rfl
/-- the lead of a hand of another one -/
def LD (row : List Int) (f : Nat → Int) (a b : Int) : Int := hs row a f - hs row b f
theorem ld_add (row : List Int) (f g : Nat → Int) (a b : Int) : LD row (fun i => f i + g i) a b = LD row f a b + LD row g a b := by
  unfold LD
  rw [hs_add, hs_add]
  omega
theorem ld_two (row : List Int) (f : Nat → Int) (a b : Int) : LD row (fun i => 2 * f i) a b = 2 * LD row f a b := by
  unfold LD
  rw [hs_mul, hs_mul]
  omega
theorem ld_even {m : Nat} {row : List Int} {e : Nat} (r : REv (m : Int) row e) {f : Nat → Int} (hf : Sm e f) {a b : Nat} (ha : a < m) (hb : b < m) : LD row f a b = 0 := by
  unfold LD
  rw [rev_two r hf (show (0 : Int) ≤ (a : Int) by omega) (by omega) (show (0 : Int) ≤ (b : Int) by omega) (by omega)]
  omega
theorem ld_odd {m : Nat} (hm : 0 < m) {row : List Int} {e : Nat} (r : REv (m : Int) row e) (n : ¬ REv (m : Int) row (e + 1)) : ¬ ∀ a b : Nat, a < b → b < m → LD row (fun i => (i : Int) ^ e) a b = 0 := by
  intro z
  refine n ((rev_mom (by omega)).mpr fun h hh k hk => ?_)
  by_cases c : k < e
  · exact (rev_mom (by omega)).mp r h hh k c
  · have ke : k = e := by omega
    rw [ke]
    cases h with
    | zero => rfl
    | succ h =>
      have q := z 0 (h + 1) (by omega) (by omega)
      unfold LD at q
      rw [hs_sumTo, hs_sumTo] at q
      show sumTo row.length _ = sumTo row.length _
      have e0 : ((0 : Nat) : Int) = 0 := rfl
      rw [e0] at q
      omega
theorem Pw.sm {m : Nat} {f : Nat → Int} (h : Pw m f) : Sm m f := by
  induction h with
  | nil => exact Sm.zero m
  | more c k hk _ ih => exact Sm.add (Sm.mul c ((Sm.pow k).le hk)) ih
/-- the differences of order k of the k-th powers -/
theorem dn_pow (k : Nat) : 0 < DN k (fun i => (i : Int) ^ k) 0 := by
  induction k with
  | zero => exact Int.one_pos
  | succ k ih =>
    obtain ⟨r, hr, e⟩ := pow_step k
    have d : Df (fun i : Nat => (i : Int) ^ (k + 1)) = fun (i : Nat) => ((k : Int) + 1) * (i : Int) ^ k + r i := funext fun i => by
      show ((i + 1 : Nat) : Int) ^ (k + 1) - (i : Int) ^ (k + 1) = _
      rw [Int.natCast_succ, e i]
      omega
    rw [DN_succ, d, DN_add, DN_mul]
    show 0 < ((k : Int) + 1) * DN k (fun i => (i : Int) ^ k) 0 + DN k r 0
    rw [hr.sm 0, Int.add_zero]
    exact Int.mul_pos (by omega) ih
end Ly

/-! one answer of a reading; all that answer themselves -/
local macro_rules | `(tactic| walk_at "ar") => `(tactic| first | decide | omega | (simp only [List.length_map, List.length_append, List.length_cons, List.length_nil] <;> omega))
local macro_rules | `(tactic| walk_at "rd1") => `(tactic| first
  | (refine ⟨_, rfl, ?_⟩)
  | (refine ⟨_, _, rfl, rfl, ?_⟩)
  | (refine ⟨_, _, rfl, .inl (by assumption), ?_⟩)
  | (refine ⟨_, _, rfl, .inr (by assumption), ?_⟩)
  | (refine ⟨_, _, _, _, rfl, rfl, (by assumption), Ly.at_intI (by walk_at "ar") (by walk_at "ar"), ?_⟩)
  | (refine ⟨_, _, (rfl : [L2.V.int _, L2.V.int _] = [L2.V.int _, L2.V.int _]), ?_⟩)
  | (refine And.intro rfl ?_)
  | (refine And.intro (by walk_at "ar") ?_)
  | (refine And.intro (And.intro (by walk_at "ar") (by walk_at "ar")) ?_)
  | (refine And.intro (Or.inr (And.intro (by decide) (by decide))) ?_)
  | (refine And.intro (Or.inl (And.intro (by decide) (by decide))) ?_))
local macro_rules | `(tactic| walk_at "rd") => `(tactic| repeat (walk_at "rd1"))

namespace Ev
open PySem PySem.Spec PyProof.Rows L2 RZ Ly
def topS (i : Nat) : Stmt := PySem.Challenge.pw_evenrows_k19_whole_smooth_worths_added.main.body.getD i (.Pass ⟨0, 0, 0, 0⟩)
abbrev S__law_cell_at : Stmt := topS 41
theorem sc__law_cell_at : FnScope ["_law_script", "_law_k", "_law_spare", "_law_again"] ["_law_script", "_law_k"] (defScope S__law_cell_at) := ⟨rfl, rfl, rfl, by decide +kernel, rfl, by decide +kernel, by decide +kernel⟩
abbrev S__law_mixed : Stmt := topS 42
theorem sc__law_mixed : FnScope ["_law_script", "_law_k", "_law_reach", "_law_spun"] ["_law_script", "_law_k", "_law_reach"] (defScope S__law_mixed) := ⟨rfl, rfl, rfl, by decide +kernel, rfl, by decide +kernel, by decide +kernel⟩
abbrev S__law_draw : Stmt := topS 43
theorem sc__law_draw : FnScope ["_law_script", "_law_town", "_law_reach"] ["_law_script", "_law_town", "_law_reach"] (defScope S__law_draw) := ⟨rfl, rfl, rfl, by decide +kernel, rfl, by decide +kernel, by decide +kernel⟩
abbrev S__law_order_of : Stmt := topS 45
theorem sc__law_order_of : FnScope ["_law_script", "_law_town", "_law_many", "_law_left", "_law_made"] ["_law_script", "_law_town", "_law_many"] (defScope S__law_order_of) := ⟨rfl, rfl, rfl, by decide +kernel, rfl, by decide +kernel, by decide +kernel⟩
abbrev S__law_rest : Stmt := topS 46
theorem sc__law_rest : FnScope ["_law_number", "_law_many"] ["_law_number", "_law_many"] (defScope S__law_rest) := ⟨rfl, rfl, rfl, by decide +kernel, rfl, by decide +kernel, by decide +kernel⟩
abbrev S__law_put : Stmt := topS 47
theorem sc__law_put : FnScope ["_law_hands", "_law_row", "_law_other", "_law_made", "_law_turn", "_law_one"] ["_law_hands", "_law_row", "_law_other"] (defScope S__law_put) := ⟨rfl, rfl, rfl, by decide +kernel, rfl, by decide +kernel, by decide +kernel⟩
abbrev S__law_even_row : Stmt := topS 48
theorem sc__law_even_row : FnScope ["_law_script", "_law_town", "_law_hands", "_law_degree", "_law_made", "_law_again"] ["_law_script", "_law_town", "_law_hands", "_law_degree"] (defScope S__law_even_row) := ⟨rfl, rfl, rfl, by decide +kernel, rfl, by decide +kernel, by decide +kernel⟩
abbrev S__law_some_row : Stmt := topS 44
theorem sc__law_some_row : FnScope ["_law_script", "_law_town", "_law_hands", "_law_reach", "_law_place"] ["_law_script", "_law_town", "_law_hands", "_law_reach"] (defScope S__law_some_row) := ⟨rfl, rfl, rfl, by decide +kernel, rfl, by decide +kernel, by decide +kernel⟩
abbrev S__law_near_even : Stmt := topS 49
theorem sc__law_near_even : FnScope ["_law_script", "_law_town", "_law_hands", "_law_degree", "_law_kind", "_law_made", "_law_one", "_law_other"] ["_law_script", "_law_town", "_law_hands", "_law_degree"] (defScope S__law_near_even) := ⟨rfl, rfl, rfl, by decide +kernel, rfl, by decide +kernel, by decide +kernel⟩
abbrev S__law_pairs : Stmt := topS 51
theorem sc__law_pairs : FnScope ["_law_hands", "_law_made", "_law_one", "_law_other"] ["_law_hands"] (defScope S__law_pairs) := ⟨rfl, rfl, rfl, by decide +kernel, rfl, by decide +kernel, by decide +kernel⟩
abbrev S__law_power : Stmt := topS 50
theorem sc__law_power : FnScope ["_law_number", "_law_many", "_law_made", "_law_again"] ["_law_number", "_law_many"] (defScope S__law_power) := ⟨rfl, rfl, rfl, by decide +kernel, rfl, by decide +kernel, by decide +kernel⟩
abbrev S__law_smooth_worths : Stmt := topS 52
theorem sc__law_smooth_worths : FnScope ["_law_script", "_law_town", "_law_places", "_law_degree", "_law_parts", "_law_made", "_law_place", "_law_k", "_law_part"] ["_law_script", "_law_town", "_law_places", "_law_degree"] (defScope S__law_smooth_worths) := ⟨rfl, rfl, rfl, by decide +kernel, rfl, by decide +kernel, by decide +kernel⟩
abbrev S_is_whole : Stmt := topS 14
theorem sc_is_whole : FnScope ["thing"] ["thing"] (defScope S_is_whole) := ⟨rfl, rfl, rfl, by decide +kernel, rfl, by decide +kernel, by decide +kernel⟩
abbrev S_is_from_to : Stmt := topS 15
theorem sc_is_from_to : FnScope ["thing", "least", "most"] ["thing", "least", "most"] (defScope S_is_from_to) := ⟨rfl, rfl, rfl, by decide +kernel, rfl, by decide +kernel, by decide +kernel⟩
abbrev S_check_order : Stmt := topS 24
theorem sc_check_order : FnScope ["order"] ["order"] (defScope S_check_order) := ⟨rfl, rfl, rfl, by decide +kernel, rfl, by decide +kernel, by decide +kernel⟩
abbrev S_check_worths : Stmt := topS 22
theorem sc_check_worths : FnScope ["worths", "worth"] ["worths"] (defScope S_check_worths) := ⟨rfl, rfl, rfl, by decide +kernel, rfl, by decide +kernel, by decide +kernel⟩
abbrev S_differences_of : Stmt := topS 34
theorem sc_differences_of : FnScope ["worths", "order", "line", "_", "before", "after"] ["worths", "order"] (defScope S_differences_of) := ⟨rfl, rfl, rfl, by decide +kernel, rfl, by decide +kernel, by decide +kernel⟩
abbrev S_differences : Stmt := topS 32
theorem sc_differences : FnScope ["worths", "order"] ["worths", "order"] (defScope S_differences) := ⟨rfl, rfl, rfl, by decide +kernel, rfl, by decide +kernel, by decide +kernel⟩
abbrev S_check_hands : Stmt := topS 18
theorem sc_check_hands : FnScope ["hands"] ["hands"] (defScope S_check_hands) := ⟨rfl, rfl, rfl, by decide +kernel, rfl, by decide +kernel, by decide +kernel⟩
abbrev S_is_hand : Stmt := topS 16
theorem sc_is_hand : FnScope ["hands", "thing"] ["hands", "thing"] (defScope S_is_hand) := ⟨rfl, rfl, rfl, by decide +kernel, rfl, by decide +kernel, by decide +kernel⟩
abbrev S_fits_row : Stmt := topS 17
theorem sc_fits_row : FnScope ["hands", "thing", "turn"] ["hands", "thing"] (defScope S_fits_row) := ⟨rfl, rfl, rfl, by decide +kernel, rfl, by decide +kernel, by decide +kernel⟩
abbrev S_check_row : Stmt := topS 19
theorem sc_check_row : FnScope ["hands", "row"] ["hands", "row"] (defScope S_check_row) := ⟨rfl, rfl, rfl, by decide +kernel, rfl, by decide +kernel, by decide +kernel⟩
abbrev S_running_sums : Stmt := topS 37
theorem sc_running_sums : FnScope ["line", "total", "found", "number"] ["line"] (defScope S_running_sums) := ⟨rfl, rfl, rfl, by decide +kernel, rfl, by decide +kernel, by decide +kernel⟩
abbrev S_are_signs_even : Stmt := topS 39
theorem sc_are_signs_even : FnScope ["line", "degree", "found", "_"] ["line", "degree"] (defScope S_are_signs_even) := ⟨rfl, rfl, rfl, by decide +kernel, rfl, by decide +kernel, by decide +kernel⟩
abbrev S_sign_of : Stmt := topS 29
theorem sc_sign_of : FnScope ["turn", "one", "other"] ["turn", "one", "other"] (defScope S_sign_of) := ⟨rfl, rfl, rfl, by decide +kernel, rfl, by decide +kernel, by decide +kernel⟩
abbrev S_signs_of : Stmt := topS 28
theorem sc_signs_of : FnScope ["row", "one", "other", "turn"] ["row", "one", "other"] (defScope S_signs_of) := ⟨rfl, rfl, rfl, by decide +kernel, rfl, by decide +kernel, by decide +kernel⟩
abbrev S_is_even_to : Stmt := topS 38
theorem sc_is_even_to : FnScope ["hands", "row", "degree", "other", "one"] ["hands", "row", "degree"] (defScope S_is_even_to) := ⟨rfl, rfl, rfl, by decide +kernel, rfl, by decide +kernel, by decide +kernel⟩
abbrev S_evenness : Stmt := topS 36
theorem sc_evenness : FnScope ["hands", "row", "degree"] ["hands", "row"] (defScope S_evenness) := ⟨rfl, rfl, rfl, by decide +kernel, rfl, by decide +kernel, by decide +kernel⟩
abbrev S_check_degree : Stmt := topS 25
theorem sc_check_degree : FnScope ["degree", "most"] ["degree", "most"] (defScope S_check_degree) := ⟨rfl, rfl, rfl, by decide +kernel, rfl, by decide +kernel, by decide +kernel⟩
abbrev S_is_smooth : Stmt := topS 33
theorem sc_is_smooth : FnScope ["worths", "degree", "gap"] ["worths", "degree"] (defScope S_is_smooth) := ⟨rfl, rfl, rfl, by decide +kernel, rfl, by decide +kernel, by decide +kernel⟩
abbrev S_check_two_hands : Stmt := topS 21
theorem sc_check_two_hands : FnScope ["hands", "one", "other"] ["hands", "one", "other"] (defScope S_check_two_hands) := ⟨rfl, rfl, rfl, by decide +kernel, rfl, by decide +kernel, by decide +kernel⟩
abbrev S_check_two : Stmt := topS 20
theorem sc_check_two : FnScope ["hands", "row", "one", "other"] ["hands", "row", "one", "other"] (defScope S_check_two) := ⟨rfl, rfl, rfl, by decide +kernel, rfl, by decide +kernel, by decide +kernel⟩
abbrev S_check_worths_of : Stmt := topS 23
theorem sc_check_worths_of : FnScope ["row", "worths"] ["row", "worths"] (defScope S_check_worths_of) := ⟨rfl, rfl, rfl, by decide +kernel, rfl, by decide +kernel, by decide +kernel⟩
abbrev S_totals_of : Stmt := topS 30
theorem sc_totals_of : FnScope ["hands", "row", "worths", "found", "turn", "worth"] ["hands", "row", "worths"] (defScope S_totals_of) := ⟨rfl, rfl, rfl, by decide +kernel, rfl, by decide +kernel, by decide +kernel⟩
abbrev S_lead : Stmt := topS 27
theorem sc_lead : FnScope ["hands", "row", "one", "other", "worths", "found"] ["hands", "row", "one", "other", "worths"] (defScope S_lead) := ⟨rfl, rfl, rfl, by decide +kernel, rfl, by decide +kernel, by decide +kernel⟩
abbrev S_law : Stmt := topS 53
theorem sc_law : FnScope ["_law_script", "_law_town", "_law_hands", "_law_row", "_law_worths", "_law_own", "_law_smooth", "_law_both", "_law_power_here", "_law_changed", "_law_one", "_law_other", "_law_ahead", "_law_place", "_law_a", "_law_b", "_law_worth", "_law_gap"] ["_law_script"] (defScope S_law) := ⟨rfl, rfl, rfl, by decide +kernel, rfl, by decide +kernel, by decide +kernel⟩
/-- what the top has left, by names -/
structure Txt (K : PySem.W.Frag) (mg : Str → Option Value) : Prop where
  f__law_cell_at : At K mg "_law_cell_at" S__law_cell_at []
  f__law_mixed : At K mg "_law_mixed" S__law_mixed []
  f__law_draw : At K mg "_law_draw" S__law_draw []
  f__law_order_of : At K mg "_law_order_of" S__law_order_of []
  f__law_rest : At K mg "_law_rest" S__law_rest []
  f__law_put : At K mg "_law_put" S__law_put []
  f__law_even_row : At K mg "_law_even_row" S__law_even_row []
  f__law_some_row : At K mg "_law_some_row" S__law_some_row []
  f__law_near_even : At K mg "_law_near_even" S__law_near_even []
  f__law_pairs : At K mg "_law_pairs" S__law_pairs []
  f__law_power : At K mg "_law_power" S__law_power []
  f__law_smooth_worths : At K mg "_law_smooth_worths" S__law_smooth_worths []
  f_is_whole : At K mg "is_whole" S_is_whole []
  f_is_from_to : At K mg "is_from_to" S_is_from_to []
  f_check_order : At K mg "check_order" S_check_order []
  f_check_worths : At K mg "check_worths" S_check_worths []
  f_differences_of : At K mg "differences_of" S_differences_of []
  f_differences : At K mg "differences" S_differences [("order", .int 1)]
  f_check_hands : At K mg "check_hands" S_check_hands []
  f_is_hand : At K mg "is_hand" S_is_hand []
  f_fits_row : At K mg "fits_row" S_fits_row []
  f_check_row : At K mg "check_row" S_check_row []
  f_running_sums : At K mg "running_sums" S_running_sums []
  f_are_signs_even : At K mg "are_signs_even" S_are_signs_even []
  f_sign_of : At K mg "sign_of" S_sign_of []
  f_signs_of : At K mg "signs_of" S_signs_of []
  f_is_even_to : At K mg "is_even_to" S_is_even_to []
  f_evenness : At K mg "evenness" S_evenness []
  f_check_degree : At K mg "check_degree" S_check_degree [("most", .int 9)]
  f_is_smooth : At K mg "is_smooth" S_is_smooth []
  f_check_two_hands : At K mg "check_two_hands" S_check_two_hands []
  f_check_two : At K mg "check_two" S_check_two []
  f_check_worths_of : At K mg "check_worths_of" S_check_worths_of []
  f_totals_of : At K mg "totals_of" S_totals_of []
  f_lead : At K mg "lead" S_lead []
  b_all : mg "all" = none
  b_bool : mg "bool" = none
  b_enumerate : mg "enumerate" = none
  b_int : mg "int" = none
  b_isinstance : mg "isinstance" = none
  b_len : mg "len" = none
  b_list : mg "list" = none
  b_max : mg "max" = none
  b_min : mg "min" = none
  b_range : mg "range" = none
  b_sum : mg "sum" = none
  b_tuple : mg "tuple" = none
  b_zip : mg "zip" = none
  k_FEWEST_HANDS : ∃ t, mg "FEWEST_HANDS" = some (.int (2) t)
  k_MOST_HANDS : ∃ t, mg "MOST_HANDS" = some (.int (4) t)
  k_MOST_ORDER : ∃ t, mg "MOST_ORDER" = some (.int (9) t)
  k_MOST_PLACES : ∃ t, mg "MOST_PLACES" = some (.int (64) t)
section
variable {P : Program} {w : World} {K : PySem.W.Frag} {mg : Str → Option Value} {base : Heap}

/-! _law_cell_at -/
/-- some whole number -/
def sp__law_cell_at (K : PySem.W.Frag) : Sp := fun vs H Q _ => ∃ (a : Addr) (ns : List Int) (k : Nat), vs = [.ref a, .int (k : Int)] ∧ SqL K H a (ns.map V.int) ∧ ns.length ≤ 63 ∧ ∀ (z : Int) (H' : Hp), Same H H' → Q (.int z) H'
theorem c__law_cell_at (T : Txt K mg) : Cal P w K mg base 1 "_law_cell_at" ["_law_script", "_law_k"] (sp__law_cell_at K) := by
  refine T.f__law_cell_at.cal sc__law_cell_at (fun _ _ _ _ _ _ us hl => match us, hl with | [_, _], _ => rfl) (fun vs H Q E h => by first | (obtain ⟨_, rfl, _⟩ := h; rfl) | (obtain ⟨_, _, rfl, _⟩ := h; rfl) | (obtain ⟨_, _, _, rfl, _⟩ := h; rfl) | (obtain ⟨_, _, _, _, rfl, _⟩ := h; rfl) | (obtain ⟨_, _, _, _, _, rfl, _⟩ := h; rfl) | (obtain ⟨_, _, _, _, _, _, rfl, _⟩ := h; rfl) | (obtain ⟨_, _, _, _, _, _, _, rfl, _⟩ := h; rfl) | (obtain ⟨_, _, _, _, _, _, _, _, rfl, _⟩ := h; rfl) | (obtain ⟨_, _, _, _, _, _, _, _, _, rfl, _⟩ := h; rfl) | (obtain ⟨_, _, _, _, _, _, _, _, _, _, rfl, _⟩ := h; rfl) | (obtain ⟨_, _, _, _, _, _, _, _, _, _, _, rfl, _⟩ := h; rfl) | (obtain ⟨_, _, _, _, _, _, _, _, _, _, _, _, rfl, _⟩ := h; rfl) | (obtain ⟨_, _, _, _, _, _, _, _, _, _, _, _, _, rfl, _⟩ := h; rfl)) (fun cdv A outer s H vs Q E f hr h => ?_)
  obtain ⟨a, ns, k, rfl, hS, hl, q⟩ := h
  refine ⟨_, (pss_cons (ps_if (pt_cmpR op_lt (pv 1) (pe_callB (kz_len (K := K)) (by rfl) T.b_len bt_len (pa_cons (pv 0) pa_nil)) (nomark _)) (pss_one (ps_ret (pe_ix (kz_ixL (K := K)) (pv 0) (pv 1) (fun _ _ => rfl)))) pss_nil)
    (pss_cons (ps_if (pt_cmpR (kz_eqD (K := K) hr.units) (pv 0) (pe_lst pa_nil) (nomark _)) (pss_one (ps_ret pe_int)) pss_nil)
    (pss_cons (ps_set (i := 2) sc__law_cell_at.nd rfl (.inl rfl) (pe_ix (kz_ixL (K := K)) (pv 0) (pe_op op_mod (pv 1) (pe_callB (kz_len (K := K)) (by rfl) T.b_len bt_len (pa_cons (pv 0) pa_nil))) (fun _ _ => rfl)))
    (pss_cons (ps_for PassesOwn.never rfl (pi_range1 (by rfl) T.b_range (pa_cons (pe_callB (call_min2 rfl) (by rfl) T.b_min bt_min (pa_cons (pe_op op_fdiv (pv 1) (pe_callB (kz_len (K := K)) (by rfl) T.b_len bt_len (pa_cons (pv 0) pa_nil))) (pa_cons pe_int pa_nil))) pa_nil)) (pg_name (i := 3) sc__law_cell_at.nd rfl (.inl rfl)) (pss_one (ps_set (i := 2) sc__law_cell_at.nd rfl (.inl rfl) (pe_op op_fdiv (pv 2) pe_int))))
    (pss_one (ps_ret (pe_op op_add (pe_op op_add (pe_op op_mul (pe_ix (kz_ixL (K := K)) (pv 0) (pe_op op_mod (pv 1) (pe_callB (kz_len (K := K)) (by rfl) T.b_len bt_len (pa_cons (pv 0) pa_nil))) (fun _ _ => rfl)) pe_int) (pv 1)) (pe_op op_mul (pv 2) pe_int)))))))), ?_⟩
  walk_at "rd"
  refine ite2 (fun c => ?_) (fun c => ?_)
  · have hk : k < ns.length := by simpa using c
    walk_at "rd"
    exact q _ _ (L2.Same.refl H)
  · walk_at "rd"
    refine fun p np => eqL0 (seqL (same_new np) hS) upd_same ?_
    have sm : Same H (upd H p (.lst [])) := same_new np
    have hS2 := seqL sm hS
    walk_at "rd"
    refine ite2 (fun c => q _ _ sm) (fun c => ?_)
    have h0 : ns ≠ [] := fun z => c (decide_eq_true z)
    have h1 : 0 < ns.length := List.length_pos_iff.mpr h0
    have g : 0 ≤ (k : Int) % (ns.length : Int) ∧ (k : Int) % (ns.length : Int) < (ns.length : Int) := ⟨Int.emod_nonneg _ (by omega), Int.emod_lt_of_pos _ (by omega)⟩
    have g2 : 0 ≤ (k : Int) / (ns.length : Int) := Int.ediv_nonneg (by omega) (by omega)
    walk_at "rd"
    refine for_range (fun _ σ H' => ∃ (z : Int) (y : Option V), σ = [some (.ref a), some (.int (k : Int)), some (.int z), y] ∧ H' = upd H p (.lst [])) ⟨_, none, rfl, rfl⟩ ?_ ?_
    · rintro i σ H' _ ⟨z, y, rfl, rfl⟩
      exact ⟨_, rfl, _, _, rfl, rfl, ⟨by decide, by decide⟩, _, _, rfl, rfl⟩
    · rintro σ H' ⟨z, y, rfl, rfl⟩
      walk_at "rd"
      exact q _ _ sm

/-! _law_mixed -/
/-- a whole number from 0 to below the reach -/
def sp__law_mixed (K : PySem.W.Frag) : Sp := fun vs H Q _ => ∃ (a : Addr) (ns : List Int) (k : Nat) (r : Int), vs = [.ref a, .int (k : Int), .int r] ∧ SqL K H a (ns.map V.int) ∧ ns.length ≤ 63 ∧ 0 < r ∧
  ∀ (z : Int) (H' : Hp), 0 ≤ z → z < r → Same H H' → Q (.int z) H'
theorem c__law_mixed (T : Txt K mg) : Cal P w K mg base 2 "_law_mixed" ["_law_script", "_law_k", "_law_reach"] (sp__law_mixed K) := by
  refine T.f__law_mixed.cal sc__law_mixed (fun _ _ _ _ _ _ us hl => match us, hl with | [_, _, _], _ => rfl) (fun vs H Q E h => by first | (obtain ⟨_, rfl, _⟩ := h; rfl) | (obtain ⟨_, _, rfl, _⟩ := h; rfl) | (obtain ⟨_, _, _, rfl, _⟩ := h; rfl) | (obtain ⟨_, _, _, _, rfl, _⟩ := h; rfl) | (obtain ⟨_, _, _, _, _, rfl, _⟩ := h; rfl) | (obtain ⟨_, _, _, _, _, _, rfl, _⟩ := h; rfl) | (obtain ⟨_, _, _, _, _, _, _, rfl, _⟩ := h; rfl) | (obtain ⟨_, _, _, _, _, _, _, _, rfl, _⟩ := h; rfl) | (obtain ⟨_, _, _, _, _, _, _, _, _, rfl, _⟩ := h; rfl) | (obtain ⟨_, _, _, _, _, _, _, _, _, _, rfl, _⟩ := h; rfl) | (obtain ⟨_, _, _, _, _, _, _, _, _, _, _, rfl, _⟩ := h; rfl) | (obtain ⟨_, _, _, _, _, _, _, _, _, _, _, _, rfl, _⟩ := h; rfl) | (obtain ⟨_, _, _, _, _, _, _, _, _, _, _, _, _, rfl, _⟩ := h; rfl)) (fun cdv A outer s H vs Q E f hr h => ?_)
  obtain ⟨a, ns, k, r, rfl, hS, hl, hr0, q⟩ := h
  refine ⟨_, (pss_cons (ps_set (i := 3) sc__law_mixed.nd rfl (.inl rfl) (pe_op op_mod (pe_op op_add (pe_op op_add (pe_op op_mul (pe_cal (c__law_cell_at T) hr (by decide) (pa_cons (pv 0) (pa_cons (pv 1) pa_nil))) pe_int) (pe_op op_mul pe_int (pv 1))) pe_int) pe_int))
    (pss_one (ps_ret (pe_op op_mod (pe_op op_mod (pe_op op_mod (pe_op op_pow (pv 3) pe_int) pe_int) pe_int) (pv 2))))), ?_⟩
  walk_at "rd"
  refine ⟨a, ns, k, rfl, hS, hl, fun z H' sm => ?_⟩
  have g : ∀ x : Int, 0 ≤ x % 2147483647 ∧ x % 2147483647 < 2147483647 := fun x => ⟨Int.emod_nonneg _ (by decide), Int.emod_lt_of_pos _ (by decide)⟩
  have := g (z * 1103515245 + 7919 * (k : Int) + 12345)
  walk_at "rd"
  exact q _ _ (Int.emod_nonneg _ (by omega)) (Int.emod_lt_of_pos _ hr0) sm

/-! _law_draw -/
/-- the town grows by one; a whole number from 0 to below the reach -/
def sp__law_draw (K : PySem.W.Frag) : Sp := fun vs H Q _ => ∃ (a b : Addr) (ns : List Int) (n : Nat) (r : Int), vs = [.ref a, .ref b, .int r] ∧ Scr K H b a ns ∧ Town b n H ∧ n < 90000 ∧ 0 < r ∧
  ∀ (z : Int) (H' : Hp), 0 ≤ z → z < r → But b H H' → Town b (n + 1) H' → Q (.int z) H'
theorem c__law_draw (T : Txt K mg) : Cal P w K mg base 3 "_law_draw" ["_law_script", "_law_town", "_law_reach"] (sp__law_draw K) := by
  refine T.f__law_draw.cal sc__law_draw (fun _ _ _ _ _ _ us hl => match us, hl with | [_, _, _], _ => rfl) (fun vs H Q E h => by first | (obtain ⟨_, rfl, _⟩ := h; rfl) | (obtain ⟨_, _, rfl, _⟩ := h; rfl) | (obtain ⟨_, _, _, rfl, _⟩ := h; rfl) | (obtain ⟨_, _, _, _, rfl, _⟩ := h; rfl) | (obtain ⟨_, _, _, _, _, rfl, _⟩ := h; rfl) | (obtain ⟨_, _, _, _, _, _, rfl, _⟩ := h; rfl) | (obtain ⟨_, _, _, _, _, _, _, rfl, _⟩ := h; rfl) | (obtain ⟨_, _, _, _, _, _, _, _, rfl, _⟩ := h; rfl) | (obtain ⟨_, _, _, _, _, _, _, _, _, rfl, _⟩ := h; rfl) | (obtain ⟨_, _, _, _, _, _, _, _, _, _, rfl, _⟩ := h; rfl) | (obtain ⟨_, _, _, _, _, _, _, _, _, _, _, rfl, _⟩ := h; rfl) | (obtain ⟨_, _, _, _, _, _, _, _, _, _, _, _, rfl, _⟩ := h; rfl) | (obtain ⟨_, _, _, _, _, _, _, _, _, _, _, _, _, rfl, _⟩ := h; rfl)) (fun cdv A outer s H vs Q E f hr h => ?_)
  obtain ⟨a, b, ns, n, r, rfl, hS, ⟨xs, hb, hx⟩, hn, hr0, q⟩ := h
  refine ⟨_, (pss_cons (ps_expr (pe_bm PySem.F.plainAttrs_list PySem.F.slot_list_append PySem.F.type_list_append mt_append (pv 1) (pa_cons pe_int pa_nil)))
    (pss_one (ps_ret (pe_cal (c__law_mixed T) hr (by decide) (pa_cons (pv 0) (pa_cons (pe_callB (kz_len (K := K)) (by rfl) T.b_len bt_len (pa_cons (pv 1) pa_nil)) (pa_cons (pv 2) pa_nil))))))), ?_⟩
  refine ⟨_, rfl, .inl ⟨rfl, _, .inl (.inl hb)⟩, b, xs, _, rfl, rfl, hb, szl (by omega), ?_⟩
  have hS2 : Scr K (upd H b (.lst (xs ++ [V.int 0]))) b a ns := hS.but But.at
  refine ⟨_, rfl, _, rfl, _, _, rfl, .inl (.inl (.inl upd_same)), ?_⟩
  refine ⟨_, rfl, a, ns, (xs ++ [V.int 0]).length, r, rfl, hS2.sq, hS2.1, hr0, fun z H' z0 zr sm => q z H' z0 zr (But.at.same sm) ⟨_, sm _ _ upd_same, ?_⟩⟩
  rw [List.length_append]
  show xs.length + 1 ≤ n + 1
  omega

/-! _law_order_of -/
def sp__law_order_of (K : PySem.W.Frag) : Sp := fun vs H Q _ => ∃ (a b : Addr) (ns : List Int) (n m : Nat), vs = [.ref a, .ref b, .int (m : Int)] ∧ Scr K H b a ns ∧ Town b n H ∧ n < 80000 ∧ m ≤ 100 ∧
  ∀ (p : Addr) (zs : List Int) (H' : Hp), zs.Perm (nums m) → p ≠ b → H p = none → H' p = some (.lst (zs.map V.int)) → But b H H' → Town b (n + m) H' → Q (.ref p) H'
theorem c__law_order_of (T : Txt K mg) : Cal P w K mg base 4 "_law_order_of" ["_law_script", "_law_town", "_law_many"] (sp__law_order_of K) := by
  refine T.f__law_order_of.cal sc__law_order_of (fun _ _ _ _ _ _ us hl => match us, hl with | [_, _, _], _ => rfl) (fun vs H Q E h => by first | (obtain ⟨_, rfl, _⟩ := h; rfl) | (obtain ⟨_, _, rfl, _⟩ := h; rfl) | (obtain ⟨_, _, _, rfl, _⟩ := h; rfl) | (obtain ⟨_, _, _, _, rfl, _⟩ := h; rfl) | (obtain ⟨_, _, _, _, _, rfl, _⟩ := h; rfl) | (obtain ⟨_, _, _, _, _, _, rfl, _⟩ := h; rfl) | (obtain ⟨_, _, _, _, _, _, _, rfl, _⟩ := h; rfl) | (obtain ⟨_, _, _, _, _, _, _, _, rfl, _⟩ := h; rfl) | (obtain ⟨_, _, _, _, _, _, _, _, _, rfl, _⟩ := h; rfl) | (obtain ⟨_, _, _, _, _, _, _, _, _, _, rfl, _⟩ := h; rfl) | (obtain ⟨_, _, _, _, _, _, _, _, _, _, _, rfl, _⟩ := h; rfl) | (obtain ⟨_, _, _, _, _, _, _, _, _, _, _, _, rfl, _⟩ := h; rfl) | (obtain ⟨_, _, _, _, _, _, _, _, _, _, _, _, _, rfl, _⟩ := h; rfl)) (fun cdv A outer s H vs Q E f hr h => ?_)
  obtain ⟨a, b, ns, n, m, rfl, hS, hT, hn, hm, q⟩ := h
  refine ⟨_, (pss_cons (ps_par (i := 3) (j := 4) rfl sc__law_order_of.nd rfl rfl (by decide) rfl rfl (pa_cons (pe_listRg rfl (by rfl) T.b_list (prg_1 (by rfl) T.b_range (pv 2))) (pa_cons (pe_lst pa_nil) pa_nil)) (by rfl))
    (pss_cons (ps_while PassesOwn.never (pt_cmpR (kz_neD (K := K) hr.units) (pv 3) (pe_lst pa_nil) (nomark _)) (pss_one (ps_expr (pe_bm PySem.F.plainAttrs_list PySem.F.slot_list_append PySem.F.type_list_append mt_append (pv 4) (pa_cons (pe_bm PySem.F.plainAttrs_list PySem.F.slot_list_pop PySem.F.type_list_pop mt_popAt (pv 3) (pa_cons (pe_cal (c__law_draw T) hr (by decide) (pa_cons (pv 0) (pa_cons (pv 1) (pa_cons (pe_callB (kz_len (K := K)) (by rfl) T.b_len bt_len (pa_cons (pv 3) pa_nil)) pa_nil)))) pa_nil)) pa_nil)))))
    (pss_one (ps_ret (pv 4))))), ?_⟩
  walk_at "rd"
  intro l nl
  have sl := same_new (o := .lst (rgV 0 (m : Int))) nl
  have nlb : l ≠ b := hT.ne_new nl
  have e0 : rgV 0 (m : Int) = (nums m).map V.int := by
    unfold rgV nums
    rw [List.map_map, Int.sub_zero, Int.toNat_natCast]
    refine List.map_congr_left fun i _ => ?_
    rw [Int.zero_add]
    rfl
  rw [e0] at sl ⊢
  refine ⟨Nat.zero_le _, fun k nk => ?_⟩
  have sk := same_new (o := .lst []) nk
  have hT1 := hT.same sl
  have nkb : k ≠ b := hT1.ne_new nk
  have nkl : k ≠ l := fun e => by
    rw [e, upd_same] at nk
    cases nk
  have nkH : H k = none := none_back sl nk
  refine ⟨_, _, rfl, ?_⟩
  change tSeq _ _ _ [some (.ref a), some (.ref b), some (.int (m : Int)), some (.ref l), some (.ref k)] _
  refine ⟨fun c σ H2 => ∃ (L M : List Int), σ = [some (.ref a), some (.ref b), some (.int (m : Int)), some (.ref l), some (.ref k)] ∧ c = L.length ∧ (L ++ M).Perm (nums m) ∧ But b H H2 ∧ Town b (n + M.length) H2 ∧
    H2 l = some (.lst (L.map V.int)) ∧ H2 k = some (.lst (M.map V.int)), ⟨_, _, [], rfl, rfl, by rw [List.append_nil], (But.of_same sl).same sk, (hT1.same sk), sk _ _ upd_same, upd_same⟩, ?_⟩
  rintro c σ H2 ⟨L, M, rfl, rfl, pm, b2, t2, hL, hM⟩
  have lm : L.length + M.length = m := by
    have := pm.length_eq
    rw [List.length_append, nums_len] at this
    exact this
  refine ⟨_, rfl, Nat.zero_le _, fun p np => neL (ms := []) (.inl (.inl (same_new np _ _ hL))) (.inl (.inl upd_same)) ?_⟩
  have sp := same_new (o := .lst []) np
  have b3 := b2.same sp
  have t3 := t2.same sp
  have hL3 := sp _ _ hL
  have hM3 := sp _ _ hM
  have hS3 := hS.but b3
  generalize upd H2 p (.lst []) = H3 at b3 t3 hL3 hM3 hS3 ⊢
  refine ⟨_, rfl, ?_⟩
  by_cases c : L = []
  · rw [decide_eq_true c]
    refine iteF ?_
    rw [c, List.nil_append] at pm
    walk_at "rd"
    exact q k M _ pm nkb nkH hM3 b3 (t3.le (by omega))
  · rw [decide_eq_false c]
    refine iteT ?_
    have L0 : 0 < L.length := List.length_pos_iff.mpr c
    refine ⟨fun σ' H' => ∃ (L' M' : List Int), L'.length < L.length ∧ σ' = [some (.ref a), some (.ref b), some (.int (m : Int)), some (.ref l), some (.ref k)] ∧ (L' ++ M').Perm (nums m) ∧ But b H H' ∧ Town b (n + M'.length) H' ∧
      H' l = some (.lst (L'.map V.int)) ∧ H' k = some (.lst (M'.map V.int)), ?_, ?_⟩
    · rintro σ' H' ⟨L', M', l1, rfl, p1, r⟩
      exact ⟨L'.length, l1, L', M', rfl, rfl, p1, r⟩
    · refine ⟨_, rfl, .inl ⟨rfl, _, .inl (.inl hM3)⟩, ?_⟩
      refine ⟨_, rfl, .inl ⟨rfl, _, .inl (.inl hL3)⟩, ?_⟩
      refine ⟨_, rfl, _, rfl, _, rfl, l, _, rfl, .inl (.inl (.inl hL3)), ?_⟩
      rw [List.length_map]
      refine ⟨a, b, ns, n + M.length, (L.length : Int), rfl, hS3, t3, by omega, by omega, fun z H4 z0 z1 b4 t4 => ?_⟩
      have hL4 := b4 _ _ nlb hL3
      have hM4 := b4 _ _ nkb hM3
      have zi : z.toNat < L.length := by omega
      have ge : (L.map V.int)[z.toNat]? = some (.int L[z.toNat]) := by
        rw [List.getElem?_map, List.getElem?_eq_getElem zi]
        rfl
      refine ⟨l, _, z, z.toNat, _, rfl, rfl, hL4, by omega, by omega, ?_, ge, ?_⟩
      · rw [List.length_map]
        exact seqIndex_of z0 z1
      · have hM5 : (upd H4 l (.lst ((L.map V.int).eraseIdx z.toNat))) k = some (.lst (M.map V.int)) := by
          rw [upd_ne nkl]
          exact hM4
        refine ⟨k, _, _, rfl, rfl, hM5, szl (by rw [List.length_map]; omega), ?_⟩
        refine ⟨L.eraseIdx z.toNat, M ++ [L[z.toNat]], ?_, rfl, ?_, ?_, ?_, ?_, ?_⟩
        · rw [List.length_eraseIdx_of_lt zi]
          omega
        · refine List.Perm.trans ?_ pm
          have p1 := erase_perm L zi
          have p2 : (L.eraseIdx z.toNat ++ (M ++ [L[z.toNat]])).Perm (L[z.toNat] :: (L.eraseIdx z.toNat ++ M)) := by
            rw [← List.append_assoc]
            exact List.perm_append_comm
          exact p2.trans (p1.append_right M)
        · intro d o nd hd
          have d1 : d ≠ l := fun e => by rw [e, nl] at hd; cases hd
          have d2 : d ≠ k := fun e => by rw [e, nkH] at hd; cases hd
          rw [upd_ne d2, upd_ne d1]
          exact b4 _ _ nd (b3 _ _ nd hd)
        · obtain ⟨xs, hx, lx⟩ := t4
          refine ⟨xs, ?_, ?_⟩
          · rw [upd_ne (Ne.symm nkb), upd_ne (Ne.symm nlb)]
            exact hx
          · rw [List.length_append]
            show xs.length ≤ n + (M.length + 1)
            omega
        · rw [upd_ne (Ne.symm nkl), upd_same, erase_map]
        · rw [upd_same, List.map_append]
          rfl

/-! _law_rest -/
def sp__law_rest (K : PySem.W.Frag) : Sp := fun vs H Q _ => ∃ a m : Int, vs = [.int a, .int m] ∧ 0 < m ∧ m < 1000000 ∧ Q (.int (a % m)) H
theorem c__law_rest (T : Txt K mg) : Cal P w K mg base 1 "_law_rest" ["_law_number", "_law_many"] (sp__law_rest K) := by
  refine T.f__law_rest.cal sc__law_rest (fun _ _ _ _ _ _ us hl => match us, hl with | [_, _], _ => rfl) (fun vs H Q E h => by first | (obtain ⟨_, rfl, _⟩ := h; rfl) | (obtain ⟨_, _, rfl, _⟩ := h; rfl) | (obtain ⟨_, _, _, rfl, _⟩ := h; rfl) | (obtain ⟨_, _, _, _, rfl, _⟩ := h; rfl) | (obtain ⟨_, _, _, _, _, rfl, _⟩ := h; rfl) | (obtain ⟨_, _, _, _, _, _, rfl, _⟩ := h; rfl) | (obtain ⟨_, _, _, _, _, _, _, rfl, _⟩ := h; rfl) | (obtain ⟨_, _, _, _, _, _, _, _, rfl, _⟩ := h; rfl) | (obtain ⟨_, _, _, _, _, _, _, _, _, rfl, _⟩ := h; rfl) | (obtain ⟨_, _, _, _, _, _, _, _, _, _, rfl, _⟩ := h; rfl) | (obtain ⟨_, _, _, _, _, _, _, _, _, _, _, rfl, _⟩ := h; rfl) | (obtain ⟨_, _, _, _, _, _, _, _, _, _, _, _, rfl, _⟩ := h; rfl) | (obtain ⟨_, _, _, _, _, _, _, _, _, _, _, _, _, rfl, _⟩ := h; rfl)) (fun cdv A outer s H vs Q E f hr h => ?_)
  obtain ⟨a, m, rfl, h0, h1, q⟩ := h
  refine ⟨_, (pss_one (ps_ret (pe_op op_sub (pv 0) (pe_op op_mul (pe_op op_fdiv (pv 0) (pv 1)) (pv 1))))), ?_⟩
  walk_at "rd"
  refine ⟨.inr ⟨by omega, by omega⟩, ?_⟩
  walk_at "rd"
  have e : a - a / m * m = a % m := by
    rw [Int.emod_def, Int.mul_comm]
  show Q (.int (a - a / m * m)) H
  rw [e]
  exact q

/-! _law_put -/
def sp__law_put (K : PySem.W.Frag) : Sp := fun vs H Q _ => ∃ (hands : Int) (r u : Addr) (row other : List Int), vs = [.int hands, .ref r, .ref u] ∧ (0 < hands ∧ hands ≤ 100) ∧ SqT K H r (row.map V.int) ∧ SqT K H u (other.map V.int) ∧ other.length ≤ 1000 ∧ row.length ≤ 1000 ∧
  ∀ (p : Addr) (H' : Hp), H p = none → Same H H' → H' p = some (.tup ((putL hands row other).map V.int)) → Q (.ref p) H'
theorem c__law_put (T : Txt K mg) : Cal P w K mg base 2 "_law_put" ["_law_hands", "_law_row", "_law_other"] (sp__law_put K) := by
  refine T.f__law_put.cal sc__law_put (fun _ _ _ _ _ _ us hl => match us, hl with | [_, _, _], _ => rfl) (fun vs H Q E h => by first | (obtain ⟨_, rfl, _⟩ := h; rfl) | (obtain ⟨_, _, rfl, _⟩ := h; rfl) | (obtain ⟨_, _, _, rfl, _⟩ := h; rfl) | (obtain ⟨_, _, _, _, rfl, _⟩ := h; rfl) | (obtain ⟨_, _, _, _, _, rfl, _⟩ := h; rfl) | (obtain ⟨_, _, _, _, _, _, rfl, _⟩ := h; rfl) | (obtain ⟨_, _, _, _, _, _, _, rfl, _⟩ := h; rfl) | (obtain ⟨_, _, _, _, _, _, _, _, rfl, _⟩ := h; rfl) | (obtain ⟨_, _, _, _, _, _, _, _, _, rfl, _⟩ := h; rfl) | (obtain ⟨_, _, _, _, _, _, _, _, _, _, rfl, _⟩ := h; rfl) | (obtain ⟨_, _, _, _, _, _, _, _, _, _, _, rfl, _⟩ := h; rfl) | (obtain ⟨_, _, _, _, _, _, _, _, _, _, _, _, rfl, _⟩ := h; rfl) | (obtain ⟨_, _, _, _, _, _, _, _, _, _, _, _, _, rfl, _⟩ := h; rfl)) (fun cdv A outer s H vs Q E f hr h => ?_)
  obtain ⟨hands, r, u, row, other, rfl, hh, hS, hU, l1, l2, q⟩ := h
  refine ⟨_, (pss_cons (ps_set (i := 3) sc__law_put.nd rfl (.inl rfl) (pe_lst pa_nil))
    (pss_cons (ps_for PassesOwn.never rfl (kz_piT (K := K) (pv 2)) (pg_name (i := 4) sc__law_put.nd rfl (.inr rfl)) (pss_one (ps_expr (pe_bm PySem.F.plainAttrs_list PySem.F.slot_list_extend PySem.F.type_list_extend mt_extend (pv 3) (pa_cons (pe_lc (own := [("_law_one", 5)]) (g := (gName 5)) (tt := tYes) rfl sc__law_put.nd (kz_piT (K := K) (pv 1)) (blkOk_by (own := [("_law_one", 5)]) (N := ["_law_hands", "_law_row", "_law_other", "_law_made", "_law_turn", "_law_one"]) (sc := defScope S__law_put) (by decide +kernel)) (fun _ _ _ _ _ => (pg_name (i := 5) sc__law_put.nd rfl (.inl rfl))) (fun _ _ _ _ _ => pts_nil) (fun _ _ _ _ _ => (pe_cal (c__law_rest T) hr (by decide) (pa_cons (pe_op op_add (pv 5) (pv 4)) (pa_cons (pv 0) pa_nil))))) pa_nil)))))
    (pss_one (ps_ret (pe_callTy (kz_tuple (K := K)) (by rfl) T.b_tuple bt_tuple (pa_cons (pv 3) pa_nil)))))), ?_⟩
  walk_at "rd"
  intro m nm
  have sm := same_new (o := .lst []) nm
  refine ⟨_, rfl, u, rfl, ⟨_, seqT sm hU⟩, ?_⟩
  have bd : ∀ i, i ≤ other.length → (putL hands row (other.take i)).length ≤ 1000000 := fun i hi => by
    rw [putL_len, List.length_take, Nat.min_eq_left hi]
    calc i * row.length ≤ 1000 * 1000 := Nat.mul_le_mul (by omega) l2
      _ = 1000000 := rfl
  refine for_tup (xs := other.map V.int) (fun i σ H2 => ∃ y4, σ = [some (.int hands), some (.ref r), some (.ref u), some (.ref m), y4, none] ∧ Same H H2 ∧ H2 m = some (.lst ((putL hands row (other.take i)).map V.int)))
    ⟨none, rfl, sm, upd_same⟩ (fun i σ H2 _ h => by obtain ⟨_, _, s, _⟩ := h; exact seqT s hU) ?_ ?_
  · rintro i x σ H2 hx ⟨y4, rfl, s2, hm⟩
    obtain ⟨t, ht, rfl⟩ := map_at hx
    have hi := (List.getElem?_eq_some_iff.mp ht).1
    refine ⟨_, rfl, .inl ⟨rfl, _, .inl (.inl hm)⟩, ?_⟩
    refine ⟨_, rfl, r, rfl, ⟨_, seqT s2 hS⟩, fun D nD => ?_⟩
    refine lcp (walk_tup (xs := row.map V.int)) nD (fun j => ((row.map fun x => (x + t) % hands).map V.int).take j) rfl (fun j _ => ?_) (fun H3 s3 => seqT (s2.trans s3) hS) ?_ ?_
    · rw [List.length_take, List.length_map, List.length_map]
      omega
    · rintro j x H3 H' R N hj s3 ⟨rfl, h1⟩ k _
      obtain ⟨z, hz, rfl⟩ := map_at h1
      refine ⟨rfl, ?_⟩
      walk_at "rd"
      refine k _ _ (L2.Same.refl _) ?_
      rw [List.take_add_one, List.getElem?_map, List.getElem?_map, hz]
      rfl
    · intro H3 s3 hD
      rw [List.take_of_length_le (by rw [List.length_map, List.length_map, List.length_map]; exact Nat.le_refl _)] at hD
      refine ⟨m, D, _, _, rfl, rfl, s3 _ _ hm, hD, ?_, ?_⟩
      · have := bd i (by omega)
        rw [List.length_map, List.length_map, List.length_map]
        exact Nat.le_trans (Nat.add_le_add this l2) (by decide)
      · refine ⟨some (.int t), rfl, fun c o hc => ?_, ?_⟩
        · rw [upd_ne (fun e => by rw [e, nm] at hc; cases hc)]
          exact s3 _ _ (s2 _ _ hc)
        · rw [upd_same, putL_more hands row ht, List.map_append]
  · rintro σ H2 ⟨y4, rfl, s2, hm⟩
    rw [List.length_map, List.take_length] at hm
    refine ⟨_, rfl, m, _, rfl, .inl ⟨.inl (.inl hm), fun p np => ?_⟩⟩
    exact q p _ (none_back s2 np) (same_then s2 np) upd_same

/-! _law_even_row -/
/-- a row of hands -/
def sp__law_even_row (K : PySem.W.Frag) : Sp := fun vs H Q _ => ∃ (a b : Addr) (ns : List Int) (n m d : Nat), vs = [.ref a, .ref b, .int (m : Int), .int (d : Int)] ∧ Scr K H b a ns ∧ Town b n H ∧ n < 60000 ∧ (2 ≤ m ∧ m ≤ 4) ∧ d ≤ 5 ∧ m ^ (d + 1) ≤ 64 ∧
  ∀ (p : Addr) (row : List Int) (H' : Hp), RowOk (m : Int) row → p ≠ b → H p = none → H' p = some (.tup (row.map V.int)) → But b H H' → Town b (n + 60) H' → (∃ zss : List (List Int), zss.length = d + 1 ∧ (∀ zs ∈ zss, zs.Perm (nums m)) ∧ (row = built m zss ∨ row = built m zss ++ (built m zss).reverse)) → Q (.ref p) H'
theorem c__law_even_row (T : Txt K mg) : Cal P w K mg base 5 "_law_even_row" ["_law_script", "_law_town", "_law_hands", "_law_degree"] (sp__law_even_row K) := by
  refine T.f__law_even_row.cal sc__law_even_row (fun _ _ _ _ _ _ us hl => match us, hl with | [_, _, _, _], _ => rfl) (fun vs H Q E h => by first | (obtain ⟨_, rfl, _⟩ := h; rfl) | (obtain ⟨_, _, rfl, _⟩ := h; rfl) | (obtain ⟨_, _, _, rfl, _⟩ := h; rfl) | (obtain ⟨_, _, _, _, rfl, _⟩ := h; rfl) | (obtain ⟨_, _, _, _, _, rfl, _⟩ := h; rfl) | (obtain ⟨_, _, _, _, _, _, rfl, _⟩ := h; rfl) | (obtain ⟨_, _, _, _, _, _, _, rfl, _⟩ := h; rfl) | (obtain ⟨_, _, _, _, _, _, _, _, rfl, _⟩ := h; rfl) | (obtain ⟨_, _, _, _, _, _, _, _, _, rfl, _⟩ := h; rfl) | (obtain ⟨_, _, _, _, _, _, _, _, _, _, rfl, _⟩ := h; rfl) | (obtain ⟨_, _, _, _, _, _, _, _, _, _, _, rfl, _⟩ := h; rfl) | (obtain ⟨_, _, _, _, _, _, _, _, _, _, _, _, rfl, _⟩ := h; rfl) | (obtain ⟨_, _, _, _, _, _, _, _, _, _, _, _, _, rfl, _⟩ := h; rfl)) (fun cdv A outer s H vs Q E f hr h => ?_)
  obtain ⟨a, b, ns, n, m, d, rfl, hS, hT, hn, hm, hd, hp, q⟩ := h
  refine ⟨_, (pss_cons (ps_set (i := 4) sc__law_even_row.nd rfl (.inl rfl) (pe_callTy (kz_tuple (K := K)) (by rfl) T.b_tuple bt_tuple (pa_cons (pe_cal (c__law_order_of T) hr (by decide) (pa_cons (pv 0) (pa_cons (pv 1) (pa_cons (pv 2) pa_nil)))) pa_nil)))
    (pss_cons (ps_for PassesOwn.never rfl (pi_range1 (by rfl) T.b_range (pa_cons (pv 3) pa_nil)) (pg_name (i := 5) sc__law_even_row.nd rfl (.inl rfl)) (pss_one (ps_set (i := 4) sc__law_even_row.nd rfl (.inl rfl) (pe_cal (c__law_put T) hr (by decide) (pa_cons (pv 2) (pa_cons (pv 4) (pa_cons (pe_callTy (kz_tuple (K := K)) (by rfl) T.b_tuple bt_tuple (pa_cons (pe_cal (c__law_order_of T) hr (by decide) (pa_cons (pv 0) (pa_cons (pv 1) (pa_cons (pv 2) pa_nil)))) pa_nil)) pa_nil)))))))
    (pss_cons (ps_if (PW.pt (pw_and (pt_cmpR op_eq (pe_cal (c__law_draw T) hr (by decide) (pa_cons (pv 0) (pa_cons (pv 1) (pa_cons pe_int pa_nil)))) pe_int (nomark _)) (pw_and1 (pt_cmpR op_le (pe_op op_mul pe_int (pe_callB (kz_len (K := K)) (by rfl) T.b_len bt_len (pa_cons (pv 4) pa_nil))) pe_int (nomark _))))) (pss_one (ps_set (i := 4) sc__law_even_row.nd rfl (.inl rfl) (pe_op (kz_catT (K := K)) (pv 4) (pe_revT (K := K) (pv 4))))) pss_nil)
    (pss_one (ps_ret (pv 4)))))), ?_⟩
  walk_at "rd"
  refine ⟨a, b, ns, n, m, rfl, hS, hT, by omega, by omega, fun p1 zs H1 pm nb1 np1 hp1 b1 t1 => ?_⟩
  refine ⟨p1, _, rfl, .inl ⟨.inl (.inl hp1), fun t nt => ?_⟩⟩
  have st := same_new (o := .tup (zs.map V.int)) nt
  have ntb : t ≠ b := t1.ne_new nt
  have nt0 : H t = none := but_none b1 ntb nt
  walk_at "rd"
  have perm_mem : ∀ {zs : List Int} {m : Nat}, zs.Perm (nums m) → ∀ z ∈ zs, 0 ≤ z ∧ z < (m : Int) := fun pm z hz => nums_mem.mp (pm.mem_iff.mp hz)
  have perm_len : ∀ {zs : List Int} {m : Nat}, zs.Perm (nums m) → zs.length = m := fun pm => by rw [pm.length_eq, nums_len]
  have bd : ∀ i, i ≤ d + 1 → m ^ i ≤ 64 := fun i hi => Nat.le_trans (Nat.pow_le_pow_right (by omega) hi) hp
  refine for_range (fun i σ H2 => ∃ (y : Option V) (p : Addr) (row : List Int), σ = [some (.ref a), some (.ref b), some (.int (m : Int)), some (.int (d : Int)), some (.ref p), y] ∧ row.length = m ^ (i + 1) ∧ (∀ z ∈ row, 0 ≤ z ∧ z < (m : Int)) ∧ H p = none ∧ p ≠ b ∧ But b H H2 ∧ Town b (n + m + 4 * i) H2 ∧ H2 p = some (.tup (row.map V.int)) ∧ ∃ zss : List (List Int), zss.length = i + 1 ∧ (∀ zs ∈ zss, zs.Perm (nums m)) ∧ row = built m zss)
    ⟨none, t, zs, rfl, by rw [perm_len pm, Nat.zero_add, Nat.pow_one], perm_mem pm, nt0, ntb, b1.same st, t1.same st, upd_same, [zs], rfl, fun z hz => by rw [List.mem_singleton.mp hz]; exact pm, (built_one pm).symm⟩ ?_ ?_
  · rintro i σ H2 hi ⟨y, p, row, rfl, lr, mr, np, nb, b2, t2, hp2, zss, lz, pz, ez⟩
    have bi := bd (i + 1) (by omega)
    walk_at "rd"
    refine ⟨a, b, ns, n + m + 4 * i, m, rfl, hS.but b2, t2, by omega, by omega, fun p3 zs3 H3 pm3 nb3 np3 hp3 b3 t3 => ?_⟩
    refine ⟨p3, _, rfl, .inl ⟨.inl (.inl hp3), fun u nu => ?_⟩⟩
    have su := same_new (o := .tup (zs3.map V.int)) nu
    refine ⟨(m : Int), p, u, row, zs3, rfl, ⟨by omega, by omega⟩, .inl (.inl (su _ _ (b3 _ _ nb hp2))), .inl (.inl upd_same), by rw [perm_len pm3]; omega, by omega, fun v H4 nv s4 hv => ?_⟩
    have b4 : But b H H4 := ((b2.trans b3).same su).same s4
    have nvb : v ≠ b := (t3.same su).ne_new nv
    refine ⟨_, v, _, rfl, ?_, putL_mem (by omega), but_none ((b2.trans b3).same su) nvb nv, nvb, b4, ((t3.same su).same s4).le (by omega), hv, zs3 :: zss, by rw [List.length_cons, lz], fun z hz => ?_, by rw [ez]; rfl⟩
    · rw [putL_len, perm_len pm3, lr, Nat.pow_succ m (i + 1), Nat.mul_comm]
    · rcases List.mem_cons.mp hz with g | g
      · rw [g]
        exact pm3
      · exact pz z g
  · rintro σ H2 ⟨y, p, row, rfl, lr, mr, np, nb, b2, t2, hp2, zss, lz, pz, ez⟩
    rw [Int.toNat_natCast] at lr t2 lz
    have L1 : 1 ≤ row.length := by
      rw [lr]
      exact Nat.one_le_pow _ _ (by omega)
    have ok : RowOk (m : Int) row := ⟨by omega, by omega, fun e => by rw [e] at L1; exact absurd L1 (by decide), by rw [lr]; exact hp, mr⟩
    have fin : ∀ (p : Addr) (row : List Int) (H' : Hp), RowOk (m : Int) row → H p = none → p ≠ b → H' p = some (.tup (row.map V.int)) → But b H H' → Town b (n + 60) H' → (row = built m zss ∨ row = built m zss ++ (built m zss).reverse) →
        (tRet (tVar 4)) { nx := fun _ H' => Q .non H', rt := Q } [some (.ref a), some (.ref b), some (.int (m : Int)), some (.int (d : Int)), some (.ref p), y] H' := fun p row H' ok np nb hp b2 t2 e => ⟨_, rfl, q p row H' ok nb np hp b2 t2 ⟨zss, lz, pz, e⟩⟩
    walk_at "rd"
    refine ⟨a, b, ns, _, 3, rfl, hS.but b2, t2, by omega, by omega, fun z H3 z0 z3 b3 t3 => ?_⟩
    walk_at "rd"
    have b23 := b2.trans b3
    have hp3 := b3 _ _ nb hp2
    by_cases c1 : z = 0
    · rw [decide_eq_true (congrArg V.int c1)]
      refine iteT ?_
      have hS3 : SqT K H3 p (row.map V.int) := .inl (.inl hp3)
      walk_at "rd"
      by_cases c2 : 2 * (row.length : Int) ≤ 32
      · rw [List.length_map, decide_eq_true c2]
        refine iteT ?_
        refine ⟨_, rfl, _, rfl, p, _, rfl, hS3, fun t nt => ?_⟩
        have st := same_new (o := .tup (row.map V.int).reverse) nt
        have t4 := t3.same st
        have ne : row.map V.int ≠ [] := fun e => by
          have := congrArg List.length e
          rw [List.length_map, List.length_nil] at this
          omega
        refine ⟨p, t, _, _, rfl, rfl, seqT st hS3, .inl (.inl upd_same), by rw [List.length_reverse, List.length_map]; exact sz (by omega), fun e => absurd e ne, fun _ e => absurd (List.reverse_eq_nil_iff.mp e) ne, fun _ _ u nu => ?_⟩
        have su := same_new (o := .tup (row.map V.int ++ (row.map V.int).reverse)) nu
        refine fin u (row ++ row.reverse) _ ⟨by omega, by omega, fun e => ?_, ?_, fun z hz => ?_⟩ (but_none (b23.same st) (t4.ne_new nu) nu) (t4.ne_new nu) ?_ ((b23.same st).same su) ((t4.same su).le (by omega)) (.inr (by rw [ez]))
        · have := congrArg List.length e
          rw [List.length_append, List.length_nil] at this
          omega
        · rw [List.length_append, List.length_reverse]
          omega
        · rcases List.mem_append.mp hz with h | h
          · exact mr z h
          · exact mr z (List.mem_reverse.mp h)
        · rw [List.map_append, List.map_reverse]
          exact upd_same
      · rw [List.length_map, decide_eq_false c2]
        exact iteF (fin p row H3 ok np nb hp3 b23 (t3.le (by omega)) (.inl ez))
    · rw [decide_eq_false (fun w => c1 (V.int.inj w))]
      exact iteF (iteF (fin p row H3 ok np nb hp3 b23 (t3.le (by omega)) (.inl ez)))

/-! _law_some_row -/
/-- a new tuple of hands, of so many places at most -/
def sp__law_some_row (K : PySem.W.Frag) : Sp := fun vs H Q _ => ∃ (a b : Addr) (ns : List Int) (n : Nat) (h r : Int), vs = [.ref a, .ref b, .int h, .int r] ∧ Scr K H b a ns ∧ Town b n H ∧ n < 80000 ∧ 0 < h ∧ 0 < r ∧ r < 1000 ∧
  ∀ (p : Addr) (row : List Int) (H' : Hp), row ≠ [] → (row.length : Int) ≤ r → (∀ z ∈ row, 0 ≤ z ∧ z < h) → p ≠ b → H p = none → H' p = some (.tup (row.map V.int)) → But b H H' → Town b (n + 1001) H' → Q (.ref p) H'
theorem c__law_some_row (T : Txt K mg) : Cal P w K mg base 4 "_law_some_row" ["_law_script", "_law_town", "_law_hands", "_law_reach"] (sp__law_some_row K) := by
  refine T.f__law_some_row.cal sc__law_some_row (fun _ _ _ _ _ _ us hl => match us, hl with | [_, _, _, _], _ => rfl) (fun vs H Q E h => by first | (obtain ⟨_, rfl, _⟩ := h; rfl) | (obtain ⟨_, _, rfl, _⟩ := h; rfl) | (obtain ⟨_, _, _, rfl, _⟩ := h; rfl) | (obtain ⟨_, _, _, _, rfl, _⟩ := h; rfl) | (obtain ⟨_, _, _, _, _, rfl, _⟩ := h; rfl) | (obtain ⟨_, _, _, _, _, _, rfl, _⟩ := h; rfl) | (obtain ⟨_, _, _, _, _, _, _, rfl, _⟩ := h; rfl) | (obtain ⟨_, _, _, _, _, _, _, _, rfl, _⟩ := h; rfl) | (obtain ⟨_, _, _, _, _, _, _, _, _, rfl, _⟩ := h; rfl) | (obtain ⟨_, _, _, _, _, _, _, _, _, _, rfl, _⟩ := h; rfl) | (obtain ⟨_, _, _, _, _, _, _, _, _, _, _, rfl, _⟩ := h; rfl) | (obtain ⟨_, _, _, _, _, _, _, _, _, _, _, _, rfl, _⟩ := h; rfl) | (obtain ⟨_, _, _, _, _, _, _, _, _, _, _, _, _, rfl, _⟩ := h; rfl)) (fun cdv A outer s H vs Q E f hr h => ?_)
  obtain ⟨a, b, ns, n, h, r, rfl, hS, hT, hn, hh, hr0, hr1, q⟩ := h
  refine ⟨_, (pss_one (ps_ret (pe_callTy (kz_tuple (K := K)) (by rfl) T.b_tuple bt_tuple (pa_cons (pe_lc (own := [("_law_place", 4)]) (g := (gName 4)) (tt := tYes) rfl sc__law_some_row.nd (pi_range1 (by rfl) T.b_range (pa_cons (pe_op op_add pe_int (pe_cal (c__law_draw T) hr (by decide) (pa_cons (pv 0) (pa_cons (pv 1) (pa_cons (pv 3) pa_nil))))) pa_nil)) (blkOk_by (own := [("_law_place", 4)]) (N := ["_law_script", "_law_town", "_law_hands", "_law_reach", "_law_place"]) (sc := defScope S__law_some_row) (by decide +kernel)) (fun _ _ _ _ _ => (pg_name (i := 4) sc__law_some_row.nd rfl (.inl rfl))) (fun _ _ _ _ _ => pts_nil) (fun _ _ _ _ _ => (pe_cal (c__law_draw T) hr (by decide) (pa_cons (pv 0) (pa_cons (pv 1) (pa_cons (pv 2) pa_nil)))))) pa_nil)))), ?_⟩
  walk_at "rd"
  refine ⟨a, b, ns, n, r, rfl, hS, hT, by omega, hr0, fun z H1 z0 zr b1 t1 => ?_⟩
  walk_at "rd"
  intro D nD
  refine lct walk_range (fun z => 0 ≤ z ∧ z < h) (c := 1) t1 nD (by omega) (fun _ _ => trivial) ?_ ?_
  · rintro i x H2 H' R hi b2 t2 ⟨rfl, rfl⟩ k
    refine ⟨rfl, ?_⟩
    walk_at "rd"
    exact ⟨a, b, ns, n + 1 + 1 * i, h, rfl, hS.but (b1.trans b2), t2, by omega, hh, fun z H4 z0 zh b4 t4 => k z H4 ⟨z0, zh⟩ b4 (t4.le (by omega))⟩
  · intro zs H2 lz pz b2 t2 hD
    refine ⟨D, _, rfl, .inl ⟨.inl (.inl hD), fun p np => ?_⟩⟩
    have t3 : Town b (n + 1 + 1 * (1 + z).toNat) (upd H2 p (.tup (zs.map V.int))) := t2.same (same_new np)
    have npb : p ≠ b := t2.ne_new np
    refine q p zs _ (fun e => ?_) (by omega) pz npb (but_none (b1.trans b2) npb np) upd_same ((b1.trans b2).same (same_new np)) (t3.le (by omega))
    rw [e] at lz
    simp only [List.length_nil] at lz
    omega

/-! _law_near_even -/
theorem town_ne {b l : Addr} {n : Nat} {H : Hp} {o : HO} (h : Town b n H) (ne : l ≠ b) : Town b n (upd H l o) := by
  obtain ⟨xs, e, k⟩ := h
  exact ⟨xs, by rw [upd_ne (Ne.symm ne)]; exact e, k⟩
theorem rowOk_set {h : Int} {row : List Int} (ok : RowOk h row) (i : Nat) {v : Int} (h0 : 0 ≤ v) (h1 : v < h) : RowOk h (row.set i v) := by
  obtain ⟨a, b, c, d, e⟩ := ok
  refine ⟨a, b, fun z => c ?_, by rw [List.length_set]; exact d, fun z hz => ?_⟩
  · have := congrArg List.length z
    rw [List.length_set, List.length_nil] at this
    exact List.length_eq_zero_iff.mp this
  · rcases List.mem_or_eq_of_mem_set hz with g | g
    · exact e z g
    · rw [g]
      exact ⟨h0, h1⟩
/-- a row of hands -/
def sp__law_near_even (K : PySem.W.Frag) : Sp := fun vs H Q _ => ∃ (a b : Addr) (ns : List Int) (n m d : Nat), vs = [.ref a, .ref b, .int (m : Int), .int (d : Int)] ∧ Scr K H b a ns ∧ Town b n H ∧ n < 50000 ∧ (2 ≤ m ∧ m ≤ 4) ∧ d ≤ 5 ∧ m ^ (d + 1) ≤ 64 ∧
  ∀ (p : Addr) (row : List Int) (H' : Hp), RowOk (m : Int) row → p ≠ b → H p = none → H' p = some (.tup (row.map V.int)) → But b H H' → Town b (n + 1100) H' → (d ≤ 2 → ¬ REv (m : Int) row 10) → Q (.ref p) H'
theorem c__law_near_even (T : Txt K mg) : Cal P w K mg base 6 "_law_near_even" ["_law_script", "_law_town", "_law_hands", "_law_degree"] (sp__law_near_even K) := by
  refine T.f__law_near_even.cal sc__law_near_even (fun _ _ _ _ _ _ us hl => match us, hl with | [_, _, _, _], _ => rfl) (fun vs H Q E h => by first | (obtain ⟨_, rfl, _⟩ := h; rfl) | (obtain ⟨_, _, rfl, _⟩ := h; rfl) | (obtain ⟨_, _, _, rfl, _⟩ := h; rfl) | (obtain ⟨_, _, _, _, rfl, _⟩ := h; rfl) | (obtain ⟨_, _, _, _, _, rfl, _⟩ := h; rfl) | (obtain ⟨_, _, _, _, _, _, rfl, _⟩ := h; rfl) | (obtain ⟨_, _, _, _, _, _, _, rfl, _⟩ := h; rfl) | (obtain ⟨_, _, _, _, _, _, _, _, rfl, _⟩ := h; rfl) | (obtain ⟨_, _, _, _, _, _, _, _, _, rfl, _⟩ := h; rfl) | (obtain ⟨_, _, _, _, _, _, _, _, _, _, rfl, _⟩ := h; rfl) | (obtain ⟨_, _, _, _, _, _, _, _, _, _, _, rfl, _⟩ := h; rfl) | (obtain ⟨_, _, _, _, _, _, _, _, _, _, _, _, rfl, _⟩ := h; rfl) | (obtain ⟨_, _, _, _, _, _, _, _, _, _, _, _, _, rfl, _⟩ := h; rfl)) (fun cdv A outer s H vs Q E f hr h => ?_)
  obtain ⟨a, b, ns, n, m, d, rfl, hS, hT, hn, hm, hd, hp, q⟩ := h
  refine ⟨_, (pss_cons (ps_set (i := 4) sc__law_near_even.nd rfl (.inl rfl) (pe_cal (c__law_draw T) hr (by decide) (pa_cons (pv 0) (pa_cons (pv 1) (pa_cons pe_int pa_nil)))))
    (pss_cons (ps_if (pt_cmpR op_eq (pv 4) pe_int (nomark _)) (pss_one (ps_ret (pe_cal (c__law_some_row T) hr (by decide) (pa_cons (pv 0) (pa_cons (pv 1) (pa_cons (pv 2) (pa_cons pe_int pa_nil))))))) pss_nil)
    (pss_cons (ps_set (i := 5) sc__law_near_even.nd rfl (.inl rfl) (pe_callTy (kz_list (K := K)) (by rfl) T.b_list bt_list (pa_cons (pe_cal (c__law_even_row T) hr (by decide) (pa_cons (pv 0) (pa_cons (pv 1) (pa_cons (pv 2) (pa_cons (pv 3) pa_nil))))) pa_nil)))
    (pss_cons (ps_if (pt_cmpR op_eq (pv 4) pe_int (nomark _)) (pss_one (ps_asg (pe_cal (c__law_draw T) hr (by decide) (pa_cons (pv 0) (pa_cons (pv 1) (pa_cons (pv 2) pa_nil)))) (pg_sub (pv 5) (pe_cal (c__law_draw T) hr (by decide) (pa_cons (pv 0) (pa_cons (pv 1) (pa_cons (pe_callB (kz_len (K := K)) (by rfl) T.b_len bt_len (pa_cons (pv 5) pa_nil)) pa_nil)))) set_list))) pss_nil)
    (pss_cons (ps_if (pt_cmpR op_eq (pv 4) pe_int (nomark _)) (pss_cons (ps_par (i := 6) (j := 7) rfl sc__law_near_even.nd rfl rfl (by decide) rfl rfl (pa_cons (pe_cal (c__law_draw T) hr (by decide) (pa_cons (pv 0) (pa_cons (pv 1) (pa_cons (pe_callB (kz_len (K := K)) (by rfl) T.b_len bt_len (pa_cons (pv 5) pa_nil)) pa_nil)))) (pa_cons (pe_cal (c__law_draw T) hr (by decide) (pa_cons (pv 0) (pa_cons (pv 1) (pa_cons (pe_callB (kz_len (K := K)) (by rfl) T.b_len bt_len (pa_cons (pv 5) pa_nil)) pa_nil)))) pa_nil)) (by rfl))
    (pss_one (ps_asg (pe_tup (pa_cons (pe_ix (kz_ixL (K := K)) (pv 5) (pv 7) (fun _ _ => rfl)) (pa_cons (pe_ix (kz_ixL (K := K)) (pv 5) (pv 6) (fun _ _ => rfl)) pa_nil))) (kz_gtup (K := K) 2 rfl (pgs_cons (pg_sub (pv 5) (pv 6) set_list) (pgs_cons (pg_sub (pv 5) (pv 7) set_list) pgs_nil)))))) pss_nil)
    (pss_one (ps_ret (pe_callTy (kz_tuple (K := K)) (by rfl) T.b_tuple bt_tuple (pa_cons (pv 5) pa_nil))))))))), ?_⟩
  walk_at "rd"
  refine ⟨a, b, ns, n, 4, rfl, hS, hT, by omega, by omega, fun z H1 z0 z4 b1 t1 => ?_⟩
  have hS1 := hS.but b1
  refine ⟨_, rfl, ?_⟩
  walk_at "rd"
  have fin : ∀ (l : Addr) (row : List Int) (H' : Hp), RowOk (m : Int) row → H l = none → l ≠ b → H' l = some (.lst (row.map V.int)) → But b H H' → Town b (n + 1100) H' → (d ≤ 2 → ¬ REv (m : Int) row 10) → rTupQ K [.ref l] H' Q := fun l row H' ok nl nb hl bt tw nr =>
    ⟨l, _, rfl, .inl ⟨.inl (.inl hl), fun p np => q p row _ ok (tw.ne_new np) (but_none bt (tw.ne_new np) np) upd_same (bt.same (same_new np)) (tw.same (same_new np)) nr⟩⟩
  have ixm : ∀ (row : List Int) (j : Int), 0 ≤ j → j < row.length → ixN (row.map V.int).length j = some j.toNat := fun row j h0 h1 => by
    unfold ixN
    rw [if_pos (by omega), if_pos (by rw [List.length_map]; omega)]
  by_cases c0 : z = 0
  · rw [decide_eq_true (congrArg V.int c0)]
    refine iteT ?_
    walk_at "rd"
    exact ⟨a, b, ns, n + 1, m, 12, rfl, hS1, t1, by omega, by omega, by omega, by omega, fun p row H2 ne lr mr nb np hp2 b2 t2 => q p row H2 ⟨by omega, by omega, ne, by omega, mr⟩ nb (but_none b1 nb np) hp2 (b1.trans b2) (t2.le (by omega)) (fun _ => short_rev ⟨by omega, by omega, ne, by omega, mr⟩ (by omega))⟩
  rw [decide_eq_false (fun w => c0 (V.int.inj w))]
  refine iteF ?_
  walk_at "rd"
  refine ⟨a, b, ns, n + 1, m, d, rfl, hS1, t1, by omega, hm, hd, hp, fun p row H2 ok nb np hp2 b2 t2 bz => ?_⟩
  refine ⟨p, _, rfl, .inr (.inl (.inl hp2)), fun l nl => ?_⟩
  have sl := same_new (o := .lst (row.map V.int)) nl
  have b3 := (b1.trans b2).same sl
  have t3 := t2.same sl
  have hS3 := hS.but b3
  have nlb : l ≠ b := t2.ne_new nl
  have nl0 : H l = none := but_none (b1.trans b2) nlb nl
  have hl3 : (upd H2 l (.lst (row.map V.int))) l = some (.lst (row.map V.int)) := upd_same
  generalize upd H2 l (.lst (row.map V.int)) = H3 at b3 t3 hS3 hl3 ⊢
  change tSeq _ _ _ [some (.ref a), some (.ref b), some (.int (m : Int)), some (.int (d : Int)), some (.int z), some (.ref l), none, none] H3
  obtain ⟨zss, lz, pz, ez⟩ := bz
  have nr : d ≤ 2 → ¬ REv (m : Int) row 10 := fun hd2 => by
    have bn := built_not hm (zss := zss) (by omega) pz
    rcases ez with e | e
    · rw [e]
      exact bn.1
    · rw [e]
      exact bn.2
  have r1 : REv (m : Int) row 2 ∨ row.length ≤ 10 := by
    have br := built_rev hm pz
    rcases ez with e | e
    · by_cases c : d = 0
      · right
        have l1 : zss.length = 1 := by omega
        match zss, l1 with
        | [zs], _ =>
          rw [e, built_one (pz zs List.mem_cons_self), perm_len (pz zs List.mem_cons_self)]
          omega
      · rw [e]
        exact .inl (br.le (by omega))
    · rw [e]
      exact .inl (twice_rev (by omega) (br.le (by omega)))
  have r0 : REv (m : Int) row 1 := by
    have br := built_rev hm pz
    rcases ez with e | e
    · rw [e]
      exact br.le (by omega)
    · rw [e]
      exact (twice_rev (by omega) (br.le (by omega))).le (by omega)
  have ll : 0 < row.length ∧ row.length ≤ 64 := ⟨List.length_pos_iff.mpr ok.2.2.1, ok.2.2.2.1⟩
  have lm : ((row.map V.int).length : Int) = (row.length : Int) := by rw [List.length_map]
  refine ⟨_, rfl, ?_⟩
  walk_at "rd"
  by_cases c1 : z = 1
  · rw [decide_eq_true (congrArg V.int c1)]
    refine iteT ?_
    walk_at "rd"
    refine ⟨a, b, ns, n + 1 + 60, m, rfl, hS3, t3, by omega, by omega, fun v H4 v0 v1 b4 t4 => ?_⟩
    have hS4 := hS3.but b4
    have hl4 := b4 _ _ nlb hl3
    have hl4' : SqL K H4 l (row.map V.int) := .inl (.inl hl4)
    walk_at "rd"
    refine ⟨a, b, ns, n + 1 + 60 + 1, row.length, by rw [List.length_map]; rfl, hS4, t4, by omega, by omega, fun j H5 j0 j1 b5 t5 => ?_⟩
    refine ⟨l, _, j, j.toNat, rfl, rfl, b5 _ _ nlb hl4, ixm row j j0 j1, ?_⟩
    rw [← List.map_set]
    refine ⟨_, rfl, ?_⟩
    walk_at "rd"
    rw [decide_eq_false (fun w => by have := V.int.inj w; omega)]
    refine iteF ?_
    walk_at "rd"
    refine fin l (row.set j.toNat v) _ (rowOk_set ok _ v0 v1) nl0 nlb upd_same (fun c o nc hc => ?_) ((town_ne t5 nlb).le (by omega)) (fun hd2 => one_rev ok r0 (by omega) v0 v1 (nr hd2))
    rw [upd_ne (fun e => by rw [e, nl0] at hc; cases hc)]
    exact b5 _ _ nc (b4 _ _ nc (b3 _ _ nc hc))
  rw [decide_eq_false (fun w => c1 (V.int.inj w))]
  refine iteF ?_
  refine ⟨_, rfl, ?_⟩
  walk_at "rd"
  by_cases c2 : z = 2
  · rw [decide_eq_true (congrArg V.int c2)]
    refine iteT ?_
    have hl3' : SqL K H3 l (row.map V.int) := .inl (.inl hl3)
    walk_at "rd"
    refine ⟨a, b, ns, n + 1 + 60, row.length, by rw [List.length_map]; rfl, hS3, t3, by omega, by omega, fun i H4 i0 i1 b4 t4 => ?_⟩
    have hS4 := hS3.but b4
    have hl4 := b4 _ _ nlb hl3
    have hl4' : SqL K H4 l (row.map V.int) := .inl (.inl hl4)
    walk_at "rd"
    refine ⟨a, b, ns, n + 1 + 60 + 1, row.length, by rw [List.length_map]; rfl, hS4, t4, by omega, by omega, fun j H5 j0 j1 b5 t5 => ?_⟩
    have hl5 := b5 _ _ nlb hl4
    have hl5' : SqL K H5 l (row.map V.int) := .inl (.inl hl5)
    refine ⟨_, _, rfl, ?_⟩
    dsimp only [List.set]
    refine ⟨_, rfl, _, rfl, _, _, _, _, rfl, rfl, hl5', at_intI j0 j1, ?_⟩
    refine ⟨_, rfl, _, rfl, _, _, _, _, rfl, rfl, hl5', at_intI i0 i1, ?_⟩
    refine ⟨by show 2 ≤ sizeLine; decide, fun u nu => ?_⟩
    have su := same_new (o := .tup [.int (row.getD j.toNat 0), .int (row.getD i.toNat 0)]) nu
    refine ⟨u, _, rfl, .inl (.inl upd_same), rfl, ?_⟩
    have mi := ok.2.2.2.2 _ (List.getElem_mem (by omega : i.toNat < row.length))
    have mj := ok.2.2.2.2 _ (List.getElem_mem (by omega : j.toNat < row.length))
    have gi : row.getD i.toNat 0 = row[i.toNat]'(by omega) := by rw [List.getD_eq_getElem?_getD, List.getElem?_eq_getElem (by omega)]; rfl
    have gj : row.getD j.toNat 0 = row[j.toNat]'(by omega) := by rw [List.getD_eq_getElem?_getD, List.getElem?_eq_getElem (by omega)]; rfl
    rw [← gi] at mi
    rw [← gj] at mj
    have ok1 := rowOk_set ok i.toNat mj.1 mj.2
    have ok2 := rowOk_set ok1 j.toNat mi.1 mi.2
    have t6 := t5.same su
    have b6 : But b H (upd H5 u (.tup [.int (row.getD j.toNat 0), .int (row.getD i.toNat 0)])) := ((b3.trans b4).trans b5).same su
    have hl6 := su _ _ hl5
    generalize upd H5 u (.tup [.int (row.getD j.toNat 0), .int (row.getD i.toNat 0)]) = H6 at t6 b6 hl6 ⊢
    refine ⟨_, _, rfl, _, rfl, _, rfl, l, _, i, i.toNat, rfl, rfl, hl6, ixm row i i0 i1, ?_⟩
    rw [← List.map_set]
    refine ⟨_, _, rfl, _, rfl, _, rfl, l, _, j, j.toNat, rfl, rfl, upd_same, ixm _ j j0 (by rw [List.length_set]; exact j1), ?_⟩
    rw [← List.map_set]
    walk_at "rd"
    refine fin l _ _ ok2 nl0 nlb upd_same (fun c o nc hc => ?_) ((town_ne (town_ne t6 nlb) nlb).le (by omega)) (fun hd2 => ?_)
    · have ncl : c ≠ l := fun e => by rw [e, nl0] at hc; cases hc
      rw [upd_ne ncl, upd_ne ncl]
      exact b6 _ _ nc hc
    · rw [gi, gj] at ok2 ⊢
      exact two_rev ok r1 (by omega) (by omega) (nr hd2) ok2
  rw [decide_eq_false (fun w => c2 (V.int.inj w))]
  refine iteF ?_
  walk_at "rd"
  exact fin l row H3 ok nl0 nlb hl3 b3 (t3.le (by omega)) nr

/-! _law_pairs -/
def sp__law_pairs (K : PySem.W.Frag) : Sp := fun vs H Q _ => ∃ (m : Nat), vs = [.int (m : Int)] ∧ m ≤ 10 ∧ 
  ∀ (p : Addr) (rs : List V) (H' : Hp), H p = none → Same H H' → H' p = some (.lst rs) → rs.length ≤ 100 → Prs m m rs H' → Q (.ref p) H'
theorem c__law_pairs (T : Txt K mg) : Cal P w K mg base 1 "_law_pairs" ["_law_hands"] (sp__law_pairs K) := by
  refine T.f__law_pairs.cal sc__law_pairs (fun _ _ _ _ _ _ us hl => match us, hl with | [_], _ => rfl) (fun vs H Q E h => by first | (obtain ⟨_, rfl, _⟩ := h; rfl) | (obtain ⟨_, _, rfl, _⟩ := h; rfl) | (obtain ⟨_, _, _, rfl, _⟩ := h; rfl) | (obtain ⟨_, _, _, _, rfl, _⟩ := h; rfl) | (obtain ⟨_, _, _, _, _, rfl, _⟩ := h; rfl) | (obtain ⟨_, _, _, _, _, _, rfl, _⟩ := h; rfl) | (obtain ⟨_, _, _, _, _, _, _, rfl, _⟩ := h; rfl) | (obtain ⟨_, _, _, _, _, _, _, _, rfl, _⟩ := h; rfl) | (obtain ⟨_, _, _, _, _, _, _, _, _, rfl, _⟩ := h; rfl) | (obtain ⟨_, _, _, _, _, _, _, _, _, _, rfl, _⟩ := h; rfl) | (obtain ⟨_, _, _, _, _, _, _, _, _, _, _, rfl, _⟩ := h; rfl) | (obtain ⟨_, _, _, _, _, _, _, _, _, _, _, _, rfl, _⟩ := h; rfl) | (obtain ⟨_, _, _, _, _, _, _, _, _, _, _, _, _, rfl, _⟩ := h; rfl)) (fun cdv A outer s H vs Q E f hr h => ?_)
  obtain ⟨m, rfl, hm, q⟩ := h
  refine ⟨_, (pss_cons (ps_set (i := 1) sc__law_pairs.nd rfl (.inl rfl) (pe_lst pa_nil))
    (pss_cons (ps_for PassesOwn.never rfl (pi_range1 (by rfl) T.b_range (pa_cons (pv 0) pa_nil)) (pg_name (i := 2) sc__law_pairs.nd rfl (.inr rfl)) (pss_one (ps_expr (pe_bm PySem.F.plainAttrs_list PySem.F.slot_list_extend PySem.F.type_list_extend mt_extend (pv 1) (pa_cons (pe_lc (own := [("_law_other", 3)]) (g := (gName 3)) (tt := tYes) rfl sc__law_pairs.nd (pi_range2 (by rfl) T.b_range (pa_cons (pe_op op_add (pv 2) pe_int) (pa_cons (pv 0) pa_nil))) (blkOk_by (own := [("_law_other", 3)]) (N := ["_law_hands", "_law_made", "_law_one", "_law_other"]) (sc := defScope S__law_pairs) (by decide +kernel)) (fun _ _ _ _ _ => (pg_name (i := 3) sc__law_pairs.nd rfl (.inl rfl))) (fun _ _ _ _ _ => pts_nil) (fun _ _ _ _ _ => (pe_tup (pa_cons (pv 2) (pa_cons (pv 3) pa_nil))))) pa_nil)))))
    (pss_one (ps_ret (pv 1))))), ?_⟩
  walk_at "rd"
  intro p0 n0
  walk_at "rd"
  refine for_range (fun i σ H2 => ∃ (y : Option V) (rs : List V), σ = [some (.int (m : Int)), some (.ref p0), y, none] ∧ Same H H2 ∧ rs.length ≤ 10 * i ∧ Prs i m rs H2 ∧ H2 p0 = some (.lst rs)) ⟨none, [], rfl, same_new n0, Nat.zero_le _, ⟨fun _ h => (nomatch h), fun _ _ _ _ h => absurd h (Nat.not_lt_zero _)⟩, upd_same⟩ ?_ ?_
  · rintro i σ H2 hi ⟨y, rs, rfl, s2, lr, pr, hp⟩
    refine ⟨_, rfl, .inl ⟨rfl, _, .inl (.inl hp)⟩, ?_⟩
    walk_at "rd"
    intro D nD
    refine lcr walk_range nD (by omega) (fun j => .tup [.int (i : Int), .int ((i + 1 + j : Nat) : Int)]) (fun _ _ => trivial) ?_ ?_
    · rintro j x H3 H4 R hj s3 ⟨rfl, rfl⟩ k
      refine ⟨rfl, ?_⟩
      walk_at "rd"
      refine ⟨by show 2 ≤ sizeLine; decide, fun u nu => k u _ nu (same_new nu) ?_⟩
      rw [upd_same]
      have e1 : (0 + (i : Int)) = (i : Int) := Int.zero_add _
      have e2 : (0 + (i : Int) + 1 + (j : Int)) = ((i + 1 + j : Nat) : Int) := by omega
      show some (HO.tup [.int (0 + (i : Int)), .int (0 + (i : Int) + 1 + (j : Int))]) = _
      rw [e2, e1]
    · intro xs H3 lx s3 hx hD
      have pr3 : Prs i m rs H3 := pr.keep fun u z h => s3 _ _ h
      have hp3 := s3 _ _ hp
      have pD : p0 ≠ D := fun e => by
        rw [e, nD] at hp
        cases hp
      refine ⟨p0, D, _, _, rfl, rfl, hp3, hD, by rw [lx]; exact Nat.le_trans (show _ ≤ 1000 by omega) (by decide), ?_⟩
      refine ⟨_, _, rfl, ?_, ?_, ?_, upd_same⟩
      · intro c o hc
        rw [upd_ne (ne_of_none hc n0)]
        exact s3 _ _ (s2 _ _ hc)
      · rw [List.length_append, lx]
        omega
      · refine Prs.next (pr3.keep fun u z h => ?_) (by omega) fun j hj => ?_
        · rw [upd_ne (fun e => by rw [e, hp3] at h; cases h)]
          exact h
        · obtain ⟨u, e, h⟩ := hx j (by omega)
          exact ⟨_, e, u, rfl, by rw [upd_ne (fun e => by rw [e, hp3] at h; cases h)]; exact h⟩
  · rintro σ H2 ⟨y, rs, rfl, s2, lr, pr, hp⟩
    exact ⟨_, rfl, q p0 rs H2 n0 s2 hp (by omega) pr⟩

/-! _law_power -/
def sp__law_power (K : PySem.W.Frag) : Sp := fun vs H Q _ => ∃ (a : Int) (k : Nat), vs = [.int a, .int (k : Int)] ∧ (-(2 ^ 64) < a ∧ a < 2 ^ 64) ∧ k < 1000000 ∧ Q (.int (a ^ k)) H
theorem c__law_power (T : Txt K mg) : Cal P w K mg base 1 "_law_power" ["_law_number", "_law_many"] (sp__law_power K) := by
  refine T.f__law_power.cal sc__law_power (fun _ _ _ _ _ _ us hl => match us, hl with | [_, _], _ => rfl) (fun vs H Q E h => by first | (obtain ⟨_, rfl, _⟩ := h; rfl) | (obtain ⟨_, _, rfl, _⟩ := h; rfl) | (obtain ⟨_, _, _, rfl, _⟩ := h; rfl) | (obtain ⟨_, _, _, _, rfl, _⟩ := h; rfl) | (obtain ⟨_, _, _, _, _, rfl, _⟩ := h; rfl) | (obtain ⟨_, _, _, _, _, _, rfl, _⟩ := h; rfl) | (obtain ⟨_, _, _, _, _, _, _, rfl, _⟩ := h; rfl) | (obtain ⟨_, _, _, _, _, _, _, _, rfl, _⟩ := h; rfl) | (obtain ⟨_, _, _, _, _, _, _, _, _, rfl, _⟩ := h; rfl) | (obtain ⟨_, _, _, _, _, _, _, _, _, _, rfl, _⟩ := h; rfl) | (obtain ⟨_, _, _, _, _, _, _, _, _, _, _, rfl, _⟩ := h; rfl) | (obtain ⟨_, _, _, _, _, _, _, _, _, _, _, _, rfl, _⟩ := h; rfl) | (obtain ⟨_, _, _, _, _, _, _, _, _, _, _, _, _, rfl, _⟩ := h; rfl)) (fun cdv A outer s H vs Q E f hr h => ?_)
  obtain ⟨a, k, rfl, ha, hk, q⟩ := h
  refine ⟨_, (pss_cons (ps_set (i := 2) sc__law_power.nd rfl (.inl rfl) pe_int)
    (pss_cons (ps_for PassesOwn.never rfl (pi_range1 (by rfl) T.b_range (pa_cons (pv 1) pa_nil)) (pg_name (i := 3) sc__law_power.nd rfl (.inl rfl)) (pss_one (ps_set (i := 2) sc__law_power.nd rfl (.inl rfl) (pe_op op_mul (pv 2) (pv 0)))))
    (pss_one (ps_ret (pv 2))))), ?_⟩
  walk_at "rd"
  refine for_range (fun i σ H2 => ∃ y3 : Option V, σ = [some (.int a), some (.int (k : Int)), some (.int (a ^ i)), y3] ∧ H2 = H) ⟨none, by rw [Int.pow_zero]; rfl, rfl⟩ ?_ ?_
  · rintro i σ H2 hi ⟨y3, rfl, rfl⟩
    refine ⟨_, rfl, _, rfl, _, _, rfl, rfl, .inr ha, some (.int (0 + (i : Int))), ?_, rfl⟩
    rw [Int.pow_succ]
    rfl
  · rintro σ H2 ⟨y3, rfl, rfl⟩
    exact ⟨_, rfl, q⟩

/-! _law_smooth_worths -/
def sp__law_smooth_worths (K : PySem.W.Frag) : Sp := fun vs H Q _ => ∃ (a b : Addr) (ns : List Int) (n : Nat) (m : Nat) (d : Nat), vs = [.ref a, .ref b, .int (m : Int), .int (d : Int)] ∧ Scr K H b a ns ∧ Town b n H ∧ n < 80000 ∧ 0 < m ∧ m ≤ 1000 ∧ d ≤ 20 ∧
  ∀ (p : Addr) (cs : List Int) (H' : Hp), cs.length = d + 1 → p ≠ b → H p = none → H' p = some (.tup ((line (poly cs) m).map V.int)) → But b H H' → Town b (n + 21) H' → Q (.ref p) H'
theorem c__law_smooth_worths (T : Txt K mg) : Cal P w K mg base 4 "_law_smooth_worths" ["_law_script", "_law_town", "_law_places", "_law_degree"] (sp__law_smooth_worths K) := by
  refine T.f__law_smooth_worths.cal sc__law_smooth_worths (fun _ _ _ _ _ _ us hl => match us, hl with | [_, _, _, _], _ => rfl) (fun vs H Q E h => by first | (obtain ⟨_, rfl, _⟩ := h; rfl) | (obtain ⟨_, _, rfl, _⟩ := h; rfl) | (obtain ⟨_, _, _, rfl, _⟩ := h; rfl) | (obtain ⟨_, _, _, _, rfl, _⟩ := h; rfl) | (obtain ⟨_, _, _, _, _, rfl, _⟩ := h; rfl) | (obtain ⟨_, _, _, _, _, _, rfl, _⟩ := h; rfl) | (obtain ⟨_, _, _, _, _, _, _, rfl, _⟩ := h; rfl) | (obtain ⟨_, _, _, _, _, _, _, _, rfl, _⟩ := h; rfl) | (obtain ⟨_, _, _, _, _, _, _, _, _, rfl, _⟩ := h; rfl) | (obtain ⟨_, _, _, _, _, _, _, _, _, _, rfl, _⟩ := h; rfl) | (obtain ⟨_, _, _, _, _, _, _, _, _, _, _, rfl, _⟩ := h; rfl) | (obtain ⟨_, _, _, _, _, _, _, _, _, _, _, _, rfl, _⟩ := h; rfl) | (obtain ⟨_, _, _, _, _, _, _, _, _, _, _, _, _, rfl, _⟩ := h; rfl)) (fun cdv A outer s H vs Q E f hr h => ?_)
  obtain ⟨a, b, ns, n, m, d, rfl, hS, hT, hn, hm0, hm, hd, q⟩ := h
  refine ⟨_, (pss_cons (ps_setLc (i := 4) (own := [("_law_k", 7)]) (g := (gName 7)) (tt := tYes) rfl sc__law_smooth_worths.nd rfl rfl (sw_true rfl rfl rfl (by decide +kernel)) (pi_range1 (by rfl) T.b_range (pa_cons (pe_op op_add (pv 3) pe_int) pa_nil)) (blkOk_by (own := [("_law_k", 7)]) (N := ["_law_script", "_law_town", "_law_places", "_law_degree", "_law_parts", "_law_made", "_law_place", "_law_k", "_law_part"]) (sc := defScope S__law_smooth_worths) (by decide +kernel)) (fun _ _ _ _ _ => (pg_name (i := 7) sc__law_smooth_worths.nd rfl (.inl rfl))) (fun _ _ _ _ _ => pts_nil) (fun _ _ _ _ _ => (pe_op op_sub (pe_cal (c__law_draw T) hr (by decide) (pa_cons (pv 0) (pa_cons (pv 1) (pa_cons pe_int pa_nil)))) pe_int)))
    (pss_cons (ps_set (i := 5) sc__law_smooth_worths.nd rfl (.inl rfl) (pe_lst pa_nil))
    (pss_cons (ps_for PassesOwn.never rfl (pi_range1 (by rfl) T.b_range (pa_cons (pv 2) pa_nil)) (pg_name (i := 6) sc__law_smooth_worths.nd rfl (.inr rfl)) (pss_one (ps_expr (pe_bm PySem.F.plainAttrs_list PySem.F.slot_list_append PySem.F.type_list_append mt_append (pv 5) (pa_cons (pe_callB (kz_sum (K := K) rfl) (by rfl) T.b_sum bt_sum (pa_cons (pe_lc (own := [("_law_k", 7), ("_law_part", 8)]) (g := (gTup K 2 (gCons (gName 7) (gCons (gName 8) gNil)))) (tt := tYes) rfl sc__law_smooth_worths.nd (kz_enum (K := K) (by rfl) T.b_enumerate (pa_cons (pv 4) pa_nil)) (blkOk_by (own := [("_law_k", 7), ("_law_part", 8)]) (N := ["_law_script", "_law_town", "_law_places", "_law_degree", "_law_parts", "_law_made", "_law_place", "_law_k", "_law_part"]) (sc := defScope S__law_smooth_worths) (by decide +kernel)) (fun _ _ _ _ _ => (kz_gtup (K := K) 2 rfl (pgs_cons (pg_name (i := 7) sc__law_smooth_worths.nd rfl (.inl rfl)) (pgs_cons (pg_name (i := 8) sc__law_smooth_worths.nd rfl (.inl rfl)) pgs_nil)))) (fun _ _ _ _ _ => pts_nil) (fun _ _ _ _ _ => (pe_op op_mul (pv 8) (pe_cal (c__law_power T) hr (by decide) (pa_cons (pv 6) (pa_cons (pv 7) pa_nil)))))) pa_nil)) pa_nil)))))
    (pss_one (ps_ret (pe_callTy (kz_tuple (K := K)) (by rfl) T.b_tuple bt_tuple (pa_cons (pv 5) pa_nil))))))), ?_⟩
  walk_at "rd"
  intro D nD
  refine lct walk_range (fun z => -9 ≤ z ∧ z ≤ 9) (c := 1) hT nD (by omega) (fun _ _ => trivial) ?_ ?_
  · rintro i x H2 H' R hi b2 t2 ⟨rfl, rfl⟩ k
    refine ⟨rfl, ?_⟩
    walk_at "rd"
    refine ⟨a, b, ns, n + 1 * i, 19, rfl, hS.but b2, t2, by omega, by omega, fun z H4 z0 zh b4 t4 => ?_⟩
    walk_at "rd"
    exact k (z - 9) H4 ⟨by omega, by omega⟩ b4 (t4.le (by omega))
  intro cs H2 lc hc b2 t2 hD
  have lc2 : cs.length = d + 1 := by omega
  have nDb : D ≠ b := hT.ne_new nD
  have nDH : H D = none := nD
  change tSeq _ _ _ [some (.ref a), some (.ref b), some (.int (m : Int)), some (.int (d : Int)), some (.ref D), none, none, none, none] H2
  walk_at "rd"
  intro M nM
  have sM := same_new (o := .lst []) nM
  have nMb : M ≠ b := t2.ne_new nM
  have nMH : H M = none := but_none b2 nMb nM
  have nMD : M ≠ D := fun e => by
    rw [e, hD] at nM
    cases nM
  walk_at "rd"
  refine for_range (fun i σ H3 => ∃ y6, σ = [some (.ref a), some (.ref b), some (.int (m : Int)), some (.int (d : Int)), some (.ref D), some (.ref M), y6, none, none] ∧ But b H H3 ∧ Town b (n + 21) H3 ∧ H3 D = some (.lst (cs.map V.int)) ∧ H3 M = some (.lst ((line (poly cs) i).map V.int)))
    ⟨none, rfl, b2.same sM, (t2.same sM).le (by omega), sM _ _ hD, upd_same⟩ ?_ ?_
  · rintro i σ H3 hi ⟨y6, rfl, b3, t3, hD3, hM3⟩
    refine ⟨_, rfl, .inl ⟨rfl, _, .inl (.inl hM3)⟩, ?_⟩
    refine ⟨_, rfl, D, _, rfl, .inl (.inl hD3), fun E nE => ?_⟩
    have zl : (cs.zipIdx.map fun p => V.int (p.1 * (i : Int) ^ p.2)).length = cs.length := by rw [List.length_map, List.length_zipIdx]
    refine lcp (walk_enum (xs := cs.map V.int)) nE (fun j => (cs.zipIdx.map fun p => V.int (p.1 * (i : Int) ^ p.2)).take j) rfl (fun j _ => ?_) (fun H4 s4 => .inl (.inl (s4 _ _ hD3))) ?_ ?_
    · rw [List.length_take, zl]
      omega
    · rintro j x H4 H5 R N hj s4 ⟨T1, v1, v2, rfl, nT, rfl, h1, h2⟩ k1 _
      cases h1
      obtain ⟨c, e2, rfl⟩ := map_at h2
      obtain ⟨c1, c2⟩ := hc c (List.mem_of_getElem? e2)
      refine ⟨T1, _, rfl, .inl (.inl upd_same), rfl, _, _, rfl, _, _, rfl, rfl, rfl, ?_⟩
      walk_at "rd"
      rw [List.length_map] at hj
      refine ⟨by omega, ?_⟩
      · refine ⟨_, _, rfl, rfl, .inl ⟨by omega, by omega⟩, k1 _ _ (same_new nT) ?_⟩
        rw [List.take_add_one, List.getElem?_map, List.getElem?_zipIdx, e2, Int.zero_add]
        simp
    · intro H4 s4 hE
      rw [List.take_of_length_le (by rw [zl, List.length_map]; exact Nat.le_refl _)] at hE
      refine ⟨E, cs.zipIdx.map fun p => p.1 * (i : Int) ^ p.2, rfl, ?_, M, _, _, rfl, rfl, s4 _ _ hM3, szl ?_, ?_⟩
      · rw [List.map_map]
        exact .inl (.inl hE)
      · rw [List.length_map, line_len]
        omega
      · have e : (line (poly cs) (i + 1)).map V.int = (line (poly cs) i).map V.int ++ [V.int ((cs.zipIdx.map fun p => p.1 * (i : Int) ^ p.2).sum)] := by
          rw [line, List.range_succ, List.map_append, List.map_append]
          rfl
        refine ⟨some (.int (0 + (i : Int))), rfl, fun c o nc hc => ?_, ?_, ?_, ?_⟩
        · rw [upd_ne (fun z => by rw [z, nMH] at hc; cases hc)]
          exact s4 _ _ (b3 _ _ nc hc)
        · obtain ⟨xs, hx, lx⟩ := t3
          exact ⟨xs, by rw [upd_ne (Ne.symm nMb)]; exact s4 _ _ hx, lx⟩
        · rw [upd_ne (Ne.symm nMD)]
          exact s4 _ _ hD3
        · rw [upd_same, e]
  · rintro σ H3 ⟨y6, rfl, b3, t3, hD3, hM3⟩
    refine ⟨_, rfl, M, _, rfl, .inl ⟨.inl (.inl hM3), fun p np => ?_⟩⟩
    have npb : p ≠ b := t3.ne_new np
    exact q p cs _ lc2 npb (but_none b3 npb np) upd_same (b3.same (same_new np)) (t3.same (same_new np))

/-! is_whole -/
def sp_is_whole (K : PySem.W.Frag) : Sp := fun vs H Q _ => ∃ (v : V) (b : Bool), vs = [v] ∧ Wh K H v b ∧ Q (.bl b) H
theorem c_is_whole (T : Txt K mg) : Cal P w K mg base 1 "is_whole" ["thing"] (sp_is_whole K) := by
  refine T.f_is_whole.cal sc_is_whole (fun _ _ _ _ _ _ us hl => match us, hl with | [_], _ => rfl) (fun vs H Q E h => by first | (obtain ⟨_, rfl, _⟩ := h; rfl) | (obtain ⟨_, _, rfl, _⟩ := h; rfl) | (obtain ⟨_, _, _, rfl, _⟩ := h; rfl) | (obtain ⟨_, _, _, _, rfl, _⟩ := h; rfl) | (obtain ⟨_, _, _, _, _, rfl, _⟩ := h; rfl) | (obtain ⟨_, _, _, _, _, _, rfl, _⟩ := h; rfl) | (obtain ⟨_, _, _, _, _, _, _, rfl, _⟩ := h; rfl) | (obtain ⟨_, _, _, _, _, _, _, _, rfl, _⟩ := h; rfl) | (obtain ⟨_, _, _, _, _, _, _, _, _, rfl, _⟩ := h; rfl) | (obtain ⟨_, _, _, _, _, _, _, _, _, _, rfl, _⟩ := h; rfl) | (obtain ⟨_, _, _, _, _, _, _, _, _, _, _, rfl, _⟩ := h; rfl) | (obtain ⟨_, _, _, _, _, _, _, _, _, _, _, _, rfl, _⟩ := h; rfl) | (obtain ⟨_, _, _, _, _, _, _, _, _, _, _, _, _, rfl, _⟩ := h; rfl)) (fun cdv A outer s H vs Q E f hr h => ?_)
  obtain ⟨v, b, rfl, hw, q⟩ := h
  refine ⟨_, (pss_one (ps_ret (pe_and (pe_callB (kz_isi (K := K)) (by rfl) T.b_isinstance bt_isinstance (pa_cons (pv 0) (pa_cons (pe_ty (by rfl) T.b_int bt_int) pa_nil))) (pe_one (pe_not (pe_callB (kz_isi (K := K)) (by rfl) T.b_isinstance bt_isinstance (pa_cons (pv 0) (pa_cons (pe_ty (by rfl) T.b_bool bt_bool) pa_nil)))))))), ?_⟩
  walk_at "rd"
  cases hw with
  | int i =>
    refine ⟨_, _, _, _, _, rfl, .ty _, .base (.int i), kit_ty kit_int_int, _, rfl, iteT ?_⟩
    walk_at "rd"
    exact ⟨_, _, _, _, _, rfl, .ty _, .base (.int i), kit_ty kit_int_bool, _, rfl, q⟩
  | bl b =>
    refine ⟨_, _, _, _, _, rfl, .ty _, .base (.bl b), kit_ty kit_bool_int, _, rfl, iteT ?_⟩
    walk_at "rd"
    exact ⟨_, _, _, _, _, rfl, .ty _, .base (.bl b), kit_ty kit_bool_bool, _, rfl, q⟩
  | no h k nb => exact ⟨_, _, _, _, _, rfl, .ty _, h, kit_ty k, _, rfl, iteF q⟩

/-! is_from_to -/
def sp_is_from_to (K : PySem.W.Frag) : Sp := fun vs H Q _ => ∃ (v : V) (lo hi : Int) (b : Bool), vs = [v, .int lo, .int hi] ∧ Wh K H v b ∧ Q (.bl (whB v lo hi)) H
theorem c_is_from_to (T : Txt K mg) : Cal P w K mg base 2 "is_from_to" ["thing", "least", "most"] (sp_is_from_to K) := by
  refine T.f_is_from_to.cal sc_is_from_to (fun _ _ _ _ _ _ us hl => match us, hl with | [_, _, _], _ => rfl) (fun vs H Q E h => by first | (obtain ⟨_, rfl, _⟩ := h; rfl) | (obtain ⟨_, _, rfl, _⟩ := h; rfl) | (obtain ⟨_, _, _, rfl, _⟩ := h; rfl) | (obtain ⟨_, _, _, _, rfl, _⟩ := h; rfl) | (obtain ⟨_, _, _, _, _, rfl, _⟩ := h; rfl) | (obtain ⟨_, _, _, _, _, _, rfl, _⟩ := h; rfl) | (obtain ⟨_, _, _, _, _, _, _, rfl, _⟩ := h; rfl) | (obtain ⟨_, _, _, _, _, _, _, _, rfl, _⟩ := h; rfl) | (obtain ⟨_, _, _, _, _, _, _, _, _, rfl, _⟩ := h; rfl) | (obtain ⟨_, _, _, _, _, _, _, _, _, _, rfl, _⟩ := h; rfl) | (obtain ⟨_, _, _, _, _, _, _, _, _, _, _, rfl, _⟩ := h; rfl) | (obtain ⟨_, _, _, _, _, _, _, _, _, _, _, _, rfl, _⟩ := h; rfl) | (obtain ⟨_, _, _, _, _, _, _, _, _, _, _, _, _, rfl, _⟩ := h; rfl)) (fun cdv A outer s H vs Q E f hr h => ?_)
  obtain ⟨v, lo, hi, b, rfl, hw, q⟩ := h
  refine ⟨_, (pss_one (ps_ret (pe_and (pe_cal (c_is_whole T) hr (by decide) (pa_cons (pv 0) pa_nil)) (pe_one (pe_chain op_le op_le (pv 1) (pv 0) (pv 2)))))), ?_⟩
  walk_at "rd"
  refine ⟨v, b, rfl, hw, _, rfl, ?_⟩
  rcases hw.cases_ with ⟨i, rfl, rfl⟩ | ⟨hv, rfl⟩
  · refine iteT ?_
    walk_at "rd"
    have e : whB (.int i) lo hi = (decide (lo ≤ i) && decide (i ≤ hi)) := Bool.decide_and ..
    rw [e] at q
    by_cases c : lo ≤ i
    · rw [decide_eq_true c] at q ⊢
      refine iteT ?_
      walk_at "rd"
      exact q
    · rw [decide_eq_false c] at q ⊢
      exact iteF q
  · rw [whB_no hv] at q
    exact iteF q

/-! check_order -/
def sp_check_order (K : PySem.W.Frag) : Sp := fun vs H Q _ => ∃ k : Int, vs = [.int k] ∧ 0 ≤ k ∧ k ≤ 9 ∧ Q .non H
theorem c_check_order (T : Txt K mg) : Cal P w K mg base 3 "check_order" ["order"] (sp_check_order K) := by
  refine T.f_check_order.cal sc_check_order (fun _ _ _ _ _ _ us hl => match us, hl with | [_], _ => rfl) (fun vs H Q E h => by first | (obtain ⟨_, rfl, _⟩ := h; rfl) | (obtain ⟨_, _, rfl, _⟩ := h; rfl) | (obtain ⟨_, _, _, rfl, _⟩ := h; rfl) | (obtain ⟨_, _, _, _, rfl, _⟩ := h; rfl) | (obtain ⟨_, _, _, _, _, rfl, _⟩ := h; rfl) | (obtain ⟨_, _, _, _, _, _, rfl, _⟩ := h; rfl) | (obtain ⟨_, _, _, _, _, _, _, rfl, _⟩ := h; rfl) | (obtain ⟨_, _, _, _, _, _, _, _, rfl, _⟩ := h; rfl) | (obtain ⟨_, _, _, _, _, _, _, _, _, rfl, _⟩ := h; rfl) | (obtain ⟨_, _, _, _, _, _, _, _, _, _, rfl, _⟩ := h; rfl) | (obtain ⟨_, _, _, _, _, _, _, _, _, _, _, rfl, _⟩ := h; rfl) | (obtain ⟨_, _, _, _, _, _, _, _, _, _, _, _, rfl, _⟩ := h; rfl) | (obtain ⟨_, _, _, _, _, _, _, _, _, _, _, _, _, rfl, _⟩ := h; rfl)) (fun cdv A outer s H vs Q E f hr h => ?_)
  obtain ⟨k, rfl, h1, h2, q⟩ := h
  refine ⟨_, (pss_one (ps_if (pt_not (pt_val (pe_cal (c_is_from_to T) hr (by decide) (pa_cons (pv 0) (pa_cons pe_int (pa_cons (pe_kon T.k_MOST_ORDER) pa_nil)))))) (pss_one ps_never) pss_nil)), ?_⟩
  walk_at "rd"
  refine ⟨.int k, 0, 9, true, rfl, .int _, _, rfl, ?_⟩
  have e : whB (.int k) 0 9 = true := decide_eq_true ⟨h1, h2⟩
  rw [e]
  exact iteF q

/-! check_worths -/
def sp_check_worths (K : PySem.W.Frag) : Sp := fun vs H Q _ => ∃ (r : Addr) (ws : List Int), vs = [.ref r] ∧ ws ≠ [] ∧ ws.length ≤ 100000 ∧ SqT K H r (ws.map V.int) ∧ ∀ H', Same H H' → Q .non H'
theorem c_check_worths (T : Txt K mg) : Cal P w K mg base 2 "check_worths" ["worths"] (sp_check_worths K) := by
  refine T.f_check_worths.cal sc_check_worths (fun _ _ _ _ _ _ us hl => match us, hl with | [_], _ => rfl) (fun vs H Q E h => by first | (obtain ⟨_, rfl, _⟩ := h; rfl) | (obtain ⟨_, _, rfl, _⟩ := h; rfl) | (obtain ⟨_, _, _, rfl, _⟩ := h; rfl) | (obtain ⟨_, _, _, _, rfl, _⟩ := h; rfl) | (obtain ⟨_, _, _, _, _, rfl, _⟩ := h; rfl) | (obtain ⟨_, _, _, _, _, _, rfl, _⟩ := h; rfl) | (obtain ⟨_, _, _, _, _, _, _, rfl, _⟩ := h; rfl) | (obtain ⟨_, _, _, _, _, _, _, _, rfl, _⟩ := h; rfl) | (obtain ⟨_, _, _, _, _, _, _, _, _, rfl, _⟩ := h; rfl) | (obtain ⟨_, _, _, _, _, _, _, _, _, _, rfl, _⟩ := h; rfl) | (obtain ⟨_, _, _, _, _, _, _, _, _, _, _, rfl, _⟩ := h; rfl) | (obtain ⟨_, _, _, _, _, _, _, _, _, _, _, _, rfl, _⟩ := h; rfl) | (obtain ⟨_, _, _, _, _, _, _, _, _, _, _, _, _, rfl, _⟩ := h; rfl)) (fun cdv A outer s H vs Q E f hr h => ?_)
  obtain ⟨r, ws, rfl, h0, hl, hS, q⟩ := h
  have h1 : 0 < ws.length := List.length_pos_iff.mpr h0
  refine ⟨_, (pss_cons (ps_if (PW.pt (pw_or (pt_not (pt_val (pe_callB (kz_isi (K := K)) (by rfl) T.b_isinstance bt_isinstance (pa_cons (pv 0) (pa_cons (pe_ty (by rfl) T.b_tuple bt_tuple) pa_nil))))) (pw_or1 (pt_cmpR op_eq (pe_callB (kz_len (K := K)) (by rfl) T.b_len bt_len (pa_cons (pv 0) pa_nil)) pe_int (nomark _))))) (pss_one ps_never) pss_nil)
    (pss_one (ps_if (pt_not (pt_val (pe_callB (kz_all (K := K) rfl) (by rfl) T.b_all bt_all (pa_cons (pe_lc (own := [("worth", 1)]) (g := (gName 1)) (tt := tYes) rfl sc_check_worths.nd (kz_piT (K := K) (pv 0)) (blkOk_by (own := [("worth", 1)]) (N := ["worths", "worth"]) (sc := defScope S_check_worths) (by decide +kernel)) (fun _ _ _ _ _ => (pg_name (i := 1) sc_check_worths.nd rfl (.inl rfl))) (fun _ _ _ _ _ => pts_nil) (fun _ _ _ _ _ => (pe_cal (c_is_whole T) hr (by decide) (pa_cons (pv 1) pa_nil)))) pa_nil)))) (pss_one ps_never) pss_nil))), ?_⟩
  walk_at "rd"
  refine ⟨_, _, _, _, _, rfl, .ty _, ty_tup hS, kit_ty kit_tup_tup, _, rfl, iteF ?_⟩
  walk_at "rd"
  rw [List.length_map]
  refine ite2 (fun c => absurd (V.int.inj (of_decide_eq_true c)) (by omega)) (fun _ => ?_)
  refine ⟨_, rfl, _, rfl, ⟨_, hS⟩, fun D nD => ?_⟩
  refine lcp walk_tup nD (fun i => (ws.map fun _ => V.bl true).take i) rfl (fun i _ => ?_) (fun H2 s2 => seqT s2 hS) ?_ ?_
  · rw [List.length_take, List.length_map]
    omega
  · rintro i x H2 H' R N hi s2 ⟨rfl, hx⟩ k _
    obtain ⟨z, hz, rfl⟩ := map_at hx
    refine ⟨rfl, ?_⟩
    walk_at "rd"
    refine ⟨.int z, true, rfl, .int z, k _ _ (L2.Same.refl _) ?_⟩
    rw [List.take_add_one, List.getElem?_map, hz]
    rfl
  · intro H2 s2 hD
    rw [List.take_of_length_le (by rw [List.length_map, List.length_map]; exact Nat.le_refl _)] at hD
    refine ⟨D, ws.map fun _ => true, rfl, ?_, _, rfl, ?_⟩
    · rw [List.map_map]
      exact .inl (.inl hD)
    · have e : (ws.map fun _ => true).all id = true := List.all_eq_true.mpr fun x hx => by
        obtain ⟨_, _, e⟩ := List.mem_map.mp hx
        exact e.symm
      rw [e]
      exact iteF (q _ s2)

/-! differences_of -/
def sp_differences_of (K : PySem.W.Frag) : Sp := fun vs H Q _ => ∃ (r : Addr) (ws : List Int) (k : Nat), vs = [.ref r, .int (k : Int)] ∧ (SqL K H r (ws.map V.int) ∨ SqT K H r (ws.map V.int)) ∧ ws.length ≤ 100000 ∧ k ≤ 1000 ∧
  ∀ (p : Addr) (H' : Hp), H p = none → Same H H' → H' p = some (.lst ((diffsN k ws).map V.int)) → Q (.ref p) H'
theorem c_differences_of (T : Txt K mg) : Cal P w K mg base 1 "differences_of" ["worths", "order"] (sp_differences_of K) := by
  refine T.f_differences_of.cal sc_differences_of (fun _ _ _ _ _ _ us hl => match us, hl with | [_, _], _ => rfl) (fun vs H Q E h => by first | (obtain ⟨_, rfl, _⟩ := h; rfl) | (obtain ⟨_, _, rfl, _⟩ := h; rfl) | (obtain ⟨_, _, _, rfl, _⟩ := h; rfl) | (obtain ⟨_, _, _, _, rfl, _⟩ := h; rfl) | (obtain ⟨_, _, _, _, _, rfl, _⟩ := h; rfl) | (obtain ⟨_, _, _, _, _, _, rfl, _⟩ := h; rfl) | (obtain ⟨_, _, _, _, _, _, _, rfl, _⟩ := h; rfl) | (obtain ⟨_, _, _, _, _, _, _, _, rfl, _⟩ := h; rfl) | (obtain ⟨_, _, _, _, _, _, _, _, _, rfl, _⟩ := h; rfl) | (obtain ⟨_, _, _, _, _, _, _, _, _, _, rfl, _⟩ := h; rfl) | (obtain ⟨_, _, _, _, _, _, _, _, _, _, _, rfl, _⟩ := h; rfl) | (obtain ⟨_, _, _, _, _, _, _, _, _, _, _, _, rfl, _⟩ := h; rfl) | (obtain ⟨_, _, _, _, _, _, _, _, _, _, _, _, _, rfl, _⟩ := h; rfl)) (fun cdv A outer s H vs Q E f hr h => ?_)
  obtain ⟨r, ws, k, rfl, hS, hl, hk, q⟩ := h
  refine ⟨_, (pss_cons (ps_set (i := 2) sc_differences_of.nd rfl (.inl rfl) (pe_callTy (kz_list (K := K)) (by rfl) T.b_list bt_list (pa_cons (pv 0) pa_nil)))
    (pss_cons (ps_for PassesOwn.never rfl (pi_range1 (by rfl) T.b_range (pa_cons (pv 1) pa_nil)) (pg_name (i := 3) sc_differences_of.nd rfl (.inl rfl)) (pss_one (ps_setLc (i := 2) (own := [("before", 4), ("after", 5)]) (g := (gTup K 2 (gCons (gName 4) (gCons (gName 5) gNil)))) (tt := tYes) rfl sc_differences_of.nd rfl rfl (sw_true rfl rfl rfl (by decide +kernel)) (kz_zip (K := K) (by rfl) T.b_zip (pa_cons (pv 2) (pa_cons (pe_slice (kz_slL (K := K)) (pv 2) (po_some pe_int) po_none) pa_nil))) (blkOk_by (own := [("before", 4), ("after", 5)]) (N := ["worths", "order", "line", "_", "before", "after"]) (sc := defScope S_differences_of) (by decide +kernel)) (fun _ _ _ _ _ => (kz_gtup (K := K) 2 rfl (pgs_cons (pg_name (i := 4) sc_differences_of.nd rfl (.inl rfl)) (pgs_cons (pg_name (i := 5) sc_differences_of.nd rfl (.inl rfl)) pgs_nil)))) (fun _ _ _ _ _ => pts_nil) (fun _ _ _ _ _ => (pe_op op_sub (pv 5) (pv 4))))))
    (pss_one (ps_ret (pv 2))))), ?_⟩
  rcases hS with hS | hS
  all_goals
    walk_at "rd"
    intro p0 n0
    walk_at "rd"
    refine for_range (fun i σ H2 => ∃ (y3 : Option V) (p : Addr), σ = [some (.ref r), some (.int (k : Int)), some (.ref p), y3, none, none] ∧ H p = none ∧ Same H H2 ∧ H2 p = some (.lst ((diffsN i ws).map V.int))) ⟨none, p0, rfl, n0, same_new n0, upd_same⟩ ?_ ?_
    · rintro i σ H2 hi ⟨y3, p, rfl, np, s2, hp⟩
      refine ⟨_, rfl, _, rfl, 1, rfl, p, _, rfl, .inl (.inl hp), fun c nc => ?_⟩
      have s3 := same_new (o := .lst (cutV ((diffsN i ws).map V.int) (some 1) none)) nc
      have ncp : c ≠ p := fun e => by
        rw [e, hp] at nc
        cases nc
      have hc : SqL K (upd H2 c (.lst (cutV ((diffsN i ws).map V.int) (some 1) none))) c (((diffsN i ws).drop 1).map V.int) := by
        rw [cut1, ← List.map_drop]
        exact .inl (.inl upd_same)
      have hp3 : SqL K (upd H2 c (.lst (cutV ((diffsN i ws).map V.int) (some 1) none))) p ((diffsN i ws).map V.int) := .inl (.inl (s3 _ _ hp))
      generalize upd H2 c (.lst (cutV ((diffsN i ws).map V.int) (some 1) none)) = H3 at s3 hc hp3 ⊢
      refine ⟨p, c, _, _, rfl, .inl ⟨hp3, hc, fun D nD => ?_⟩⟩
      have dl := diffsN_len i ws
      refine lcp (walk_zip (n := (diffsN i ws).length - 1) (xs := (diffsN i ws).map V.int) (ys := ((diffsN i ws).drop 1).map V.int) (by rw [List.length_map, List.length_map, List.length_drop]; omega)) nD (fun j => ((diffs (diffsN i ws)).map V.int).take j) rfl (fun j _ => ?_)
        (fun H4 s4 => ⟨seqL s4 hp3, seqL s4 hc⟩) ?_ ?_
      · rw [List.length_take, List.length_map, diffs_len]
        omega
      · rintro j x H4 H5 R N hj s4 ⟨T1, v1, v2, rfl, nT, rfl, h1, h2⟩ k1 _
        obtain ⟨z1, e1, rfl⟩ := map_at h1
        obtain ⟨z2, e2, rfl⟩ := map_at h2
        rw [List.getElem?_drop, Nat.add_comm] at e2
        refine ⟨T1, _, rfl, .inl (.inl upd_same), rfl, _, _, rfl, _, _, rfl, rfl, rfl, ?_⟩
        refine ⟨_, rfl, _, rfl, _, _, rfl, rfl, k1 _ _ (same_new nT) ?_⟩
        rw [List.take_add_one, List.getElem?_map, diffs_at _ j _ _ e1 e2]
        rfl
      · intro H4 s4 hD
        have s24 := (s2.trans s3).trans s4
        refine ⟨some (.int (0 + (i : Int))), D, rfl, none_back (s2.trans s3) nD, s24, ?_⟩
        rw [hD, List.take_of_length_le]
        · rfl
        · rw [List.length_map, diffs_len]
          exact Nat.le_refl _
    · rintro σ H2 ⟨y3, p, rfl, np, s2, hp⟩
      walk_at "rd"
      refine q p H2 np s2 ?_
      rw [hp]
      rfl

/-! differences -/
def sp_differences (K : PySem.W.Frag) : Sp := fun vs H Q _ => ∃ (r : Addr) (ws : List Int) (k : Nat), vs = [.ref r, .int (k : Int)] ∧ SqT K H r (ws.map V.int) ∧ ws ≠ [] ∧ ws.length ≤ 100000 ∧ k ≤ 9 ∧
  ∀ (p : Addr) (H' : Hp), H p = none → Same H H' → H' p = some (.lst ((diffsN k ws).map V.int)) → Q (.ref p) H'
theorem fk_differences (T : Txt K mg) : ∃ f fd, FunD K "differences" "differences" (defArgs S_differences) (defBody S_differences) (defScope S_differences) [] [("order", .int 1)] f fd ∧ mg "differences" = some (.ref f) ∧ FnOk P w K mg base CX0 4 f fd ["worths", "order"] (sp_differences K) := by
  refine T.f_differences.fn sc_differences (fun vs H Q E h => by first | (obtain ⟨_, rfl, _⟩ := h; rfl) | (obtain ⟨_, _, rfl, _⟩ := h; rfl) | (obtain ⟨_, _, _, rfl, _⟩ := h; rfl) | (obtain ⟨_, _, _, _, rfl, _⟩ := h; rfl) | (obtain ⟨_, _, _, _, _, rfl, _⟩ := h; rfl) | (obtain ⟨_, _, _, _, _, _, rfl, _⟩ := h; rfl) | (obtain ⟨_, _, _, _, _, _, _, rfl, _⟩ := h; rfl) | (obtain ⟨_, _, _, _, _, _, _, _, rfl, _⟩ := h; rfl) | (obtain ⟨_, _, _, _, _, _, _, _, _, rfl, _⟩ := h; rfl) | (obtain ⟨_, _, _, _, _, _, _, _, _, _, rfl, _⟩ := h; rfl) | (obtain ⟨_, _, _, _, _, _, _, _, _, _, _, rfl, _⟩ := h; rfl) | (obtain ⟨_, _, _, _, _, _, _, _, _, _, _, _, rfl, _⟩ := h; rfl) | (obtain ⟨_, _, _, _, _, _, _, _, _, _, _, _, _, rfl, _⟩ := h; rfl)) (fun cdv A outer s H vs Q E f hr h => ?_)
  obtain ⟨r, ws, k, rfl, hS, h0, hl, hk, q⟩ := h
  refine ⟨_, (pss_cons (ps_expr (pe_cal (c_check_worths T) hr (by decide) (pa_cons (pv 0) pa_nil)))
    (pss_cons (ps_expr (pe_cal (c_check_order T) hr (by decide) (pa_cons (pv 1) pa_nil)))
    (pss_one (ps_ret (pe_cal (c_differences_of T) hr (by decide) (pa_cons (pv 0) (pa_cons (pv 1) pa_nil))))))), ?_⟩
  walk_at "rd"
  refine ⟨r, ws, rfl, h0, hl, hS, fun H1 s1 => ?_⟩
  walk_at "rd"
  exact ⟨r, ws, k, rfl, .inr (seqT s1 hS), hl, by omega, fun p H2 np s2 hp => q p H2 (none_back s1 np) (s1.trans s2) hp⟩
theorem cd_differences (T : Txt K mg) : CalD P w K mg base 4 "differences" ["worths", "order"] (sp_differences K) (.int 1) := by
  obtain ⟨f, fd, F, m, G⟩ := fk_differences (P := P) (w := w) (base := base) T
  obtain ⟨ds, r, b⟩ := F.binds0 (ps := ["worths", "order"]) 1 (by simp) rfl (fun D doc pm an cdv ct us ks hl hk => match us, ks, hl, hk with | [_], [_], _, _ => ⟨_, _, _, _, _, _, rfl, rfl, rfl⟩)
  exact ⟨f, fd, ds, G, m, F.kp, b, r⟩
theorem ck_differences (T : Txt K mg) : CalK P w K mg base 4 "differences" ["worths", "order"] (sp_differences K) 1 "order" := by
  obtain ⟨f, fd, F, m, G⟩ := fk_differences (P := P) (w := w) (base := base) T
  refine ⟨f, fd, G, m, F.kp, ⟨fun s us ws _ hl hw => ?_, fun r1 r2 => r1.append r2⟩⟩
  obtain ⟨oc, od, dV, kV, doc, pm, an, cdv, ct, osl, rfl, lk, hcd, hD, hK⟩ := F.ex
  rcases hD with ⟨_, rfl⟩ | ⟨e, _⟩
  · exact match us, ws, hl, hw with | [_], [_], _, _ => .of_eq rfl
  · exact absurd rfl e

/-! check_hands -/
def sp_check_hands (K : PySem.W.Frag) : Sp := fun vs H Q _ => ∃ hands : Int, vs = [.int hands] ∧ 2 ≤ hands ∧ hands ≤ 4 ∧ Q .non H
theorem c_check_hands (T : Txt K mg) : Cal P w K mg base 3 "check_hands" ["hands"] (sp_check_hands K) := by
  refine T.f_check_hands.cal sc_check_hands (fun _ _ _ _ _ _ us hl => match us, hl with | [_], _ => rfl) (fun vs H Q E h => by first | (obtain ⟨_, rfl, _⟩ := h; rfl) | (obtain ⟨_, _, rfl, _⟩ := h; rfl) | (obtain ⟨_, _, _, rfl, _⟩ := h; rfl) | (obtain ⟨_, _, _, _, rfl, _⟩ := h; rfl) | (obtain ⟨_, _, _, _, _, rfl, _⟩ := h; rfl) | (obtain ⟨_, _, _, _, _, _, rfl, _⟩ := h; rfl) | (obtain ⟨_, _, _, _, _, _, _, rfl, _⟩ := h; rfl) | (obtain ⟨_, _, _, _, _, _, _, _, rfl, _⟩ := h; rfl) | (obtain ⟨_, _, _, _, _, _, _, _, _, rfl, _⟩ := h; rfl) | (obtain ⟨_, _, _, _, _, _, _, _, _, _, rfl, _⟩ := h; rfl) | (obtain ⟨_, _, _, _, _, _, _, _, _, _, _, rfl, _⟩ := h; rfl) | (obtain ⟨_, _, _, _, _, _, _, _, _, _, _, _, rfl, _⟩ := h; rfl) | (obtain ⟨_, _, _, _, _, _, _, _, _, _, _, _, _, rfl, _⟩ := h; rfl)) (fun cdv A outer s H vs Q E f hr h => ?_)
  obtain ⟨hands, rfl, h1, h2, q⟩ := h
  refine ⟨_, (pss_one (ps_if (pt_not (pt_val (pe_cal (c_is_from_to T) hr (by decide) (pa_cons (pv 0) (pa_cons (pe_kon T.k_FEWEST_HANDS) (pa_cons (pe_kon T.k_MOST_HANDS) pa_nil)))))) (pss_one ps_never) pss_nil)), ?_⟩
  walk_at "rd"
  refine ⟨.int hands, 2, 4, true, rfl, .int _, _, rfl, ?_⟩
  have e : whB (.int hands) 2 4 = true := decide_eq_true ⟨h1, h2⟩
  rw [e]
  exact iteF q

/-! is_hand -/
def sp_is_hand (K : PySem.W.Frag) : Sp := fun vs H Q _ => ∃ (v : V) (hands : Int) (b : Bool), vs = [.int hands, v] ∧ Wh K H v b ∧ Q (.bl (whB v 0 (hands - 1))) H
theorem c_is_hand (T : Txt K mg) : Cal P w K mg base 3 "is_hand" ["hands", "thing"] (sp_is_hand K) := by
  refine T.f_is_hand.cal sc_is_hand (fun _ _ _ _ _ _ us hl => match us, hl with | [_, _], _ => rfl) (fun vs H Q E h => by first | (obtain ⟨_, rfl, _⟩ := h; rfl) | (obtain ⟨_, _, rfl, _⟩ := h; rfl) | (obtain ⟨_, _, _, rfl, _⟩ := h; rfl) | (obtain ⟨_, _, _, _, rfl, _⟩ := h; rfl) | (obtain ⟨_, _, _, _, _, rfl, _⟩ := h; rfl) | (obtain ⟨_, _, _, _, _, _, rfl, _⟩ := h; rfl) | (obtain ⟨_, _, _, _, _, _, _, rfl, _⟩ := h; rfl) | (obtain ⟨_, _, _, _, _, _, _, _, rfl, _⟩ := h; rfl) | (obtain ⟨_, _, _, _, _, _, _, _, _, rfl, _⟩ := h; rfl) | (obtain ⟨_, _, _, _, _, _, _, _, _, _, rfl, _⟩ := h; rfl) | (obtain ⟨_, _, _, _, _, _, _, _, _, _, _, rfl, _⟩ := h; rfl) | (obtain ⟨_, _, _, _, _, _, _, _, _, _, _, _, rfl, _⟩ := h; rfl) | (obtain ⟨_, _, _, _, _, _, _, _, _, _, _, _, _, rfl, _⟩ := h; rfl)) (fun cdv A outer s H vs Q E f hr h => ?_)
  obtain ⟨v, hands, b, rfl, hw, q⟩ := h
  refine ⟨_, (pss_one (ps_ret (pe_cal (c_is_from_to T) hr (by decide) (pa_cons (pv 1) (pa_cons pe_int (pa_cons (pe_op op_sub (pv 0) pe_int) pa_nil)))))), ?_⟩
  walk_at "rd"
  exact ⟨v, 0, hands - 1, b, rfl, hw, q⟩

/-! fits_row -/
def fitsB (hands : Int) (xs : List V) : Bool := decide (1 ≤ xs.length ∧ xs.length ≤ 64) && xs.all fun x => whB x 0 (hands - 1)
theorem fitsB_row {hands : Int} {row : List Int} (h1 : row ≠ []) (h2 : row.length ≤ 64) (h3 : ∀ z ∈ row, 0 ≤ z ∧ z < hands) : fitsB hands (row.map V.int) = true := by
  have h1' : 0 < row.length := List.length_pos_iff.mpr h1
  unfold fitsB
  rw [Bool.and_eq_true]
  refine ⟨decide_eq_true (by rw [List.length_map]; omega), List.all_eq_true.mpr fun x hx => ?_⟩
  obtain ⟨z, hz, rfl⟩ := List.mem_map.mp hx
  have := h3 z hz
  exact decide_eq_true (by omega)
def sp_fits_row (K : PySem.W.Frag) : Sp := fun vs H Q _ => ∃ (hands : Int) (v : V), vs = [.int hands, v] ∧
  ((∃ n : String, TyX K H v (.type n) ∧ kitB n "tuple" = some false ∧ Q (.bl false) H) ∨
   ∃ (r : Addr) (xs : List V), v = .ref r ∧ SqT K H r xs ∧ xs.length ≤ 100000 ∧ (∀ x ∈ xs, ∃ b, ∀ H', Same H H' → Wh K H' x b) ∧ ∀ H', Same H H' → Q (.bl (fitsB hands xs)) H')
theorem c_fits_row (T : Txt K mg) : Cal P w K mg base 4 "fits_row" ["hands", "thing"] (sp_fits_row K) := by
  refine T.f_fits_row.cal sc_fits_row (fun _ _ _ _ _ _ us hl => match us, hl with | [_, _], _ => rfl) (fun vs H Q E h => by first | (obtain ⟨_, rfl, _⟩ := h; rfl) | (obtain ⟨_, _, rfl, _⟩ := h; rfl) | (obtain ⟨_, _, _, rfl, _⟩ := h; rfl) | (obtain ⟨_, _, _, _, rfl, _⟩ := h; rfl) | (obtain ⟨_, _, _, _, _, rfl, _⟩ := h; rfl) | (obtain ⟨_, _, _, _, _, _, rfl, _⟩ := h; rfl) | (obtain ⟨_, _, _, _, _, _, _, rfl, _⟩ := h; rfl) | (obtain ⟨_, _, _, _, _, _, _, _, rfl, _⟩ := h; rfl) | (obtain ⟨_, _, _, _, _, _, _, _, _, rfl, _⟩ := h; rfl) | (obtain ⟨_, _, _, _, _, _, _, _, _, _, rfl, _⟩ := h; rfl) | (obtain ⟨_, _, _, _, _, _, _, _, _, _, _, rfl, _⟩ := h; rfl) | (obtain ⟨_, _, _, _, _, _, _, _, _, _, _, _, rfl, _⟩ := h; rfl) | (obtain ⟨_, _, _, _, _, _, _, _, _, _, _, _, _, rfl, _⟩ := h; rfl)) (fun cdv A outer s H vs Q E f hr h => ?_)
  obtain ⟨hands, v, rfl, ⟨n, ht, hk, q⟩ | ⟨r, xs, rfl, hS, hl, hw, q⟩⟩ := h
  · refine ⟨_, (pss_cons (ps_if (pt_not (pt_val (pe_callB (kz_isi (K := K)) (by rfl) T.b_isinstance bt_isinstance (pa_cons (pv 1) (pa_cons (pe_ty (by rfl) T.b_tuple bt_tuple) pa_nil))))) (pss_one (ps_ret pe_bl)) pss_nil)
    (pss_cons (ps_if (pt_not (pt_chain op_le op_le pe_int (pe_callB (kz_len (K := K)) (by rfl) T.b_len bt_len (pa_cons (pv 1) pa_nil)) (pe_kon T.k_MOST_PLACES))) (pss_one (ps_ret pe_bl)) pss_nil)
    (pss_one (ps_ret (pe_callB (kz_all (K := K) rfl) (by rfl) T.b_all bt_all (pa_cons (pe_lc (own := [("turn", 2)]) (g := (gName 2)) (tt := tYes) rfl sc_fits_row.nd (kz_piT (K := K) (pv 1)) (blkOk_by (own := [("turn", 2)]) (N := ["hands", "thing", "turn"]) (sc := defScope S_fits_row) (by decide +kernel)) (fun _ _ _ _ _ => (pg_name (i := 2) sc_fits_row.nd rfl (.inl rfl))) (fun _ _ _ _ _ => pts_nil) (fun _ _ _ _ _ => (pe_cal (c_is_hand T) hr (by decide) (pa_cons (pv 0) (pa_cons (pv 2) pa_nil))))) pa_nil)))))), ?_⟩
    walk_at "rd"
    exact ⟨_, _, _, _, _, rfl, .ty _, ht, kit_ty hk, _, rfl, iteT q⟩
  · refine ⟨_, (pss_cons (ps_if (pt_not (pt_val (pe_callB (kz_isi (K := K)) (by rfl) T.b_isinstance bt_isinstance (pa_cons (pv 1) (pa_cons (pe_ty (by rfl) T.b_tuple bt_tuple) pa_nil))))) (pss_one (ps_ret pe_bl)) pss_nil)
    (pss_cons (ps_if (pt_not (pt_chain op_le op_le pe_int (pe_callB (kz_len (K := K)) (by rfl) T.b_len bt_len (pa_cons (pv 1) pa_nil)) (pe_kon T.k_MOST_PLACES))) (pss_one (ps_ret pe_bl)) pss_nil)
    (pss_one (ps_ret (pe_callB (kz_all (K := K) rfl) (by rfl) T.b_all bt_all (pa_cons (pe_lc (own := [("turn", 2)]) (g := (gName 2)) (tt := tYes) rfl sc_fits_row.nd (kz_piT (K := K) (pv 1)) (blkOk_by (own := [("turn", 2)]) (N := ["hands", "thing", "turn"]) (sc := defScope S_fits_row) (by decide +kernel)) (fun _ _ _ _ _ => (pg_name (i := 2) sc_fits_row.nd rfl (.inl rfl))) (fun _ _ _ _ _ => pts_nil) (fun _ _ _ _ _ => (pe_cal (c_is_hand T) hr (by decide) (pa_cons (pv 0) (pa_cons (pv 2) pa_nil))))) pa_nil)))))), ?_⟩
    walk_at "rd"
    refine ⟨_, _, _, _, _, rfl, .ty _, ty_tup hS, kit_ty kit_tup_tup, _, rfl, iteF ?_⟩
    have out : ∀ i, ((xs.map fun x => V.bl (whB x 0 (hands - 1))).take i).length ≤ xs.length := fun i => by
      rw [List.length_take, List.length_map]
      exact Nat.min_le_right _ _
    walk_at "rd"
    have fin : 1 ≤ xs.length ∧ xs.length ≤ 64 → tRet (tCB (rAll K) (tCons (tLc (iTup K (tVar 1)) (gName 2) tYes (tCall (sp_is_hand K) [] E0 (tCons (tVar 0) (tCons (tVar 2) tNil))) [2]) tNil)) { nx := fun _ H' => Q .non H', rt := Q } [some (.int hands), some (.ref r), none] H := fun c => by
      refine ⟨_, rfl, _, rfl, ⟨_, hS⟩, fun D nD => ?_⟩
      refine lcp walk_tup nD (fun i => (xs.map fun x => V.bl (whB x 0 (hands - 1))).take i) rfl (fun i _ => Nat.lt_of_le_of_lt (out i) (by omega)) (fun H2 s2 => seqT s2 hS) ?_ ?_
      · rintro i x H2 H' R N hi s2 ⟨rfl, hx⟩ k _
        refine ⟨rfl, ?_⟩
        walk_at "rd"
        obtain ⟨b, hb⟩ := hw x (List.mem_of_getElem? hx)
        refine ⟨x, hands, b, rfl, hb _ s2, k _ _ (L2.Same.refl _) ?_⟩
        rw [List.take_add_one, List.getElem?_map, hx]
        rfl
      · intro H2 s2 hD
        rw [List.take_of_length_le (by rw [List.length_map]; exact Nat.le_refl _)] at hD
        refine ⟨D, xs.map fun x => whB x 0 (hands - 1), rfl, ?_, ?_⟩
        · rw [List.map_map]
          exact .inl (.inl hD)
        · have e : fitsB hands xs = (xs.map fun x => whB x 0 (hands - 1)).all id := by
            unfold fitsB
            rw [decide_eq_true c, Bool.true_and, List.all_map]
            rfl
          rw [← e]
          exact q _ s2
    by_cases c1 : (1 : Int) ≤ (xs.length : Int)
    · rw [decide_eq_true c1]
      refine iteT ?_
      walk_at "rd"
      by_cases c2 : (xs.length : Int) ≤ 64
      · rw [decide_eq_true c2]
        exact iteF (fin ⟨by omega, by omega⟩)
      · rw [decide_eq_false c2]
        refine iteT ?_
        have e : fitsB hands xs = false := by
          unfold fitsB
          rw [decide_eq_false (by omega), Bool.false_and]
        rw [e] at q
        exact q _ (L2.Same.refl _)
    · rw [decide_eq_false c1]
      refine iteF ?_
      walk_at "rd"
      refine iteT ?_
      have e : fitsB hands xs = false := by
        unfold fitsB
        rw [decide_eq_false (by omega), Bool.false_and]
      rw [e] at q
      exact q _ (L2.Same.refl _)

/-! check_row -/
def sp_check_row (K : PySem.W.Frag) : Sp := fun vs H Q _ => ∃ (hands : Int) (r : Addr) (row : List Int), vs = [.int hands, .ref r] ∧ RowOk hands row ∧ SqT K H r (row.map V.int) ∧ ∀ H', Same H H' → Q .non H'
theorem c_check_row (T : Txt K mg) : Cal P w K mg base 5 "check_row" ["hands", "row"] (sp_check_row K) := by
  refine T.f_check_row.cal sc_check_row (fun _ _ _ _ _ _ us hl => match us, hl with | [_, _], _ => rfl) (fun vs H Q E h => by first | (obtain ⟨_, rfl, _⟩ := h; rfl) | (obtain ⟨_, _, rfl, _⟩ := h; rfl) | (obtain ⟨_, _, _, rfl, _⟩ := h; rfl) | (obtain ⟨_, _, _, _, rfl, _⟩ := h; rfl) | (obtain ⟨_, _, _, _, _, rfl, _⟩ := h; rfl) | (obtain ⟨_, _, _, _, _, _, rfl, _⟩ := h; rfl) | (obtain ⟨_, _, _, _, _, _, _, rfl, _⟩ := h; rfl) | (obtain ⟨_, _, _, _, _, _, _, _, rfl, _⟩ := h; rfl) | (obtain ⟨_, _, _, _, _, _, _, _, _, rfl, _⟩ := h; rfl) | (obtain ⟨_, _, _, _, _, _, _, _, _, _, rfl, _⟩ := h; rfl) | (obtain ⟨_, _, _, _, _, _, _, _, _, _, _, rfl, _⟩ := h; rfl) | (obtain ⟨_, _, _, _, _, _, _, _, _, _, _, _, rfl, _⟩ := h; rfl) | (obtain ⟨_, _, _, _, _, _, _, _, _, _, _, _, _, rfl, _⟩ := h; rfl)) (fun cdv A outer s H vs Q E f hr h => ?_)
  obtain ⟨hands, r, row, rfl, ⟨h1, h2, h3, h4, h5⟩, hS, q⟩ := h
  refine ⟨_, (pss_cons (ps_expr (pe_cal (c_check_hands T) hr (by decide) (pa_cons (pv 0) pa_nil)))
    (pss_one (ps_if (pt_not (pt_val (pe_cal (c_fits_row T) hr (by decide) (pa_cons (pv 0) (pa_cons (pv 1) pa_nil))))) (pss_one ps_never) pss_nil))), ?_⟩
  walk_at "rd"
  refine ⟨hands, _, rfl, .inr ⟨r, _, rfl, hS, by rw [List.length_map]; omega, fun x hx => ?_, fun H' s2 => ⟨_, rfl, ?_⟩⟩⟩
  · obtain ⟨z, hz, rfl⟩ := List.mem_map.mp hx
    exact ⟨true, fun _ _ => .int z⟩
  · rw [fitsB_row h3 h4 h5]
    exact iteF (q H' s2)

/-! running_sums -/
def sp_running_sums (K : PySem.W.Frag) : Sp := fun vs H Q _ => ∃ (r : Addr) (l : List Int), vs = [.ref r] ∧ SqL K H r (l.map V.int) ∧ l.length ≤ 100000 ∧
  ∀ (p : Addr) (H' : Hp), H p = none → Same H H' → H' p = some (.lst ((psums l).map V.int)) → Q (.ref p) H'
theorem c_running_sums (T : Txt K mg) : Cal P w K mg base 1 "running_sums" ["line"] (sp_running_sums K) := by
  refine T.f_running_sums.cal sc_running_sums (fun _ _ _ _ _ _ us hl => match us, hl with | [_], _ => rfl) (fun vs H Q E h => by first | (obtain ⟨_, rfl, _⟩ := h; rfl) | (obtain ⟨_, _, rfl, _⟩ := h; rfl) | (obtain ⟨_, _, _, rfl, _⟩ := h; rfl) | (obtain ⟨_, _, _, _, rfl, _⟩ := h; rfl) | (obtain ⟨_, _, _, _, _, rfl, _⟩ := h; rfl) | (obtain ⟨_, _, _, _, _, _, rfl, _⟩ := h; rfl) | (obtain ⟨_, _, _, _, _, _, _, rfl, _⟩ := h; rfl) | (obtain ⟨_, _, _, _, _, _, _, _, rfl, _⟩ := h; rfl) | (obtain ⟨_, _, _, _, _, _, _, _, _, rfl, _⟩ := h; rfl) | (obtain ⟨_, _, _, _, _, _, _, _, _, _, rfl, _⟩ := h; rfl) | (obtain ⟨_, _, _, _, _, _, _, _, _, _, _, rfl, _⟩ := h; rfl) | (obtain ⟨_, _, _, _, _, _, _, _, _, _, _, _, rfl, _⟩ := h; rfl) | (obtain ⟨_, _, _, _, _, _, _, _, _, _, _, _, _, rfl, _⟩ := h; rfl)) (fun cdv A outer s H vs Q E f hr h => ?_)
  obtain ⟨r, l, rfl, hS, hl, q⟩ := h
  refine ⟨_, (pss_cons (ps_set (i := 1) sc_running_sums.nd rfl (.inl rfl) pe_int)
    (pss_cons (ps_set (i := 2) sc_running_sums.nd rfl (.inl rfl) (pe_lst pa_nil))
    (pss_cons (ps_for PassesOwn.never rfl (kz_piL (K := K) (pv 0)) (pg_name (i := 3) sc_running_sums.nd rfl (.inl rfl)) (pss_cons (ps_aug (i := 1) sc_running_sums.nd rfl (.inl rfl) (pv 3) ip_add)
    (pss_one (ps_expr (pe_bm PySem.F.plainAttrs_list PySem.F.slot_list_append PySem.F.type_list_append mt_append (pv 2) (pa_cons (pv 1) pa_nil))))))
    (pss_one (ps_ret (pv 2)))))), ?_⟩
  walk_at "rd"
  intro p np
  have sp := same_new (o := .lst []) np
  walk_at "rd"
  refine ⟨⟨_, seqL sp hS⟩, ?_⟩
  refine for_list (xs := l.map V.int) (fun i σ H2 => ∃ y3, σ = [some (.ref r), some (.int (l.take i).sum), some (.ref p), y3] ∧ Same H H2 ∧ H2 p = some (.lst (((psums l).take i).map V.int)))
    ⟨none, rfl, sp, upd_same⟩ (fun i σ H2 _ h => by obtain ⟨_, _, s, _⟩ := h; exact seqL s hS) ?_ ?_
  · rintro i x σ H2 hx ⟨y3, rfl, s2, hp⟩
    obtain ⟨z, hz, rfl⟩ := map_at hx
    have hi := (List.getElem?_eq_some_iff.mp hz).1
    refine ⟨_, rfl, _, rfl, _, _, rfl, rfl, ?_⟩
    refine ⟨_, rfl, .inl ⟨rfl, _, .inl (.inl hp)⟩, _, rfl, p, _, _, rfl, rfl, hp, szl ?_, ?_⟩
    · rw [List.length_map, List.length_take]
      omega
    · refine ⟨some (.int z), ?_, fun c o hc => ?_, ?_⟩
      · rw [sum_take hz]
        rfl
      · rw [upd_ne (fun e => by rw [e, np] at hc; cases hc)]
        exact s2 _ _ hc
      · have e : (psums l)[i]? = some ((l.take i).sum + z) := by
          rw [psums, List.getElem?_map, List.getElem?_range hi]
          show some ((l.take (i + 1)).sum) = _
          rw [sum_take hz]
        rw [upd_same, List.take_add_one, e, List.map_append]
        rfl
  · rintro σ H2 ⟨y3, rfl, s2, hp⟩
    refine ⟨_, rfl, q p H2 np s2 ?_⟩
    rw [hp, List.take_of_length_le]
    rw [psums_len, List.length_map]
    exact Nat.le_refl _

/-! are_signs_even -/
def sp_are_signs_even (K : PySem.W.Frag) : Sp := fun vs H Q _ => ∃ (r : Addr) (s : Nat → Int) (n d : Nat), vs = [.ref r, .int (d : Int)] ∧ SqL K H r ((line s (n + 1)).map V.int) ∧ n ≤ 10000 ∧ d ≤ 1000 ∧
  ∀ (b : Bool) (H' : Hp), Same H H' → (b = true ↔ Lz (n + 1) s (d + 1)) → Q (.bl b) H'
theorem c_are_signs_even (T : Txt K mg) : Cal P w K mg base 2 "are_signs_even" ["line", "degree"] (sp_are_signs_even K) := by
  refine T.f_are_signs_even.cal sc_are_signs_even (fun _ _ _ _ _ _ us hl => match us, hl with | [_, _], _ => rfl) (fun vs H Q E h => by first | (obtain ⟨_, rfl, _⟩ := h; rfl) | (obtain ⟨_, _, rfl, _⟩ := h; rfl) | (obtain ⟨_, _, _, rfl, _⟩ := h; rfl) | (obtain ⟨_, _, _, _, rfl, _⟩ := h; rfl) | (obtain ⟨_, _, _, _, _, rfl, _⟩ := h; rfl) | (obtain ⟨_, _, _, _, _, _, rfl, _⟩ := h; rfl) | (obtain ⟨_, _, _, _, _, _, _, rfl, _⟩ := h; rfl) | (obtain ⟨_, _, _, _, _, _, _, _, rfl, _⟩ := h; rfl) | (obtain ⟨_, _, _, _, _, _, _, _, _, rfl, _⟩ := h; rfl) | (obtain ⟨_, _, _, _, _, _, _, _, _, _, rfl, _⟩ := h; rfl) | (obtain ⟨_, _, _, _, _, _, _, _, _, _, _, rfl, _⟩ := h; rfl) | (obtain ⟨_, _, _, _, _, _, _, _, _, _, _, _, rfl, _⟩ := h; rfl) | (obtain ⟨_, _, _, _, _, _, _, _, _, _, _, _, _, rfl, _⟩ := h; rfl)) (fun cdv A outer s H vs Q E f hr h => ?_)
  obtain ⟨r, s, n, d, rfl, hS, hn, hd, q⟩ := h
  refine ⟨_, (pss_cons (ps_set (i := 2) sc_are_signs_even.nd rfl (.inl rfl) (pv 0))
    (pss_cons (ps_for PassesOwn.never rfl (pi_range1 (by rfl) T.b_range (pa_cons (pe_op op_add (pv 1) pe_int) pa_nil)) (pg_name (i := 3) sc_are_signs_even.nd rfl (.inl rfl)) (pss_cons (ps_set (i := 2) sc_are_signs_even.nd rfl (.inl rfl) (pe_cal (c_running_sums T) hr (by decide) (pa_cons (pv 2) pa_nil)))
    (pss_one (ps_if (pt_cmpR op_ne (pe_ix (kz_ixL (K := K)) (pv 2) (pe_un un_neg pe_int) (fun _ _ => rfl)) pe_int (nomark _)) (pss_one (ps_ret pe_bl)) pss_nil))))
    (pss_one (ps_ret pe_bl)))), ?_⟩
  walk_at "rd"
  refine for_range (fun i σ H2 => ∃ (y3 : Option V) (p : Addr), σ = [some (.ref r), some (.int (d : Int)), some (.ref p), y3] ∧ Same H H2 ∧ SqL K H2 p ((line (SN i s) (n + 1)).map V.int) ∧ Lz (n + 1) s i) ⟨none, r, rfl, L2.Same.refl _, hS, fun k hk => absurd hk (Nat.not_lt_zero k)⟩ ?_ ?_
  · rintro i σ H2 hi ⟨y3, p, rfl, s2, hp, hz⟩
    walk_at "rd"
    refine ⟨p, _, rfl, hp, by rw [line_len]; omega, fun p3 H3 np3 s3 hp3 => ?_⟩
    rw [psums_line] at hp3
    have hp3' : SqL K H3 p3 ((line (SN (i + 1) s) (n + 1)).map V.int) := .inl (.inl hp3)
    have el : atI ((line (SN (i + 1) s) (n + 1)).map V.int) (-1) = some (.int (sumTo (n + 1) (SN i s))) := at_end (line_len _ _) (line_at (by omega))
    walk_at "rd"
    refine ⟨_, _, _, _, rfl, rfl, hp3', el, rfl, ?_⟩
    walk_at "rd"
    refine ite2 (fun c => ?_) (fun c => ?_)
    · refine q false _ (s2.trans s3) ⟨fun z => Bool.noConfusion z, fun z => ?_⟩
      rw [z i (by omega), decide_eq_true rfl] at c
      cases c
    · have c2 : sumTo (n + 1) (SN i s) = 0 := by
        refine Decidable.byContradiction fun z => c ?_
        rw [decide_eq_false (fun e => z (V.int.inj e))]
        rfl
      refine ⟨_, p3, rfl, s2.trans s3, hp3', fun k hk => ?_⟩
      by_cases e : k = i
      · rw [e]
        exact c2
      · exact hz k (by omega)
  · rintro σ H2 ⟨y3, p, rfl, s2, hp, hz⟩
    refine q true _ s2 ⟨fun _ => ?_, fun _ => rfl⟩
    rw [show ((d : Int) + 1).toNat = d + 1 by omega] at hz
    exact hz

/-! sign_of -/
def sp_sign_of (K : PySem.W.Frag) : Sp := fun vs H Q _ => ∃ (t a b : Int), vs = [.int t, .int a, .int b] ∧ Q (.int (signOf t a b)) H
theorem c_sign_of (T : Txt K mg) : Cal P w K mg base 1 "sign_of" ["turn", "one", "other"] (sp_sign_of K) := by
  refine T.f_sign_of.cal sc_sign_of (fun _ _ _ _ _ _ us hl => match us, hl with | [_, _, _], _ => rfl) (fun vs H Q E h => by first | (obtain ⟨_, rfl, _⟩ := h; rfl) | (obtain ⟨_, _, rfl, _⟩ := h; rfl) | (obtain ⟨_, _, _, rfl, _⟩ := h; rfl) | (obtain ⟨_, _, _, _, rfl, _⟩ := h; rfl) | (obtain ⟨_, _, _, _, _, rfl, _⟩ := h; rfl) | (obtain ⟨_, _, _, _, _, _, rfl, _⟩ := h; rfl) | (obtain ⟨_, _, _, _, _, _, _, rfl, _⟩ := h; rfl) | (obtain ⟨_, _, _, _, _, _, _, _, rfl, _⟩ := h; rfl) | (obtain ⟨_, _, _, _, _, _, _, _, _, rfl, _⟩ := h; rfl) | (obtain ⟨_, _, _, _, _, _, _, _, _, _, rfl, _⟩ := h; rfl) | (obtain ⟨_, _, _, _, _, _, _, _, _, _, _, rfl, _⟩ := h; rfl) | (obtain ⟨_, _, _, _, _, _, _, _, _, _, _, _, rfl, _⟩ := h; rfl) | (obtain ⟨_, _, _, _, _, _, _, _, _, _, _, _, _, rfl, _⟩ := h; rfl)) (fun cdv A outer s H vs Q E f hr h => ?_)
  obtain ⟨t, a, b, rfl, q⟩ := h
  refine ⟨_, (pss_cons (ps_if (pt_cmpR op_eq (pv 0) (pv 1) (nomark _)) (pss_one (ps_ret pe_int)) pss_nil)
    (pss_cons (ps_if (pt_cmpR op_eq (pv 0) (pv 2) (nomark _)) (pss_one (ps_ret (pe_un un_neg pe_int))) pss_nil)
    (pss_one (ps_ret pe_int)))), ?_⟩
  unfold signOf at q
  walk_at "rd"
  refine ite2 (fun c => ?_) (fun c => ?_)
  · rw [if_pos (show t = a from V.int.inj (of_decide_eq_true c))] at q
    exact q
  · rw [if_neg (show ¬ t = a from fun z => c (decide_eq_true (congrArg V.int z)))] at q
    walk_at "rd"
    refine ite2 (fun c => ?_) (fun c => ?_)
    · rw [if_pos (show t = b from V.int.inj (of_decide_eq_true c))] at q
      walk_at "rd"
      exact q
    · rw [if_neg (show ¬ t = b from fun z => c (decide_eq_true (congrArg V.int z)))] at q
      exact q

/-! signs_of -/
def sp_signs_of (K : PySem.W.Frag) : Sp := fun vs H Q _ => ∃ (r : Addr) (row : List Int) (a b : Int), vs = [.ref r, .int a, .int b] ∧ SqT K H r (row.map V.int) ∧ row.length ≤ 100000 ∧
  ∀ (p : Addr) (H' : Hp), H p = none → Same H H' → H' p = some (.lst ((signsOf row a b).map V.int)) → Q (.ref p) H'
theorem c_signs_of (T : Txt K mg) : Cal P w K mg base 2 "signs_of" ["row", "one", "other"] (sp_signs_of K) := by
  refine T.f_signs_of.cal sc_signs_of (fun _ _ _ _ _ _ us hl => match us, hl with | [_, _, _], _ => rfl) (fun vs H Q E h => by first | (obtain ⟨_, rfl, _⟩ := h; rfl) | (obtain ⟨_, _, rfl, _⟩ := h; rfl) | (obtain ⟨_, _, _, rfl, _⟩ := h; rfl) | (obtain ⟨_, _, _, _, rfl, _⟩ := h; rfl) | (obtain ⟨_, _, _, _, _, rfl, _⟩ := h; rfl) | (obtain ⟨_, _, _, _, _, _, rfl, _⟩ := h; rfl) | (obtain ⟨_, _, _, _, _, _, _, rfl, _⟩ := h; rfl) | (obtain ⟨_, _, _, _, _, _, _, _, rfl, _⟩ := h; rfl) | (obtain ⟨_, _, _, _, _, _, _, _, _, rfl, _⟩ := h; rfl) | (obtain ⟨_, _, _, _, _, _, _, _, _, _, rfl, _⟩ := h; rfl) | (obtain ⟨_, _, _, _, _, _, _, _, _, _, _, rfl, _⟩ := h; rfl) | (obtain ⟨_, _, _, _, _, _, _, _, _, _, _, _, rfl, _⟩ := h; rfl) | (obtain ⟨_, _, _, _, _, _, _, _, _, _, _, _, _, rfl, _⟩ := h; rfl)) (fun cdv A outer s H vs Q E f hr h => ?_)
  obtain ⟨r, row, a, b, rfl, hS, hl, q⟩ := h
  refine ⟨_, (pss_one (ps_ret (pe_lc (own := [("turn", 3)]) (g := (gName 3)) (tt := tYes) rfl sc_signs_of.nd (kz_piT (K := K) (pv 0)) (blkOk_by (own := [("turn", 3)]) (N := ["row", "one", "other", "turn"]) (sc := defScope S_signs_of) (by decide +kernel)) (fun _ _ _ _ _ => (pg_name (i := 3) sc_signs_of.nd rfl (.inl rfl))) (fun _ _ _ _ _ => pts_nil) (fun _ _ _ _ _ => (pe_cal (c_sign_of T) hr (by decide) (pa_cons (pv 3) (pa_cons (pv 1) (pa_cons (pv 2) pa_nil)))))))), ?_⟩
  refine ⟨_, rfl, _, rfl, ⟨_, hS⟩, fun D nD => ?_⟩
  have len : ∀ i, (((signsOf row a b).map V.int).take i).length ≤ row.length := fun i => by
    rw [List.length_take, List.length_map, signsOf, List.length_map]
    exact Nat.min_le_right _ _
  refine lcp walk_tup nD (fun i => ((signsOf row a b).map V.int).take i) rfl (fun i _ => Nat.lt_of_le_of_lt (len i) (by omega)) (fun H2 s2 => seqT s2 hS) ?_ ?_
  · rintro i x H2 H' R N hi s2 ⟨rfl, hx⟩ k _
    obtain ⟨z, hz, rfl⟩ := map_at hx
    refine ⟨rfl, ?_⟩
    walk_at "rd"
    refine ⟨z, a, b, rfl, k _ _ (L2.Same.refl _) ?_⟩
    rw [List.take_add_one, List.getElem?_map, signsOf, List.getElem?_map, hz]
    rfl
  · intro H2 s2 hD
    refine q D H2 nD s2 ?_
    rw [hD, List.take_of_length_le]
    rw [List.length_map, List.length_map, signsOf, List.length_map]
    exact Nat.le_refl _

/-! is_even_to -/
def sp_is_even_to (K : PySem.W.Frag) : Sp := fun vs H Q _ => ∃ (hands : Int) (r : Addr) (row : List Int) (d : Nat), vs = [.int hands, .ref r, .int (d : Int)] ∧ RowOk hands row ∧ SqT K H r (row.map V.int) ∧ d ≤ 1000 ∧
  ∀ (b : Bool) (H' : Hp), Same H H' → (b = true ↔ REv hands row (d + 1)) → Q (.bl b) H'
theorem c_is_even_to (T : Txt K mg) : Cal P w K mg base 3 "is_even_to" ["hands", "row", "degree"] (sp_is_even_to K) := by
  refine T.f_is_even_to.cal sc_is_even_to (fun _ _ _ _ _ _ us hl => match us, hl with | [_, _, _], _ => rfl) (fun vs H Q E h => by first | (obtain ⟨_, rfl, _⟩ := h; rfl) | (obtain ⟨_, _, rfl, _⟩ := h; rfl) | (obtain ⟨_, _, _, rfl, _⟩ := h; rfl) | (obtain ⟨_, _, _, _, rfl, _⟩ := h; rfl) | (obtain ⟨_, _, _, _, _, rfl, _⟩ := h; rfl) | (obtain ⟨_, _, _, _, _, _, rfl, _⟩ := h; rfl) | (obtain ⟨_, _, _, _, _, _, _, rfl, _⟩ := h; rfl) | (obtain ⟨_, _, _, _, _, _, _, _, rfl, _⟩ := h; rfl) | (obtain ⟨_, _, _, _, _, _, _, _, _, rfl, _⟩ := h; rfl) | (obtain ⟨_, _, _, _, _, _, _, _, _, _, rfl, _⟩ := h; rfl) | (obtain ⟨_, _, _, _, _, _, _, _, _, _, _, rfl, _⟩ := h; rfl) | (obtain ⟨_, _, _, _, _, _, _, _, _, _, _, _, rfl, _⟩ := h; rfl) | (obtain ⟨_, _, _, _, _, _, _, _, _, _, _, _, _, rfl, _⟩ := h; rfl)) (fun cdv A outer s H vs Q E f hr h => ?_)
  obtain ⟨hands, r, row, d, rfl, ok, hS, hd, q⟩ := h
  obtain ⟨h1, h2, h3, h4, h5⟩ := id ok
  obtain ⟨n, hn⟩ : ∃ n, row.length = n + 1 := ⟨row.length - 1, by have := List.length_pos_iff.mpr h3; omega⟩
  refine ⟨_, (pss_cons (ps_for PassesOwn.never rfl (pi_range2 (by rfl) T.b_range (pa_cons pe_int (pa_cons (pv 0) pa_nil))) (pg_name (i := 3) sc_is_even_to.nd rfl (.inl rfl)) (pss_one (ps_for PassesOwn.never rfl (pi_range1 (by rfl) T.b_range (pa_cons (pv 3) pa_nil)) (pg_name (i := 4) sc_is_even_to.nd rfl (.inl rfl)) (pss_one (ps_if (pt_not (pt_val (pe_cal (c_are_signs_even T) hr (by decide) (pa_cons (pe_cal (c_signs_of T) hr (by decide) (pa_cons (pv 1) (pa_cons (pv 4) (pa_cons (pv 3) pa_nil)))) (pa_cons (pv 2) pa_nil))))) (pss_one (ps_ret pe_bl)) pss_nil)))))
    (pss_one (ps_ret pe_bl))), ?_⟩
  walk_at "rd"
  refine for_range (lo := 1) (fun i σ H2 => ∃ (y3 y4 : Option V), σ = [some (.int hands), some (.ref r), some (.int (d : Int)), y3, y4] ∧ Same H H2 ∧ ∀ a b : Nat, a < b → b < i + 1 → Lz row.length (sg row a b) (d + 1)) ⟨none, none, rfl, L2.Same.refl _, fun a b h1 h2 => by omega⟩ ?_ ?_
  · rintro i σ H2 hi ⟨y3, y4, rfl, s2, hz⟩
    walk_at "rd"
    refine for_range (fun j σ H3 => ∃ (y4 : Option V), σ = [some (.int hands), some (.ref r), some (.int (d : Int)), some (.int (1 + (i : Int))), y4] ∧ Same H H3 ∧ ∀ a : Nat, a < j → Lz row.length (sg row a ((i + 1 : Nat) : Int)) (d + 1)) ⟨y4, rfl, s2, fun a h => by omega⟩ ?_ ?_
    · rintro j σ H3 hj ⟨y4, rfl, s3, hz3⟩
      walk_at "rd"
      refine ⟨r, row, 0 + (j : Int), 1 + (i : Int), rfl, seqT s3 hS, by omega, fun p4 H4 np4 s4 hp4 => ?_⟩
      have s4' := s3.trans s4
      rw [signsOf_line, hn, Int.zero_add, show 1 + (i : Int) = ((i + 1 : Nat) : Int) by omega] at hp4
      walk_at "rd"
      refine ⟨p4, sg row j ((i + 1 : Nat) : Int), n, d, rfl, .inl (.inl hp4), by omega, hd, fun b H5 s5 hb => ?_⟩
      have s5' := s4'.trans s5
      rw [← hn] at hb
      walk_at "rd"
      cases b with
      | false =>
        refine ite2 (fun _ => ?_) (fun c => absurd rfl c)
        refine q false _ s5' ⟨fun z => Bool.noConfusion z, fun z => ?_⟩
        exact Bool.noConfusion (hb.mpr (z j (i + 1) (by omega) (by omega)))
      | true =>
        refine ite2 (fun c => Bool.noConfusion c) (fun _ => ?_)
        refine ⟨_, rfl, s5', fun a ha => ?_⟩
        by_cases e : a = j
        · rw [e]
          exact hb.mp rfl
        · exact hz3 a (by omega)
    · rintro σ H3 ⟨y4, rfl, s3, hz3⟩
      refine ⟨_, _, rfl, s3, fun a b hab hb => ?_⟩
      by_cases e : b = i + 1
      · rw [e]
        exact hz3 a (by omega)
      · exact hz a b hab (by omega)
  · rintro σ H2 ⟨y3, y4, rfl, s2, hz⟩
    exact q true _ s2 ⟨fun _ a b hab hb => hz a b hab (by omega), fun _ => rfl⟩

/-! evenness -/
def sp_evenness (K : PySem.W.Frag) : Sp := fun vs H Q _ => ∃ (hands : Int) (r : Addr) (row : List Int), vs = [.int hands, .ref r] ∧ RowOk hands row ∧ SqT K H r (row.map V.int) ∧
  ∀ (e : Nat) (H' : Hp), Same H H' → REv hands row e → ¬ REv hands row (e + 1) → Q (.int ((e : Int) - 1)) H'
theorem c_evenness (T : Txt K mg) : Cal P w K mg base 6 "evenness" ["hands", "row"] (sp_evenness K) := by
  refine T.f_evenness.cal sc_evenness (fun _ _ _ _ _ _ us hl => match us, hl with | [_, _], _ => rfl) (fun vs H Q E h => by first | (obtain ⟨_, rfl, _⟩ := h; rfl) | (obtain ⟨_, _, rfl, _⟩ := h; rfl) | (obtain ⟨_, _, _, rfl, _⟩ := h; rfl) | (obtain ⟨_, _, _, _, rfl, _⟩ := h; rfl) | (obtain ⟨_, _, _, _, _, rfl, _⟩ := h; rfl) | (obtain ⟨_, _, _, _, _, _, rfl, _⟩ := h; rfl) | (obtain ⟨_, _, _, _, _, _, _, rfl, _⟩ := h; rfl) | (obtain ⟨_, _, _, _, _, _, _, _, rfl, _⟩ := h; rfl) | (obtain ⟨_, _, _, _, _, _, _, _, _, rfl, _⟩ := h; rfl) | (obtain ⟨_, _, _, _, _, _, _, _, _, _, rfl, _⟩ := h; rfl) | (obtain ⟨_, _, _, _, _, _, _, _, _, _, _, rfl, _⟩ := h; rfl) | (obtain ⟨_, _, _, _, _, _, _, _, _, _, _, _, rfl, _⟩ := h; rfl) | (obtain ⟨_, _, _, _, _, _, _, _, _, _, _, _, _, rfl, _⟩ := h; rfl)) (fun cdv A outer s H vs Q E f hr h => ?_)
  obtain ⟨hands, r, row, rfl, ok, hS, q⟩ := h
  obtain ⟨h1, h2, h3, h4, h5⟩ := id ok
  have ends := rev_ends ok
  refine ⟨_, (pss_cons (ps_expr (pe_cal (c_check_row T) hr (by decide) (pa_cons (pv 0) (pa_cons (pv 1) pa_nil))))
    (pss_cons (ps_set (i := 2) sc_evenness.nd rfl (.inl rfl) pe_int)
    (pss_cons (ps_while PassesOwn.never (pt_val (pe_cal (c_is_even_to T) hr (by decide) (pa_cons (pv 0) (pa_cons (pv 1) (pa_cons (pv 2) pa_nil))))) (pss_one (ps_aug (i := 2) sc_evenness.nd rfl (.inl rfl) pe_int ip_add)))
    (pss_one (ps_ret (pe_op op_sub (pv 2) pe_int)))))), ?_⟩
  walk_at "rd"
  refine ⟨hands, r, row, rfl, ok, hS, fun H1 s1 => ?_⟩
  walk_at "rd"
  have s0 : ∀ k, k ≤ row.length → REv hands row k → k < row.length := fun k hk h => by
    by_cases e : k = row.length
    · rw [e] at h
      exact absurd h ends
    · omega
  refine ⟨fun m σ H2 => ∃ d : Nat, σ = [some (.int hands), some (.ref r), some (.int (d : Int))] ∧ Same H H2 ∧ REv hands row d ∧ m = row.length - d ∧ d ≤ row.length, ⟨_, 0, rfl, s1, fun a b _ _ k hk => absurd hk (Nat.not_lt_zero k), rfl, Nat.zero_le _⟩, ?_⟩
  rintro m σ H2 ⟨d, rfl, s2, hd, rfl, ld⟩
  have ld2 := s0 d ld hd
  walk_at "rd"
  refine ⟨hands, r, row, d, rfl, ok, seqT s2 hS, by omega, fun b H3 s3 hb => ?_⟩
  have s3' := s2.trans s3
  walk_at "rd"
  cases b with
  | false =>
    refine iteF ?_
    walk_at "rd"
    exact q d _ s3' hd fun z => Bool.noConfusion (hb.mpr z)
  | true =>
    refine iteT ?_
    have hd2 := hb.mp rfl
    refine ⟨fun σ' H' => ∃ d' : Nat, d' = d + 1 ∧ σ' = [some (.int hands), some (.ref r), some (.int (d' : Int))] ∧ Same H H', ?_, ?_⟩
    · rintro σ' H' ⟨d', rfl, rfl, s4⟩
      exact ⟨row.length - (d + 1), by omega, d + 1, rfl, s4, hd2, rfl, by omega⟩
    · exact ⟨_, rfl, _, _, rfl, rfl, d + 1, rfl, rfl, s3'⟩

/-! check_degree -/
def sp_check_degree (K : PySem.W.Frag) : Sp := fun vs H Q _ => ∃ k m : Int, vs = [.int k, .int m] ∧ 0 ≤ k ∧ k ≤ m ∧ Q .non H
theorem fk_check_degree (T : Txt K mg) : ∃ f fd, FunD K "check_degree" "check_degree" (defArgs S_check_degree) (defBody S_check_degree) (defScope S_check_degree) [] [("most", .int 9)] f fd ∧ mg "check_degree" = some (.ref f) ∧ FnOk P w K mg base CX0 3 f fd ["degree", "most"] (sp_check_degree K) := by
  refine T.f_check_degree.fn sc_check_degree (fun vs H Q E h => by first | (obtain ⟨_, rfl, _⟩ := h; rfl) | (obtain ⟨_, _, rfl, _⟩ := h; rfl) | (obtain ⟨_, _, _, rfl, _⟩ := h; rfl) | (obtain ⟨_, _, _, _, rfl, _⟩ := h; rfl) | (obtain ⟨_, _, _, _, _, rfl, _⟩ := h; rfl) | (obtain ⟨_, _, _, _, _, _, rfl, _⟩ := h; rfl) | (obtain ⟨_, _, _, _, _, _, _, rfl, _⟩ := h; rfl) | (obtain ⟨_, _, _, _, _, _, _, _, rfl, _⟩ := h; rfl) | (obtain ⟨_, _, _, _, _, _, _, _, _, rfl, _⟩ := h; rfl) | (obtain ⟨_, _, _, _, _, _, _, _, _, _, rfl, _⟩ := h; rfl) | (obtain ⟨_, _, _, _, _, _, _, _, _, _, _, rfl, _⟩ := h; rfl) | (obtain ⟨_, _, _, _, _, _, _, _, _, _, _, _, rfl, _⟩ := h; rfl) | (obtain ⟨_, _, _, _, _, _, _, _, _, _, _, _, _, rfl, _⟩ := h; rfl)) (fun cdv A outer s H vs Q E f hr h => ?_)
  obtain ⟨k, m, rfl, h1, h2, q⟩ := h
  refine ⟨_, (pss_one (ps_if (pt_not (pt_val (pe_cal (c_is_from_to T) hr (by decide) (pa_cons (pv 0) (pa_cons pe_int (pa_cons (pv 1) pa_nil)))))) (pss_one ps_never) pss_nil)), ?_⟩
  walk_at "rd"
  refine ⟨.int k, 0, m, true, rfl, .int _, _, rfl, ?_⟩
  have e : whB (.int k) 0 m = true := decide_eq_true ⟨h1, h2⟩
  rw [e]
  exact iteF q
theorem cd_check_degree (T : Txt K mg) : CalD P w K mg base 3 "check_degree" ["degree", "most"] (sp_check_degree K) (.int 9) := by
  obtain ⟨f, fd, F, m, G⟩ := fk_check_degree (P := P) (w := w) (base := base) T
  obtain ⟨ds, r, b⟩ := F.binds0 (ps := ["degree", "most"]) 1 (by simp) rfl (fun D doc pm an cdv ct us ks hl hk => match us, ks, hl, hk with | [_], [_], _, _ => ⟨_, _, _, _, _, _, rfl, rfl, rfl⟩)
  exact ⟨f, fd, ds, G, m, F.kp, b, r⟩
theorem ck_check_degree (T : Txt K mg) : CalK P w K mg base 3 "check_degree" ["degree", "most"] (sp_check_degree K) 1 "most" := by
  obtain ⟨f, fd, F, m, G⟩ := fk_check_degree (P := P) (w := w) (base := base) T
  refine ⟨f, fd, G, m, F.kp, ⟨fun s us ws _ hl hw => ?_, fun r1 r2 => r1.append r2⟩⟩
  obtain ⟨oc, od, dV, kV, doc, pm, an, cdv, ct, osl, rfl, lk, hcd, hD, hK⟩ := F.ex
  rcases hD with ⟨_, rfl⟩ | ⟨e, _⟩
  · exact match us, ws, hl, hw with | [_], [_], _, _ => .of_eq rfl
  · exact absurd rfl e

/-! is_smooth -/
def sp_is_smooth (K : PySem.W.Frag) : Sp := fun vs H Q _ => ∃ (r : Addr) (ws : List Int) (d : Nat), vs = [.ref r, .int (d : Int)] ∧ SqT K H r (ws.map V.int) ∧ ws ≠ [] ∧ ws.length ≤ 100000 ∧ d ≤ 9 ∧ ∀ H', Same H H' → Q (.bl (smB (d + 1) ws)) H'
theorem c_is_smooth (T : Txt K mg) : Cal P w K mg base 4 "is_smooth" ["worths", "degree"] (sp_is_smooth K) := by
  refine T.f_is_smooth.cal sc_is_smooth (fun _ _ _ _ _ _ us hl => match us, hl with | [_, _], _ => rfl) (fun vs H Q E h => by first | (obtain ⟨_, rfl, _⟩ := h; rfl) | (obtain ⟨_, _, rfl, _⟩ := h; rfl) | (obtain ⟨_, _, _, rfl, _⟩ := h; rfl) | (obtain ⟨_, _, _, _, rfl, _⟩ := h; rfl) | (obtain ⟨_, _, _, _, _, rfl, _⟩ := h; rfl) | (obtain ⟨_, _, _, _, _, _, rfl, _⟩ := h; rfl) | (obtain ⟨_, _, _, _, _, _, _, rfl, _⟩ := h; rfl) | (obtain ⟨_, _, _, _, _, _, _, _, rfl, _⟩ := h; rfl) | (obtain ⟨_, _, _, _, _, _, _, _, _, rfl, _⟩ := h; rfl) | (obtain ⟨_, _, _, _, _, _, _, _, _, _, rfl, _⟩ := h; rfl) | (obtain ⟨_, _, _, _, _, _, _, _, _, _, _, rfl, _⟩ := h; rfl) | (obtain ⟨_, _, _, _, _, _, _, _, _, _, _, _, rfl, _⟩ := h; rfl) | (obtain ⟨_, _, _, _, _, _, _, _, _, _, _, _, _, rfl, _⟩ := h; rfl)) (fun cdv A outer s H vs Q E f hr h => ?_)
  obtain ⟨r, ws, d, rfl, hS, h0, hl, hd, q⟩ := h
  refine ⟨_, (pss_cons (ps_expr (pe_cal (c_check_worths T) hr (by decide) (pa_cons (pv 0) pa_nil)))
    (pss_cons (ps_expr (pe_calD (cd_check_degree T) hr (by decide) (pa_cons (pv 1) pa_nil)))
    (pss_one (ps_ret (pe_callB (kz_all (K := K) rfl) (by rfl) T.b_all bt_all (pa_cons (pe_lc (own := [("gap", 2)]) (g := (gName 2)) (tt := tYes) rfl sc_is_smooth.nd (kz_piL (K := K) (pe_cal (c_differences_of T) hr (by decide) (pa_cons (pv 0) (pa_cons (pe_op op_add (pv 1) pe_int) pa_nil)))) (blkOk_by (own := [("gap", 2)]) (N := ["worths", "degree", "gap"]) (sc := defScope S_is_smooth) (by decide +kernel)) (fun _ _ _ _ _ => (pg_name (i := 2) sc_is_smooth.nd rfl (.inl rfl))) (fun _ _ _ _ _ => pts_nil) (fun _ _ _ _ _ => (pe_cmpR op_eq (pv 2) pe_int (nomark _)))) pa_nil)))))), ?_⟩
  walk_at "rd"
  refine ⟨r, ws, rfl, h0, hl, hS, fun H1 s1 => ?_⟩
  walk_at "rd"
  refine ⟨r, ws, d + 1, rfl, .inr (seqT s1 hS), hl, by omega, fun p H2 np s2 hp => ?_⟩
  refine ⟨p, rfl, ⟨_, .inl (.inl hp)⟩, fun D nD => ?_⟩
  have dl := diffsN_len (d + 1) ws
  refine lcp (walk_list (xs := (diffsN (d + 1) ws).map V.int)) nD (fun j => ((diffsN (d + 1) ws).map fun z => V.bl (decide (z = 0))).take j) rfl (fun j _ => ?_) (fun H4 s4 => .inl (.inl (s4 _ _ hp))) ?_ ?_
  · rw [List.length_take, List.length_map]
    omega
  · rintro j x H4 H5 R N hj s4 ⟨rfl, h1⟩ k1 _
    obtain ⟨z, e1, rfl⟩ := map_at h1
    refine ⟨rfl, _, rfl, rfl, k1 _ _ (L2.Same.refl _) ?_⟩
    rw [List.take_add_one, List.getElem?_map, e1]
    have e : decide (V.int z = V.int 0) = decide (z = 0) := by
      by_cases c : z = 0
      · rw [c, decide_eq_true rfl, decide_eq_true rfl]
      · rw [decide_eq_false c, decide_eq_false (fun w => c (V.int.inj w))]
    show _ = _ ++ [V.bl (decide (V.int z = V.int 0))]
    rw [e]
    rfl
  · intro H4 s4 hD
    refine ⟨D, (diffsN (d + 1) ws).map fun z => decide (z = 0), rfl, ?_, ?_⟩
    · rw [List.map_map]
      rw [List.take_of_length_le (by rw [List.length_map, List.length_map]; exact Nat.le_refl _)] at hD
      exact .inl (.inl hD)
    · have e : smB (d + 1) ws = ((diffsN (d + 1) ws).map fun z => decide (z = 0)).all id := by
        unfold smB
        rw [List.all_map]
        rfl
      rw [← e]
      exact q _ ((s1.trans s2).trans s4)

/-! check_two_hands -/
def sp_check_two_hands (K : PySem.W.Frag) : Sp := fun vs H Q _ => ∃ (hands : Int) (a b : Int), vs = [.int hands, .int a, .int b] ∧ (0 ≤ a ∧ a < hands) ∧ (0 ≤ b ∧ b < hands) ∧ a ≠ b ∧ Q .non H
theorem c_check_two_hands (T : Txt K mg) : Cal P w K mg base 4 "check_two_hands" ["hands", "one", "other"] (sp_check_two_hands K) := by
  refine T.f_check_two_hands.cal sc_check_two_hands (fun _ _ _ _ _ _ us hl => match us, hl with | [_, _, _], _ => rfl) (fun vs H Q E h => by first | (obtain ⟨_, rfl, _⟩ := h; rfl) | (obtain ⟨_, _, rfl, _⟩ := h; rfl) | (obtain ⟨_, _, _, rfl, _⟩ := h; rfl) | (obtain ⟨_, _, _, _, rfl, _⟩ := h; rfl) | (obtain ⟨_, _, _, _, _, rfl, _⟩ := h; rfl) | (obtain ⟨_, _, _, _, _, _, rfl, _⟩ := h; rfl) | (obtain ⟨_, _, _, _, _, _, _, rfl, _⟩ := h; rfl) | (obtain ⟨_, _, _, _, _, _, _, _, rfl, _⟩ := h; rfl) | (obtain ⟨_, _, _, _, _, _, _, _, _, rfl, _⟩ := h; rfl) | (obtain ⟨_, _, _, _, _, _, _, _, _, _, rfl, _⟩ := h; rfl) | (obtain ⟨_, _, _, _, _, _, _, _, _, _, _, rfl, _⟩ := h; rfl) | (obtain ⟨_, _, _, _, _, _, _, _, _, _, _, _, rfl, _⟩ := h; rfl) | (obtain ⟨_, _, _, _, _, _, _, _, _, _, _, _, _, rfl, _⟩ := h; rfl)) (fun cdv A outer s H vs Q E f hr h => ?_)
  obtain ⟨hands, a, b, rfl, ha, hb, hab, q⟩ := h
  have e : ∀ z : Int, 0 ≤ z ∧ z < hands → whB (.int z) 0 (hands - 1) = true := fun z hz => decide_eq_true ⟨by omega, by omega⟩
  refine ⟨_, (pss_cons (ps_if (PW.pt (pw_or (pt_not (pt_val (pe_cal (c_is_hand T) hr (by decide) (pa_cons (pv 0) (pa_cons (pv 1) pa_nil))))) (pw_or1 (pt_not (pt_val (pe_cal (c_is_hand T) hr (by decide) (pa_cons (pv 0) (pa_cons (pv 2) pa_nil)))))))) (pss_one ps_never) pss_nil)
    (pss_one (ps_if (pt_cmpR op_eq (pv 1) (pv 2) (nomark _)) (pss_one ps_never) pss_nil))), ?_⟩
  walk_at "rd"
  refine ⟨.int a, hands, true, rfl, .int _, _, rfl, ?_⟩
  rw [e a ha]
  refine iteF ?_
  walk_at "rd"
  refine ⟨.int b, hands, true, rfl, .int _, _, rfl, ?_⟩
  rw [e b hb]
  refine iteF ?_
  walk_at "rd"
  refine ite2 (fun c => absurd (V.int.inj (of_decide_eq_true c)) hab) (fun _ => q)

/-! check_two -/
def sp_check_two (K : PySem.W.Frag) : Sp := fun vs H Q _ => ∃ (hands : Int) (r : Addr) (row : List Int) (a b : Int), vs = [.int hands, .ref r, .int a, .int b] ∧ RowOk hands row ∧ SqT K H r (row.map V.int) ∧ (0 ≤ a ∧ a < hands) ∧ (0 ≤ b ∧ b < hands) ∧ a ≠ b ∧ ∀ H', Same H H' → Q .non H'
theorem c_check_two (T : Txt K mg) : Cal P w K mg base 6 "check_two" ["hands", "row", "one", "other"] (sp_check_two K) := by
  refine T.f_check_two.cal sc_check_two (fun _ _ _ _ _ _ us hl => match us, hl with | [_, _, _, _], _ => rfl) (fun vs H Q E h => by first | (obtain ⟨_, rfl, _⟩ := h; rfl) | (obtain ⟨_, _, rfl, _⟩ := h; rfl) | (obtain ⟨_, _, _, rfl, _⟩ := h; rfl) | (obtain ⟨_, _, _, _, rfl, _⟩ := h; rfl) | (obtain ⟨_, _, _, _, _, rfl, _⟩ := h; rfl) | (obtain ⟨_, _, _, _, _, _, rfl, _⟩ := h; rfl) | (obtain ⟨_, _, _, _, _, _, _, rfl, _⟩ := h; rfl) | (obtain ⟨_, _, _, _, _, _, _, _, rfl, _⟩ := h; rfl) | (obtain ⟨_, _, _, _, _, _, _, _, _, rfl, _⟩ := h; rfl) | (obtain ⟨_, _, _, _, _, _, _, _, _, _, rfl, _⟩ := h; rfl) | (obtain ⟨_, _, _, _, _, _, _, _, _, _, _, rfl, _⟩ := h; rfl) | (obtain ⟨_, _, _, _, _, _, _, _, _, _, _, _, rfl, _⟩ := h; rfl) | (obtain ⟨_, _, _, _, _, _, _, _, _, _, _, _, _, rfl, _⟩ := h; rfl)) (fun cdv A outer s H vs Q E f hr h => ?_)
  obtain ⟨hands, r, row, a, b, rfl, ok, hS, ha, hb, hab, q⟩ := h
  refine ⟨_, (pss_cons (ps_expr (pe_cal (c_check_row T) hr (by decide) (pa_cons (pv 0) (pa_cons (pv 1) pa_nil))))
    (pss_one (ps_expr (pe_cal (c_check_two_hands T) hr (by decide) (pa_cons (pv 0) (pa_cons (pv 2) (pa_cons (pv 3) pa_nil))))))), ?_⟩
  walk_at "rd"
  refine ⟨hands, r, row, rfl, ok, hS, fun H' s2 => ?_⟩
  walk_at "rd"
  exact ⟨hands, a, b, rfl, ha, hb, hab, q H' s2⟩

/-! check_worths_of -/
def sp_check_worths_of (K : PySem.W.Frag) : Sp := fun vs H Q _ => ∃ (r u : Addr) (row ws : List Int), vs = [.ref r, .ref u] ∧ row ≠ [] ∧ row.length ≤ 100000 ∧ ws.length = row.length ∧ SqT K H r (row.map V.int) ∧ SqT K H u (ws.map V.int) ∧ ∀ H', Same H H' → Q .non H'
theorem c_check_worths_of (T : Txt K mg) : Cal P w K mg base 3 "check_worths_of" ["row", "worths"] (sp_check_worths_of K) := by
  refine T.f_check_worths_of.cal sc_check_worths_of (fun _ _ _ _ _ _ us hl => match us, hl with | [_, _], _ => rfl) (fun vs H Q E h => by first | (obtain ⟨_, rfl, _⟩ := h; rfl) | (obtain ⟨_, _, rfl, _⟩ := h; rfl) | (obtain ⟨_, _, _, rfl, _⟩ := h; rfl) | (obtain ⟨_, _, _, _, rfl, _⟩ := h; rfl) | (obtain ⟨_, _, _, _, _, rfl, _⟩ := h; rfl) | (obtain ⟨_, _, _, _, _, _, rfl, _⟩ := h; rfl) | (obtain ⟨_, _, _, _, _, _, _, rfl, _⟩ := h; rfl) | (obtain ⟨_, _, _, _, _, _, _, _, rfl, _⟩ := h; rfl) | (obtain ⟨_, _, _, _, _, _, _, _, _, rfl, _⟩ := h; rfl) | (obtain ⟨_, _, _, _, _, _, _, _, _, _, rfl, _⟩ := h; rfl) | (obtain ⟨_, _, _, _, _, _, _, _, _, _, _, rfl, _⟩ := h; rfl) | (obtain ⟨_, _, _, _, _, _, _, _, _, _, _, _, rfl, _⟩ := h; rfl) | (obtain ⟨_, _, _, _, _, _, _, _, _, _, _, _, _, rfl, _⟩ := h; rfl)) (fun cdv A outer s H vs Q E f hr h => ?_)
  obtain ⟨r, u, row, ws, rfl, h0, hl, he, hS, hU, q⟩ := h
  have h1 : 0 < row.length := List.length_pos_iff.mpr h0
  refine ⟨_, (pss_cons (ps_expr (pe_cal (c_check_worths T) hr (by decide) (pa_cons (pv 1) pa_nil)))
    (pss_one (ps_if (pt_cmpR op_ne (pe_callB (kz_len (K := K)) (by rfl) T.b_len bt_len (pa_cons (pv 1) pa_nil)) (pe_callB (kz_len (K := K)) (by rfl) T.b_len bt_len (pa_cons (pv 0) pa_nil)) (nomark _)) (pss_one ps_never) pss_nil))), ?_⟩
  walk_at "rd"
  refine ⟨u, ws, rfl, fun z => ?_, by omega, hU, fun H' s2 => ?_⟩
  · rw [z] at he
    simp only [List.length_nil] at he
    omega
  · have hS2 := seqT s2 hS
    have hU2 := seqT s2 hU
    refine ⟨_, rfl, u, _, rfl, .inr hU2, _, rfl, r, _, rfl, .inr hS2, rfl, _, rfl, ?_⟩
    rw [List.length_map, List.length_map, he]
    refine ite2 (fun c => ?_) (fun _ => q _ s2)
    rw [decide_eq_true rfl] at c
    cases c

/-! totals_of -/
/-- two rows to go along with: both lists, both tuples, a tuple and a list -/
abbrev SqM (K : PySem.W.Frag) (H : Hp) (r u : Addr) (xs ys : List V) : Prop := SqL K H r xs ∧ SqL K H u ys ∨ SqT K H r xs ∧ SqT K H u ys ∨ SqT K H r xs ∧ SqL K H u ys
def sp_totals_of (K : PySem.W.Frag) : Sp := fun vs H Q _ => ∃ (hands : Int) (r u : Addr) (row ws : List Int), vs = [.int hands, .ref r, .ref u] ∧ (0 ≤ hands ∧ hands ≤ 4) ∧ (∀ z ∈ row, 0 ≤ z ∧ z < hands) ∧ ws.length = row.length ∧ SqM K H r u (row.map V.int) (ws.map V.int) ∧
  ∀ (p : Addr) (H' : Hp), H p = none → Same H H' → H' p = some (.lst ((totsOf hands row ws).map V.int)) → Q (.ref p) H'
theorem c_totals_of (T : Txt K mg) : Cal P w K mg base 1 "totals_of" ["hands", "row", "worths"] (sp_totals_of K) := by
  refine T.f_totals_of.cal sc_totals_of (fun _ _ _ _ _ _ us hl => match us, hl with | [_, _, _], _ => rfl) (fun vs H Q E h => by first | (obtain ⟨_, rfl, _⟩ := h; rfl) | (obtain ⟨_, _, rfl, _⟩ := h; rfl) | (obtain ⟨_, _, _, rfl, _⟩ := h; rfl) | (obtain ⟨_, _, _, _, rfl, _⟩ := h; rfl) | (obtain ⟨_, _, _, _, _, rfl, _⟩ := h; rfl) | (obtain ⟨_, _, _, _, _, _, rfl, _⟩ := h; rfl) | (obtain ⟨_, _, _, _, _, _, _, rfl, _⟩ := h; rfl) | (obtain ⟨_, _, _, _, _, _, _, _, rfl, _⟩ := h; rfl) | (obtain ⟨_, _, _, _, _, _, _, _, _, rfl, _⟩ := h; rfl) | (obtain ⟨_, _, _, _, _, _, _, _, _, _, rfl, _⟩ := h; rfl) | (obtain ⟨_, _, _, _, _, _, _, _, _, _, _, rfl, _⟩ := h; rfl) | (obtain ⟨_, _, _, _, _, _, _, _, _, _, _, _, rfl, _⟩ := h; rfl) | (obtain ⟨_, _, _, _, _, _, _, _, _, _, _, _, _, rfl, _⟩ := h; rfl)) (fun cdv A outer s H vs Q E f hr h => ?_)
  obtain ⟨hands, r, u, row, ws, rfl, hh, hz, he, hSU, q⟩ := h
  refine ⟨_, (pss_cons (ps_set (i := 3) sc_totals_of.nd rfl (.inl rfl) (pe_op op_rep (pe_lst (pa_cons pe_int pa_nil)) (pv 0)))
    (pss_cons (ps_for PassesOwn.never rfl (kz_zipB (K := K) (by rfl) T.b_zip (pa_cons (pv 1) (pa_cons (pv 2) pa_nil))) (kz_gtup (K := K) 2 rfl (pgs_cons (pg_name (i := 4) sc_totals_of.nd rfl (.inl rfl)) (pgs_cons (pg_name (i := 5) sc_totals_of.nd rfl (.inl rfl)) pgs_nil))) (pss_one (ps_augS (pv 3) (pv 4) (kz_getL (K := K)) (pv 5) ip_add set_list)))
    (pss_one (ps_ret (pv 3))))), ?_⟩
  walk_at "rd"
  intro p1 n1
  refine ⟨_, rfl, p1, hands, [V.int 0], rfl, rfl, upd_same, by omega, by omega, sz (by show 1 * hands.toNat ≤ 100000; omega), fun p n2 => ?_⟩
  have s1 : Same H (upd H p1 (.lst [V.int 0])) := same_new n1
  have s2 := same_then (o := .lst (List.replicate hands.toNat [V.int 0]).flatten) s1 n2
  have np : H p = none := none_back s1 n2
  have e0 : (List.replicate hands.toNat [V.int 0]).flatten = (totsOf hands (row.take 0) (ws.take 0)).map V.int := by
    rw [flat_rep, List.take_zero, List.take_zero, totsOf_nil, List.map_replicate]
  rw [e0] at s2 ⊢
  refine ⟨_, rfl, _, rfl, ?_⟩
  rcases hSU with ⟨hS, hU⟩ | ⟨hS, hU⟩ | ⟨hS, hU⟩
  · refine ⟨r, u, _, _, rfl, .inl ⟨seqL s2 hS, seqL s2 hU, ?_⟩⟩
    refine for_it (walk_zip (n := row.length) (xs := row.map V.int) (ys := ws.map V.int) (by rw [List.length_map, List.length_map]; omega)) (fun i σ H2 => ∃ y4 y5, σ = [some (.int hands), some (.ref r), some (.ref u), some (.ref p), y4, y5] ∧ Same H H2 ∧ H2 p = some (.lst ((totsOf hands (row.take i) (ws.take i)).map V.int)))
      ⟨none, none, rfl, s2, upd_same⟩ (fun i σ H2 _ h => ?_) ?_ ?_
    · obtain ⟨_, _, _, sm, _⟩ := h
      exact ⟨seqL sm hS, seqL sm hU⟩
    · rintro i x σ H2 H' hi ⟨y4, y5, rfl, sm, hp⟩ ⟨T1, v1, v2, rfl, nT, rfl, h1, h2⟩
      obtain ⟨t, ht, rfl⟩ := map_at h1
      obtain ⟨w1, hw, rfl⟩ := map_at h2
      obtain ⟨t0, t1⟩ := hz t (List.mem_of_getElem? ht)
      have npT : p ≠ T1 := ne_of_none hp nT
      have hp2 : (upd H2 T1 (.tup [.int t, .int w1])) p = some (.lst ((totsOf hands (row.take i) (ws.take i)).map V.int)) := by
        rw [upd_ne npT]
        exact hp
      have et : t = (t.toNat : Int) := (Int.toNat_of_nonneg t0).symm
      have eg : ((totsOf hands (row.take i) (ws.take i)).map V.int)[t.toNat]? = some (.int (tot (row.take i) (ws.take i) t)) := by
        rw [List.getElem?_map, totsOf_at (by omega), ← et]
        rfl
      refine ⟨T1, _, rfl, .inl (.inl upd_same), rfl, _, _, rfl, _, _, rfl, rfl, ?_⟩
      refine ⟨_, rfl, _, rfl, p, _, t.toNat, _, rfl, by rw [← et], .inl (.inl hp2), eg, _, rfl, _, _, rfl, rfl, p, _, t, t.toNat, rfl, rfl, hp2, ?_, ?_⟩
      · unfold ixN
        rw [if_pos t0, if_pos (by rw [List.length_map, totsOf_len]; omega)]
      · refine ⟨_, _, rfl, fun c o hc => ?_, ?_⟩
        · rw [upd_ne (fun z => by rw [z, np] at hc; cases hc)]
          exact same_new nT _ _ (sm _ _ hc)
        · rw [upd_same, totsOf_more ht hw t0 t1, List.map_set]
    · rintro σ H2 ⟨y4, y5, rfl, sm, hp⟩
      rw [List.take_length, ← he, List.take_length] at hp
      exact ⟨_, rfl, q p H2 np sm hp⟩
  · refine ⟨r, u, _, _, rfl, .inr (.inl ⟨seqT s2 hS, seqT s2 hU, ?_⟩)⟩
    refine for_it (walk_zipT (n := row.length) (xs := row.map V.int) (ys := ws.map V.int) (by rw [List.length_map, List.length_map]; omega)) (fun i σ H2 => ∃ y4 y5, σ = [some (.int hands), some (.ref r), some (.ref u), some (.ref p), y4, y5] ∧ Same H H2 ∧ H2 p = some (.lst ((totsOf hands (row.take i) (ws.take i)).map V.int)))
      ⟨none, none, rfl, s2, upd_same⟩ (fun i σ H2 _ h => ?_) ?_ ?_
    · obtain ⟨_, _, _, sm, _⟩ := h
      exact ⟨seqT sm hS, seqT sm hU⟩
    · rintro i x σ H2 H' hi ⟨y4, y5, rfl, sm, hp⟩ ⟨T1, v1, v2, rfl, nT, rfl, h1, h2⟩
      obtain ⟨t, ht, rfl⟩ := map_at h1
      obtain ⟨w1, hw, rfl⟩ := map_at h2
      obtain ⟨t0, t1⟩ := hz t (List.mem_of_getElem? ht)
      have npT : p ≠ T1 := ne_of_none hp nT
      have hp2 : (upd H2 T1 (.tup [.int t, .int w1])) p = some (.lst ((totsOf hands (row.take i) (ws.take i)).map V.int)) := by
        rw [upd_ne npT]
        exact hp
      have et : t = (t.toNat : Int) := (Int.toNat_of_nonneg t0).symm
      have eg : ((totsOf hands (row.take i) (ws.take i)).map V.int)[t.toNat]? = some (.int (tot (row.take i) (ws.take i) t)) := by
        rw [List.getElem?_map, totsOf_at (by omega), ← et]
        rfl
      refine ⟨T1, _, rfl, .inl (.inl upd_same), rfl, _, _, rfl, _, _, rfl, rfl, ?_⟩
      refine ⟨_, rfl, _, rfl, p, _, t.toNat, _, rfl, by rw [← et], .inl (.inl hp2), eg, _, rfl, _, _, rfl, rfl, p, _, t, t.toNat, rfl, rfl, hp2, ?_, ?_⟩
      · unfold ixN
        rw [if_pos t0, if_pos (by rw [List.length_map, totsOf_len]; omega)]
      · refine ⟨_, _, rfl, fun c o hc => ?_, ?_⟩
        · rw [upd_ne (fun z => by rw [z, np] at hc; cases hc)]
          exact same_new nT _ _ (sm _ _ hc)
        · rw [upd_same, totsOf_more ht hw t0 t1, List.map_set]
    · rintro σ H2 ⟨y4, y5, rfl, sm, hp⟩
      rw [List.take_length, ← he, List.take_length] at hp
      exact ⟨_, rfl, q p H2 np sm hp⟩
  · refine ⟨r, u, _, _, rfl, .inr (.inr ⟨seqT s2 hS, seqL s2 hU, ?_⟩)⟩
    refine for_it (walk_zipTL (n := row.length) (xs := row.map V.int) (ys := ws.map V.int) (by rw [List.length_map, List.length_map]; omega)) (fun i σ H2 => ∃ y4 y5, σ = [some (.int hands), some (.ref r), some (.ref u), some (.ref p), y4, y5] ∧ Same H H2 ∧ H2 p = some (.lst ((totsOf hands (row.take i) (ws.take i)).map V.int)))
      ⟨none, none, rfl, s2, upd_same⟩ (fun i σ H2 _ h => ?_) ?_ ?_
    · obtain ⟨_, _, _, sm, _⟩ := h
      exact ⟨seqT sm hS, seqL sm hU⟩
    · rintro i x σ H2 H' hi ⟨y4, y5, rfl, sm, hp⟩ ⟨T1, v1, v2, rfl, nT, rfl, h1, h2⟩
      obtain ⟨t, ht, rfl⟩ := map_at h1
      obtain ⟨w1, hw, rfl⟩ := map_at h2
      obtain ⟨t0, t1⟩ := hz t (List.mem_of_getElem? ht)
      have npT : p ≠ T1 := ne_of_none hp nT
      have hp2 : (upd H2 T1 (.tup [.int t, .int w1])) p = some (.lst ((totsOf hands (row.take i) (ws.take i)).map V.int)) := by
        rw [upd_ne npT]
        exact hp
      have et : t = (t.toNat : Int) := (Int.toNat_of_nonneg t0).symm
      have eg : ((totsOf hands (row.take i) (ws.take i)).map V.int)[t.toNat]? = some (.int (tot (row.take i) (ws.take i) t)) := by
        rw [List.getElem?_map, totsOf_at (by omega), ← et]
        rfl
      refine ⟨T1, _, rfl, .inl (.inl upd_same), rfl, _, _, rfl, _, _, rfl, rfl, ?_⟩
      refine ⟨_, rfl, _, rfl, p, _, t.toNat, _, rfl, by rw [← et], .inl (.inl hp2), eg, _, rfl, _, _, rfl, rfl, p, _, t, t.toNat, rfl, rfl, hp2, ?_, ?_⟩
      · unfold ixN
        rw [if_pos t0, if_pos (by rw [List.length_map, totsOf_len]; omega)]
      · refine ⟨_, _, rfl, fun c o hc => ?_, ?_⟩
        · rw [upd_ne (fun z => by rw [z, np] at hc; cases hc)]
          exact same_new nT _ _ (sm _ _ hc)
        · rw [upd_same, totsOf_more ht hw t0 t1, List.map_set]
    · rintro σ H2 ⟨y4, y5, rfl, sm, hp⟩
      rw [List.take_length, ← he, List.take_length] at hp
      exact ⟨_, rfl, q p H2 np sm hp⟩

/-! lead -/
def sp_lead (K : PySem.W.Frag) : Sp := fun vs H Q _ => ∃ (hands : Int) (r u : Addr) (row ws : List Int) (a b : Int), vs = [.int hands, .ref r, .int a, .int b, .ref u] ∧ RowOk hands row ∧ ws.length = row.length ∧ SqT K H r (row.map V.int) ∧ SqT K H u (ws.map V.int) ∧
  (0 ≤ a ∧ a < hands) ∧ (0 ≤ b ∧ b < hands) ∧ a ≠ b ∧ ∀ H', Same H H' → Q (.int (tot row ws a - tot row ws b)) H'
theorem c_lead (T : Txt K mg) : Cal P w K mg base 7 "lead" ["hands", "row", "one", "other", "worths"] (sp_lead K) := by
  refine T.f_lead.cal sc_lead (fun _ _ _ _ _ _ us hl => match us, hl with | [_, _, _, _, _], _ => rfl) (fun vs H Q E h => by first | (obtain ⟨_, rfl, _⟩ := h; rfl) | (obtain ⟨_, _, rfl, _⟩ := h; rfl) | (obtain ⟨_, _, _, rfl, _⟩ := h; rfl) | (obtain ⟨_, _, _, _, rfl, _⟩ := h; rfl) | (obtain ⟨_, _, _, _, _, rfl, _⟩ := h; rfl) | (obtain ⟨_, _, _, _, _, _, rfl, _⟩ := h; rfl) | (obtain ⟨_, _, _, _, _, _, _, rfl, _⟩ := h; rfl) | (obtain ⟨_, _, _, _, _, _, _, _, rfl, _⟩ := h; rfl) | (obtain ⟨_, _, _, _, _, _, _, _, _, rfl, _⟩ := h; rfl) | (obtain ⟨_, _, _, _, _, _, _, _, _, _, rfl, _⟩ := h; rfl) | (obtain ⟨_, _, _, _, _, _, _, _, _, _, _, rfl, _⟩ := h; rfl) | (obtain ⟨_, _, _, _, _, _, _, _, _, _, _, _, rfl, _⟩ := h; rfl) | (obtain ⟨_, _, _, _, _, _, _, _, _, _, _, _, _, rfl, _⟩ := h; rfl)) (fun cdv A outer s H vs Q E f hr h => ?_)
  obtain ⟨hands, r, u, row, ws, a, b, rfl, ok, he, hS, hU, ha, hb, hab, q⟩ := h
  obtain ⟨h1, h2, h3, h4, h5⟩ := id ok
  refine ⟨_, (pss_cons (ps_expr (pe_cal (c_check_two T) hr (by decide) (pa_cons (pv 0) (pa_cons (pv 1) (pa_cons (pv 2) (pa_cons (pv 3) pa_nil))))))
    (pss_cons (ps_expr (pe_cal (c_check_worths_of T) hr (by decide) (pa_cons (pv 1) (pa_cons (pv 4) pa_nil))))
    (pss_cons (ps_set (i := 5) sc_lead.nd rfl (.inl rfl) (pe_cal (c_totals_of T) hr (by decide) (pa_cons (pv 0) (pa_cons (pv 1) (pa_cons (pv 4) pa_nil)))))
    (pss_one (ps_ret (pe_op op_sub (pe_ix (kz_ixL (K := K)) (pv 5) (pv 2) (fun _ _ => rfl)) (pe_ix (kz_ixL (K := K)) (pv 5) (pv 3) (fun _ _ => rfl)))))))), ?_⟩
  walk_at "rd"
  refine ⟨hands, r, row, a, b, rfl, ok, hS, ha, hb, hab, fun H1 s1 => ?_⟩
  walk_at "rd"
  refine ⟨r, u, row, ws, rfl, h3, by omega, he, seqT s1 hS, seqT s1 hU, fun H2 s2 => ?_⟩
  walk_at "rd"
  have s12 := s1.trans s2
  refine ⟨hands, r, u, row, ws, rfl, ⟨by omega, by omega⟩, h5, he, .inr (.inl ⟨seqT s12 hS, seqT s12 hU⟩), fun p H3 np s3 hp => ?_⟩
  have hP : SqL K H3 p ((totsOf hands row ws).map V.int) := .inl (.inl hp)
  have at_ : ∀ z : Int, 0 ≤ z ∧ z < hands → atI ((totsOf hands row ws).map V.int) z = some (.int (tot row ws z)) := fun z hz => by
    have e : ((z.toNat : Nat) : Int) = z := Int.toNat_of_nonneg hz.1
    have g : (totsOf hands row ws)[z.toNat]? = some (tot row ws z) := by
      rw [totsOf_at (by omega), e]
    rw [← e]
    rw [e]
    rw [← e, at_int g]
    rw [e]
  refine ⟨_, rfl, _, rfl, _, _, _, _, rfl, rfl, hP, at_ a ha, ?_⟩
  refine ⟨_, rfl, _, rfl, _, _, _, _, rfl, rfl, hP, at_ b hb, ?_⟩
  walk_at "rd"
  exact q _ (s12.trans s3)

/-! law -/
theorem filter_nil (l : List Int) : l.filter (fun z => !decide (z = 0)) = [] ↔ ∀ z ∈ l, z = 0 := by
  rw [List.filter_eq_nil_iff]
  refine ⟨fun h z hz => ?_, fun h z hz => by rw [decide_eq_true (h z hz)]; exact Bool.false_ne_true⟩
  have := h z hz
  by_cases c : z = 0
  · exact c
  · rw [decide_eq_false c] at this
    exact absurd rfl this
theorem _root_.Ly.PrAt.uniq {H : Hp} {x : V} {a b c d : Nat} (h : PrAt H x a b) (k : PrAt H x c d) : a = c ∧ b = d := by
  obtain ⟨u, e, h⟩ := h
  obtain ⟨v, e2, k⟩ := k
  rw [e] at e2
  rw [V.ref.inj e2, k] at h
  have h2 := HO.tup.inj (Option.some.inj h)
  have h3 := List.cons.inj h2
  have h4 := List.cons.inj h3.2
  exact ⟨Int.ofNat.inj (V.int.inj h3.1).symm, Int.ofNat.inj (V.int.inj h4.1).symm⟩
def sp_law (K : PySem.W.Frag) : Sp := fun vs H Q _ => ∃ (a : Addr) (ns : List Int), vs = [.ref a] ∧ SqL K H a (ns.map V.int) ∧ ns.length ≤ 63 ∧ ∀ H', Q (.bl true) H'
theorem ok_law (T : Txt K mg) {f : Addr} {fd : FuncData} (F : FunD K "law" "law" (defArgs S_law) (defBody S_law) (defScope S_law) [] [] f fd) : FnOk P w K mg base CX0 8 f fd ["_law_script"] (sp_law K) := by
  refine fn_ok F sc_law (fun vs H Q E h => by first | (obtain ⟨_, rfl, _⟩ := h; rfl) | (obtain ⟨_, _, rfl, _⟩ := h; rfl) | (obtain ⟨_, _, _, rfl, _⟩ := h; rfl) | (obtain ⟨_, _, _, _, rfl, _⟩ := h; rfl) | (obtain ⟨_, _, _, _, _, rfl, _⟩ := h; rfl) | (obtain ⟨_, _, _, _, _, _, rfl, _⟩ := h; rfl) | (obtain ⟨_, _, _, _, _, _, _, rfl, _⟩ := h; rfl) | (obtain ⟨_, _, _, _, _, _, _, _, rfl, _⟩ := h; rfl) | (obtain ⟨_, _, _, _, _, _, _, _, _, rfl, _⟩ := h; rfl) | (obtain ⟨_, _, _, _, _, _, _, _, _, _, rfl, _⟩ := h; rfl) | (obtain ⟨_, _, _, _, _, _, _, _, _, _, _, rfl, _⟩ := h; rfl) | (obtain ⟨_, _, _, _, _, _, _, _, _, _, _, _, rfl, _⟩ := h; rfl) | (obtain ⟨_, _, _, _, _, _, _, _, _, _, _, _, _, rfl, _⟩ := h; rfl)) (fun cdv A outer s H vs Q E hr h => ?_)
  obtain ⟨a, ns, rfl, hS0, hl, q⟩ := h
  refine ⟨_, (pss_cons (ps_set (i := 1) sc_law.nd rfl (.inr rfl) (pe_lst pa_nil))
    (pss_cons (ps_set (i := 2) sc_law.nd rfl (.inl rfl) (pe_op op_add pe_int (pe_cal (c__law_draw T) hr (by decide) (pa_cons (pv 0) (pa_cons (pv 1) (pa_cons pe_int pa_nil))))))
    (pss_cons (ps_set (i := 3) sc_law.nd rfl (.inl rfl) (pe_cal (c__law_near_even T) hr (by decide) (pa_cons (pv 0) (pa_cons (pv 1) (pa_cons (pv 2) (pa_cons (pe_cal (c__law_draw T) hr (by decide) (pa_cons (pv 0) (pa_cons (pv 1) (pa_cons pe_int pa_nil)))) pa_nil))))))
    (pss_cons (ps_set (i := 4) sc_law.nd rfl (.inl rfl) (pe_callTy (kz_tuple (K := K)) (by rfl) T.b_tuple bt_tuple (pa_cons (pe_lc (own := [("_law_place", 13)]) (g := (gName 13)) (tt := tYes) rfl sc_law.nd (kz_piT (K := K) (pv 3)) (blkOk_by (own := [("_law_place", 13)]) (N := ["_law_script", "_law_town", "_law_hands", "_law_row", "_law_worths", "_law_own", "_law_smooth", "_law_both", "_law_power_here", "_law_changed", "_law_one", "_law_other", "_law_ahead", "_law_place", "_law_a", "_law_b", "_law_worth", "_law_gap"]) (sc := defScope S_law) (by decide +kernel)) (fun _ _ _ _ _ => (pg_name (i := 13) sc_law.nd rfl (.inl rfl))) (fun _ _ _ _ _ => pts_nil) (fun _ _ _ _ _ => (pe_op op_sub (pe_cal (c__law_draw T) hr (by decide) (pa_cons (pv 0) (pa_cons (pv 1) (pa_cons pe_int pa_nil)))) pe_int))) pa_nil)))
    (pss_cons (ps_set (i := 5) sc_law.nd rfl (.inr rfl) (pe_cal (c_evenness T) hr (by decide) (pa_cons (pv 2) (pa_cons (pv 3) pa_nil))))
    (pss_cons (ps_set (i := 6) sc_law.nd rfl (.inl rfl) (pe_cal (c__law_smooth_worths T) hr (by decide) (pa_cons (pv 0) (pa_cons (pv 1) (pa_cons (pe_callB (kz_len (K := K)) (by rfl) T.b_len bt_len (pa_cons (pv 3) pa_nil)) (pa_cons (pe_callB (call_max2 rfl) (by rfl) T.b_max bt_max (pa_cons pe_int (pa_cons (pv 5) pa_nil))) pa_nil))))))
    (pss_cons (ps_set (i := 7) sc_law.nd rfl (.inl rfl) (pe_callTy (kz_tuple (K := K)) (by rfl) T.b_tuple bt_tuple (pa_cons (pe_lc (own := [("_law_a", 14), ("_law_b", 15)]) (g := (gTup K 2 (gCons (gName 14) (gCons (gName 15) gNil)))) (tt := tYes) rfl sc_law.nd (kz_zip (K := K) (by rfl) T.b_zip (pa_cons (pv 4) (pa_cons (pv 6) pa_nil))) (blkOk_by (own := [("_law_a", 14), ("_law_b", 15)]) (N := ["_law_script", "_law_town", "_law_hands", "_law_row", "_law_worths", "_law_own", "_law_smooth", "_law_both", "_law_power_here", "_law_changed", "_law_one", "_law_other", "_law_ahead", "_law_place", "_law_a", "_law_b", "_law_worth", "_law_gap"]) (sc := defScope S_law) (by decide +kernel)) (fun _ _ _ _ _ => (kz_gtup (K := K) 2 rfl (pgs_cons (pg_name (i := 14) sc_law.nd rfl (.inl rfl)) (pgs_cons (pg_name (i := 15) sc_law.nd rfl (.inl rfl)) pgs_nil)))) (fun _ _ _ _ _ => pts_nil) (fun _ _ _ _ _ => (pe_op op_add (pv 14) (pv 15)))) pa_nil)))
    (pss_cons (ps_set (i := 8) sc_law.nd rfl (.inl rfl) (pe_callTy (kz_tuple (K := K)) (by rfl) T.b_tuple bt_tuple (pa_cons (pe_lc (own := [("_law_place", 13)]) (g := (gName 13)) (tt := tYes) rfl sc_law.nd (pi_range1 (by rfl) T.b_range (pa_cons (pe_callB (kz_len (K := K)) (by rfl) T.b_len bt_len (pa_cons (pv 3) pa_nil)) pa_nil)) (blkOk_by (own := [("_law_place", 13)]) (N := ["_law_script", "_law_town", "_law_hands", "_law_row", "_law_worths", "_law_own", "_law_smooth", "_law_both", "_law_power_here", "_law_changed", "_law_one", "_law_other", "_law_ahead", "_law_place", "_law_a", "_law_b", "_law_worth", "_law_gap"]) (sc := defScope S_law) (by decide +kernel)) (fun _ _ _ _ _ => (pg_name (i := 13) sc_law.nd rfl (.inl rfl))) (fun _ _ _ _ _ => pts_nil) (fun _ _ _ _ _ => (pe_cal (c__law_power T) hr (by decide) (pa_cons (pv 13) (pa_cons (pe_op op_add (pv 5) pe_int) pa_nil))))) pa_nil)))
    (pss_cons (ps_set (i := 9) sc_law.nd rfl (.inl rfl) (pe_lst pa_nil))
    (pss_cons (ps_for PassesOwn.never rfl (kz_piL (K := K) (pe_cal (c__law_pairs T) hr (by decide) (pa_cons (pv 2) pa_nil))) (kz_gtup (K := K) 2 rfl (pgs_cons (pg_name (i := 10) sc_law.nd rfl (.inl rfl)) (pgs_cons (pg_name (i := 11) sc_law.nd rfl (.inl rfl)) pgs_nil))) (pss_cons (ps_set (i := 12) sc_law.nd rfl (.inl rfl) (pe_cal (c_lead T) hr (by decide) (pa_cons (pv 2) (pa_cons (pv 3) (pa_cons (pv 10) (pa_cons (pv 11) (pa_cons (pv 4) pa_nil)))))))
    (pss_cons (ps_if (PW.pt (pw_and (pt_cmpR op_ge (pv 5) pe_int (nomark _)) (pw_and1 (pt_cmpR op_ne (pe_cal (c_lead T) hr (by decide) (pa_cons (pv 2) (pa_cons (pv 3) (pa_cons (pv 10) (pa_cons (pv 11) (pa_cons (pv 7) pa_nil)))))) (pv 12) (nomark _))))) (pss_one (ps_ret pe_bl)) pss_nil)
    (pss_cons (ps_if (pt_cmpR op_ne (pe_cal (c_lead T) hr (by decide) (pa_cons (pv 2) (pa_cons (pv 3) (pa_cons (pv 10) (pa_cons (pv 11) (pa_cons (pv 7) pa_nil)))))) (pe_op op_add (pv 12) (pe_cal (c_lead T) hr (by decide) (pa_cons (pv 2) (pa_cons (pv 3) (pa_cons (pv 10) (pa_cons (pv 11) (pa_cons (pv 6) pa_nil))))))) (nomark _)) (pss_one (ps_ret pe_bl)) pss_nil)
    (pss_cons (ps_if (pt_cmpR op_ne (pe_cal (c_lead T) hr (by decide) (pa_cons (pv 2) (pa_cons (pv 3) (pa_cons (pv 10) (pa_cons (pv 11) (pa_cons (pe_callTy (kz_tuple (K := K)) (by rfl) T.b_tuple bt_tuple (pa_cons (pe_lc (own := [("_law_worth", 16)]) (g := (gName 16)) (tt := tYes) rfl sc_law.nd (kz_piT (K := K) (pv 4)) (blkOk_by (own := [("_law_worth", 16)]) (N := ["_law_script", "_law_town", "_law_hands", "_law_row", "_law_worths", "_law_own", "_law_smooth", "_law_both", "_law_power_here", "_law_changed", "_law_one", "_law_other", "_law_ahead", "_law_place", "_law_a", "_law_b", "_law_worth", "_law_gap"]) (sc := defScope S_law) (by decide +kernel)) (fun _ _ _ _ _ => (pg_name (i := 16) sc_law.nd rfl (.inl rfl))) (fun _ _ _ _ _ => pts_nil) (fun _ _ _ _ _ => (pe_op op_mul pe_int (pv 16)))) pa_nil)) pa_nil)))))) (pe_op op_mul pe_int (pv 12)) (nomark _)) (pss_one (ps_ret pe_bl)) pss_nil)
    (pss_one (ps_expr (pe_bm PySem.F.plainAttrs_list PySem.F.slot_list_append PySem.F.type_list_append mt_append (pv 9) (pa_cons (pe_cal (c_lead T) hr (by decide) (pa_cons (pv 2) (pa_cons (pv 3) (pa_cons (pv 10) (pa_cons (pv 11) (pa_cons (pv 8) pa_nil)))))) pa_nil)))))))))
    (pss_cons (ps_if (PW.pt (pw_or (pt_cmpR (kz_eqD (K := K) hr.units) (pe_lc (own := [("_law_gap", 17)]) (g := (gName 17)) (tt := _) rfl sc_law.nd (kz_piL (K := K) (pv 9)) (blkOk_by (own := [("_law_gap", 17)]) (N := ["_law_script", "_law_town", "_law_hands", "_law_row", "_law_worths", "_law_own", "_law_smooth", "_law_both", "_law_power_here", "_law_changed", "_law_one", "_law_other", "_law_ahead", "_law_place", "_law_a", "_law_b", "_law_worth", "_law_gap"]) (sc := defScope S_law) (by decide +kernel)) (fun _ _ _ _ _ => (pg_name (i := 17) sc_law.nd rfl (.inl rfl))) (fun _ _ _ _ _ => pts_one (pt_cmpR op_ne (pv 17) pe_int (nomark _))) (fun _ _ _ _ _ => (pv 17))) (pe_lst pa_nil) (nomark _)) (pw_or1 (pt_cmpR op_notBl (pe_cal (c_is_smooth T) hr (by decide) (pa_cons (pv 8) (pa_cons (pe_op op_add (pv 5) pe_int) pa_nil))) pe_bl (nomark _))))) (pss_one (ps_ret pe_bl)) pss_nil)
    (pss_one (ps_ret (pe_or (pe_cmpR op_le (pe_callB (kz_len (K := K)) (by rfl) T.b_len bt_len (pa_cons (pv 3) pa_nil)) (pe_op op_add (pv 5) pe_int) (nomark _)) (pe_one (pe_cmpR op_ne (pe_ix (kz_ixL (K := K)) (pe_calK (ck_differences T) hr (by decide) (pa_cons (pv 8) pa_nil) (pk_cons (pe_op op_add (pv 5) pe_int) pk_nil)) pe_int (fun _ _ => rfl)) pe_int (nomark _))))))))))))))))), ?_⟩
  walk_at "rd"
  intro b nb
  have hS : Scr K (upd H b (.lst [])) b a ns := .of hS0 hl nb
  have t0 : Town b 0 (upd H b (.lst [])) := ⟨[], upd_same, Nat.le_refl _⟩
  walk_at "rd"
  refine ⟨a, b, ns, 0, 3, rfl, hS, t0, by omega, by omega, fun z1 H1 z10 z11 b1 t1 => ?_⟩
  obtain ⟨m, hm⟩ : ∃ m : Nat, 2 + z1 = (m : Int) := ⟨(2 + z1).toNat, by omega⟩
  have hS1 := hS.but b1
  refine ⟨_, _, rfl, rfl, ?_⟩
  change tSeq _ _ _ [some (.ref a), some (.ref b), some (.int (2 + z1)), none, none, none, none, none, none, none, none, none, none, none, none, none, none, none] H1
  rw [hm]
  walk_at "rd"
  refine ⟨a, b, ns, 1, 3, rfl, hS1, t1, by omega, by omega, fun z2 H2 z20 z21 b2 t2 => ?_⟩
  obtain ⟨d, hd⟩ : ∃ d : Nat, z2 = (d : Int) := ⟨z2.toNat, by omega⟩
  have hS2 := hS1.but b2
  have pw : m ^ (d + 1) ≤ 64 := Nat.le_trans (Nat.pow_le_pow_left (show m ≤ 4 by omega) _) (Nat.le_trans (Nat.pow_le_pow_right (by decide) (show d + 1 ≤ 3 by omega)) (by decide))
  rw [hd]
  refine ⟨a, b, ns, 2, m, d, rfl, hS2, t2, by omega, by omega, by omega, pw, fun r row H3 ok nrb _ hr3 b3 t3 n10 => ?_⟩
  have n10 := n10 (by omega)
  have hS3 := hS2.but b3
  change tSeq _ _ _ [some (.ref a), some (.ref b), some (.int (m : Int)), some (.ref r), none, none, none, none, none, none, none, none, none, none, none, none, none, none] H3
  have rl : 0 < row.length ∧ row.length ≤ 64 := ⟨List.length_pos_iff.mpr ok.2.2.1, ok.2.2.2.1⟩
  have hm24 : 2 ≤ m ∧ m ≤ 4 := ⟨by omega, by omega⟩
  have hT3 : SqT K H3 r (row.map V.int) := .inl (.inl hr3)
  clear hS2 hS1 hS hS0 b1 b2 b3 t1 t2 t0 pw
  walk_at "rd"
  refine ⟨⟨_, hT3⟩, fun D nD => ?_⟩
  refine lct walk_tup (fun z => -99 ≤ z ∧ z ≤ 99) (c := 1) t3 nD (by rw [List.length_map]; omega) (fun H b4 => butT b4 nrb hT3) ?_ ?_
  · rintro i x H4 H5 R hi b4 t4 ⟨rfl, hx⟩ k
    rw [List.length_map] at hi
    refine ⟨rfl, ?_⟩
    walk_at "rd"
    refine ⟨a, b, ns, _, 199, rfl, hS3.but b4, t4, by omega, by omega, fun z H6 z0 zh b6 t6 => ?_⟩
    walk_at "rd"
    exact k (z - 99) H6 ⟨by omega, by omega⟩ b6 (t6.le (by omega))
  intro ws H4 lw _ b4 t4 hD
  rw [List.length_map] at lw t4
  refine ⟨D, _, rfl, .inl ⟨.inl (.inl hD), fun w nw => ?_⟩⟩
  have sw := same_new (o := .tup (ws.map V.int)) nw
  have t5 := t4.same sw
  have b5 := b4.same sw
  have hS5 := hS3.but b5
  have nwb : w ≠ b := t4.ne_new nw
  have hr5 := b5 _ _ nrb hr3
  have hw5 : (upd H4 w (.tup (ws.map V.int))) w = some (.tup (ws.map V.int)) := upd_same
  obtain ⟨F, hF⟩ : ∃ F : Nat → Int, ws = line F row.length := ⟨fun i => ws.getD i 0, by rw [← lw]; exact line_of ws⟩
  subst hF
  generalize upd H4 w (.tup ((line F row.length).map V.int)) = H5 at hw5 hr5 hS5 t5 ⊢
  clear hS3 b4 b5 t4 t3 hT3 hr3 sw hD
  change tSeq _ _ _ [some (.ref a), some (.ref b), some (.int (m : Int)), some (.ref r), some (.ref w), none, none, none, none, none, none, none, none, none, none, none, none, none] H5
  walk_at "rd"
  refine ⟨m, r, row, rfl, ok, .inl (.inl hr5), fun e H6 s6 he hne => ?_⟩
  have e9 : e ≤ 9 := by
    by_cases c : e ≤ 9
    · exact c
    · exact absurd (he.le (by omega)) n10
  have hS6 := hS5.same s6
  have t6 := t5.same s6
  have hr6 := s6 _ _ hr5
  have hw6 := s6 _ _ hw5
  change tSeq _ _ _ [some (.ref a), some (.ref b), some (.int (m : Int)), some (.ref r), some (.ref w), some (.int ((e : Int) - 1)), none, none, none, none, none, none, none, none, none, none, none, none] H6
  have hT6 : SqT K H6 r (row.map V.int) := .inl (.inl hr6)
  walk_at "rd"
  have ex : (if (e : Int) - 1 > 0 then (e : Int) - 1 else 0) = ((e - 1 : Nat) : Int) := by
    split <;> omega
  rw [ex, List.length_map]
  refine ⟨a, b, ns, _, row.length, e - 1, rfl, hS6, t6, by omega, by omega, by omega, by omega, fun s cs H7 lc nsb nsH hs7 b7 t7 => ?_⟩
  have hG : 1 ≤ e → Sm e (poly cs) := fun h => by
    have := sm_poly cs
    rw [lc] at this
    exact this.le (by omega)
  have hr7 := b7 _ _ nrb hr6
  have hw7 := b7 _ _ nwb hw6
  clear hS5 hS6 t5 t6 b7 t7 hr5 hw5 hr6 hw6 s6 hT6
  generalize poly cs = G at hs7 hG
  change tSeq _ _ _ [some (.ref a), some (.ref b), some (.int (m : Int)), some (.ref r), some (.ref w), some (.int ((e : Int) - 1)), some (.ref s), none, none, none, none, none, none, none, none, none, none, none] H7
  have hT7 : SqT K H7 r (row.map V.int) := .inl (.inl hr7)
  have hW7 : SqT K H7 w ((line F row.length).map V.int) := .inl (.inl hw7)
  have hG7 : SqT K H7 s ((line G row.length).map V.int) := .inl (.inl hs7)
  walk_at "rd"
  refine ⟨w, s, _, _, rfl, .inr ⟨hW7, hG7, fun D7 nD7 => ?_⟩⟩
  refine lcp (walk_zipT (n := row.length) (xs := (line F row.length).map V.int) (ys := (line G row.length).map V.int) (by rw [List.length_map, List.length_map, line_len, line_len, Nat.min_self])) nD7 (fun j => ((line (fun i => F i + G i) row.length).map V.int).take j) rfl (fun j _ => ?_) (fun H8 s8 => ⟨seqT s8 hW7, seqT s8 hG7⟩) ?_ ?_
  · rw [List.length_take, List.length_map, line_len]
    omega
  · rintro j x H8 H9 R N hj s8 ⟨T1, v1, v2, rfl, nT, rfl, h1, h2⟩ k1 _
    dsimp only at h1 h2
    rw [List.getElem?_map, line_at hj] at h1 h2
    have e1 := Option.some.inj h1
    have e2 := Option.some.inj h2
    subst e1
    subst e2
    refine ⟨T1, _, rfl, .inl (.inl upd_same), rfl, _, _, rfl, _, _, rfl, rfl, rfl, ?_⟩
    walk_at "rd"
    refine k1 _ _ (same_new nT) ?_
    rw [List.take_add_one, List.getElem?_map, line_at hj]
    rfl
  intro H8 s8 hD8
  rw [List.take_of_length_le (by rw [List.length_map, line_len]; exact Nat.le_refl _)] at hD8
  refine ⟨D7, _, rfl, .inl ⟨.inl (.inl hD8), fun u nu => ?_⟩⟩
  have s79 := s8.trans (same_new (o := .tup ((line (fun i => F i + G i) row.length).map V.int)) nu)
  have hU9 : SqT K (upd H8 u (.tup ((line (fun i => F i + G i) row.length).map V.int))) u ((line (fun i => F i + G i) row.length).map V.int) := .inl (.inl upd_same)
  have hr9 := s79 _ _ hr7
  have hw9 := s79 _ _ hw7
  have hs9 := s79 _ _ hs7
  have hu9 : (upd H8 u (.tup ((line (fun i => F i + G i) row.length).map V.int))) u = some (.tup ((line (fun i => F i + G i) row.length).map V.int)) := upd_same
  generalize upd H8 u (.tup ((line (fun i => F i + G i) row.length).map V.int)) = H9 at hr9 hw9 hs9 hu9 ⊢
  clear s79 s8 hD8 hU9 hT7 hW7 hG7 hr7 hw7 hs7
  change tSeq _ _ _ [some (.ref a), some (.ref b), some (.int (m : Int)), some (.ref r), some (.ref w), some (.int ((e : Int) - 1)), some (.ref s), some (.ref u), none, none, none, none, none, none, none, none, none, none] H9
  have hT9 : SqT K H9 r (row.map V.int) := .inl (.inl hr9)
  walk_at "rd"
  rw [List.length_map]
  intro D9 nD9
  refine lcp walk_range nD9 (fun j => ((line (fun i => (i : Int) ^ e) row.length).map V.int).take j) rfl (fun j _ => ?_) (fun _ _ => trivial) ?_ ?_
  · rw [List.length_take, List.length_map, line_len]
    omega
  · rintro j x H10 H11 R N hj s10 ⟨rfl, rfl⟩ k1 _
    refine ⟨rfl, ?_⟩
    walk_at "rd"
    refine ⟨(j : Int), e, ?_, ⟨by omega, by omega⟩, by omega, k1 _ _ (L2.Same.refl _) ?_⟩
    · show [V.int (0 + (j : Int)), V.int ((e : Int) - 1 + 1)] = _
      rw [Int.zero_add, Int.sub_add_cancel]
    · rw [List.take_add_one, List.getElem?_map, line_at (by omega)]
      rfl
  intro H10 s10 hD10
  rw [List.take_of_length_le (by rw [List.length_map, line_len]; omega)] at hD10
  refine ⟨D9, _, rfl, .inl ⟨.inl (.inl hD10), fun v nv => ?_⟩⟩
  have s911 := s10.trans (same_new (o := .tup ((line (fun (i : Nat) => (i : Int) ^ e) row.length).map V.int)) nv)
  have hr11 := s911 _ _ hr9
  have hw11 := s911 _ _ hw9
  have hs11 := s911 _ _ hs9
  have hu11 := s911 _ _ hu9
  have hv11 : (upd H10 v (.tup ((line (fun (i : Nat) => (i : Int) ^ e) row.length).map V.int))) v = some (.tup ((line (fun (i : Nat) => (i : Int) ^ e) row.length).map V.int)) := upd_same
  generalize upd H10 v (.tup ((line (fun (i : Nat) => (i : Int) ^ e) row.length).map V.int)) = H11 at hr11 hw11 hs11 hu11 hv11 ⊢
  clear s911 s10 hD10 hT9 hr9 hw9 hs9 hu9
  change tSeq _ _ _ [some (.ref a), some (.ref b), some (.int (m : Int)), some (.ref r), some (.ref w), some (.int ((e : Int) - 1)), some (.ref s), some (.ref u), some (.ref v), none, none, none, none, none, none, none, none, none] H11
  walk_at "rd"
  intro c nc
  have s12 := same_new (o := .lst []) nc
  have hr12 := s12 _ _ hr11
  have hw12 := s12 _ _ hw11
  have hs12 := s12 _ _ hs11
  have hu12 := s12 _ _ hu11
  have hv12 := s12 _ _ hv11
  have hc12 : (upd H11 c (.lst [])) c = some (.lst []) := upd_same
  generalize upd H11 c (.lst []) = H12 at hr12 hw12 hs12 hu12 hv12 hc12 ⊢
  clear s12 hr11 hw11 hs11 hu11 hv11
  change tSeq _ _ _ [some (.ref a), some (.ref b), some (.int (m : Int)), some (.ref r), some (.ref w), some (.int ((e : Int) - 1)), some (.ref s), some (.ref u), some (.ref v), some (.ref c), none, none, none, none, none, none, none, none] H12
  walk_at "rd"
  intro p9 rs H13 np9 s13 hp9 lr pr
  have hr13 := s13 _ _ hr12
  have hw13 := s13 _ _ hw12
  have hs13 := s13 _ _ hs12
  have hu13 := s13 _ _ hu12
  have hv13 := s13 _ _ hv12
  have hc13 := s13 _ _ hc12
  have p9c : p9 ≠ c := fun z => by
    rw [z, hc12] at np9
    cases np9
  clear hr12 hw12 hs12 hu12 hv12 s13
  refine ⟨p9, rfl, ⟨_, .inl (.inl hp9)⟩, ?_⟩
  refine for_list (xs := rs) (fun i σ H => ∃ y10 y11 y12 zs, σ = [some (.ref a), some (.ref b), some (.int (m : Int)), some (.ref r), some (.ref w), some (.int ((e : Int) - 1)), some (.ref s), some (.ref u), some (.ref v), some (.ref c), y10, y11, y12, none, none, none, none, none] ∧ H p9 = some (.lst rs) ∧ (∀ u xs, H13 u = some (.tup xs) → H u = some (.tup xs)) ∧
      H c = some (.lst (zs.map V.int)) ∧ zs.length ≤ i ∧ ((∀ z ∈ zs, z = 0) ↔ ∀ j, j < i → ∀ x a b, rs[j]? = some x → PrAt H13 x a b → LD row (fun (i : Nat) => (i : Int) ^ e) a b = 0))
    ⟨_, _, _, [], rfl, hp9, fun _ _ h => h, hc13, Nat.zero_le _, ⟨fun _ _ h => absurd h (Nat.not_lt_zero _), fun _ _ h => (nomatch h)⟩⟩ (fun _ _ H _ h => by obtain ⟨_, _, _, _, _, h, _⟩ := h; exact .inl (.inl h)) ?_ ?_
  · rintro i v0 σ H14 hv ⟨y10, y11, y12, zs, rfl, hp14, kt, hc14, lz14, iz⟩
    have hi := (List.getElem?_eq_some_iff.mp hv).1
    obtain ⟨j1, j2, j12, j2m, _, t, rfl, ht⟩ := pr.1 v0 (List.mem_of_getElem? hv)
    have LDt : ∀ (f : Nat → Int), tot row (line f row.length) (j1 : Int) - tot row (line f row.length) (j2 : Int) = LD row f j1 j2 := fun f => by
      rw [tot_line, tot_line]
      rfl
    have jb1 : 0 ≤ (j1 : Int) ∧ (j1 : Int) < (m : Int) := ⟨by omega, by omega⟩
    have jb2 : 0 ≤ (j2 : Int) ∧ (j2 : Int) < (m : Int) := ⟨by omega, by omega⟩
    have jne : (j1 : Int) ≠ (j2 : Int) := by omega
    refine ⟨t, _, rfl, .inl (.inl (kt _ _ ht)), rfl, ?_⟩
    walk_at "rd"
    refine ⟨m, r, w, row, line F row.length, j1, j2, rfl, ok, line_len _ _, .inl (.inl (kt _ _ hr13)), .inl (.inl (kt _ _ hw13)), jb1, jb2, jne, fun H15 s15 => ?_⟩
    rw [LDt]
    dsimp only [gName, List.set]
    have k15 : ∀ u xs, H13 u = some (.tup xs) → H15 u = some (.tup xs) := fun u xs h => s15 _ _ (kt _ _ h)
    have hp15 := s15 _ _ hp14
    have hc15 := s15 _ _ hc14
    clear s15
    walk_at "rd"
    by_cases h1 : 1 ≤ e
    rw [decide_eq_true (show (e : Int) - 1 ≥ 0 by omega)]
    refine iteT ?_
    walk_at "rd"
    refine ⟨m, r, u, row, line (fun i => F i + G i) row.length, j1, j2, rfl, ok, line_len _ _, .inl (.inl (k15 _ _ hr13)), .inl (.inl (k15 _ _ hu13)), jb1, jb2, jne, fun H16 s16 => ?_⟩
    rw [LDt, ld_add, ld_even he (hG h1) (by omega) j2m, Int.add_zero]
    have k16 : ∀ u xs, H13 u = some (.tup xs) → H16 u = some (.tup xs) := fun u xs h => s16 _ _ (k15 _ _ h)
    have hp16 := s16 _ _ hp15
    have hc16 := s16 _ _ hc15
    clear s16 k15 hp15 hc15
    walk_at "rd"
    rw [decide_eq_true rfl]
    refine ite2 (fun c => Bool.noConfusion c) (fun _ => ?_)
    rotate_left
    rw [decide_eq_false (show ¬ (e : Int) - 1 ≥ 0 by omega)]
    refine iteF (iteF ?_)
    have k16 := k15
    have hp16 := hp15
    have hc16 := hc15
    clear k15 hp15 hc15
    rotate_left
    all_goals
      walk_at "rd"
      refine ⟨m, r, u, row, line (fun i => F i + G i) row.length, j1, j2, rfl, ok, line_len _ _, .inl (.inl (k16 _ _ hr13)), .inl (.inl (k16 _ _ hu13)), jb1, jb2, jne, fun H17 s17 => ?_⟩
      rw [LDt, ld_add]
      have k17 : ∀ u xs, H13 u = some (.tup xs) → H17 u = some (.tup xs) := fun u xs h => s17 _ _ (k16 _ _ h)
      have hp17 := s17 _ _ hp16
      have hc17 := s17 _ _ hc16
      clear s17 k16 hp16 hc16
      walk_at "rd"
      refine ⟨m, r, s, row, line G row.length, j1, j2, rfl, ok, line_len _ _, .inl (.inl (k17 _ _ hr13)), .inl (.inl (k17 _ _ hs13)), jb1, jb2, jne, fun H18 s18 => ?_⟩
      rw [LDt]
      have k18 : ∀ u xs, H13 u = some (.tup xs) → H18 u = some (.tup xs) := fun u xs h => s18 _ _ (k17 _ _ h)
      have hp18 := s18 _ _ hp17
      have hc18 := s18 _ _ hc17
      clear s18 k17 hp17 hc17
      walk_at "rd"
      rw [decide_eq_true rfl]
      refine ite2 (fun c => Bool.noConfusion c) (fun _ => ?_)
      have hW18 : SqT K H18 w ((line F row.length).map V.int) := .inl (.inl (k18 _ _ hw13))
      walk_at "rd"
      refine ⟨⟨_, hW18⟩, fun D nD => ?_⟩
      refine lcp (walk_tup (xs := (line F row.length).map V.int)) nD (fun j => ((line (fun i => 2 * F i) row.length).map V.int).take j) rfl (fun j _ => ?_) (fun H4 s4 => seqT s4 hW18) ?_ ?_
      · rw [List.length_take, List.length_map, line_len]
        omega
      · rintro j x H19 H20 R N hj s19 ⟨rfl, hx⟩ k1 _
        rw [List.length_map, line_len] at hj
        rw [List.getElem?_map, line_at hj] at hx
        have e1 := Option.some.inj hx
        subst e1
        refine ⟨rfl, ?_⟩
        walk_at "rd"
        refine k1 _ _ (L2.Same.refl _) ?_
        rw [List.take_add_one, List.getElem?_map, line_at hj]
        rfl
      intro H19 s19 hD
      rw [List.take_of_length_le (by rw [List.length_map, List.length_map, line_len, line_len]; exact Nat.le_refl _)] at hD
      refine ⟨D, _, rfl, .inl ⟨.inl (.inl hD), fun o no => ?_⟩⟩
      have s20 := s19.trans (same_new (o := .tup ((line (fun i => 2 * F i) row.length).map V.int)) no)
      have hO20 : SqT K (upd H19 o (.tup ((line (fun i => 2 * F i) row.length).map V.int))) o ((line (fun i => 2 * F i) row.length).map V.int) := .inl (.inl upd_same)
      generalize upd H19 o (.tup ((line (fun i => 2 * F i) row.length).map V.int)) = H20 at s20 hO20 ⊢
      walk_at "rd"
      refine ⟨m, r, o, row, line (fun i => 2 * F i) row.length, j1, j2, rfl, ok, line_len _ _, .inl (.inl (s20 _ _ (k18 _ _ hr13))), hO20, jb1, jb2, jne, fun H21 s21 => ?_⟩
      rw [LDt, ld_two]
      have s21 := s20.trans s21
      have k21 : ∀ u xs, H13 u = some (.tup xs) → H21 u = some (.tup xs) := fun u xs h => s21 _ _ (k18 _ _ h)
      have hp21 := s21 _ _ hp18
      have hc21 := s21 _ _ hc18
      clear s21 s20 s19 k18 hp18 hc18 hO20 hD
      walk_at "rd"
      rw [decide_eq_true rfl]
      refine ite2 (fun c => Bool.noConfusion c) (fun _ => ?_)
      refine ⟨_, rfl, .inl ⟨rfl, _, .inl (.inl hc21)⟩, ?_⟩
      walk_at "rd"
      refine ⟨m, r, v, row, line (fun (i : Nat) => (i : Int) ^ e) row.length, j1, j2, rfl, ok, line_len _ _, .inl (.inl (k21 _ _ hr13)), .inl (.inl (k21 _ _ hv13)), jb1, jb2, jne, fun H22 s22 => ?_⟩
      rw [LDt]
      have hc22 := s22 _ _ hc21
      refine ⟨c, _, _, rfl, rfl, hc22, szl (by rw [List.length_map]; omega), ?_⟩
      refine ⟨_, _, _, zs ++ [LD row (fun (i : Nat) => (i : Int) ^ e) j1 j2], rfl, ?_, fun u xs hx => ?_, ?_, ?_, ?_⟩
      · rw [upd_ne p9c]
        exact s22 _ _ hp21
      · have h22 := s22 _ _ (k21 _ _ hx)
        rw [upd_ne (fun z => by rw [z, hc22] at h22; cases h22)]
        exact h22
      · rw [upd_same, List.map_append]
        rfl
      · rw [List.length_append]
        show zs.length + 1 ≤ i + 1
        omega
      · constructor
        · intro h j hj x a b hx pa
          by_cases c : j < i
          · exact iz.mp (fun z hz => h z (List.mem_append.mpr (.inl hz))) j c x a b hx pa
          · have ej : j = i := by omega
            rw [ej, hv] at hx
            rw [← Option.some.inj hx] at pa
            obtain ⟨ea, eb⟩ := pa.uniq ⟨t, rfl, ht⟩
            rw [ea, eb]
            exact h _ (List.mem_append.mpr (.inr List.mem_cons_self))
        · intro h z hz
          rcases List.mem_append.mp hz with c | c
          · exact iz.mpr (fun j hj => h j (by omega)) z c
          · rw [List.mem_singleton.mp c]
            exact h i (by omega) _ j1 j2 hv ⟨t, rfl, ht⟩
  · rintro σ H14 ⟨y10, y11, y12, zs, rfl, hp14, kt, hc14, lz14, iz⟩
    have hc14' : SqL K H14 c (zs.map V.int) := .inl (.inl hc14)
    walk_at "rd"
    refine ⟨⟨_, hc14'⟩, fun D nD => ?_⟩
    refine lcp (walk_list (xs := zs.map V.int)) nD (fun j => ((zs.take j).filter fun z => !decide (z = 0)).map V.int) rfl (fun j _ => ?_) (fun H4 s4 => seqL s4 hc14') ?_ ?_
    · rw [List.length_map]
      refine Nat.lt_of_le_of_lt (List.length_filter_le _ _) ?_
      rw [List.length_take]
      omega
    · rintro j v H15 H16 R N hj s15 ⟨rfl, h1⟩ k1 k2
      obtain ⟨z, e1, rfl⟩ := map_at h1
      have step : ((zs.take (j + 1)).filter fun z => !decide (z = 0)) = ((zs.take j).filter fun z => !decide (z = 0)) ++ if z = 0 then [] else [z] := by
        rw [List.take_add_one, e1, List.filter_append]
        congr 1
        by_cases c : z = 0
        · rw [if_pos c]
          exact List.filter_cons_of_neg (by rw [decide_eq_true c]; exact Bool.false_ne_true)
        · rw [if_neg c]
          exact List.filter_cons_of_pos (by rw [decide_eq_false c]; rfl)
      refine ⟨rfl, _, rfl, rfl, _, rfl, ?_⟩
      by_cases c : z = 0
      · rw [if_pos c, List.append_nil] at step
        rw [c, decide_eq_true rfl]
        exact iteF (k2 _ (L2.Same.refl _) (by rw [step]))
      · rw [if_neg c] at step
        rw [decide_eq_false (fun w => c (V.int.inj w))]
        exact iteT ⟨_, rfl, k1 _ _ (L2.Same.refl _) (by rw [step, List.map_append]; rfl)⟩
    · intro H15 s15 hD
      rw [List.take_of_length_le (by rw [List.length_map]; exact Nat.le_refl _)] at hD
      refine ⟨Nat.zero_le _, fun p3 np3 => eqL0 (.inl (.inl (same_new np3 _ _ hD))) upd_same ?_⟩
      have odd := ld_odd (by omega : 0 < m) he hne
      have ne : ¬ zs.filter (fun z => !decide (z = 0)) = [] := fun z => odd fun a b hab hb => by
        rw [filter_nil] at z
        obtain ⟨x, hx, pa⟩ := pr.2 a b hab hb (by omega)
        obtain ⟨j, hj, ej⟩ := List.mem_iff_getElem.mp hx
        exact iz.mp z j hj x a b (by rw [List.getElem?_eq_getElem hj, ej]) pa
      rw [decide_eq_false ne]
      have s16 := s15.trans (same_new (o := .lst []) np3)
      have hv16 : SqT K (upd H15 p3 (.lst [])) v _ := .inl (.inl (s16 _ _ (kt _ _ hv13)))
      have hr16 : SqT K (upd H15 p3 (.lst [])) r _ := .inl (.inl (s16 _ _ (kt _ _ hr13)))
      generalize upd H15 p3 (.lst []) = H16 at hv16 hr16 ⊢
      clear s15 s16 hD np3
      walk_at "rd"
      refine ⟨v, line (fun (i : Nat) => (i : Int) ^ e) row.length, e, congrArg (fun z : Int => [V.ref v, V.int z]) (show (e : Int) - 1 + 1 = (e : Int) by omega), hv16, fun z => ?_, by rw [line_len]; omega, e9, fun H17 s17 => ?_⟩
      · have := congrArg List.length z
        rw [line_len, List.length_nil] at this
        omega
      rw [smB_iff.mpr (SmL.of (Sm.pow e))]
      have hv17 := seqT s17 hv16
      have hr17 := seqT s17 hr16
      walk_at "rd"
      rw [List.length_map]
      by_cases cl : (row.length : Int) ≤ (e : Int) - 1 + 2
      · rw [decide_eq_true cl]
        exact iteT (q _)
      · rw [decide_eq_false cl]
        refine iteF ?_
        walk_at "rd"
        refine ⟨v, line (fun (i : Nat) => (i : Int) ^ e) row.length, e, congrArg (fun z : Int => [V.ref v, V.int z]) (show (e : Int) - 1 + 1 = (e : Int) by omega), hv17, fun z => ?_, by rw [line_len]; omega, e9, fun o H18 no s18 ho => ?_⟩
        · have := congrArg List.length z
          rw [line_len, List.length_nil] at this
          omega
        rw [diffsN_line] at ho
        have pos := dn_pow e
        have e0 : (line (DN e fun (i : Nat) => (i : Int) ^ e) (row.length - e))[0]? = some (DN e (fun (i : Nat) => (i : Int) ^ e) 0) := line_at (by omega)
        refine ⟨o, _, 0, _, rfl, rfl, .inl (.inl ho), (at_int (j := 0) e0 : atI _ ((0 : Nat) : Int) = _), ?_⟩
        walk_at "rd"
        rw [decide_eq_false (fun z => by have := V.int.inj z; omega)]
        exact q _

end
end Ev

/-! ### the head -/
namespace Ev
open PySem PySem.Spec PyProof.Rows L2 RZ Ly
def d__law_cell_at : He.DefD := ⟨("_law_cell_at", none), "_law_cell_at", "_law_cell_at", defArgs S__law_cell_at, defBody S__law_cell_at, defScope S__law_cell_at, [], []⟩
def d__law_mixed : He.DefD := ⟨("_law_mixed", none), "_law_mixed", "_law_mixed", defArgs S__law_mixed, defBody S__law_mixed, defScope S__law_mixed, [], []⟩
def d__law_draw : He.DefD := ⟨("_law_draw", none), "_law_draw", "_law_draw", defArgs S__law_draw, defBody S__law_draw, defScope S__law_draw, [], []⟩
def d__law_order_of : He.DefD := ⟨("_law_order_of", none), "_law_order_of", "_law_order_of", defArgs S__law_order_of, defBody S__law_order_of, defScope S__law_order_of, [], []⟩
def d__law_rest : He.DefD := ⟨("_law_rest", none), "_law_rest", "_law_rest", defArgs S__law_rest, defBody S__law_rest, defScope S__law_rest, [], []⟩
def d__law_put : He.DefD := ⟨("_law_put", none), "_law_put", "_law_put", defArgs S__law_put, defBody S__law_put, defScope S__law_put, [], []⟩
def d__law_even_row : He.DefD := ⟨("_law_even_row", none), "_law_even_row", "_law_even_row", defArgs S__law_even_row, defBody S__law_even_row, defScope S__law_even_row, [], []⟩
def d__law_some_row : He.DefD := ⟨("_law_some_row", none), "_law_some_row", "_law_some_row", defArgs S__law_some_row, defBody S__law_some_row, defScope S__law_some_row, [], []⟩
def d__law_near_even : He.DefD := ⟨("_law_near_even", none), "_law_near_even", "_law_near_even", defArgs S__law_near_even, defBody S__law_near_even, defScope S__law_near_even, [], []⟩
def d__law_pairs : He.DefD := ⟨("_law_pairs", none), "_law_pairs", "_law_pairs", defArgs S__law_pairs, defBody S__law_pairs, defScope S__law_pairs, [], []⟩
def d__law_power : He.DefD := ⟨("_law_power", none), "_law_power", "_law_power", defArgs S__law_power, defBody S__law_power, defScope S__law_power, [], []⟩
def d__law_smooth_worths : He.DefD := ⟨("_law_smooth_worths", none), "_law_smooth_worths", "_law_smooth_worths", defArgs S__law_smooth_worths, defBody S__law_smooth_worths, defScope S__law_smooth_worths, [], []⟩
def d_is_whole : He.DefD := ⟨("is_whole", none), "is_whole", "is_whole", defArgs S_is_whole, defBody S_is_whole, defScope S_is_whole, [], []⟩
def d_is_from_to : He.DefD := ⟨("is_from_to", none), "is_from_to", "is_from_to", defArgs S_is_from_to, defBody S_is_from_to, defScope S_is_from_to, [], []⟩
def d_check_order : He.DefD := ⟨("check_order", none), "check_order", "check_order", defArgs S_check_order, defBody S_check_order, defScope S_check_order, [], []⟩
def d_check_worths : He.DefD := ⟨("check_worths", none), "check_worths", "check_worths", defArgs S_check_worths, defBody S_check_worths, defScope S_check_worths, [], []⟩
def d_differences_of : He.DefD := ⟨("differences_of", none), "differences_of", "differences_of", defArgs S_differences_of, defBody S_differences_of, defScope S_differences_of, [], []⟩
def d_differences : He.DefD := ⟨("differences", none), "differences", "differences", defArgs S_differences, defBody S_differences, defScope S_differences, [], [("order", .int 1)]⟩
def d_check_hands : He.DefD := ⟨("check_hands", none), "check_hands", "check_hands", defArgs S_check_hands, defBody S_check_hands, defScope S_check_hands, [], []⟩
def d_is_hand : He.DefD := ⟨("is_hand", none), "is_hand", "is_hand", defArgs S_is_hand, defBody S_is_hand, defScope S_is_hand, [], []⟩
def d_fits_row : He.DefD := ⟨("fits_row", none), "fits_row", "fits_row", defArgs S_fits_row, defBody S_fits_row, defScope S_fits_row, [], []⟩
def d_check_row : He.DefD := ⟨("check_row", none), "check_row", "check_row", defArgs S_check_row, defBody S_check_row, defScope S_check_row, [], []⟩
def d_running_sums : He.DefD := ⟨("running_sums", none), "running_sums", "running_sums", defArgs S_running_sums, defBody S_running_sums, defScope S_running_sums, [], []⟩
def d_are_signs_even : He.DefD := ⟨("are_signs_even", none), "are_signs_even", "are_signs_even", defArgs S_are_signs_even, defBody S_are_signs_even, defScope S_are_signs_even, [], []⟩
def d_sign_of : He.DefD := ⟨("sign_of", none), "sign_of", "sign_of", defArgs S_sign_of, defBody S_sign_of, defScope S_sign_of, [], []⟩
def d_signs_of : He.DefD := ⟨("signs_of", none), "signs_of", "signs_of", defArgs S_signs_of, defBody S_signs_of, defScope S_signs_of, [], []⟩
def d_is_even_to : He.DefD := ⟨("is_even_to", none), "is_even_to", "is_even_to", defArgs S_is_even_to, defBody S_is_even_to, defScope S_is_even_to, [], []⟩
def d_evenness : He.DefD := ⟨("evenness", none), "evenness", "evenness", defArgs S_evenness, defBody S_evenness, defScope S_evenness, [], []⟩
def d_check_degree : He.DefD := ⟨("check_degree", none), "check_degree", "check_degree", defArgs S_check_degree, defBody S_check_degree, defScope S_check_degree, [], [("most", .int 9)]⟩
def d_is_smooth : He.DefD := ⟨("is_smooth", none), "is_smooth", "is_smooth", defArgs S_is_smooth, defBody S_is_smooth, defScope S_is_smooth, [], []⟩
def d_check_two_hands : He.DefD := ⟨("check_two_hands", none), "check_two_hands", "check_two_hands", defArgs S_check_two_hands, defBody S_check_two_hands, defScope S_check_two_hands, [], []⟩
def d_check_two : He.DefD := ⟨("check_two", none), "check_two", "check_two", defArgs S_check_two, defBody S_check_two, defScope S_check_two, [], []⟩
def d_check_worths_of : He.DefD := ⟨("check_worths_of", none), "check_worths_of", "check_worths_of", defArgs S_check_worths_of, defBody S_check_worths_of, defScope S_check_worths_of, [], []⟩
def d_totals_of : He.DefD := ⟨("totals_of", none), "totals_of", "totals_of", defArgs S_totals_of, defBody S_totals_of, defScope S_totals_of, [], []⟩
def d_lead : He.DefD := ⟨("lead", none), "lead", "lead", defArgs S_lead, defBody S_lead, defScope S_lead, [], []⟩
def d_law : He.DefD := ⟨("law", none), "law", "law", defArgs S_law, defBody S_law, defScope S_law, [], []⟩
def fnL : List He.DefD := [d__law_cell_at, d__law_mixed, d__law_draw, d__law_order_of, d__law_rest, d__law_put, d__law_even_row, d__law_some_row, d__law_near_even, d__law_pairs, d__law_power, d__law_smooth_worths, d_is_whole, d_is_from_to, d_check_order, d_check_worths, d_differences_of, d_differences, d_check_hands, d_is_hand, d_fits_row, d_check_row, d_running_sums, d_are_signs_even, d_sign_of, d_signs_of, d_is_even_to, d_evenness, d_check_degree, d_is_smooth, d_check_two_hands, d_check_two, d_check_worths_of, d_totals_of, d_lead, d_law]
def faL : List He.Fa := [.glo "_law_cell_at", .glo "_law_mixed", .glo "_law_draw", .glo "_law_order_of", .glo "_law_rest", .glo "_law_put", .glo "_law_even_row", .glo "_law_some_row", .glo "_law_near_even", .glo "_law_pairs", .glo "_law_power", .glo "_law_smooth_worths", .glo "is_whole", .glo "is_from_to", .glo "check_order", .glo "check_worths", .glo "differences_of", .glo "differences", .glo "check_hands", .glo "is_hand", .glo "fits_row", .glo "check_row", .glo "running_sums", .glo "are_signs_even", .glo "sign_of", .glo "signs_of", .glo "is_even_to", .glo "evenness", .glo "check_degree", .glo "is_smooth", .glo "check_two_hands", .glo "check_two", .glo "check_worths_of", .glo "totals_of", .glo "lead", .glo "law", .free "all", .free "bool", .free "enumerate", .free "int", .free "isinstance", .free "len", .free "list", .free "max", .free "min", .free "range", .free "sum", .free "tuple", .free "zip", .int "FEWEST_HANDS" (2), .int "MOST_HANDS" (4), .int "MOST_ORDER" (9), .int "MOST_PLACES" (64)]
abbrev Rw : PySem.W.OpenRow := PySem.W.OpenLaw.row PySem.Challenge.rw_evenrows_k19_whole_smooth_worths_added
abbrev hk : PySem.W.Hook := He.hookD 5 faL fnL
def ob (s : PySem.W.SharedT) : He.AlD := He.obsDG 5 faL fnL (HandSHeadRun.getT s)
theorem ob_eq (s : PySem.W.SharedT) : ob s = hk.obs s.abs := He.obsDG_eq (HandSHeadRun.getT_eq s)
def loose0 : List PySem.Str := ["TurnError", "NoHands", "NoRow", "NoHand", "NoWorths", "NoOrder", "NoDegree", "FEWEST_HANDS", "MOST_HANDS", "MOST_PLACES", "MOST_ORDER", "MOST_DEGREE", "is_whole", "is_from_to", "is_hand", "fits_row", "check_hands", "check_row", "check_two", "check_two_hands", "check_worths", "check_worths_of", "check_order", "check_degree", "lead", "signs_of", "sign_of", "totals_of", "differences", "is_smooth"]
def loose1 : List PySem.Str := ["differences_of", "evenness", "running_sums", "is_even_to", "are_signs_even", "_law_cell_at", "_law_mixed", "_law_draw", "_law_some_row", "_law_order_of", "_law_rest", "_law_put", "_law_even_row", "_law_near_even", "_law_power", "_law_pairs", "_law_smooth_worths"]
def looseL : List PySem.Str := loose0 ++ loose1
theorem run (w : World) : HandSHeadRun.RunEq Rw (PySem.W.view Rw.prog [53]) hk ob 20000 looseL w := by
  intro os
  kernel_rfl
theorem txt {K : PySem.W.Frag} {h : Heap} {mg : Str → Option Value} (X : K.In h) (G : h.Ns mainGlobals mg) (c : He.SaysD faL fnL K) : Txt K mg where
  f__law_cell_at := at_of (d := d__law_cell_at) X G c 0 0 rfl rfl rfl
  f__law_mixed := at_of (d := d__law_mixed) X G c 1 1 rfl rfl rfl
  f__law_draw := at_of (d := d__law_draw) X G c 2 2 rfl rfl rfl
  f__law_order_of := at_of (d := d__law_order_of) X G c 3 3 rfl rfl rfl
  f__law_rest := at_of (d := d__law_rest) X G c 4 4 rfl rfl rfl
  f__law_put := at_of (d := d__law_put) X G c 5 5 rfl rfl rfl
  f__law_even_row := at_of (d := d__law_even_row) X G c 6 6 rfl rfl rfl
  f__law_some_row := at_of (d := d__law_some_row) X G c 7 7 rfl rfl rfl
  f__law_near_even := at_of (d := d__law_near_even) X G c 8 8 rfl rfl rfl
  f__law_pairs := at_of (d := d__law_pairs) X G c 9 9 rfl rfl rfl
  f__law_power := at_of (d := d__law_power) X G c 10 10 rfl rfl rfl
  f__law_smooth_worths := at_of (d := d__law_smooth_worths) X G c 11 11 rfl rfl rfl
  f_is_whole := at_of (d := d_is_whole) X G c 12 12 rfl rfl rfl
  f_is_from_to := at_of (d := d_is_from_to) X G c 13 13 rfl rfl rfl
  f_check_order := at_of (d := d_check_order) X G c 14 14 rfl rfl rfl
  f_check_worths := at_of (d := d_check_worths) X G c 15 15 rfl rfl rfl
  f_differences_of := at_of (d := d_differences_of) X G c 16 16 rfl rfl rfl
  f_differences := at_of (d := d_differences) X G c 17 17 rfl rfl rfl
  f_check_hands := at_of (d := d_check_hands) X G c 18 18 rfl rfl rfl
  f_is_hand := at_of (d := d_is_hand) X G c 19 19 rfl rfl rfl
  f_fits_row := at_of (d := d_fits_row) X G c 20 20 rfl rfl rfl
  f_check_row := at_of (d := d_check_row) X G c 21 21 rfl rfl rfl
  f_running_sums := at_of (d := d_running_sums) X G c 22 22 rfl rfl rfl
  f_are_signs_even := at_of (d := d_are_signs_even) X G c 23 23 rfl rfl rfl
  f_sign_of := at_of (d := d_sign_of) X G c 24 24 rfl rfl rfl
  f_signs_of := at_of (d := d_signs_of) X G c 25 25 rfl rfl rfl
  f_is_even_to := at_of (d := d_is_even_to) X G c 26 26 rfl rfl rfl
  f_evenness := at_of (d := d_evenness) X G c 27 27 rfl rfl rfl
  f_check_degree := at_of (d := d_check_degree) X G c 28 28 rfl rfl rfl
  f_is_smooth := at_of (d := d_is_smooth) X G c 29 29 rfl rfl rfl
  f_check_two_hands := at_of (d := d_check_two_hands) X G c 30 30 rfl rfl rfl
  f_check_two := at_of (d := d_check_two) X G c 31 31 rfl rfl rfl
  f_check_worths_of := at_of (d := d_check_worths_of) X G c 32 32 rfl rfl rfl
  f_totals_of := at_of (d := d_totals_of) X G c 33 33 rfl rfl rfl
  f_lead := at_of (d := d_lead) X G c 34 34 rfl rfl rfl
  b_all := He.free_ok X G (c.fact 36 (f := .free "all") rfl)
  b_bool := He.free_ok X G (c.fact 37 (f := .free "bool") rfl)
  b_enumerate := He.free_ok X G (c.fact 38 (f := .free "enumerate") rfl)
  b_int := He.free_ok X G (c.fact 39 (f := .free "int") rfl)
  b_isinstance := He.free_ok X G (c.fact 40 (f := .free "isinstance") rfl)
  b_len := He.free_ok X G (c.fact 41 (f := .free "len") rfl)
  b_list := He.free_ok X G (c.fact 42 (f := .free "list") rfl)
  b_max := He.free_ok X G (c.fact 43 (f := .free "max") rfl)
  b_min := He.free_ok X G (c.fact 44 (f := .free "min") rfl)
  b_range := He.free_ok X G (c.fact 45 (f := .free "range") rfl)
  b_sum := He.free_ok X G (c.fact 46 (f := .free "sum") rfl)
  b_tuple := He.free_ok X G (c.fact 47 (f := .free "tuple") rfl)
  b_zip := He.free_ok X G (c.fact 48 (f := .free "zip") rfl)
  k_FEWEST_HANDS := He.int_ok X G (c.fact 49 (f := .int "FEWEST_HANDS" (2)) rfl)
  k_MOST_HANDS := He.int_ok X G (c.fact 50 (f := .int "MOST_HANDS" (4)) rfl)
  k_MOST_ORDER := He.int_ok X G (c.fact 51 (f := .int "MOST_ORDER" (9)) rfl)
  k_MOST_PLACES := He.int_ok X G (c.fact 52 (f := .int "MOST_PLACES" (64)) rfl)
theorem facts {P : Program} {w : World} {K : PySem.W.Frag} {h : Heap} {mg : Str → Option Value} {f : Addr} (X : K.In h) (G : h.Ns mainGlobals mg) (hfa : mg ("law" : Str) = some (.ref f)) (c : He.SaysD faL fnL K) :
    ∃ fd : FuncData, (∀ (s : Shared) (v : Value), BindsTo s fd ⟨[v], []⟩ [("_law_script", v)]) ∧ ∀ base : Heap, K.In base → base.Ns mainGlobals mg → FnOk P w K mg base CX0 8 f fd ["_law_script"] (sp_law K) := by
  obtain ⟨fd, F⟩ := c.def_ 35 (d := d_law) rfl
  have e := hfa.symm.trans (He.glo_ok X G (c.fact 35 (f := .glo "law") rfl))
  cases e
  have b := FunD.bindsA (ps := ["_law_script"]) F fun _ _ _ _ _ _ us hl => match us, hl with | [_], _ => rfl
  exact ⟨fd, fun s v => b s [v] rfl, fun base _ _ => ok_law (txt X G c) F⟩
end Ev
open PySem PySem.W PySem.Calls PyProof.Rows
set_option maxHeartbeats 0 in
theorem PySem.Challenge.cw_evenrows_k19_whole_smooth_worths_added_holds : PySem.Challenge.rw_evenrows_k19_whole_smooth_worths_added.Holds := by
  w_on; o_law
  refine HandSHeadRun.head_any (r := (OpenLaw.row PySem.Challenge.rw_evenrows_k19_whole_smooth_worths_added)) (q := view (OpenLaw.row PySem.Challenge.rw_evenrows_k19_whole_smooth_worths_added).prog [53]) (H := Ev.hk) (ob := Ev.ob) (M := 20000) (loose := Ev.looseL) (d := HandSHeadRun.topDef (OpenLaw.row PySem.Challenge.rw_evenrows_k19_whole_smooth_worths_added).prog 53) (kwd := []) Ev.ob_eq
    (by kernel_rfl) (fun s => by kernel_rfl) Ev.run (by kernel_rfl) (by kernel_rfl) (by kernel_rfl) (by rfl) (by first | assumption | decide +kernel) (by decide +kernel) ⟨rfl, rfl, rfl, rfl, rfl, by decide +kernel⟩ ?hw ?hc
  case hw => w_witness2
  case hc =>
    refine L2.walk_ofE (l := PySem.Challenge.rw_evenrows_k19_whole_smooth_worths_added) (n := 63) (k := 8) (x := "_law_script") (CX := L2.CX0) rfl (by decide) (by kernel_rfl) ⟨rfl, by decide, by decide⟩ ?F (fun _ _ _ _ z => z)
    intro w mg fa h Y G hmg0
    obtain ⟨K, KX, c⟩ := Y
    have hmg : mg ("law" : PySem.Str) = some (.ref fa) := by
      have e : (HandSHeadRun.topDef (OpenLaw.row PySem.Challenge.rw_evenrows_k19_whole_smooth_worths_added).prog 53).name = ("law" : PySem.Str) := by kernel_rfl
      rw [← e]
      exact hmg0
    obtain ⟨fd, hb, hF⟩ := Ev.facts (P := (PySem.Challenge.rw_evenrows_k19_whole_smooth_worths_added).prog) (w := w) KX G hmg c
    exact ⟨K, fd, Ev.sp_law K, KX, hb, fun H a ns hl _ hS => ⟨a, ns, rfl, hS, hl, fun _ => rfl⟩, hF⟩
