import PyProof.Rows.All
import Wide.All
import OpenK.AllK
import Wide.FinOn
import Lean
import KE.GoesEnum
import KE.KTupSum
import KE.KRevSl
import KE.GoesMore
import KE.GoesZip
import KE.DataMinMax
import KE.SortData
import PyProof.EqAt
import PyProof.EqKinds
import PyProof.TupleCall
import HandS.Base
import HandS.Call
import HandS.List
import HandS.Comp
import HandS.Ends
import HandS.Dict
import HandS.Iter
import HandS.Walk
import HandS.Text
import HandS.Words
import HandS.WordsList
import HandS.WordsDict
import HandS.Exc
import HandS.Zip
import HandS.Conv
import HandS.TryOnly
import HandS.TupAny
import HandS.Style
import HandS.IsInst
import HandS.Wide
import HandS.Defaults
import HandS.Head0
import HandS.Head1
import HandS.Head2
import HandS.HeadEnd
import HandS.HeadHook1
import HandS.HeadHook2
import HandS.Star
import HandS.SetFor
import HandS.Head3
import HandS.TupMul
import HandS.Codes
import HandS.Strs
import PySem.Challenge.RW_evenrows_k02_whole_smooth

set_option Elab.async false
set_option linter.all false
set_option maxRecDepth 100000
set_option maxHeartbeats 4000000

namespace Ly
open PySem PySem.Spec PyProof.Rows L2

/-! ### the text by names: a def as it stands, a def as it is called -/
/-- the def st stands under the module's name x -/
structure At (K : PySem.W.Frag) (mg : Str → Option Value) (x : Str) (st : Stmt) (kws : List (Str × V)) : Prop where
  ex : ∃ f fd, FunD K x x (defArgs st) (defBody st) (defScope st) [] kws f fd ∧ mg x = some (.ref f)
/-- the module's name x can be called by so many positional values, and keeps the promise sp -/
structure Cal (P : Program) (w : World) (K : PySem.W.Frag) (mg : Str → Option Value) (base : Heap) (k : Nat) (x : Str) (ps : List Str) (sp : Sp) : Prop where
  ex : ∃ f fd, FnOk P w K mg base CX0 k f fd ps sp ∧ mg x = some (.ref f) ∧ PySem.W.keepIn K (.ref f) = true ∧ Binds K fd ps []
/-- with the default of its one keyword-only name filled in -/
structure CalD (P : Program) (w : World) (K : PySem.W.Frag) (mg : Str → Option Value) (base : Heap) (k : Nat) (x : Str) (ps : List Str) (sp : Sp) (dv : V) : Prop where
  ex : ∃ f fd ds, FnOk P w K mg base CX0 k f fd ps sp ∧ mg x = some (.ref f) ∧ PySem.W.keepIn K (.ref f) = true ∧ Binds K fd ps ds ∧ Vals [dv] ds
/-- with its one keyword-only name written, behind n others -/
structure CalK (P : Program) (w : World) (K : PySem.W.Frag) (mg : Str → Option Value) (base : Heap) (k : Nat) (x : Str) (ps : List Str) (sp : Sp) (n : Nat) (kw : Str) : Prop where
  ex : ∃ f fd, FnOk P w K mg base CX0 k f fd ps sp ∧ mg x = some (.ref f) ∧ PySem.W.keepIn K (.ref f) = true ∧ KBn K fd ps n [kw] (fun us ws => us ++ ws) (fun vs zs => vs ++ zs)

section
variable {X : Cx} {j k : Nat} {x : Str} {ps : List Str} {sp : Sp} {p pos : Pos} {e : Expr} {es : List Expr} {t : TA} {dv : V}
theorem pe_cal (C : Cal X.prog X.w X.K X.mg X.base j x ps sp) (hr : Room k X.A) (hj : j ≤ k) (ha : PA X (e :: es) t) (hg : Gl X x := by rfl) (hdb : (x == ("__debug__" : Str)) = false := by decide)
    (he : starEach (e :: es) X.env = (false, eval e X.env) :: starEach es X.env := by rfl) (hpl : (backTo pos (starEach es X.env)).any (·.1) = false := by rfl) :
    PE X (.Call (.Name x p) (e :: es) [] pos) (tCall sp [] E0 t) := by
  obtain ⟨f, fd, F, m, kp, b⟩ := C.ex
  exact pe_call F (hr.mono hj) hg m kp b .nil pass0 ha hdb he hpl
theorem pe_calD (C : CalD X.prog X.w X.K X.mg X.base j x ps sp dv) (hr : Room k X.A) (hj : j ≤ k) (ha : PA X (e :: es) t) (hg : Gl X x := by rfl) (hdb : (x == ("__debug__" : Str)) = false := by decide)
    (he : starEach (e :: es) X.env = (false, eval e X.env) :: starEach es X.env := by rfl) (hpl : (backTo pos (starEach es X.env)).any (·.1) = false := by rfl) :
    PE X (.Call (.Name x p) (e :: es) [] pos) (tCall sp [dv] E0 t) := by
  obtain ⟨f, fd, ds, F, m, kp, b, r⟩ := C.ex
  exact pe_call F (hr.mono hj) hg m kp b r pass0 ha hdb he hpl
theorem pe_calK {n : Nat} {kw : Str} {kws : List Keyword} {tk : TA} (C : CalK X.prog X.w X.K X.mg X.base j x ps sp n kw) (hr : Room k X.A) (hj : j ≤ k) (ha : PA X (e :: es) t) (hkw : PK X kws tk) (hg : Gl X x := by rfl)
    (hall : (backToKw pos (keywordEach kws X.env)).all (·.1.isSome) = true := by rfl) (hks : (backToKw pos (keywordEach kws X.env)).filterMap (·.1) = [kw] := by rfl) (hdb : (x == ("__debug__" : Str)) = false := by decide)
    (he : starEach (e :: es) X.env = (false, eval e X.env) :: starEach es X.env := by rfl)
    (hpl : ((backTo pos (starEach (e :: es) X.env)).any (·.1) || (backToKw pos (keywordEach kws X.env)).any (·.1.isNone)) = false := by rfl) :
    PE X (.Call (.Name x p) (e :: es) kws pos) (tCallN n 1 sp (fun vs zs => vs ++ zs) E0 t tk) := by
  obtain ⟨f, fd, F, m, kp, b⟩ := C.ex
  exact pe_callN F (hr.mono hj) hg m kp b pass0 ha hkw hall hks hdb he hpl
/-- a module's whole number -/
theorem pe_kon {y : Str} {i : Int} {q : Pos} (h : ∃ t, X.mg y = some (.int i t)) (hg : Gl X y := by rfl) (hd : (y == ("__debug__" : Str)) = false := by decide) : PE X (.Name y q) (tC (.int i)) := by
  obtain ⟨u, m⟩ := h
  exact pe_glob hg m ⟨u, rfl⟩ hd
/-- a built-in class as a value -/
theorem pe_ty {y : Str} {n : String} {q : Pos} (hg : Gl X y) (hm : X.mg y = none) (hv : bootBuiltins y = some (.type n)) (hn : y ≠ "__name__" := by decide) (hd : (y == ("__debug__" : Str)) = false := by decide) : PE X (.Name y q) (tC (.ty n)) := pe_bltn hg hm hv rfl hn hd
end
theorem bt_len : bootBuiltins "len" = some (.builtin "len") := by decide +kernel
theorem bt_sum : bootBuiltins "sum" = some (.builtin "sum") := by decide +kernel
theorem bt_all : bootBuiltins "all" = some (.builtin "all") := by decide +kernel
theorem bt_any : bootBuiltins "any" = some (.builtin "any") := by decide +kernel
theorem bt_min : bootBuiltins "min" = some (.builtin "min") := by decide +kernel
theorem bt_max : bootBuiltins "max" = some (.builtin "max") := by decide +kernel
theorem bt_abs : bootBuiltins "abs" = some (.builtin "abs") := by decide +kernel
theorem bt_isinstance : bootBuiltins "isinstance" = some (.builtin "isinstance") := by decide +kernel
theorem bt_int : bootBuiltins "int" = some (.type "int") := by decide +kernel
theorem bt_bool : bootBuiltins "bool" = some (.type "bool") := by decide +kernel
theorem bt_tuple : bootBuiltins "tuple" = some (.type "tuple") := by decide +kernel
theorem bt_list : bootBuiltins "list" = some (.type "list") := by decide +kernel
theorem bt_str : bootBuiltins "str" = some (.type "str") := by decide +kernel

section
variable {P : Program} {w : World} {K : PySem.W.Frag} {mg : Str → Option Value} {base : Heap} {x : Str} {st : Stmt} {N ps : List Str} {k : Nat} {sp : Sp} {kws : List (Str × V)}
/-- a def's body walked: its promise -/
theorem At.fn (F : At K mg x st kws) (S : FnScope N ps (defScope st)) (len : ∀ vs H Q E, sp vs H Q E → vs.length = ps.length)
    (hbody : ∀ (cdv : Value) (A : Around) (outer : List Env) (s : Shared) (H : Hp) (vs : List V) (Q : VK) (E : XK) (f : Addr), Room k (A.deeper (envOfC x (defScope st) s.heap.objs.size f cdv)) → sp vs H Q E →
      ∃ t, PSs (cxOf CX0 P w K mg base N x (defScope st) f cdv A outer s H E).nox (defBody st) t ∧ t { nx := fun _ H' => Q .non H', rt := Q } (start N vs) H) :
    ∃ f fd, FunD K x x (defArgs st) (defBody st) (defScope st) [] kws f fd ∧ mg x = some (.ref f) ∧ FnOk P w K mg base CX0 (k + 1) f fd ps sp := by
  obtain ⟨f, fd, F, m⟩ := F.ex
  refine ⟨f, fd, F, m, F.ok (CX := CX0) S len fun cdv A outer s H vs Q E hr h => ?_⟩
  obtain ⟨t, h1, h2⟩ := hbody cdv A outer s H vs Q E f hr h
  exact ⟨t, PSs.nox h1, h2⟩
theorem At.cal (F : At K mg x st []) (S : FnScope N ps (defScope st))
    (hb : ∀ (kV doc pm : Value) (an : Option Addr) (cdv ct : Value) (us : List Value), us.length = ps.length → bindArgs (PySem.W.fnOf x x (defArgs st) (defBody st) (defScope st) .none kV doc pm an cdv ct) ⟨us, []⟩ = pure (ps.zip us))
    (len : ∀ vs H Q E, sp vs H Q E → vs.length = ps.length)
    (hbody : ∀ (cdv : Value) (A : Around) (outer : List Env) (s : Shared) (H : Hp) (vs : List V) (Q : VK) (E : XK) (f : Addr), Room k (A.deeper (envOfC x (defScope st) s.heap.objs.size f cdv)) → sp vs H Q E →
      ∃ t, PSs (cxOf CX0 P w K mg base N x (defScope st) f cdv A outer s H E).nox (defBody st) t ∧ t { nx := fun _ H' => Q .non H', rt := Q } (start N vs) H) : Cal P w K mg base (k + 1) x ps sp := by
  obtain ⟨f, fd, F, m, G⟩ := F.fn S len hbody
  exact ⟨f, fd, G, m, F.kp, F.bindsN hb⟩
end
section
variable {P : Program} {w : World} {K : PySem.W.Frag} {mg : Str → Option Value} {base : Heap} {x : Str} {st : Stmt} {N ps : List Str} {k : Nat} {sp : Sp} {kws : List (Str × V)} {f : Addr} {fd : FuncData}
/-- the law's own def, at a given place -/
theorem fn_ok (F : FunD K x x (defArgs st) (defBody st) (defScope st) [] kws f fd) (S : FnScope N ps (defScope st)) (len : ∀ vs H Q E, sp vs H Q E → vs.length = ps.length)
    (hbody : ∀ (cdv : Value) (A : Around) (outer : List Env) (s : Shared) (H : Hp) (vs : List V) (Q : VK) (E : XK), Room k (A.deeper (envOfC x (defScope st) s.heap.objs.size f cdv)) → sp vs H Q E →
      ∃ t, PSs (cxOf CX0 P w K mg base N x (defScope st) f cdv A outer s H E).nox (defBody st) t ∧ t { nx := fun _ H' => Q .non H', rt := Q } (start N vs) H) : FnOk P w K mg base CX0 (k + 1) f fd ps sp :=
  F.ok (CX := CX0) S len fun cdv A outer s H vs Q E hr h => by
    obtain ⟨t, h1, h2⟩ := hbody cdv A outer s H vs Q E hr h
    exact ⟨t, PSs.nox h1, h2⟩
/-- a def among the head's facts -/
theorem at_of {fa : List He.Fa} {fn : List He.DefD} {h : Heap} {d : He.DefD} (X : K.In h) (G : h.Ns mainGlobals mg) (c : He.SaysD fa fn K) (i j : Nat) (hd : fn[i]? = some d) (hf : fa[j]? = some (.glo x)) (e : d = ⟨(x, none), x, x, defArgs st, defBody st, defScope st, [], d.kwd⟩) : At K mg x st (d.kws K) := by
  obtain ⟨fd, F⟩ := c.def_ i (d := d) hd
  rw [e] at F
  exact ⟨_, fd, F, He.glo_ok X G (c.fact j (f := .glo x) hf)⟩
end
/-- how so many parameters bind -/
theorem len1 {a : List V} {v : V} (h : a = [v]) : a.length = 1 := by rw [h]; rfl

/-! ### heaps -/
theorem same_new {H : Hp} {p : Addr} {o : HO} (h : H p = none) : Same H (upd H p o) := fun b x e => by
  rw [upd_ne (ne_of_none e h)]
  exact e
theorem same_then {H H' : Hp} {p : Addr} {o : HO} (s : Same H H') (h : H' p = none) : Same H (upd H' p o) := fun b x e => same_new h b x (s b x e)
theorem seqL {K : PySem.W.Frag} {H H' : Hp} {a : Addr} {xs : List V} (s : Same H H') (h : SqL K H a xs) : SqL K H' a xs := by
  rcases h with (h | ⟨o, h⟩) | h
  · exact .inl (.inl (s _ _ h))
  · exact .inl (.inr ⟨o, s _ _ h⟩)
  · exact .inr h
theorem seqT {K : PySem.W.Frag} {H H' : Hp} {a : Addr} {xs : List V} (s : Same H H') (h : SqT K H a xs) : SqT K H' a xs := by
  rcases h with (h | ⟨o, h⟩) | h
  · exact .inl (.inl (s _ _ h))
  · exact .inl (.inr ⟨o, s _ _ h⟩)
  · exact .inr h
theorem none_back {H H' : Hp} {p : Addr} (s : Same H H') (n : H' p = none) : H p = none := by
  cases e : H p with
  | none => rfl
  | some o =>
    rw [s _ _ e] at n
    cases n
theorem flat_rep {α : Type} (v : α) : ∀ n : Nat, (List.replicate n [v]).flatten = List.replicate n v
  | 0 => rfl
  | n + 1 => by
    rw [List.replicate_succ, List.flatten_cons, flat_rep v n]
    rfl
/-- all but what stands at b is as it was -/
def But (b : Addr) (H H' : Hp) : Prop := ∀ c o, c ≠ b → H c = some o → H' c = some o
theorem But.refl (b : Addr) (H : Hp) : But b H H := fun _ _ _ e => e
theorem But.trans {b : Addr} {H H1 H2 : Hp} (h : But b H H1) (k : But b H1 H2) : But b H H2 := fun c o n e => k c o n (h c o n e)
theorem But.of_same {b : Addr} {H H' : Hp} (s : Same H H') : But b H H' := fun c o _ e => s c o e
theorem But.at {b : Addr} {H : Hp} {o : HO} : But b H (upd H b o) := fun c o n e => by
  rw [upd_ne n]
  exact e
theorem But.same {b : Addr} {H H1 H2 : Hp} (h : But b H H1) (s : Same H1 H2) : But b H H2 := h.trans (.of_same s)
/-- the town at b: a list of so many things at most -/
def Town (b : Addr) (n : Nat) (H : Hp) : Prop := ∃ xs, H b = some (.lst xs) ∧ xs.length ≤ n
theorem Town.same {b : Addr} {n : Nat} {H H' : Hp} (s : Same H H') (h : Town b n H) : Town b n H' := by
  obtain ⟨xs, e, l⟩ := h
  exact ⟨xs, s _ _ e, l⟩
theorem Town.le {b : Addr} {n m : Nat} {H : Hp} (h : Town b n H) (l : n ≤ m) : Town b m H := by
  obtain ⟨xs, e, q⟩ := h
  exact ⟨xs, e, Nat.le_trans q l⟩
theorem Town.ne_new {b p : Addr} {n : Nat} {H : Hp} (h : Town b n H) (np : H p = none) : p ≠ b := fun z => by
  obtain ⟨xs, e, _⟩ := h
  rw [← z, np] at e
  cases e
theorem but_none {b : Addr} {H H' : Hp} {p : Addr} (s : But b H H') (nb : p ≠ b) (n : H' p = none) : H p = none := by
  cases e : H p with
  | none => rfl
  | some o =>
    rw [s _ _ nb e] at n
    cases n
theorem butL {K : PySem.W.Frag} {b : Addr} {H H' : Hp} {a : Addr} {xs : List V} (s : But b H H') (n : a ≠ b) (h : SqL K H a xs) : SqL K H' a xs := by
  rcases h with (h | ⟨o, h⟩) | h
  · exact .inl (.inl (s _ _ n h))
  · exact .inl (.inr ⟨o, s _ _ n h⟩)
  · exact .inr h
theorem butT {K : PySem.W.Frag} {b : Addr} {H H' : Hp} {a : Addr} {xs : List V} (s : But b H H') (n : a ≠ b) (h : SqT K H a xs) : SqT K H' a xs := by
  rcases h with (h | ⟨o, h⟩) | h
  · exact .inl (.inl (s _ _ n h))
  · exact .inl (.inr ⟨o, s _ _ n h⟩)
  · exact .inr h
/-- the script at a is read, and what stands at b is another thing -/
def Scr (K : PySem.W.Frag) (H : Hp) (b a : Addr) (ns : List Int) : Prop := ns.length ≤ 63 ∧ ((∀ H', SqL K H' a (ns.map V.int)) ∨ (SqL K H a (ns.map V.int) ∧ a ≠ b))
theorem Scr.sq {K : PySem.W.Frag} {H : Hp} {b a : Addr} {ns : List Int} (h : Scr K H b a ns) : SqL K H a (ns.map V.int) := h.2.elim (fun k => k H) (fun k => k.1)
theorem Scr.but {K : PySem.W.Frag} {H H' : Hp} {b a : Addr} {ns : List Int} (h : Scr K H b a ns) (s : But b H H') : Scr K H' b a ns := ⟨h.1, h.2.elim (fun k => .inl k) (fun k => .inr ⟨butL s k.2 k.1, k.2⟩)⟩
theorem Scr.same {K : PySem.W.Frag} {H H' : Hp} {b a : Addr} {ns : List Int} (h : Scr K H b a ns) (s : Same H H') : Scr K H' b a ns := h.but (.of_same s)
theorem Scr.of {K : PySem.W.Frag} {H : Hp} {b a : Addr} {ns : List Int} {o : HO} (h : SqL K H a (ns.map V.int)) (l : ns.length ≤ 63) (n : H b = none) : Scr K (upd H b o) b a ns := by
  rcases h with (h | ⟨u, h⟩) | h
  · exact ⟨l, .inr ⟨.inl (.inl (by rw [upd_ne (ne_of_none h n)]; exact h)), ne_of_none h n⟩⟩
  · exact ⟨l, .inr ⟨.inl (.inr ⟨u, by rw [upd_ne (ne_of_none h n)]; exact h⟩), ne_of_none h n⟩⟩
  · exact ⟨l, .inl fun _ => .inr h⟩
theorem szl {n : Nat} (h : n < 100000) : n < sizeLine := Nat.lt_of_lt_of_le h (by decide)
theorem sz {n : Nat} (h : n ≤ 100000) : n ≤ sizeLine := Nat.le_trans h (by decide)

/-! ### further rules -/
/-- an item read by place, the place not below 0 -/
def rGetL (K : PySem.W.Frag) : V → V → Hp → VK → Prop := fun o i H Q => ∃ (p : Addr) (xs : List V) (j : Nat) (v : V), o = .ref p ∧ i = .int (j : Int) ∧ SqL K H p xs ∧ xs[j]? = some v ∧ Q v H
section
variable {X : Cx}
theorem get_list : PGet X (rGetL X.K) := by
  intro pins s σ H o i ov iv Q I ro ri h
  obtain ⟨p, xs, j, z, rfl, rfl, hq, he, q⟩ := h
  cases ro
  obtain ⟨t, rfl⟩ := ri
  obtain ⟨its, r, pl, hz⟩ := I.list hq
  obtain ⟨w, ew, rw'⟩ := r.get he
  have hl := r.length
  have hn := line63
  have hj : j < its.length := (List.getElem?_eq_some_iff.mp ew).1
  exact wpAny_getItem_list pl.isList (by omega) (by omega) (by simpa using ew) ⟨z, H, I, rw', q⟩
end
theorem m2_of {X : Cx} {o : Expr} {m : Str} {apos : Pos} {e f : Expr} {cpos : Pos} (h1 : attributeBase o m X.env (eval o X.env) = eval o X.env := by rfl)
    (h2 : ((backTo cpos (starEach [e, f] X.env)).all (fun x => !x.1) && (backToKw cpos (keywordEach [] X.env)).all (fun x => x.1.isSome) && decide (([e, f] : List Expr).length + ([] : List Keyword).length + (if ([] : List Keyword).isEmpty then 0 else 1) < 30)) = true := by rfl)
    (h3 : (apos.endLine == cpos.line) = true := by rfl) (h4 : backTo cpos (starEach [e, f] X.env) = [(false, eval e X.env), (false, eval f X.env)] := by rfl) : M2 X o m apos e f cpos := ⟨h1, h2, h3, h4⟩

/-! ### data compared -/
theorem dp_ints {K : PySem.W.Frag} {H : Hp} : ∀ ns : List Int, DpAll K H (ns.map V.int) (ns.map PyData.int)
  | [] => .nil
  | n :: r => .cons (.int n) (dp_ints r)
theorem eqvAll_ints : ∀ ns ms : List Int, PyData.eqvAll (ns.map PyData.int) (ms.map PyData.int) = decide (ns = ms)
  | [], [] => by simp [PyData.eqvAll]
  | [], _ :: _ => by simp [PyData.eqvAll]
  | _ :: _, [] => by simp [PyData.eqvAll]
  | a :: r, b :: t => by
    simp only [List.map_cons, PyData.eqvAll, PyData.eqv, eqvAll_ints r t]
    by_cases h : a = b <;> by_cases h2 : r = t <;> simp [h, h2]
theorem eqv_lst (ns ms : List Int) : PyData.eqv (.list (ns.map PyData.int)) (.list (ms.map PyData.int)) = decide (ns = ms) := by
  simp only [PyData.eqv]
  exact eqvAll_ints ns ms
theorem eqv_tup (ns ms : List Int) : PyData.eqv (.tuple (ns.map PyData.int)) (.tuple (ms.map PyData.int)) = decide (ns = ms) := by
  simp only [PyData.eqv]
  exact eqvAll_ints ns ms
theorem shaped_lst (ns : List Int) : SeqAt.shaped (.list (ns.map PyData.int)) = true := by
  simp [SeqAt.shaped, PyData.canLay0, PyData.depth, PySem.W.ke_canLayAll0, PySem.W.ke_depthAll]
theorem shaped_tup (ns : List Int) : SeqAt.shaped (.tuple (ns.map PyData.int)) = true := by
  simp [SeqAt.shaped, PyData.canLay0, PyData.depth, PySem.W.ke_canLayAll0, PySem.W.ke_depthAll]
section
variable {K : PySem.W.Frag} {H : Hp} {a b : Addr} {ns ms : List Int} {Q : VK}
theorem eqL (h1 : SqL K H a (ns.map V.int)) (h2 : SqL K H b (ms.map V.int)) (q : Q (.bl (decide (ns = ms))) H) : rEqD K (.ref a) (.ref b) H Q :=
  ⟨_, _, .lst h1 (dp_ints ns), .lst h2 (dp_ints ms), shaped_lst ns, shaped_lst ms, by rw [eqv_lst]; exact q⟩
theorem neL (h1 : SqL K H a (ns.map V.int)) (h2 : SqL K H b (ms.map V.int)) (q : Q (.bl (!decide (ns = ms))) H) : rNeD K (.ref a) (.ref b) H Q :=
  ⟨_, _, .lst h1 (dp_ints ns), .lst h2 (dp_ints ms), shaped_lst ns, shaped_lst ms, by rw [eqv_lst]; exact q⟩
theorem eqT (h1 : SqT K H a (ns.map V.int)) (h2 : SqT K H b (ms.map V.int)) (q : Q (.bl (decide (ns = ms))) H) : rEqD K (.ref a) (.ref b) H Q :=
  ⟨_, _, .tup h1 (dp_ints ns), .tup h2 (dp_ints ms), shaped_tup ns, shaped_tup ms, by rw [eqv_tup]; exact q⟩
theorem neT (h1 : SqT K H a (ns.map V.int)) (h2 : SqT K H b (ms.map V.int)) (q : Q (.bl (!decide (ns = ms))) H) : rNeD K (.ref a) (.ref b) H Q :=
  ⟨_, _, .tup h1 (dp_ints ns), .tup h2 (dp_ints ms), shaped_tup ns, shaped_tup ms, by rw [eqv_tup]; exact q⟩
/-- a list is not empty, or is -/
theorem eqL0 (h1 : SqL K H a (ns.map V.int)) (h2 : H b = some (.lst [])) (q : Q (.bl (decide (ns = []))) H) : rEqD K (.ref a) (.ref b) H Q := eqL (ms := []) h1 (.inl (.inl h2)) q
end
/-- lines of whole numbers -/
def Flat (d : PyData) : Prop := ∃ ns : List Int, d = .list (ns.map PyData.int) ∨ d = .tuple (ns.map PyData.int)
theorem flat_lay : ∀ ds : List PyData, (∀ d ∈ ds, Flat d) → PyData.canLayAll0 ds = true ∧ PyData.depthAll ds ≤ 1
  | [], _ => by simp [PyData.canLayAll0, PyData.depthAll]
  | d :: r, h => by
    obtain ⟨h1, h2⟩ := flat_lay r fun x hx => h x (List.mem_cons_of_mem _ hx)
    obtain ⟨ns, e | e⟩ := h d List.mem_cons_self
    · rw [e]
      simp [PyData.canLayAll0, PyData.depthAll, PyData.canLay0, PyData.depth, PySem.W.ke_canLayAll0, PySem.W.ke_depthAll, h1]
      omega
    · rw [e]
      simp [PyData.canLayAll0, PyData.depthAll, PyData.canLay0, PyData.depth, PySem.W.ke_canLayAll0, PySem.W.ke_depthAll, h1]
      omega
theorem shaped_flat {ds : List PyData} (h : ∀ d ∈ ds, Flat d) : SeqAt.shaped (.list ds) = true := by
  obtain ⟨h1, h2⟩ := flat_lay ds h
  simp [SeqAt.shaped, PyData.canLay0, PyData.depth, h1]
  omega
theorem eqv_nil (ds : List PyData) : PyData.eqv (.list ds) (.list []) = decide (ds = []) := by
  cases ds <;> simp [PyData.eqv, PyData.eqvAll]
theorem shaped_nil : SeqAt.shaped (.list []) = true := shaped_flat fun _ h => (nomatch h)
section
variable {K : PySem.W.Frag} {H : Hp} {a b : Addr} {xs : List V} {ds : List PyData} {Q : VK}
/-- a list of lines is empty, or is not -/
theorem eqF0 (h1 : SqL K H a xs) (hd : DpAll K H xs ds) (hf : ∀ d ∈ ds, Flat d) (h2 : H b = some (.lst [])) (q : Q (.bl (decide (ds = []))) H) : rEqD K (.ref a) (.ref b) H Q :=
  ⟨_, _, .lst h1 hd, .lst (.inl (.inl h2)) .nil, shaped_flat hf, shaped_nil, by rw [eqv_nil]; exact q⟩
end
theorem at_int {ns : List Int} {j : Nat} {z : Int} (h : ns[j]? = some z) : atI (ns.map V.int) (j : Int) = some (.int z) := atI_nat (by rw [List.getElem?_map, h]; rfl)
theorem at_intE {ns : List Int} {i : Int} {j : Nat} {z : Int} (e : i = (j : Int)) (h : ns[j]? = some z) : atI (ns.map V.int) i = some (.int z) := by
  rw [e]
  exact at_int h
theorem at_intI {ns : List Int} {i : Int} (h0 : 0 ≤ i) (h : i < ns.length) : atI (ns.map V.int) i = some (.int (ns.getD i.toNat 0)) := by
  have e : ((i.toNat : Nat) : Int) = i := Int.toNat_of_nonneg h0
  rw [← e]
  have l : i.toNat < ns.length := by omega
  refine at_int ?_
  rw [Int.toNat_natCast, List.getElem?_eq_getElem l, List.getD_eq_getElem?_getD, List.getElem?_eq_getElem l]
  rfl
theorem map_at {ns : List Int} {i : Nat} {x : V} (h : (ns.map V.int)[i]? = some x) : ∃ z, ns[i]? = some z ∧ x = .int z := by
  rw [List.getElem?_map] at h
  cases e : ns[i]? with
  | none =>
    rw [e] at h
    cases h
  | some z =>
    rw [e] at h
    exact ⟨z, rfl, (Option.some.inj h).symm⟩

/-! ### comprehensions -/
section
variable {J : It} {n : Nat} {G : Hp → Prop} {Y : Nat → Hp → V → Hp → Prop} {g : TG} {tt : TT} {te : TE} {vs : List Nat} {σ : L2.St} {H1 : Hp} {D : Addr} {Qd : Hp → Prop}
/-- nothing that stood changes: what is made so far is told -/
theorem lcp (w : Walk J n G Y) (nD : H1 D = none) (out : Nat → List V) (o0 : out 0 = []) (ol : ∀ i, i ≤ n → (out i).length < 1000000) (hG : ∀ H, Same H1 H → G H)
    (hs : ∀ i x H H' (R : VK) (N : Hp → Prop), i < n → Same H1 H → Y i H x H' → (∀ y H4, Same H H4 → out (i + 1) = out i ++ [y] → R y H4) → (∀ H3, Same H H3 → out (i + 1) = out i → N H3) →
      g x (wipe σ vs) H' fun σ2 H2 => wipe σ2 vs = wipe σ vs ∧ tt σ2 H2 fun b H3 => if b = true then te σ2 H3 R else N H3)
    (hd : ∀ H, Same H1 H → H D = some (.lst (out n)) → Qd H) :
    ∃ W : Nat → Nat → Hp → Prop, (∃ m, W 0 m (upd H1 D (.lst []))) ∧ ∀ i m H, W i m H →
      (J.stop i H ∧ Qd H) ∨ (J.go i H ∧ ∃ Nx : Hp → Prop, (∀ H', Nx H' → ∃ m', m' < m ∧ W (i + 1) m' H') ∧ ∀ x H', J.yld i H x H' → g x (wipe σ vs) H' fun σ2 H2 => wipe σ2 vs = wipe σ vs ∧ tt σ2 H2 fun b H3 =>
        if b = true then te σ2 H3 fun y H4 => ∃ acc, H4 D = some (.lst acc) ∧ acc.length < sizeLine ∧ Nx (upd H4 D (.lst (acc ++ [y]))) else Nx H3) := by
  refine lc_it w (fun i H => Same H1 H ∧ H D = some (.lst (out i))) ⟨same_new nD, by rw [o0]; exact upd_same⟩ (fun _ H _ h => hG H h.1) ?_ fun H h => hd H h.1 h.2
  rintro i x H H' hi ⟨sm, hD⟩ hy
  refine hs i x H H' _ _ hi sm hy (fun y H4 s4 e => ⟨out i, s4 _ _ hD, Nat.lt_of_lt_of_le (ol i (Nat.le_of_lt hi)) (by decide), ?_, ?_⟩) fun H3 s3 e => ⟨sm.trans s3, by rw [e]; exact s3 _ _ hD⟩
  · intro c o hc
    rw [upd_ne (ne_of_none hc nD)]
    exact s4 _ _ (sm _ _ hc)
  · rw [e]
    exact upd_same
/-- whole numbers, what stands at b grows by so many a turn -/
theorem lct (w : Walk J n G Y) (Pz : Int → Prop) {b : Addr} {m0 c : Nat} (t0 : Town b m0 H1) (nD : H1 D = none) (hn : n < 1000000) (hG : ∀ H, But b H1 H → G H)
    (hs : ∀ i x H H' (R : VK), i < n → But b H1 H → Town b (m0 + c * i) H → Y i H x H' → (∀ z H4, Pz z → But b H H4 → Town b (m0 + c * (i + 1)) H4 → R (.int z) H4) →
      g x (wipe σ vs) H' fun σ2 H2 => wipe σ2 vs = wipe σ vs ∧ te σ2 H2 R)
    (hd : ∀ (zs : List Int) (H : Hp), zs.length = n → (∀ z ∈ zs, Pz z) → But b H1 H → Town b (m0 + c * n) H → H D = some (.lst (zs.map V.int)) → Qd H) :
    ∃ W : Nat → Nat → Hp → Prop, (∃ m, W 0 m (upd H1 D (.lst []))) ∧ ∀ i m H, W i m H →
      (J.stop i H ∧ Qd H) ∨ (J.go i H ∧ ∃ Nx : Hp → Prop, (∀ H', Nx H' → ∃ m', m' < m ∧ W (i + 1) m' H') ∧ ∀ x H', J.yld i H x H' → g x (wipe σ vs) H' fun σ2 H2 => wipe σ2 vs = wipe σ vs ∧ tYes σ2 H2 fun b H3 =>
        if b = true then te σ2 H3 fun y H4 => ∃ acc, H4 D = some (.lst acc) ∧ acc.length < sizeLine ∧ Nx (upd H4 D (.lst (acc ++ [y]))) else Nx H3) := by
  have nb : D ≠ b := t0.ne_new nD
  refine lc_it w (fun i H => But b H1 H ∧ Town b (m0 + c * i) H ∧ ∃ zs : List Int, zs.length = i ∧ (∀ z ∈ zs, Pz z) ∧ H D = some (.lst (zs.map V.int))) ⟨.of_same (same_new nD), ?_, [], rfl, fun _ h => (nomatch h), upd_same⟩ (fun _ H _ h => hG H h.1) ?_ ?_
  · rw [Nat.mul_zero]
    exact t0.same (same_new nD)
  · rintro i x H H' hi ⟨bt, tw, zs, lz, pz, hD⟩ hy
    refine hs i x H H' _ hi bt tw hy fun z H4 hz b4 t4 => ?_
    refine ⟨zs.map V.int, b4 _ _ nb hD, ?_, ?_, ?_, zs ++ [z], by rw [List.length_append, lz]; rfl, fun u hu => ?_, ?_⟩
    · rw [List.length_map, lz]
      exact Nat.lt_of_lt_of_le (Nat.lt_trans hi hn) (by decide)
    · intro a o na ha
      rw [upd_ne (ne_of_none ha nD)]
      exact b4 _ _ na (bt _ _ na ha)
    · obtain ⟨xs, e, l⟩ := t4
      exact ⟨xs, by rw [upd_ne (Ne.symm nb)]; exact e, l⟩
    · rcases List.mem_append.mp hu with h | h
      · exact pz u h
      · rw [List.mem_singleton.mp h]
        exact hz
    · rw [List.map_append]
      exact upd_same
  · rintro H ⟨bt, tw, zs, lz, pz, hD⟩
    exact hd zs H lz pz bt tw hD
/-- new things: what stands at each is told -/
theorem lcr (w : Walk J n G Y) (nD : H1 D = none) (hn : n < 1000000) (o : Nat → HO) (hG : ∀ H, Same H1 H → G H)
    (hs : ∀ i x H H' (R : VK), i < n → Same H1 H → Y i H x H' → (∀ u H4, H u = none → Same H H4 → H4 u = some (o i) → R (.ref u) H4) → g x (wipe σ vs) H' fun σ2 H2 => wipe σ2 vs = wipe σ vs ∧ te σ2 H2 R)
    (hd : ∀ (xs : List V) (H : Hp), xs.length = n → Same H1 H → (∀ j, j < n → ∃ u, xs[j]? = some (.ref u) ∧ H u = some (o j)) → H D = some (.lst xs) → Qd H) :
    ∃ W : Nat → Nat → Hp → Prop, (∃ m, W 0 m (upd H1 D (.lst []))) ∧ ∀ i m H, W i m H →
      (J.stop i H ∧ Qd H) ∨ (J.go i H ∧ ∃ Nx : Hp → Prop, (∀ H', Nx H' → ∃ m', m' < m ∧ W (i + 1) m' H') ∧ ∀ x H', J.yld i H x H' → g x (wipe σ vs) H' fun σ2 H2 => wipe σ2 vs = wipe σ vs ∧ tYes σ2 H2 fun b H3 =>
        if b = true then te σ2 H3 fun y H4 => ∃ acc, H4 D = some (.lst acc) ∧ acc.length < sizeLine ∧ Nx (upd H4 D (.lst (acc ++ [y]))) else Nx H3) := by
  refine lc_it w (fun i H => Same H1 H ∧ ∃ xs : List V, xs.length = i ∧ (∀ j, j < i → ∃ u, u ≠ D ∧ xs[j]? = some (.ref u) ∧ H u = some (o j)) ∧ H D = some (.lst xs)) ⟨same_new nD, [], rfl, fun _ h => absurd h (Nat.not_lt_zero _), upd_same⟩ (fun _ H _ h => hG H h.1) ?_ ?_
  · rintro i x H H' hi ⟨sm, xs, lx, hx, hD⟩ hy
    refine hs i x H H' _ hi sm hy fun u H4 nu s4 hu => ?_
    have uD : u ≠ D := fun e => by
      rw [e, hD] at nu
      cases nu
    refine ⟨xs, s4 _ _ hD, by rw [lx]; exact Nat.lt_of_lt_of_le (Nat.lt_trans hi hn) (by decide), ?_, xs ++ [.ref u], by rw [List.length_append, lx]; rfl, fun j hj => ?_, upd_same⟩
    · intro c z hc
      rw [upd_ne (ne_of_none hc nD)]
      exact s4 _ _ (sm _ _ hc)
    · by_cases c : j < i
      · obtain ⟨v, vD, e1, e2⟩ := hx j c
        exact ⟨v, vD, by rw [List.getElem?_append_left (by omega)]; exact e1, by rw [upd_ne vD]; exact s4 _ _ e2⟩
      · have e : j = i := by omega
        rw [e]
        exact ⟨u, uD, by rw [List.getElem?_append_right (by omega), lx, Nat.sub_self]; rfl, by rw [upd_ne uD]; exact hu⟩
  · rintro H ⟨sm, xs, lx, hx, hD⟩
    exact hd xs H lx sm (fun j hj => by
      obtain ⟨u, _, r⟩ := hx j hj
      exact ⟨u, r⟩) hD
end

/-! ### kinds of things -/
theorem ty_tup {K : PySem.W.Frag} {H : Hp} {a : Addr} {xs : List V} (h : SqT K H a xs) : TyX K H (.ref a) (.type "tuple") := by
  rcases h with (h | ⟨o, h⟩) | ⟨o, its, n, h, c, _⟩
  · exact .base (.tup h)
  · exact .fTuple h
  · exact .kTuple h c
theorem ty_lst {K : PySem.W.Frag} {H : Hp} {a : Addr} {xs : List V} (h : SqL K H a xs) : TyX K H (.ref a) (.type "list") := by
  rcases h with (h | ⟨o, h⟩) | ⟨o, its, n, h, c, _⟩
  · exact .base (.lst h)
  · exact .base (.frz h)
  · exact .kList h c
/-- whether a thing is a whole number -/
inductive Wh (K : PySem.W.Frag) (H : Hp) : V → Bool → Prop
  | int (i : Int) : Wh K H (.int i) true
  | bl (b : Bool) : Wh K H (.bl b) false
  | no {v : V} {n : String} (h : TyX K H v (.type n)) (k : kitB n "int" = some false) (nb : ∀ i, v ≠ .int i) : Wh K H v false
/-- from lo to hi -/
def whB (v : V) (lo hi : Int) : Bool := match v with
  | .int i => decide (lo ≤ i ∧ i ≤ hi)
  | _ => false
theorem Wh.cases_ {K : PySem.W.Frag} {H : Hp} {v : V} {b : Bool} (h : Wh K H v b) : (∃ i, v = .int i ∧ b = true) ∨ ((∀ i, v ≠ .int i) ∧ b = false) := by
  cases h with
  | int i => exact .inl ⟨i, rfl, rfl⟩
  | bl b => exact .inr ⟨fun i z => V.noConfusion z, rfl⟩
  | no h k nb => exact .inr ⟨nb, rfl⟩
theorem whB_no {v : V} {lo hi : Int} (h : ∀ i, v ≠ .int i) : whB v lo hi = false := by
  cases v with
  | int i => exact absurd rfl (h i)
  | _ => rfl
theorem kit_int_int : kitB "int" "int" = some true := by decide +kernel
theorem kit_int_bool : kitB "int" "bool" = some false := by decide +kernel
theorem kit_bool_int : kitB "bool" "int" = some true := by decide +kernel
theorem kit_bool_bool : kitB "bool" "bool" = some true := by decide +kernel
theorem kit_tup_tup : kitB "tuple" "tuple" = some true := by decide +kernel
theorem isi {K : PySem.W.Frag} {H : Hp} {x : V} {a n : String} {b : Bool} {Q : VK} (t : TyX K H x (.type a)) (k : kitB a n = some b) (q : Q (.bl b) H) : rIsi K [x, .ty n] H Q := ⟨x, .ty n, .type a, .type n, b, rfl, .ty n, t, kit_ty k, q⟩
theorem row_ok {K : PySem.W.Frag} {H : Hp} {row : List Int} {i : Nat} {x : V} (h : (row.map V.int)[i]? = some x) : ∃ z, row[i]? = some z ∧ x = .int z ∧ z ∈ row := by
  obtain ⟨z, e, r⟩ := map_at h
  exact ⟨z, e, r, List.mem_of_getElem? e⟩

/-! ### zip of tuples -/
theorem walk_zipT {K : PySem.W.Frag} {a b : Addr} {xs ys : List V} {n : Nat} (hn : n = min xs.length ys.length) : Walk (RZ.ItzT K a b) n (fun H => SqT K H a xs ∧ SqT K H b ys) (YPair (fun i => xs[i]?) (fun i => ys[i]?)) := by
  refine ⟨fun i H hi q => ⟨xs, ys, xs[i]'(by omega), ys[i]'(by omega), q.1, q.2, List.getElem?_eq_getElem _, List.getElem?_eq_getElem _⟩, fun H q => ⟨xs, ys, q.1, q.2, by omega⟩, fun i H v H' hi q y => ?_⟩
  obtain ⟨T, x, z, h1, h2, h3, h4, h5⟩ := y
  exact ⟨T, x, z, h1, h2, h3, h4 xs q.1, h5 ys q.2⟩
/-- sum of a tuple of whole numbers -/
def rSumT (K : PySem.W.Frag) : List V → Hp → VK → Prop := fun vs H Q => ∃ (a : Addr) (ns : List Int), vs = [V.ref a] ∧ SqT K H a (ns.map V.int) ∧ Q (.int ns.sum) H
theorem cr_sumA {X : Cx} (hc : X.calm = true) : CallR X (.builtin "sum") (rSumT X.K) := by
  intro pins s σ H vs us Q I r h
  obtain ⟨a, ns, rfl, hs, q⟩ := h
  obtain ⟨its, rv, hl, _⟩ := I.tuple hs
  rw [Vals.ref1 r]
  obtain ⟨xs, e⟩ := rv.ints.allInts.items
  have hn : PySem.numsOf (intItems xs).toList = ns := by
    rw [← e]
    exact rv.ints.numsOf
  rw [PySem.nums_intItems] at hn
  have hl2 : s.heap.IsTuple a (intItems xs) := by
    rw [← e]
    exact hl
  refine PySem.W.ktm_sumG (I.ok.hd hc) hl2 fun h' tk t' hk => ?_
  rw [PySem.preSum_eq, List.take_of_length_le (by simp), hn]
  exact ⟨.int _, H, I.kept hk, ⟨_, rfl⟩, q⟩
/-- a comprehension in a comprehension: the block's names -/
theorem blkOk_in {N : List Str} {sc scope : Scope} {own : List (Str × Nat)} (h : blkC N sc scope own = true) : BlkOk N sc scope own := blkOk_by h

/-! ### the same rules, the written part said -/
def rLenQ (K : PySem.W.Frag) : List V → Hp → VK → Prop := fun xs H Q => ∃ p ys, xs = [.ref p] ∧ (SqL K H p ys ∨ SqT K H p ys) ∧ Q (.int ys.length) H
def rTupQ (K : PySem.W.Frag) : List V → Hp → VK → Prop := fun xs H Q => ∃ p ys, xs = [.ref p] ∧ ((SqL K H p ys ∧ ∀ l, H l = none → Q (.ref l) (upd H l (.tup ys))) ∨ (SqT K H p ys ∧ Q (.ref p) H))
def rLstQ (K : PySem.W.Frag) : List V → Hp → VK → Prop := fun xs H Q => ∃ p ys, xs = [.ref p] ∧ (SqL K H p ys ∨ SqT K H p ys) ∧ ∀ l, H l = none → Q (.ref l) (upd H l (.lst ys))
section
variable {X : Cx} {K : PySem.W.Frag}
theorem kz_len (hK : X.K = K := by rfl) : CallR X (.builtin "len") (rLenQ K) := hK ▸ call_len_seq
theorem kz_sum (hc : X.calm = true) (hK : X.K = K := by rfl) : CallR X (.builtin "sum") (rSum K) := hK ▸ cr_sum hc
theorem kz_sumT (hc : X.calm = true) (hK : X.K = K := by rfl) : CallR X (.builtin "sum") (rSumT K) := hK ▸ cr_sumA hc
theorem kz_all (hc : X.calm = true) (hK : X.K = K := by rfl) : CallR X (.builtin "all") (rAll K) := hK ▸ cr_all hc
theorem kz_any (hc : X.calm = true) (hK : X.K = K := by rfl) : CallR X (.builtin "any") (rAny K) := hK ▸ cr_any hc
theorem kz_max (hc : X.calm = true) (hK : X.K = K := by rfl) : CallR X (.builtin "max") (rMax K) := hK ▸ cr_max hc
theorem kz_min (hc : X.calm = true) (hK : X.K = K := by rfl) : CallR X (.builtin "min") (rMin K) := hK ▸ cr_min hc
theorem kz_isi (hK : X.K = K := by rfl) : CallR X (.builtin "isinstance") (rIsi K) := hK ▸ call_isi
theorem kz_tuple (hK : X.K = K := by rfl) : CallR X (.type "tuple") (rTupQ K) := hK ▸ call_tuple_of
theorem kz_list (hK : X.K = K := by rfl) : CallR X (.type "list") (rLstQ K) := hK ▸ call_list_of
theorem kz_ixL (hK : X.K = K := by rfl) : IxR X (rIxL K) := hK ▸ ix_list
theorem kz_ixT (hK : X.K = K := by rfl) : IxR X (rIxT K) := hK ▸ ix_tup
theorem kz_eqD (hu : X.A.units + 64 < cLine) (hK : X.K = K := by rfl) : OpR X (compareOp .Eq) (rEqD K) := hK ▸ op_eqD hu
theorem kz_neD (hu : X.A.units + 64 < cLine) (hK : X.K = K := by rfl) : OpR X (compareOp .NotEq) (rNeD K) := hK ▸ op_neD hu
theorem kz_in (hK : X.K = K := by rfl) : OpR X (compareOp .In) (rIn K false) := hK ▸ op_in_seq
theorem kz_notIn (hK : X.K = K := by rfl) : OpR X (compareOp .NotIn) (rIn K true) := hK ▸ op_notIn_seq
theorem kz_catT (hK : X.K = K := by rfl) : OpR X (binaryOp .Add) (rCatA K) := hK ▸ op_catA
theorem kz_slL (hK : X.K = K := by rfl) : SlR X (rSlL K) := hK ▸ sl_list
theorem kz_slT (hK : X.K = K := by rfl) : SlR X (rSlA K) := hK ▸ sl_tupA
theorem kz_getL (hK : X.K = K := by rfl) : PGet X (rGetL K) := hK ▸ get_list
variable {tg l e e2 : Expr} {tl : TE} {ta : TA} {p pos tpos : Pos} {elts : List Expr} {kk : Nat}
theorem kz_piL (hl : PE X l tl) (hK : X.K = K := by rfl) : PI X tg l (iList K tl) := hK ▸ pi_list hl
theorem kz_piT (hl : PE X l tl) (hK : X.K = K := by rfl) : PI X tg l (iTup K tl) := hK ▸ pi_tup hl
theorem kz_zip (hg : Gl X "zip") (hm : X.mg "zip" = none) (ha : PA X [e, e2] ta) (hK : X.K = K := by rfl)
    (hs : starEach [e, e2] X.env = (false, eval e X.env) :: starEach [e2] X.env := by rfl) (hpl : (backTo pos (starEach [e2] X.env)).any (·.1) = false := by rfl) :
    PI X (.Tuple elts kk tpos) (.Call (.Name "zip" p) [e, e2] [] pos) (RZ.iZipA K ta) := hK ▸ RZ.pi_zipA hg hm ha hs hpl
theorem kz_enum (hg : Gl X "enumerate") (hm : X.mg "enumerate" = none) (ha : PA X [e] ta) (hK : X.K = K := by rfl) (hs : starEach [e] X.env = [(false, eval e X.env)] := by rfl) :
    PI X (.Tuple elts kk tpos) (.Call (.Name "enumerate" p) [e] [] pos) (iEnum K ta) := hK ▸ pi_enum hg hm ha hs
theorem kz_gtup {es : List Expr} {k : Nat} {t : TGs} (n : Nat) (hc : X.calm = true) (h : PGs X es t) (hK : X.K = K := by rfl)
    (hn : (assignEach es X.env).length = n := by rfl) (hst : (assignEach es X.env).findIdx? (·.1) = none := by rfl) : PG X (.Tuple es k pos) (gTup K n t) := hK ▸ pg_tup hc h hn hst
theorem kz_glst {es : List Expr} {k : Nat} {t : TGs} (n : Nat) (hc : X.calm = true) (h : PGs X es t) (hK : X.K = K := by rfl)
    (hn : (assignEach es X.env).length = n := by rfl) (hst : (assignEach es X.env).findIdx? (·.1) = none := by rfl) : PG X (.Tuple es k pos) (gLst K n t) := hK ▸ pg_lst hc h hn hst
end
end Ly

/-! ### zip of a list and a tuple -/
namespace Ly
open PySem PySem.Spec PyProof.Rows L2
/-- the list at a, the tuple at b as they stand at each turn, the items in new pairs -/
def ItzLT (K : PySem.W.Frag) (a b : Addr) : It :=
  ⟨fun i H => ∃ (xs ys : List V) (x y : V), SqL K H a xs ∧ SqT K H b ys ∧ xs[i]? = some x ∧ ys[i]? = some y,
   fun i H v H' => ∃ T x y, v = .ref T ∧ H T = none ∧ H' = upd H T (.tup [x, y]) ∧ (∀ xs, SqL K H a xs → xs[i]? = some x) ∧ (∀ ys, SqT K H b ys → ys[i]? = some y),
   fun i H => ∃ (xs ys : List V), SqL K H a xs ∧ SqT K H b ys ∧ i ≤ xs.length ∧ i ≤ ys.length ∧ (i = xs.length ∨ i = ys.length)⟩
/-- the five cells of such a zip, made when so many stood -/
structure ZCells (n : Nat) (a b : Addr) (i : Nat) (h : Heap) : Prop where
  hz : IsZip h (n + 4) (n + 2) (n + 3) .none
  ti : IsTupOf2 h (n + 2) (.ref n) (.ref (n + 1))
  out : ∃ u v, IsTupOf2 h (n + 3) u v
  fst : h.IsListIter n a i
  snd : h.IsTupleIter (n + 1) b i
def zfp (n : Nat) : List Addr := [n + 4, n + 2, n + 3, n, n + 1]
theorem zfp_mem {n c : Nat} (h : c ∈ zfp n) : n ≤ c ∧ c < n + 5 ∧ (c = n + 4 ∨ c = n + 2 ∨ c = n + 3 ∨ c = n ∨ c = n + 1) := by
  have e : c = n + 4 ∨ c = n + 2 ∨ c = n + 3 ∨ c = n ∨ c = n + 1 := by simpa [zfp] using h
  refine ⟨?_, ?_, e⟩ <;> omega
theorem not_zfp {n c : Nat} (h : c ∉ zfp n) : c ≠ n + 4 ∧ c ≠ n + 3 ∧ c ≠ n ∧ c ≠ n + 1 := by
  simp only [zfp, List.mem_cons, List.not_mem_nil, or_false, not_or] at h
  obtain ⟨h1, h2, h3, h4, h5⟩ := h
  exact ⟨h1, h3, h4, h5⟩
theorem ZCells.keep {n : Nat} {a b : Addr} {i : Nat} {h h' : Heap} (z : ZCells n a b i h) (k : ∀ c ∈ zfp n, ∀ o, h.get? c = some o → h'.get? c = some o) : ZCells n a b i h' := by
  obtain ⟨u, v, e⟩ := z.out
  exact ⟨k _ (by simp [zfp]) _ z.hz, k _ (by simp [zfp]) _ z.ti, ⟨u, v, k _ (by simp [zfp]) _ e⟩, z.fst.at fun o q => k _ (by simp [zfp]) o q, z.snd.at fun o q => k _ (by simp [zfp]) o q⟩
theorem lt_ne {x y z : Nat} (h : x < y) (k : y ≤ z) : x ≠ z := by omega
theorem turn_zipLT {P : Program} {w : World} {K : PySem.W.Frag} {elts : List Expr} {kk : Nat} {tpos : Pos} {a b : Addr} {n : Nat} (ha : a < n) (hb : b < n) :
    Turn P w K (.Tuple elts kk tpos) (ItzLT K a b) (zfp n) (n + 4) (fun i h => ZCells n a b i h) where
  mem := by simp [zfp]
  obj := fun i h z c hc => by
    obtain ⟨u, v, e⟩ := z.out
    obtain ⟨o1, e1, _, d1⟩ := z.fst
    obtain ⟨o2, e2, _, d2⟩ := z.snd
    rcases (zfp_mem hc).2.2 with q | q | q | q | q
    · rw [q]; exact ⟨_, z.hz, fun v q => nomatch q⟩
    · rw [q]; exact ⟨_, z.ti, fun v q => nomatch q⟩
    · rw [q]; exact ⟨_, e, fun v q => nomatch q⟩
    · rw [q]; exact ⟨o1, e1, fun v q => by rw [d1] at q; cases q⟩
    · rw [q]; exact ⟨o2, e2, fun v q => by rw [d2] at q; cases q⟩
  keep := fun i h h' z k => z.keep k
  item := by
    intro X hP hw hK hc i pins s σ H E I hf z hg
    subst hP hw hK
    obtain ⟨xs, ys, x, y, qx, qy, hx, hy⟩ := hg
    obtain ⟨l1, r1, p1, _⟩ := I.list qx
    obtain ⟨l2, r2, p2, _⟩ := I.tuple qy
    obtain ⟨u1, hu1, ru1⟩ := r1.get hx
    obtain ⟨u2, hu2, ru2⟩ := r2.get hy
    obtain ⟨o1, o2, hout⟩ := z.out
    have hA : X.A.in1.handled = none := I.ok.hd hc
    have big : n + 4 < s.heap.objs.size := Heap.lt_size z.hz
    have sep : ZipSep2 (n + 4) (n + 2) (n + 3) n (n + 1) [n, a] [n + 1, b] := zip_sep2 (N := n) (fp1 := [a]) (fp2 := [b]) (fun c hc => by rw [List.mem_singleton.mp hc]; exact ha) (fun c hc => by rw [List.mem_singleton.mp hc]; exact hb)
    refine wpAny_pyNext_zipD2_item (i := i) sep (Draws.list hA n a (Nat.ne_of_lt ha) l1.toArray) (Draws.tuple hA (n + 1) b (Nat.ne_of_lt (Nat.lt_succ_of_lt hb)) l2.toArray) z.hz z.ti hout ⟨z.fst, p1.isList⟩ ⟨z.snd, show s.heap.IsTuple b l2.toArray from p2⟩
      (by rw [List.size_toArray]; exact (List.getElem?_eq_some_iff.mp hu1).1) (by rw [List.size_toArray]; exact (List.getElem?_eq_some_iff.mp hu2).1) ?_
    intro v1 v2 h' tk e1 e2 hz' hto' st1 st2 hT hsz hk
    have e1' : u1 = v1 := by
      have q : l1[i]? = some v1 := by simpa using e1
      rw [hu1] at q
      exact Option.some.inj q
    have e2' : u2 = v2 := by
      have q : l2[i]? = some v2 := by simpa using e2
      rw [hu2] at q
      exact Option.some.inj q
    subst e1' e2'
    refine ⟨_, rfl, wpAny_letOwnedTupleGo_zip (s := { s with heap := h', toks := tk }) hz' fun h2 hz2 sb => ?_⟩
    have nz : s.heap.objs.size ≠ n + 4 := Nat.ne_of_gt big
    have hT2 : h2.get? s.heap.objs.size = some { cls := .type "tuple", data := .seq #[u1, u2] } := (sb.2 _ nz).trans hT
    have nw : ObjOk X.prog X.w (upd H s.heap.objs.size (.tup [x, y])) h2 s.heap.objs.size (.tup [x, y]) := ⟨by show 2 ≤ sizeLine; decide, [u1, u2], .cons ru1 (.cons ru2 .nil), ⟨_, hT2, rfl, _, rfl⟩⟩
    have old : ∀ c o, c ∉ zfp n → s.heap.get? c = some o → h2.get? c = some o := fun c o hc q => by
      obtain ⟨c1, c2, c3, c4⟩ := not_zfp hc
      exact (sb.2 c c1).trans (hk c o c1 c2 c3 c4 q)
    refine ⟨.ref s.heap.objs.size, _, I.turnedNew (t' := tk) (ch := zfp n) old hf (Nat.le_refl _) nw, rfl, ⟨_, x, y, rfl, I.hok.fresh (Nat.le_refl _), rfl, fun l hl => ?_, fun l hl => by rw [I.tuple_inj hl qy]; exact hy⟩, ⟨hz2, ?_, ⟨u1, u2, ?_⟩, ?_, ?_⟩, fun c hcm => ?_⟩
    · rw [I.list_inj hl qx]
      exact hx
    · have m1 : (n + 2 : Nat) ≠ n + 4 := by omega
      exact (sb.2 _ m1).trans (hk _ _ m1 (show (n + 2 : Nat) ≠ n + 3 by omega) (show (n + 2 : Nat) ≠ n by omega) (show (n + 2 : Nat) ≠ n + 1 by omega) z.ti)
    · exact (sb.2 _ (show (n + 3 : Nat) ≠ n + 4 by omega)).trans hto'
    · exact st1.1.at fun o q => (sb.2 _ (show (n : Nat) ≠ n + 4 by omega)).trans q
    · exact st2.1.at fun o q => (sb.2 _ (show (n + 1 : Nat) ≠ n + 4 by omega)).trans q
    · have hlt : c < s.heap.objs.size := Nat.lt_of_le_of_lt (Nat.le_of_lt_succ (zfp_mem hcm).2.1) big
      rw [upd_ne (Nat.ne_of_lt hlt)]
      exact (hf c hcm).1
  done := by
    intro X hP hw hK hc i pins s σ H E I hf z hg
    subst hP hw hK
    obtain ⟨xs, ys, qx, qy, b1, b2, be⟩ := hg
    obtain ⟨l1, r1, p1, _⟩ := I.list qx
    obtain ⟨l2, r2, p2, _⟩ := I.tuple qy
    obtain ⟨o1, o2, hout⟩ := z.out
    have hA : X.A.in1.handled = none := I.ok.hd hc
    have g1 := r1.length
    have g2 := r2.length
    have sep : ZipSep2 (n + 4) (n + 2) (n + 3) n (n + 1) [n, a] [n + 1, b] := zip_sep2 (N := n) (fp1 := [a]) (fp2 := [b]) (fun c hc => by rw [List.mem_singleton.mp hc]; exact ha) (fun c hc => by rw [List.mem_singleton.mp hc]; exact hb)
    refine wpAny_pyNext_zipD2_end (i := i) sep (Draws.list hA n a (Nat.ne_of_lt ha) l1.toArray) (Draws.tuple hA (n + 1) b (Nat.ne_of_lt (Nat.lt_succ_of_lt hb)) l2.toArray) z.hz z.ti hout ⟨z.fst, p1.isList⟩ ⟨z.snd, show s.heap.IsTuple b l2.toArray from p2⟩
      (by rw [List.size_toArray]; omega) (by rw [List.size_toArray]; omega) (by rw [List.size_toArray, List.size_toArray]; omega) ?_
    intro h' tk hk
    exact ⟨rfl, I.turnedL (t' := tk) (ch := zfp n) (fun c o hc q => by
      obtain ⟨c1, c2, c3, c4⟩ := not_zfp hc
      exact hk c o c1 c2 c3 c4 q) hf⟩
  self := fun A i s Q E z h => wpAny_pyIter_zip z.hz h
def iZipLT (K : PySem.W.Frag) (ta : TA) : TI := fun σ H R => ta σ H fun vs H1 => ∃ a b xs ys, vs = [.ref a, .ref b] ∧ SqL K H1 a xs ∧ SqT K H1 b ys ∧ R (ItzLT K a b) H1
theorem pi_zipLT {X : Cx} {e e2 : Expr} {ta : TA} {p pos tpos : Pos} {elts : List Expr} {kk : Nat} (hg : Gl X "zip") (hm : X.mg "zip" = none) (ha : PA X [e, e2] ta)
    (hs : starEach [e, e2] X.env = (false, eval e X.env) :: starEach [e2] X.env := by rfl) (hpl : (backTo pos (starEach [e2] X.env)).any (·.1) = false := by rfl) :
    PI X (.Tuple elts kk tpos) (.Call (.Name "zip" p) [e, e2] [] pos) (iZipLT X.K ta) := by
  refine ⟨fun pins s σ H R I h => Call_ (ld_blt I hg hm PyProof.Rows.boot_zip (PyProof.Rows.callWith_type1 (thn (ha.run pos pins s σ H _ I h) ?_) hs hpl))⟩
  rintro us s1 ⟨vs, H1, I1, r1, a, b, xs, ys, rfl, qx, qy, q⟩
  cases r1 with
  | cons e1 r2 =>
    cases r2 with
    | cons e3 r3 =>
      cases r3
      cases e1
      cases e3
      obtain ⟨l1, v1, p1, _⟩ := I1.list qx
      obtain ⟨l2, v2, p2, _⟩ := I1.tuple qy
      obtain ⟨o1, g1, _⟩ := id p1.isList
      obtain ⟨o2, g2, _⟩ := id (show s1.heap.IsTuple b l2.toArray from p2)
      refine zip_begins2 (begins_list a l1.toArray) (begins_tuple b l2.toArray) p1.isList (show s1.heap.IsTuple b l2.toArray from p2) fun h' hz hti hto n1 n2 hsz hk => wpAny_pyIter_zip hz ?_
      have I2 : Inv X pins σ H1 { s1 with heap := h' } := I1.kept (t' := s1.toks) hk
      refine ⟨_, zfp s1.heap.objs.size, _, _, H1, rfl, I2, turn_zipLT (Heap.lt_size g1) (Heap.lt_size g2), ⟨hz, hti, ⟨_, _, hto⟩, ⟨_, n1, rfl, rfl⟩, ⟨_, n2, rfl, rfl⟩⟩, fun c hc => ?_, q⟩
      exact I1.fpOk (zfp_mem hc).1 (I1.hok.fresh (zfp_mem hc).1)
theorem walk_zipLT {K : PySem.W.Frag} {a b : Addr} {xs ys : List V} {n : Nat} (hn : n = min xs.length ys.length) : Walk (ItzLT K a b) n (fun H => SqL K H a xs ∧ SqT K H b ys) (YPair (fun i => xs[i]?) (fun i => ys[i]?)) := by
  refine ⟨fun i H hi q => ⟨xs, ys, xs[i]'(by omega), ys[i]'(by omega), q.1, q.2, List.getElem?_eq_getElem _, List.getElem?_eq_getElem _⟩, fun H q => ⟨xs, ys, q.1, q.2, by omega, by omega, by omega⟩, fun i H v H' hi q y => ?_⟩
  obtain ⟨T, x, z, h1, h2, h3, h4, h5⟩ := y
  exact ⟨T, x, z, h1, h2, h3, h4 xs q.1, h5 ys q.2⟩
theorem kz_zipLT {X : Cx} {K : PySem.W.Frag} {e e2 : Expr} {ta : TA} {p pos tpos : Pos} {elts : List Expr} {kk : Nat} (hg : Gl X "zip") (hm : X.mg "zip" = none) (ha : PA X [e, e2] ta) (hK : X.K = K := by rfl)
    (hs : starEach [e, e2] X.env = (false, eval e X.env) :: starEach [e2] X.env := by rfl) (hpl : (backTo pos (starEach [e2] X.env)).any (·.1) = false := by rfl) :
    PI X (.Tuple elts kk tpos) (.Call (.Name "zip" p) [e, e2] [] pos) (iZipLT K ta) := hK ▸ pi_zipLT hg hm ha hs hpl
end Ly

/-! ### zip of a tuple and a list, of any two -/
namespace Ly
open PySem PySem.Spec PyProof.Rows L2 RZ
/-- the list at a, the tuple at b as they stand at each turn, the items in new pairs -/
def ItzTL (K : PySem.W.Frag) (a b : Addr) : It :=
  ⟨fun i H => ∃ (xs ys : List V) (x y : V), SqT K H a xs ∧ SqL K H b ys ∧ xs[i]? = some x ∧ ys[i]? = some y,
   fun i H v H' => ∃ T x y, v = .ref T ∧ H T = none ∧ H' = upd H T (.tup [x, y]) ∧ (∀ xs, SqT K H a xs → xs[i]? = some x) ∧ (∀ ys, SqL K H b ys → ys[i]? = some y),
   fun i H => ∃ (xs ys : List V), SqT K H a xs ∧ SqL K H b ys ∧ i ≤ xs.length ∧ i ≤ ys.length ∧ (i = xs.length ∨ i = ys.length)⟩
/-- the five cells of such a zip, made when so many stood -/
structure ZCellsT (n : Nat) (a b : Addr) (i : Nat) (h : Heap) : Prop where
  hz : IsZip h (n + 4) (n + 2) (n + 3) .none
  ti : IsTupOf2 h (n + 2) (.ref n) (.ref (n + 1))
  out : ∃ u v, IsTupOf2 h (n + 3) u v
  fst : h.IsTupleIter n a i
  snd : h.IsListIter (n + 1) b i
theorem ZCellsT.keep {n : Nat} {a b : Addr} {i : Nat} {h h' : Heap} (z : ZCellsT n a b i h) (k : ∀ c ∈ zfp n, ∀ o, h.get? c = some o → h'.get? c = some o) : ZCellsT n a b i h' := by
  obtain ⟨u, v, e⟩ := z.out
  exact ⟨k _ (by simp [zfp]) _ z.hz, k _ (by simp [zfp]) _ z.ti, ⟨u, v, k _ (by simp [zfp]) _ e⟩, z.fst.at fun o q => k _ (by simp [zfp]) o q, z.snd.at fun o q => k _ (by simp [zfp]) o q⟩
theorem turn_zipTL {P : Program} {w : World} {K : PySem.W.Frag} {elts : List Expr} {kk : Nat} {tpos : Pos} {a b : Addr} {n : Nat} (ha : a < n) (hb : b < n) :
    Turn P w K (.Tuple elts kk tpos) (ItzTL K a b) (zfp n) (n + 4) (fun i h => ZCellsT n a b i h) where
  mem := by simp [zfp]
  obj := fun i h z c hc => by
    obtain ⟨u, v, e⟩ := z.out
    obtain ⟨o1, e1, _, d1⟩ := z.fst
    obtain ⟨o2, e2, _, d2⟩ := z.snd
    rcases (zfp_mem hc).2.2 with q | q | q | q | q
    · rw [q]; exact ⟨_, z.hz, fun v q => nomatch q⟩
    · rw [q]; exact ⟨_, z.ti, fun v q => nomatch q⟩
    · rw [q]; exact ⟨_, e, fun v q => nomatch q⟩
    · rw [q]; exact ⟨o1, e1, fun v q => by rw [d1] at q; cases q⟩
    · rw [q]; exact ⟨o2, e2, fun v q => by rw [d2] at q; cases q⟩
  keep := fun i h h' z k => z.keep k
  item := by
    intro X hP hw hK hc i pins s σ H E I hf z hg
    subst hP hw hK
    obtain ⟨xs, ys, x, y, qx, qy, hx, hy⟩ := hg
    obtain ⟨l1, r1, p1, _⟩ := I.tuple qx
    obtain ⟨l2, r2, p2, _⟩ := I.list qy
    obtain ⟨u1, hu1, ru1⟩ := r1.get hx
    obtain ⟨u2, hu2, ru2⟩ := r2.get hy
    obtain ⟨o1, o2, hout⟩ := z.out
    have hA : X.A.in1.handled = none := I.ok.hd hc
    have big : n + 4 < s.heap.objs.size := Heap.lt_size z.hz
    have sep : ZipSep2 (n + 4) (n + 2) (n + 3) n (n + 1) [n, a] [n + 1, b] := zip_sep2 (N := n) (fp1 := [a]) (fp2 := [b]) (fun c hc => by rw [List.mem_singleton.mp hc]; exact ha) (fun c hc => by rw [List.mem_singleton.mp hc]; exact hb)
    refine wpAny_pyNext_zipD2_item (i := i) sep (Draws.tuple hA n a (Nat.ne_of_lt ha) l1.toArray) (Draws.list hA (n + 1) b (Nat.ne_of_lt (Nat.lt_succ_of_lt hb)) l2.toArray) z.hz z.ti hout ⟨z.fst, show s.heap.IsTuple a l1.toArray from p1⟩ ⟨z.snd, p2.isList⟩
      (by rw [List.size_toArray]; exact (List.getElem?_eq_some_iff.mp hu1).1) (by rw [List.size_toArray]; exact (List.getElem?_eq_some_iff.mp hu2).1) ?_
    intro v1 v2 h' tk e1 e2 hz' hto' st1 st2 hT hsz hk
    have e1' : u1 = v1 := by
      have q : l1[i]? = some v1 := by simpa using e1
      rw [hu1] at q
      exact Option.some.inj q
    have e2' : u2 = v2 := by
      have q : l2[i]? = some v2 := by simpa using e2
      rw [hu2] at q
      exact Option.some.inj q
    subst e1' e2'
    refine ⟨_, rfl, wpAny_letOwnedTupleGo_zip (s := { s with heap := h', toks := tk }) hz' fun h2 hz2 sb => ?_⟩
    have nz : s.heap.objs.size ≠ n + 4 := Nat.ne_of_gt big
    have hT2 : h2.get? s.heap.objs.size = some { cls := .type "tuple", data := .seq #[u1, u2] } := (sb.2 _ nz).trans hT
    have nw : ObjOk X.prog X.w (upd H s.heap.objs.size (.tup [x, y])) h2 s.heap.objs.size (.tup [x, y]) := ⟨by show 2 ≤ sizeLine; decide, [u1, u2], .cons ru1 (.cons ru2 .nil), ⟨_, hT2, rfl, _, rfl⟩⟩
    have old : ∀ c o, c ∉ zfp n → s.heap.get? c = some o → h2.get? c = some o := fun c o hc q => by
      obtain ⟨c1, c2, c3, c4⟩ := not_zfp hc
      exact (sb.2 c c1).trans (hk c o c1 c2 c3 c4 q)
    refine ⟨.ref s.heap.objs.size, _, I.turnedNew (t' := tk) (ch := zfp n) old hf (Nat.le_refl _) nw, rfl, ⟨_, x, y, rfl, I.hok.fresh (Nat.le_refl _), rfl, fun l hl => ?_, fun l hl => by rw [I.list_inj hl qy]; exact hy⟩, ⟨hz2, ?_, ⟨u1, u2, ?_⟩, ?_, ?_⟩, fun c hcm => ?_⟩
    · rw [I.tuple_inj hl qx]
      exact hx
    · have m1 : (n + 2 : Nat) ≠ n + 4 := by omega
      exact (sb.2 _ m1).trans (hk _ _ m1 (show (n + 2 : Nat) ≠ n + 3 by omega) (show (n + 2 : Nat) ≠ n by omega) (show (n + 2 : Nat) ≠ n + 1 by omega) z.ti)
    · exact (sb.2 _ (show (n + 3 : Nat) ≠ n + 4 by omega)).trans hto'
    · exact st1.1.at fun o q => (sb.2 _ (show (n : Nat) ≠ n + 4 by omega)).trans q
    · exact st2.1.at fun o q => (sb.2 _ (show (n + 1 : Nat) ≠ n + 4 by omega)).trans q
    · have hlt : c < s.heap.objs.size := Nat.lt_of_le_of_lt (Nat.le_of_lt_succ (zfp_mem hcm).2.1) big
      rw [upd_ne (Nat.ne_of_lt hlt)]
      exact (hf c hcm).1
  done := by
    intro X hP hw hK hc i pins s σ H E I hf z hg
    subst hP hw hK
    obtain ⟨xs, ys, qx, qy, b1, b2, be⟩ := hg
    obtain ⟨l1, r1, p1, _⟩ := I.tuple qx
    obtain ⟨l2, r2, p2, _⟩ := I.list qy
    obtain ⟨o1, o2, hout⟩ := z.out
    have hA : X.A.in1.handled = none := I.ok.hd hc
    have g1 := r1.length
    have g2 := r2.length
    have sep : ZipSep2 (n + 4) (n + 2) (n + 3) n (n + 1) [n, a] [n + 1, b] := zip_sep2 (N := n) (fp1 := [a]) (fp2 := [b]) (fun c hc => by rw [List.mem_singleton.mp hc]; exact ha) (fun c hc => by rw [List.mem_singleton.mp hc]; exact hb)
    refine wpAny_pyNext_zipD2_end (i := i) sep (Draws.tuple hA n a (Nat.ne_of_lt ha) l1.toArray) (Draws.list hA (n + 1) b (Nat.ne_of_lt (Nat.lt_succ_of_lt hb)) l2.toArray) z.hz z.ti hout ⟨z.fst, show s.heap.IsTuple a l1.toArray from p1⟩ ⟨z.snd, p2.isList⟩
      (by rw [List.size_toArray]; omega) (by rw [List.size_toArray]; omega) (by rw [List.size_toArray, List.size_toArray]; omega) ?_
    intro h' tk hk
    exact ⟨rfl, I.turnedL (t' := tk) (ch := zfp n) (fun c o hc q => by
      obtain ⟨c1, c2, c3, c4⟩ := not_zfp hc
      exact hk c o c1 c2 c3 c4 q) hf⟩
  self := fun A i s Q E z h => wpAny_pyIter_zip z.hz h
theorem walk_zipTL {K : PySem.W.Frag} {a b : Addr} {xs ys : List V} {n : Nat} (hn : n = min xs.length ys.length) : Walk (ItzTL K a b) n (fun H => SqT K H a xs ∧ SqL K H b ys) (YPair (fun i => xs[i]?) (fun i => ys[i]?)) := by
  refine ⟨fun i H hi q => ⟨xs, ys, xs[i]'(by omega), ys[i]'(by omega), q.1, q.2, List.getElem?_eq_getElem _, List.getElem?_eq_getElem _⟩, fun H q => ⟨xs, ys, q.1, q.2, by omega, by omega, by omega⟩, fun i H v H' hi q y => ?_⟩
  obtain ⟨T, x, z, h1, h2, h3, h4, h5⟩ := y
  exact ⟨T, x, z, h1, h2, h3, h4 xs q.1, h5 ys q.2⟩

/-- zip of two lists, of two tuples, of a tuple and a list -/
def iZipB (K : PySem.W.Frag) (ta : TA) : TI := fun σ H R => ta σ H fun vs H1 => ∃ a b xs ys, vs = [.ref a, .ref b] ∧ (SqL K H1 a xs ∧ SqL K H1 b ys ∧ R (Itz K a b) H1 ∨ SqT K H1 a xs ∧ SqT K H1 b ys ∧ R (ItzT K a b) H1 ∨ SqT K H1 a xs ∧ SqL K H1 b ys ∧ R (ItzTL K a b) H1)
theorem pi_zipB {X : Cx} {e e2 : Expr} {ta : TA} {p pos tpos : Pos} {elts : List Expr} {kk : Nat} (hg : Gl X "zip") (hm : X.mg "zip" = none) (ha : PA X [e, e2] ta)
    (hs : starEach [e, e2] X.env = (false, eval e X.env) :: starEach [e2] X.env := by rfl) (hpl : (backTo pos (starEach [e2] X.env)).any (·.1) = false := by rfl) :
    PI X (.Tuple elts kk tpos) (.Call (.Name "zip" p) [e, e2] [] pos) (iZipB X.K ta) := by
  refine ⟨fun pins s σ H R I h => Call_ (ld_blt I hg hm PyProof.Rows.boot_zip (PyProof.Rows.callWith_type1 (thn (ha.run pos pins s σ H _ I h) fun us s1 ⟨vs, H1, I1, r1, q1⟩ => ?_) hs hpl))⟩
  obtain ⟨a, b, xs, ys, ex, q1⟩ := q1
  subst ex
  cases r1 with
  | cons r rr =>
    cases rr with
    | cons r' rr =>
      cases rr
      cases r
      cases r'
      have fresh5 : ∀ c, c ∈ zfp s1.heap.objs.size → FpOk X pins H1 c := fun c hc => I1.fpOk (zfp_mem hc).1 (I1.hok.fresh (zfp_mem hc).1)
      rcases q1 with ⟨hqx, hqy, q⟩ | ⟨hqx, hqy, q⟩ | ⟨hqx, hqy, q⟩
      · obtain ⟨its, rv, p1, _⟩ := I1.list hqx
        obtain ⟨its2, rv2, p2, _⟩ := I1.list hqy
        refine call_zip_2 p1.isList p2.isList fun h' hz hTI hTO h1 h2 hsz hk => wpAny_pyIter_zip hz ?_
        have I2 : Inv X pins σ H1 { s1 with heap := h' } := I1.kept (t' := s1.toks) hk
        exact ⟨s1.heap.objs.size + 4, zfp s1.heap.objs.size, _, _, H1, rfl, I2, turn_zip (PySem.W.ktu_apart s1.heap.objs.size a b p1.lt p2.lt), ⟨hz, hTI, ⟨_, _, hTO⟩, h1, h2⟩, fresh5, q⟩
      · obtain ⟨its, rv, p1, _⟩ := I1.tuple hqx
        obtain ⟨its2, rv2, p2, _⟩ := I1.tuple hqy
        obtain ⟨o1, ho1, _⟩ := id p1
        obtain ⟨o2, ho2, _⟩ := id p2
        refine call_zipT (show s1.heap.IsTuple a its.toArray from p1) (show s1.heap.IsTuple b its2.toArray from p2) fun h' hz hTI hTO h1 h2 hsz hk => wpAny_pyIter_zip hz ?_
        have I2 : Inv X pins σ H1 { s1 with heap := h' } := I1.kept (t' := s1.toks) hk
        exact ⟨s1.heap.objs.size + 4, zfp s1.heap.objs.size, _, _, H1, rfl, I2, turn_zipT (PySem.W.ktu_apart s1.heap.objs.size a b (Heap.lt_size ho1) (Heap.lt_size ho2)), ⟨hz, hTI, ⟨_, _, hTO⟩, h1, h2⟩, fresh5, q⟩
      · obtain ⟨l1, v1, p1, _⟩ := I1.tuple hqx
        obtain ⟨l2, v2, p2, _⟩ := I1.list hqy
        obtain ⟨o1, g1, _⟩ := id (show s1.heap.IsTuple a l1.toArray from p1)
        obtain ⟨o2, g2, _⟩ := id p2.isList
        refine zip_begins2 (begins_tuple a l1.toArray) (begins_list b l2.toArray) (show s1.heap.IsTuple a l1.toArray from p1) p2.isList fun h' hz hti hto n1 n2 hsz hk => wpAny_pyIter_zip hz ?_
        have I2 : Inv X pins σ H1 { s1 with heap := h' } := I1.kept (t' := s1.toks) hk
        exact ⟨_, zfp s1.heap.objs.size, _, _, H1, rfl, I2, turn_zipTL (Heap.lt_size g1) (Heap.lt_size g2), ⟨hz, hti, ⟨_, _, hto⟩, ⟨_, n1, rfl, rfl⟩, ⟨_, n2, rfl, rfl⟩⟩, fresh5, q⟩
theorem kz_zipB {X : Cx} {K : PySem.W.Frag} {e e2 : Expr} {ta : TA} {p pos tpos : Pos} {elts : List Expr} {kk : Nat} (hg : Gl X "zip") (hm : X.mg "zip" = none) (ha : PA X [e, e2] ta) (hK : X.K = K := by rfl)
    (hs : starEach [e, e2] X.env = (false, eval e X.env) :: starEach [e2] X.env := by rfl) (hpl : (backTo pos (starEach [e2] X.env)).any (·.1) = false := by rfl) :
    PI X (.Tuple elts kk tpos) (.Call (.Name "zip" p) [e, e2] [] pos) (iZipB K ta) := hK ▸ pi_zipB hg hm ha hs hpl
end Ly

/-! ### a tuple turned round: t[::-1] -/
namespace Ly
open PySem PySem.Spec PyProof.Rows L2
section
variable {prog : Program} {w : World} {A : Around} {E : Value → Shared → Prop} {s : Shared}
theorem part_is {v : Value} {o : Option Int} {Q : Option Int → Shared → Prop} (p : IsPart v o) (h : Q o s) : wpAny (model prog w) A (Builtin.Slice.slicePartIndex v) Q E s := HT.slicePart_ p h
theorem adj_back (n : Nat) : Builtin.Slice.sliceAdjust none none (-1) (n : Int) = ((n : Int) - 1, -1) := by
  have g : (-1 : Int) < 0 := by decide
  unfold Builtin.Slice.sliceAdjust
  simp only [g, if_true]
theorem places_back (n : Nat) : Builtin.Slice.slicePlaces ((n : Int) - 1) (-1) (-1) = n := by
  have g : ¬ ((-1 : Int) > 0) := by decide
  unfold Builtin.Slice.slicePlaces
  rw [if_neg g]
  by_cases c : (n : Int) - 1 > -1
  · rw [if_pos c, show (- (-1 : Int)) = 1 from rfl, Int.ediv_one]
    omega
  · rw [if_neg c]
    omega
theorem pick_back (xs : Array Value) : ((List.range xs.size).filterMap fun (k : Nat) => xs[((xs.size : Int) - 1 + (k : Int) * (-1)).toNat]?).toArray = xs.toList.reverse.toArray := by
  have e : (fun (k : Nat) => xs[((xs.size : Int) - 1 + (k : Int) * (-1)).toNat]?) = fun k => xs[xs.size - 1 - k]? := by
    funext k
    have q : ((xs.size : Int) - 1 + (k : Int) * (-1)).toNat = xs.size - 1 - k := by omega
    rw [q]
  have k := PySem.W.krv_pick xs
  unfold slicePick at k
  rw [PySem.W.krv_bounds] at k
  have k2 : ((sliceRange ((xs.size : Int) - 1) (-1) (-1)).filterMap (xs[·]?)).toArray = xs.toList.reverse.toArray := k
  rw [PySem.W.krv_sliceRange, List.filterMap_map] at k2
  rw [e]
  exact k2
theorem applied_back {sl : Addr} {vs : Value} {n : Nat} {Q : Int × Int × Nat → Shared → Prop} (hs : s.heap.IsSliceOf sl .none .none vs) (pv : IsPart vs (some (-1)))
    (h : Q ((n : Int) - 1, -1, n) s) : wpAny (model prog w) A (Builtin.Slice.sliceApplied (.ref sl) (pure (n : Int))) Q E s := by
  obtain ⟨o, ho, _, hd⟩ := id hs
  unfold Builtin.Slice.sliceApplied Builtin.Slice.sliceFields
  have f0 : ∀ {R : Value → Shared → Prop}, R .none s → wpAny (model prog w) A (field (.ref sl) 0) R E s := fun r => wpAny_field ho hd (x := .none) rfl r
  have f1 : ∀ {R : Value → Shared → Prop}, R .none s → wpAny (model prog w) A (field (.ref sl) 1) R E s := fun r => wpAny_field ho hd (x := .none) rfl r
  have f2 : ∀ {R : Value → Shared → Prop}, R vs s → wpAny (model prog w) A (field (.ref sl) 2) R E s := fun r => wpAny_field ho hd (x := vs) rfl r
  refine wpAny_bind (wpAny_bind (f0 (wpAny_bind (f1 (wpAny_bind (f2 (wpAny_pure ?_)))))))
  refine wpAny_bind (part_is pv ?_)
  show wpAny _ _ (if ((-1 : Int) == 0) = true then _ else _) _ _ s
  rw [if_neg (show ¬ ((-1 : Int) == 0) = true by decide)]
  refine wpAny_bind (part_is .none (wpAny_bind (part_is .none (wpAny_bind (wpAny_pure ?_)))))
  show wpAny _ _ (match Builtin.Slice.sliceAdjust none none (-1) (n : Int) with | (x, y) => pure (x, (-1 : Int), Builtin.Slice.slicePlaces x y (-1))) _ _ s
  rw [adj_back]
  show wpAny _ _ (pure ((n : Int) - 1, (-1 : Int), Builtin.Slice.slicePlaces ((n : Int) - 1) (-1) (-1))) _ _ s
  rw [places_back]
  exact wpAny_pure h
theorem item_back {t sl : Addr} {items : Array Value} {vs : Value} {Q : Value → Shared → Prop} (ht : IsTup s.heap t items) (hs : s.heap.IsSliceOf sl .none .none vs) (pv : IsPart vs (some (-1))) (hz : items.size ≤ sizeLine)
    (h : Q (.ref s.heap.objs.size) { s with heap := s.heap.push { cls := .type "tuple", data := .seq items.toList.reverse.toArray } }) : wpAny (model prog w) A (getItem (.ref t) (.ref sl)) Q E s := by
  have ok : sizeOk (.seq items.toList.reverse.toArray) := by
    show items.toList.reverse.toArray.size ≤ sizeLine
    rw [List.size_toArray, List.length_reverse, Array.length_toList]
    exact hz
  obtain ⟨o, ho, hc, _⟩ := id hs
  unfold getItem
  try with_reducible refine wpAny_holding ?_
  first | refine wpAny_bind (wpAny_pure ?_) | skip
  have key : wpAny (model prog w) A.in1 (Builtin.«tuple.__getitem__» ⟨[.ref t, .ref sl], []⟩) (fun fin s' => ∃ v, fin = .done (.ret v) ∧ Q v s') E s := by
    show wpAny _ _ (Builtin.Tuple.tupleItemsOf (.ref t) >>= _) _ _ s
    refine wpAny_bind (tupleItemsOf_ ht (wpAny_bind (wpAny_typeOf (show s.TypeIs (.ref sl) "slice" from ⟨o, ho, hc⟩) ?_)))
    rw [if_pos (by decide)]
    refine wpAny_bind (applied_back hs pv ?_)
    show wpAny _ _ (if (((items.size : Int) - 1 == 0) && ((-1 : Int) == 1) && (items.size == items.size)) = true then _ else _) _ _ s
    rw [if_neg (by rw [show ((-1 : Int) == 1) = false from rfl, Bool.and_false, Bool.false_and]; exact Bool.false_ne_true), pick_back]
    first
      | exact wpAny_bind (m := Builtin.Tuple.tupleExact _) (wpAny_newObj_type (wpAny_pure ⟨_, rfl, h⟩) ok)
      | exact wpAny_bind (m := Builtin.Tuple.tupleExact _) (wpAny_newObj_type (wpAny_bind (wpAny_pure (wpAny_pure ⟨_, rfl, h⟩))) ok)
      | exact wpAny_bind (wpAny_bind (m := Builtin.Tuple.tupleExact _) (wpAny_newObj_type (wpAny_pure (wpAny_pure ⟨_, rfl, h⟩)) ok))
      | exact wpAny_bind (wpAny_bind (m := Builtin.Tuple.tupleExact _) (wpAny_newObj_type (wpAny_pure ⟨_, rfl, h⟩) ok))
  refine wpAny_bind (wpAny_sequenceKey ht.typeIs (by decide) ?_)
  refine wpAny_bind (wpAny_callSpecial?_slot (name := Str.ofString "__getitem__") ht.typeIs PyProof.Rows.slot_tuple_getitem ?_)
  refine wpAny_call_entry PyProof.Rows.slot_tuple_getitem ht.typeIs entry_tuple_getitem ?_ (args_tuple_getitem _ _)
  exact wpAny_mono key (fun f s' z => ⟨z.choose, z.choose_spec.1, wpAny_pure z.choose_spec.2⟩) fun _ _ z => z
end
def tRevT (K : PySem.W.Frag) (te : TE) : TE := fun σ H Q => te σ H fun x H1 => ∃ a xs, x = .ref a ∧ SqT K H1 a xs ∧ ∀ p, H1 p = none → Q (.ref p) (upd H1 p (.tup xs.reverse))
section
variable {X : Cx} {e : Expr} {te : TE} {k : Nat} {p1 p2 p3 pos : Pos}
theorem pe_revT {K : PySem.W.Frag} (he : PE X e te) (hK : X.K = K := by rfl) : PE X (.Subscript e (.Slice none none (some (.UnaryOp .USub (.Constant (.int 1) k p1) p2)) p3) pos) (tRevT K te) := by
  subst hK
  refine ⟨fun pins s σ H Q I h => Subscript_ (thn (he.run pins s σ H _ I h) ?_)⟩
  rintro v s1 ⟨x, H1, I1, r1, a, xs, rfl, hx, q⟩
  cases r1
  refine wpAny_Slice (thn (po_none.run pins s1 σ H1 (fun o H2 => o = none ∧ H2 = H1) I1 ⟨rfl, rfl⟩) ?_)
  rintro vl s2 ⟨l, H2, I2, pl, rfl, rfl⟩
  refine thn (po_none.run pins s2 σ H2 (fun o H3 => o = none ∧ H3 = H2) I2 ⟨rfl, rfl⟩) ?_
  rintro vu s3 ⟨u, H3, I3, pu, rfl, rfl⟩
  refine thn ((po_some (pe_un un_neg pe_int)).run pins s3 σ H3 (fun o H4 => o = some (-1) ∧ H4 = H3) I3 ⟨1, rfl, -1, rfl, rfl, rfl⟩) ?_
  rintro vs s4 ⟨o, H4, I4, ps, rfl, rfl⟩
  cases pl
  cases pu
  have I5 : Inv X pins σ H4 { s4 with heap := s4.heap.push { cls := .type "slice", data := .fields #[.none, .none, vs] } } := I4.kept (t' := s4.toks) fun b ob q => Heap.get?_push_of_some _ q
  obtain ⟨its, r, ht, hz⟩ := I5.tuple hx
  have hlen := r.length
  show wpAny (model X.prog X.w) X.A (subscriptTail e (.Slice none none (some (.UnaryOp .USub (.Constant (.int 1) k p1) p2)) p3) (.ref a) (.ref s4.heap.objs.size)) (EP X pins σ Q) X.xe { s4 with heap := s4.heap.push { cls := .type "slice", data := .fields #[.none, .none, vs] } }
  refine tail_any (ops := [.ref a, .ref s4.heap.objs.size]) ht.typeIs (PyProof.Rows.slot_tuple_getitem.lookup) ?_ (by with_unfolding_all rfl)
  refine item_back ht (Heap.IsSliceOf.new _ .none .none vs) ps (by rw [List.size_toArray]; omega) ?_
  refine ⟨.ref _, _, I5.laid (t' := s4.toks) (o := .tup xs.reverse) (fun b ob q => Heap.get?_push_of_some _ q) (Nat.le_refl _) ?_, rfl, q _ (I5.hok.fresh (Nat.le_refl _))⟩
  exact ⟨by rw [List.length_reverse]; exact hz, _, r.reverse, IsTup.new _ _⟩
end
end Ly

/-! ### the mathematics: rows, signs, totals -/
namespace Ly
open PySem L2
/-- a row of hands -/
def RowOk (hands : Int) (row : List Int) : Prop := 2 ≤ hands ∧ hands ≤ 4 ∧ row ≠ [] ∧ row.length ≤ 64 ∧ ∀ z ∈ row, 0 ≤ z ∧ z < hands
def signOf (t a b : Int) : Int := if t = a then 1 else if t = b then -1 else 0
def signsOf (row : List Int) (a b : Int) : List Int := row.map fun t => signOf t a b
theorem signsOf_len (row : List Int) (a b : Int) : (signsOf row a b).length = row.length := by rw [signsOf, List.length_map]
theorem signOf_small (t a b : Int) : signOf t a b = 1 ∨ signOf t a b = -1 ∨ signOf t a b = 0 := by
  unfold signOf
  split
  · exact .inl rfl
  · split
    · exact .inr (.inl rfl)
    · exact .inr (.inr rfl)
/-- what a hand has -/
def tot (row ws : List Int) (h : Int) : Int := ((row.zip ws).map fun p => if p.1 = h then p.2 else 0).sum
def totsOf (hands : Int) (row ws : List Int) : List Int := (List.range hands.toNat).map fun (h : Nat) => tot row ws (h : Int)
theorem tot_more {row ws : List Int} {i : Nat} {t w h : Int} (e1 : row[i]? = some t) (e2 : ws[i]? = some w) : tot (row.take (i + 1)) (ws.take (i + 1)) h = tot (row.take i) (ws.take i) h + if t = h then w else 0 := by
  have e : (row.take (i + 1)).zip (ws.take (i + 1)) = (row.take i).zip (ws.take i) ++ [(t, w)] := by
    rw [List.take_add_one, List.take_add_one, e1, e2]
    refine List.zip_append ?_
    have l1 := (List.getElem?_eq_some_iff.mp e1).1
    have l2 := (List.getElem?_eq_some_iff.mp e2).1
    rw [List.length_take, List.length_take]
    omega
  unfold tot
  rw [e, List.map_append, List.sum_append]
  simp
theorem totsOf_at {hands : Int} {row ws : List Int} {h : Nat} (hh : (h : Int) < hands) : (totsOf hands row ws)[h]? = some (tot row ws (h : Int)) := by
  unfold totsOf
  rw [List.getElem?_map, List.getElem?_range (by omega)]
  rfl
theorem totsOf_len {hands : Int} {row ws : List Int} : (totsOf hands row ws).length = hands.toNat := by
  unfold totsOf
  rw [List.length_map, List.length_range]
theorem totsOf_more {hands : Int} {row ws : List Int} {i : Nat} {t w : Int} (e1 : row[i]? = some t) (e2 : ws[i]? = some w) (h0 : 0 ≤ t) (h1 : t < hands) :
    totsOf hands (row.take (i + 1)) (ws.take (i + 1)) = (totsOf hands (row.take i) (ws.take i)).set t.toNat (tot (row.take i) (ws.take i) t + w) := by
  refine List.ext_getElem? fun k => ?_
  rw [List.getElem?_set, totsOf_len]
  by_cases hk : k < hands.toNat
  · have hk2 : (k : Int) < hands := by omega
    rw [totsOf_at hk2, tot_more e1 e2]
    by_cases hc : t.toNat = k
    · have ht : t = (k : Int) := by omega
      rw [if_pos hc, if_pos (show t.toNat < hands.toNat by omega), if_pos ht, ht]
    · rw [if_neg hc, totsOf_at hk2, if_neg (by omega), Int.add_zero]
  · rw [List.getElem?_eq_none (by rw [totsOf_len]; omega), if_neg (by omega), List.getElem?_eq_none (by rw [totsOf_len]; omega)]
theorem totsOf_nil {hands : Int} : totsOf hands [] [] = List.replicate hands.toNat 0 := by
  refine List.ext_getElem? fun k => ?_
  by_cases hk : k < hands.toNat
  · rw [totsOf_at (by omega), List.getElem?_replicate, if_pos hk]
    rfl
  · rw [List.getElem?_eq_none (by rw [totsOf_len]; omega), List.getElem?_eq_none (by rw [List.length_replicate]; omega)]

/-- a lead by signs -/
def leadBy (sg ws : List Int) : Int := ((sg.zip ws).map fun p => p.1 * p.2).sum
theorem leadBy_cons (s w : Int) (sg ws : List Int) : leadBy (s :: sg) (w :: ws) = s * w + leadBy sg ws := by
  unfold leadBy
  rw [List.zip_cons_cons, List.map_cons, List.sum_cons]
theorem tot_cons (t w h : Int) (row ws : List Int) : tot (t :: row) (w :: ws) h = (if t = h then w else 0) + tot row ws h := by
  unfold tot
  rw [List.zip_cons_cons, List.map_cons, List.sum_cons]
theorem lead_tot {a b : Int} (hab : a ≠ b) : ∀ row ws : List Int, leadBy (signsOf row a b) ws = tot row ws a - tot row ws b
  | [], ws => by simp [leadBy, signsOf, tot]
  | t :: r, [] => by simp [leadBy, tot]
  | t :: r, w :: ws => by
    have ih := lead_tot hab r ws
    show leadBy (signOf t a b :: signsOf r a b) (w :: ws) = _
    rw [leadBy_cons, tot_cons, tot_cons, ih]
    unfold signOf
    by_cases h1 : t = a
    · rw [if_pos h1, if_pos h1, if_neg (fun z => hab (h1.symm.trans z))]
      omega
    · by_cases h2 : t = b
      · rw [if_neg h1, if_pos h2, if_neg h1, if_pos h2]
        omega
      · rw [if_neg h1, if_neg h2, if_neg h1, if_neg h2]
        omega
theorem erase_perm : ∀ (l : List Int) {i : Nat} (h : i < l.length), (l[i] :: l.eraseIdx i).Perm l
  | [], _, h => absurd h (Nat.not_lt_zero _)
  | a :: r, 0, _ => .refl _
  | a :: r, i + 1, h => (List.Perm.swap a (r[i]'(Nat.lt_of_succ_lt_succ h)) (r.eraseIdx i)).trans ((erase_perm r (Nat.lt_of_succ_lt_succ h)).cons a)
theorem erase_map : ∀ (l : List Int) (i : Nat), (l.map V.int).eraseIdx i = (l.eraseIdx i).map V.int
  | [], _ => rfl
  | a :: r, 0 => rfl
  | a :: r, i + 1 => by
    rw [List.map_cons, List.eraseIdx_cons_succ, erase_map r i, List.eraseIdx_cons_succ, List.map_cons]
/-- the numbers below m -/
def nums (m : Nat) : List Int := (List.range m).map fun (i : Nat) => (i : Int)
theorem nums_len (m : Nat) : (nums m).length = m := by rw [nums, List.length_map, List.length_range]
theorem nums_mem {m : Nat} {z : Int} : z ∈ nums m ↔ 0 ≤ z ∧ z < (m : Int) := by
  unfold nums
  rw [List.mem_map]
  constructor
  · rintro ⟨i, hi, e⟩
    rw [List.mem_range] at hi
    omega
  · rintro ⟨h1, h2⟩
    exact ⟨z.toNat, List.mem_range.mpr (by omega), by omega⟩
theorem nums_nodup (m : Nat) : (nums m).Nodup := List.Pairwise.map _ (fun x y h e => h (Int.ofNat.inj e)) List.nodup_range
/-- a row put into another one -/
def putL (hands : Int) (row other : List Int) : List Int := other.flatMap fun t => row.map fun x => (x + t) % hands
theorem putL_len (hands : Int) (row other : List Int) : (putL hands row other).length = other.length * row.length := by
  induction other with
  | nil => simp [putL]
  | cons t r ih =>
    show (row.map (fun x => (x + t) % hands) ++ putL hands row r).length = _
    rw [List.length_append, List.length_map, ih, List.length_cons, Nat.add_mul, Nat.one_mul, Nat.add_comm]
theorem putL_mem {hands : Int} (h : 0 < hands) {row other : List Int} : ∀ z ∈ putL hands row other, 0 ≤ z ∧ z < hands := by
  intro z hz
  obtain ⟨t, _, hz⟩ := List.mem_flatMap.mp hz
  obtain ⟨x, _, e⟩ := List.mem_map.mp hz
  rw [← e]
  exact ⟨Int.emod_nonneg _ (by omega), Int.emod_lt_of_pos _ h⟩
theorem putL_more (hands : Int) (row : List Int) {other : List Int} {i : Nat} {t : Int} (h : other[i]? = some t) : putL hands row (other.take (i + 1)) = putL hands row (other.take i) ++ row.map fun x => (x + t) % hands := by
  unfold putL
  rw [List.take_add_one, h, List.flatMap_append]
  congr 1
  show (row.map _) ++ [] = _
  rw [List.append_nil]
end Ly

/-! ### the mathematics: differences -/
namespace Ly
/-- the differences of a line -/
def diffs : List Int → List Int
  | x :: y :: r => (y - x) :: diffs (y :: r)
  | _ => []
def diffsN : Nat → List Int → List Int
  | 0, l => l
  | n + 1, l => diffs (diffsN n l)
theorem diffs_len : ∀ l : List Int, (diffs l).length = l.length - 1
  | [] => rfl
  | [_] => rfl
  | x :: y :: r => by
    show (diffs (y :: r)).length + 1 = r.length + 1 + 1 - 1
    rw [diffs_len (y :: r), List.length_cons]
    omega
theorem diffs_at : ∀ (l : List Int) (i : Nat) (x y : Int), l[i]? = some x → l[i + 1]? = some y → (diffs l)[i]? = some (y - x)
  | [], _, _, _, h, _ => by simp at h
  | [_], 0, _, _, _, h => by simp at h
  | [_], _ + 1, _, _, h, _ => by simp at h
  | a :: b :: r, 0, x, y, h, h2 => by
    rw [← Option.some.inj h, ← Option.some.inj h2]
    rfl
  | a :: b :: r, i + 1, x, y, h, h2 => diffs_at (b :: r) i x y h h2
theorem diffsN_len (n : Nat) (l : List Int) : (diffsN n l).length = l.length - n := by
  induction n with
  | zero => rfl
  | succ n ih =>
    show (diffs (diffsN n l)).length = _
    rw [diffs_len, ih]
    omega
/-- differences of numbers that go on -/
def Df (f : Nat → Int) : Nat → Int := fun n => f (n + 1) - f n
def DN : Nat → (Nat → Int) → Nat → Int
  | 0, f => f
  | m + 1, f => Df (DN m f)
theorem DN_succ (m : Nat) (f : Nat → Int) : DN (m + 1) f = DN m (Df f) := by
  induction m with
  | zero => rfl
  | succ m ih =>
    show Df (DN (m + 1) f) = Df (DN m (Df f))
    rw [ih]
/-- a line as the first so many of f -/
def line (f : Nat → Int) (n : Nat) : List Int := (List.range n).map f
theorem line_len (f : Nat → Int) (n : Nat) : (line f n).length = n := by rw [line, List.length_map, List.length_range]
theorem line_at {f : Nat → Int} {n i : Nat} (h : i < n) : (line f n)[i]? = some (f i) := by
  rw [line, List.getElem?_map, List.getElem?_range h]
  rfl
theorem line_ext {l : List Int} {f : Nat → Int} {n : Nat} (hl : l.length = n) (h : ∀ i, i < n → l[i]? = some (f i)) : l = line f n := by
  refine List.ext_getElem? fun i => ?_
  by_cases hi : i < n
  · rw [h i hi, line_at hi]
  · rw [List.getElem?_eq_none (by omega), List.getElem?_eq_none (by rw [line_len]; omega)]
theorem diffs_line (f : Nat → Int) (n : Nat) : diffs (line f n) = line (Df f) (n - 1) := by
  refine line_ext (by rw [diffs_len, line_len]) fun i hi => ?_
  exact diffs_at _ i _ _ (line_at (by omega)) (line_at (by omega))
theorem diffsN_line (m : Nat) (f : Nat → Int) (n : Nat) : diffsN m (line f n) = line (DN m f) (n - m) := by
  induction m with
  | zero => rfl
  | succ m ih =>
    show diffs (diffsN m (line f n)) = _
    rw [ih, diffs_line]
    show line (DN (m + 1) f) (n - m - 1) = line (DN (m + 1) f) (n - (m + 1))
    rw [show n - m - 1 = n - (m + 1) by omega]
/-- every line goes on somehow -/
theorem line_of (l : List Int) : l = line (fun i => l.getD i 0) l.length := by
  refine line_ext rfl fun i hi => ?_
  rw [List.getD_eq_getElem?_getD, List.getElem?_eq_getElem hi]
  rfl
/-! smooth: the differences of order m are nought -/
def Sm (m : Nat) (f : Nat → Int) : Prop := ∀ n, DN m f n = 0
theorem Sm.step {m : Nat} {f : Nat → Int} (h : Sm m (Df f)) : Sm (m + 1) f := fun n => by
  rw [DN_succ]
  exact h n
theorem Sm.back {m : Nat} {f : Nat → Int} (h : Sm (m + 1) f) : Sm m (Df f) := fun n => by
  rw [← DN_succ]
  exact h n
theorem Sm.more {m : Nat} {f : Nat → Int} (h : Sm m f) : Sm (m + 1) f := fun n => by
  show DN m f (n + 1) - DN m f n = 0
  rw [h, h]
  rfl
theorem Sm.le {m k : Nat} {f : Nat → Int} (h : Sm m f) (l : m ≤ k) : Sm k f := by
  induction l with
  | refl => exact h
  | step _ ih => exact ih.more
theorem DN_add (m : Nat) : ∀ (f g : Nat → Int), DN m (fun n => f n + g n) = fun n => DN m f n + DN m g n := by
  induction m with
  | zero => intros; rfl
  | succ m ih =>
    intro f g
    funext n
    show DN m (fun n => f n + g n) (n + 1) - DN m (fun n => f n + g n) n = (DN m f (n + 1) - DN m f n) + (DN m g (n + 1) - DN m g n)
    rw [ih]
    show (DN m f (n + 1) + DN m g (n + 1)) - (DN m f n + DN m g n) = _
    omega
theorem DN_mul (m : Nat) (c : Int) : ∀ f : Nat → Int, DN m (fun n => c * f n) = fun n => c * DN m f n := by
  induction m with
  | zero => intros; rfl
  | succ m ih =>
    intro f
    funext n
    show DN m (fun n => c * f n) (n + 1) - DN m (fun n => c * f n) n = c * (DN m f (n + 1) - DN m f n)
    rw [ih]
    show c * DN m f (n + 1) - c * DN m f n = _
    rw [Int.mul_sub]
theorem DN_shift (m : Nat) : ∀ f : Nat → Int, DN m (fun n => f (n + 1)) = fun n => DN m f (n + 1) := by
  induction m with
  | zero => intros; rfl
  | succ m ih =>
    intro f
    funext n
    show DN m (fun n => f (n + 1)) (n + 1) - DN m (fun n => f (n + 1)) n = DN m f (n + 1 + 1) - DN m f (n + 1)
    rw [ih]
theorem Sm.add {m : Nat} {f g : Nat → Int} (h : Sm m f) (k : Sm m g) : Sm m (fun n => f n + g n) := fun n => by
  rw [DN_add]
  show DN m f n + DN m g n = 0
  rw [h, k]
  rfl
theorem Sm.mul {m : Nat} {f : Nat → Int} (c : Int) (h : Sm m f) : Sm m (fun n => c * f n) := fun n => by
  rw [DN_mul]
  show c * DN m f n = 0
  rw [h, Int.mul_zero]
theorem Sm.zero (m : Nat) : Sm m (fun _ => 0) := Sm.le (m := 0) (fun _ => rfl) (Nat.zero_le m)
theorem Sm.times {m : Nat} : ∀ {f : Nat → Int}, Sm m f → Sm (m + 1) (fun (n : Nat) => (n : Int) * f n) := by
  induction m with
  | zero =>
    intro f h n
    have e : ∀ k, f k = 0 := h
    show ((n + 1 : Nat) : Int) * f (n + 1) - (n : Int) * f n = 0
    rw [e, e]
    simp
  | succ m ih =>
    intro f h
    refine Sm.step ?_
    have e : Df (fun (n : Nat) => (n : Int) * f n) = fun (n : Nat) => (n : Int) * Df f n + f (n + 1) := by
      funext n
      show ((n + 1 : Nat) : Int) * f (n + 1) - (n : Int) * f n = (n : Int) * (f (n + 1) - f n) + f (n + 1)
      rw [Int.natCast_add, Int.add_mul, Int.mul_sub]
      omega
    rw [e]
    refine Sm.add (ih h.back) fun n => ?_
    rw [DN_shift]
    exact h (n + 1)
theorem Sm.pow : ∀ k : Nat, Sm (k + 1) (fun n => (n : Int) ^ k)
  | 0 => fun n => by
    show ((n + 1 : Nat) : Int) ^ 0 - ((n : Nat) : Int) ^ 0 = 0
    simp
  | k + 1 => by
    have h := (Sm.pow k).times
    have e : (fun n : Nat => (n : Int) * (n : Int) ^ k) = fun n : Nat => (n : Int) ^ (k + 1) := by
      funext n
      rw [Int.pow_succ, Int.mul_comm]
    rw [e] at h
    exact h
/-- made of powers -/
def poly (cs : List Int) (n : Nat) : Int := (cs.zipIdx.map fun p => p.1 * (n : Int) ^ p.2).sum
theorem sm_polyFrom : ∀ (cs : List Int) (k m : Nat), k + cs.length ≤ m → Sm m (fun n => ((cs.zipIdx k).map fun p => p.1 * (n : Int) ^ p.2).sum)
  | [], _, m, _ => Sm.zero m
  | c :: r, k, m, h => by
    have ih := sm_polyFrom r (k + 1) m (by rw [List.length_cons] at h; omega)
    have e : (fun n : Nat => (((c :: r).zipIdx k).map fun p => p.1 * (n : Int) ^ p.2).sum) = fun n : Nat => c * (n : Int) ^ k + ((r.zipIdx (k + 1)).map fun p => p.1 * (n : Int) ^ p.2).sum := by
      funext n
      rw [List.zipIdx_cons, List.map_cons, List.sum_cons]
    rw [e]
    exact Sm.add (Sm.mul c ((Sm.pow k).le (by rw [List.length_cons] at h; omega))) ih
theorem sm_poly (cs : List Int) : Sm cs.length (poly cs) := sm_polyFrom cs 0 cs.length (by omega)
/-- a line is smooth to d -/
def SmL (m : Nat) (l : List Int) : Prop := ∀ z ∈ diffsN m l, z = 0
theorem SmL.of {m n : Nat} {f : Nat → Int} (h : Sm m f) : SmL m (line f n) := fun z hz => by
  rw [diffsN_line] at hz
  obtain ⟨i, _, e⟩ := List.mem_map.mp hz
  rw [← e]
  exact h i
/-! one worth changed -/
def bump (i : Nat) (n : Nat) : Int := if n = i then 1 else 0
def bin : Nat → Nat → Nat
  | _, 0 => 1
  | 0, _ + 1 => 0
  | n + 1, k + 1 => bin n k + bin n (k + 1)
def alt (n : Nat) : Int := if n % 2 = 0 then 1 else -1
theorem alt_succ (n : Nat) : alt (n + 1) = - alt n := by
  unfold alt
  rcases Nat.mod_two_eq_zero_or_one n with h | h
  · rw [if_neg (by omega), if_pos h]
  · rw [if_pos (by omega), if_neg (by omega)]
    rfl
theorem bin_pos : ∀ {n k : Nat}, k ≤ n → 0 < bin n k
  | n, 0, _ => by
    cases n <;> exact Nat.one_pos
  | 0, k + 1, h => by omega
  | n + 1, k + 1, h => by
    have := bin_pos (n := n) (k := k) (by omega)
    show 0 < bin n k + bin n (k + 1)
    omega
theorem bin_big : ∀ {n k : Nat}, n < k → bin n k = 0
  | _, 0, h => by omega
  | 0, _ + 1, _ => rfl
  | n + 1, k + 1, h => by
    show bin n k + bin n (k + 1) = 0
    rw [bin_big (by omega), bin_big (by omega)]
theorem alt_sq (n : Nat) : alt n = 1 ∨ alt n = -1 := by
  unfold alt
  split
  · exact .inl rfl
  · exact .inr rfl
theorem DN_bump (m : Nat) : ∀ i j : Nat, DN m (bump i) j = if j ≤ i then alt (m + i + j) * (bin m (i - j) : Int) else 0 := by
  induction m with
  | zero =>
    intro i j
    show bump i j = _
    unfold bump
    by_cases h : j = i
    · rw [if_pos h, if_pos (by omega), h, Nat.sub_self]
      have e : alt (0 + i + i) = 1 := by
        unfold alt
        rw [if_pos (by omega)]
      rw [e]
      cases i <;> rfl
    · rw [if_neg h]
      by_cases h2 : j ≤ i
      · rw [if_pos h2, bin_big (by omega)]
        simp
      · rw [if_neg h2]
  | succ m ih =>
    intro i j
    show DN m (bump i) (j + 1) - DN m (bump i) j = _
    rw [ih, ih]
    have e1 : alt (m + i + (j + 1)) = - alt (m + i + j) := by
      rw [← alt_succ, Nat.add_assoc (m + i) j 1]
    have e2 : alt (m + 1 + i + j) = - alt (m + i + j) := by
      rw [← alt_succ, show m + i + j + 1 = m + 1 + i + j by omega]
    by_cases h1 : j + 1 ≤ i
    · rw [if_pos h1, if_pos (by omega), if_pos (by omega), e1, e2]
      obtain ⟨k, hk⟩ : ∃ k, i - j = k + 1 := ⟨i - j - 1, by omega⟩
      rw [hk, show i - (j + 1) = k by omega]
      show _ = -alt (m + i + j) * ((bin m k + bin m (k + 1) : Nat) : Int)
      rw [Int.natCast_add, Int.mul_add, Int.neg_mul, Int.neg_mul]
      omega
    · rw [if_neg h1]
      by_cases h2 : j ≤ i
      · rw [if_pos h2, if_pos h2, e2, show i - j = 0 by omega]
        have e3 : ∀ n, bin n 0 = 1 := fun n => by cases n <;> rfl
        rw [e3, e3, Int.neg_mul]
        omega
      · rw [if_neg h2, if_neg h2]
        rfl
/-- smooth numbers with one changed are not smooth -/
theorem bent_not {m n i : Nat} {f : Nat → Int} {c : Int} (h : Sm m f) (hi : i < n) (hm : m < n) (hc : c ≠ 0) : ¬ SmL m (line (fun k => f k + c * bump i k) n) := fun z => by
  have hj : min i (n - 1 - m) < n - m := by omega
  have q := z (DN m (fun k => f k + c * bump i k) (min i (n - 1 - m))) (by
    rw [diffsN_line]
    exact List.mem_map.mpr ⟨_, List.mem_range.mpr hj, rfl⟩)
  rw [DN_add, DN_mul] at q
  have q2 : DN m f (min i (n - 1 - m)) + c * DN m (bump i) (min i (n - 1 - m)) = 0 := q
  rw [h, DN_bump, if_pos (by omega), Int.zero_add] at q2
  have p := bin_pos (n := m) (k := i - min i (n - 1 - m)) (by omega)
  rcases Int.mul_eq_zero.mp q2 with e | e
  · exact hc e
  · rcases Int.mul_eq_zero.mp e with e | e
    · rcases alt_sq (m + i + min i (n - 1 - m)) with a | a <;> rw [a] at e <;> omega
    · omega
end Ly
namespace Ly
open PySem L2
theorem cut1 (xs : List V) : cutV xs (some 1) none = xs.drop 1 := by
  unfold cutV
  rw [show HT.sIx xs.length 0 (some 1) = min 1 xs.length from HT.sIx_nat xs.length 0 1, HT.sIx_none]
  cases xs with
  | nil => rfl
  | cons x r =>
    rw [show min 1 (x :: r).length = 1 by rw [List.length_cons]; omega, List.take_of_length_le]
    rw [List.length_drop]
    exact Nat.le_refl _
/-- all differences of an order are nought -/
def smB (m : Nat) (l : List Int) : Bool := (diffsN m l).all fun z => decide (z = 0)
theorem smB_iff {m : Nat} {l : List Int} : smB m l = true ↔ SmL m l := by
  unfold smB SmL
  rw [List.all_eq_true]
  exact ⟨fun h z hz => of_decide_eq_true (h z hz), fun h z hz => decide_eq_true (h z hz)⟩
end Ly

/-! ### the mathematics: sums, moments, evenness -/
namespace Ly
/-- the sum of the first n -/
def sumTo : Nat → (Nat → Int) → Int
  | 0, _ => 0
  | n + 1, g => sumTo n g + g n
theorem sumTo_ext {n : Nat} {f g : Nat → Int} (h : ∀ i, i < n → f i = g i) : sumTo n f = sumTo n g := by
  induction n with
  | zero => rfl
  | succ n ih =>
    show sumTo n f + f n = sumTo n g + g n
    rw [ih fun i hi => h i (by omega), h n (by omega)]
theorem sumTo_add (n : Nat) (f g : Nat → Int) : sumTo n (fun i => f i + g i) = sumTo n f + sumTo n g := by
  induction n with
  | zero => rfl
  | succ n ih =>
    show sumTo n (fun i => f i + g i) + (f n + g n) = (sumTo n f + f n) + (sumTo n g + g n)
    rw [ih]
    omega
theorem sumTo_mul (n : Nat) (c : Int) (f : Nat → Int) : sumTo n (fun i => c * f i) = c * sumTo n f := by
  induction n with
  | zero => rw [sumTo, sumTo, Int.mul_zero]
  | succ n ih =>
    show sumTo n (fun i => c * f i) + c * f n = c * (sumTo n f + f n)
    rw [ih, Int.mul_add]
theorem sumTo_zero {n : Nat} {f : Nat → Int} (h : ∀ i, i < n → f i = 0) : sumTo n f = 0 := by
  induction n with
  | zero => rfl
  | succ n ih =>
    show sumTo n f + f n = 0
    rw [ih fun i hi => h i (by omega), h n (by omega)]
    rfl
theorem sumTo_sub (n : Nat) (f g : Nat → Int) : sumTo n (fun i => f i - g i) = sumTo n f - sumTo n g := by
  induction n with
  | zero => rfl
  | succ n ih =>
    show sumTo n (fun i => f i - g i) + (f n - g n) = (sumTo n f + f n) - (sumTo n g + g n)
    rw [ih]
    omega
theorem line_sum (f : Nat → Int) (n : Nat) : (line f n).sum = sumTo n f := by
  induction n with
  | zero => rfl
  | succ n ih =>
    rw [line, List.range_succ, List.map_append, List.sum_append]
    show (line f n).sum + _ = sumTo n f + f n
    rw [ih, List.map_singleton, List.sum_cons, List.sum_nil, Int.add_zero]
/-- sums over all places up to each -/
def Su (s : Nat → Int) : Nat → Int := fun i => sumTo (i + 1) s
def SN : Nat → (Nat → Int) → Nat → Int
  | 0, s => s
  | k + 1, s => Su (SN k s)
theorem SN_succ (k : Nat) (s : Nat → Int) : SN (k + 1) s = SN k (Su s) := by
  induction k with
  | zero => rfl
  | succ k ih =>
    show Su (SN (k + 1) s) = Su (SN k (Su s))
    rw [ih]
theorem SN_ext {k : Nat} {s t : Nat → Int} {n : Nat} (h : ∀ i, i < n → s i = t i) : ∀ i, i < n → SN k s i = SN k t i := by
  induction k with
  | zero => exact h
  | succ k ih => exact fun i hi => sumTo_ext fun j hj => ih j (by omega)
/-- the sums of order k of a line -/
def psums (l : List Int) : List Int := (List.range l.length).map fun i => (l.take (i + 1)).sum
def psumsN : Nat → List Int → List Int
  | 0, l => l
  | k + 1, l => psums (psumsN k l)
theorem psums_len (l : List Int) : (psums l).length = l.length := by rw [psums, List.length_map, List.length_range]
theorem psumsN_len (k : Nat) (l : List Int) : (psumsN k l).length = l.length := by
  induction k with
  | zero => rfl
  | succ k ih =>
    show (psums (psumsN k l)).length = _
    rw [psums_len, ih]
theorem line_take {f : Nat → Int} {n i : Nat} (h : i ≤ n) : (line f n).take i = line f i := by
  refine line_ext (by rw [List.length_take, line_len]; omega) fun j hj => ?_
  rw [List.getElem?_take_of_lt hj, line_at (by omega)]
theorem psums_line (s : Nat → Int) (n : Nat) : psums (line s n) = line (Su s) n := by
  refine line_ext (by rw [psums_len, line_len]) fun i hi => ?_
  rw [psums, List.getElem?_map, line_len, List.getElem?_range hi]
  show some ((line s n).take (i + 1)).sum = _
  rw [line_take (by omega), line_sum]
  rfl
theorem psumsN_line (k : Nat) (s : Nat → Int) (n : Nat) : psumsN k (line s n) = line (SN k s) n := by
  induction k with
  | zero => rfl
  | succ k ih =>
    show psums (psumsN k (line s n)) = _
    rw [ih, psums_line]
    rfl
/-- the last sums of the orders from 1 to m are nought -/
def Lz (n : Nat) (s : Nat → Int) (m : Nat) : Prop := ∀ k, k < m → sumTo n (SN k s) = 0
theorem Lz.first {n m : Nat} {s : Nat → Int} (h : Lz n s (m + 1)) : sumTo n s = 0 := h 0 (by omega)
theorem Lz.rest {n m : Nat} {s : Nat → Int} (h : Lz n s (m + 1)) : Lz n (Su s) m := fun k hk => by
  rw [← SN_succ]
  exact h (k + 1) (by omega)
theorem Lz.mk {n m : Nat} {s : Nat → Int} (h : sumTo n s = 0) (r : Lz n (Su s) m) : Lz n s (m + 1) := fun k hk => by
  cases k with
  | zero => exact h
  | succ k =>
    rw [SN_succ]
    exact r k (by omega)
/-- sums by parts -/
theorem parts (n : Nat) (s f : Nat → Int) : sumTo n (fun i => s i * f i) = sumTo n s * f n - sumTo n (fun i => Su s i * Df f i) := by
  induction n with
  | zero =>
    show (0 : Int) = 0 * f 0 - 0
    rw [Int.zero_mul]
    rfl
  | succ n ih =>
    show sumTo n (fun i => s i * f i) + s n * f n = sumTo (n + 1) s * f (n + 1) - (sumTo n (fun i => Su s i * Df f i) + sumTo (n + 1) s * (f (n + 1) - f n))
    rw [ih, Int.mul_sub]
    show _ = sumTo (n + 1) s * f (n + 1) - (_ + (_ - (sumTo n s + s n) * f n))
    rw [Int.add_mul]
    omega
theorem parts0 {n : Nat} {s : Nat → Int} (h : sumTo n s = 0) (f : Nat → Int) : sumTo n (fun i => s i * f i) = - sumTo n (fun i => Su s i * Df f i) := by
  rw [parts, h, Int.zero_mul]
  omega
/-- then at all that is smooth it comes to nought -/
theorem Lz.smooth {m : Nat} : ∀ {n : Nat} {s f : Nat → Int}, Lz n s m → Sm m f → sumTo n (fun i => s i * f i) = 0 := by
  induction m with
  | zero =>
    intro n s f _ hf
    have e : ∀ i, f i = 0 := hf
    exact sumTo_zero fun i _ => by rw [e i, Int.mul_zero]
  | succ m ih =>
    intro n s f h hf
    rw [parts0 h.first, ih h.rest hf.back]
    rfl
/-- moments below m are nought -/
def Mz (n : Nat) (s : Nat → Int) (m : Nat) : Prop := ∀ k, k < m → sumTo n (fun i => s i * (i : Int) ^ k) = 0
theorem Lz.moments {n m : Nat} {s : Nat → Int} (h : Lz n s m) : Mz n s m := fun k hk => h.smooth ((Sm.pow k).le hk)
/-- made of powers below m -/
inductive Pw (m : Nat) : (Nat → Int) → Prop
  | nil : Pw m (fun _ => 0)
  | more {f : Nat → Int} (c : Int) (k : Nat) (hk : k < m) : Pw m f → Pw m (fun i => c * (i : Int) ^ k + f i)
theorem Pw.add {m : Nat} {f g : Nat → Int} (hf : Pw m f) (hg : Pw m g) : Pw m (fun i => f i + g i) := by
  induction hf with
  | nil =>
    have e : (fun i => (0 : Int) + g i) = g := funext fun i => Int.zero_add _
    rw [e]
    exact hg
  | @more f c k hk _ ih =>
    have e : (fun i : Nat => c * (i : Int) ^ k + f i + g i) = fun i : Nat => c * (i : Int) ^ k + (f i + g i) := funext fun i => Int.add_assoc _ _ _
    rw [e]
    exact .more c k hk ih
theorem Pw.le {m k : Nat} {f : Nat → Int} (h : Pw m f) (l : m ≤ k) : Pw k f := by
  induction h with
  | nil => exact .nil
  | more c j hj _ ih => exact .more c j (by omega) ih
theorem Pw.times {m : Nat} {f : Nat → Int} (h : Pw m f) : Pw (m + 1) (fun i => (i : Int) * f i) := by
  induction h with
  | nil =>
    have e : (fun i : Nat => (i : Int) * 0) = fun _ => (0 : Int) := funext fun i => Int.mul_zero _
    rw [e]
    exact .nil
  | @more f c k hk _ ih =>
    have e : (fun i : Nat => (i : Int) * (c * (i : Int) ^ k + f i)) = fun i : Nat => c * (i : Int) ^ (k + 1) + (i : Int) * f i := funext fun i => by
      rw [Int.mul_add, Int.pow_succ, ← Int.mul_assoc, Int.mul_comm (i : Int) c, Int.mul_assoc, Int.mul_comm (i : Int) ((i : Int) ^ k)]
    rw [e]
    exact .more c (k + 1) (by omega) ih
theorem Pw.at {m n : Nat} {s f : Nat → Int} (h : Pw m f) (z : Mz n s m) : sumTo n (fun i => s i * f i) = 0 := by
  induction h with
  | nil => exact sumTo_zero fun i _ => Int.mul_zero _
  | @more f c k hk _ ih =>
    have e : (fun i : Nat => s i * (c * (i : Int) ^ k + f i)) = fun i => c * (s i * (i : Int) ^ k) + s i * f i := funext fun i => by
      rw [Int.mul_add, ← Int.mul_assoc, Int.mul_comm (s i) c, Int.mul_assoc]
    rw [e, sumTo_add, sumTo_mul, z k hk, ih, Int.mul_zero]
    rfl
/-- the difference of a power -/
theorem pow_step (k : Nat) : ∃ r, Pw k r ∧ ∀ i : Nat, ((i : Int) + 1) ^ (k + 1) = (i : Int) ^ (k + 1) + ((k : Int) + 1) * (i : Int) ^ k + r i := by
  induction k with
  | zero => exact ⟨_, .nil, fun i => by simp [Int.pow_succ, Int.pow_zero]⟩
  | succ k ih =>
    obtain ⟨r, hr, h⟩ := ih
    refine ⟨fun i => ((k : Int) + 1) * (i : Int) ^ k + ((i : Int) * r i + r i), .more _ k (by omega) (Pw.add hr.times (hr.le (by omega))), fun i => ?_⟩
    have e1 : (i : Int) ^ (k + 1 + 1) = (i : Int) ^ (k + 1) * (i : Int) := Int.pow_succ _ _
    have e2 : (i : Int) ^ (k + 1) = (i : Int) ^ k * (i : Int) := Int.pow_succ _ _
    show _ = (i : Int) ^ (k + 1 + 1) + (((k + 1 : Nat) : Int) + 1) * (i : Int) ^ (k + 1) + (((k : Int) + 1) * (i : Int) ^ k + ((i : Int) * r i + r i))
    rw [Int.pow_succ, h i, e1, e2, Int.mul_add, Int.add_mul, Int.add_mul, Int.mul_one, Int.natCast_succ]
    generalize (i : Int) ^ k = p
    generalize (i : Int) = x
    generalize r i = q
    generalize (k : Int) = c
    have a1 : (c + 1) * p * x = (c + 1) * (p * x) := Int.mul_assoc _ _ _
    have a2 : (c + 1 + 1) * (p * x) = (c + 1) * (p * x) + p * x := by rw [Int.add_mul (c + 1) 1, Int.one_mul]
    rw [a1, a2, Int.mul_comm x q]
    generalize (c + 1) * (p * x) = u
    generalize (c + 1) * p = v
    omega
theorem Mz.sums {n m : Nat} {s : Nat → Int} (h : Mz n s (m + 1)) : Mz n (Su s) m := by
  have h0 : sumTo n s = 0 := by
    rw [← h 0 (by omega)]
    exact sumTo_ext fun i _ => by rw [Int.pow_zero, Int.mul_one]
  intro k
  refine Nat.strongRecOn k ?_
  intro k ih hk
  obtain ⟨r, hr, e⟩ := pow_step k
  have z := parts0 h0 (fun i : Nat => (i : Int) ^ (k + 1))
  rw [h (k + 1) (by omega)] at z
  have e2 : (fun i => Su s i * Df (fun i : Nat => (i : Int) ^ (k + 1)) i) = fun i => ((k : Int) + 1) * (Su s i * (i : Int) ^ k) + Su s i * r i := funext fun i => by
    show Su s i * (((i + 1 : Nat) : Int) ^ (k + 1) - (i : Int) ^ (k + 1)) = _
    rw [Int.natCast_succ, e i]
    have e3 : (i : Int) ^ (k + 1) + ((k : Int) + 1) * (i : Int) ^ k + r i - (i : Int) ^ (k + 1) = ((k : Int) + 1) * (i : Int) ^ k + r i := by omega
    rw [e3, Int.mul_add, ← Int.mul_assoc, Int.mul_comm (Su s i) ((k : Int) + 1), Int.mul_assoc]
  rw [e2, sumTo_add, sumTo_mul, hr.at fun j hj => ih j hj (by omega)] at z
  have z2 : ((k : Int) + 1) * sumTo n (fun i => Su s i * (i : Int) ^ k) = 0 := by omega
  rcases Int.mul_eq_zero.mp z2 with q | q
  · omega
  · exact q
theorem Mz.last {m : Nat} : ∀ {n : Nat} {s : Nat → Int}, Mz n s m → Lz n s m := by
  induction m with
  | zero => exact fun _ k hk => absurd hk (Nat.not_lt_zero k)
  | succ m ih =>
    intro n s h
    refine .mk ?_ (ih h.sums)
    rw [← h 0 (by omega)]
    exact sumTo_ext fun i _ => by rw [Int.pow_zero, Int.mul_one]
theorem lz_iff {n m : Nat} {s : Nat → Int} : Lz n s m ↔ Mz n s m := ⟨Lz.moments, Mz.last⟩
/-- numbers gone on smoothly -/
theorem smooth_on : ∀ (n : Nat) (l : List Int), l.length = n → ∃ f, Sm n f ∧ ∀ i, i < n → l[i]? = some (f i)
  | 0, _, _ => ⟨fun _ => 0, fun _ => rfl, fun i h => absurd h (Nat.not_lt_zero i)⟩
  | n + 1, l, hl => by
    obtain ⟨g, hg, h⟩ := smooth_on n (diffs l) (by rw [diffs_len]; omega)
    refine ⟨fun i => l.getD 0 0 + sumTo i g, .step ?_, ?_⟩
    · have e : Df (fun i => l.getD 0 0 + sumTo i g) = g := funext fun i => by
        show l.getD 0 0 + (sumTo i g + g i) - (l.getD 0 0 + sumTo i g) = g i
        omega
      rw [e]
      exact hg
    · intro i hi
      induction i with
      | zero =>
        rw [List.getElem?_eq_getElem (by omega)]
        show some _ = some (l.getD 0 0 + 0)
        rw [List.getD_eq_getElem?_getD, List.getElem?_eq_getElem (by omega), Int.add_zero]
        rfl
      | succ i ih =>
        have a := ih (by omega)
        have b := h i (by omega)
        have c := List.getElem?_eq_getElem (l := l) (i := i + 1) (by omega)
        rw [diffs_at l i _ _ a c] at b
        have b2 : l[i + 1] - (l.getD 0 0 + sumTo i g) = g i := Option.some.inj b
        rw [c]
        show some _ = some (l.getD 0 0 + (sumTo i g + g i))
        congr 1
        omega
theorem sq_sum {n : Nat} {f : Nat → Int} (h : sumTo n (fun i => f i * f i) = 0) : ∀ i, i < n → f i = 0 := by
  have pos : ∀ n, 0 ≤ sumTo n (fun i => f i * f i) := fun n => by
    induction n with
    | zero => exact Int.le_refl 0
    | succ n ih =>
      have q : 0 ≤ f n * f n := by
        rcases Int.le_total 0 (f n) with c | c
        · exact Int.mul_nonneg c c
        · exact Int.mul_nonneg_of_nonpos_of_nonpos c c
      show 0 ≤ sumTo n (fun i => f i * f i) + f n * f n
      omega
  induction n with
  | zero => exact fun i hi => absurd hi (Nat.not_lt_zero i)
  | succ n ih =>
    have q : 0 ≤ f n * f n := by
      rcases Int.le_total 0 (f n) with c | c
      · exact Int.mul_nonneg c c
      · exact Int.mul_nonneg_of_nonpos_of_nonpos c c
    have z : sumTo n (fun i => f i * f i) + f n * f n = 0 := h
    have p := pos n
    intro i hi
    by_cases c : i = n
    · rw [c]
      rcases Int.mul_eq_zero.mp (show f n * f n = 0 by omega) with e | e <;> exact e
    · exact ih (by omega) i (by omega)
/-- as many last sums as places are nought of nothing but noughts -/
theorem Lz.none {n : Nat} {s : Nat → Int} (h : Lz n s n) : ∀ i, i < n → s i = 0 := by
  obtain ⟨f, hf, e⟩ := smooth_on n (line s n) (line_len s n)
  have e2 : ∀ i, i < n → f i = s i := fun i hi => by
    have a := e i hi
    rw [line_at hi] at a
    exact (Option.some.inj a).symm
  have z := h.smooth hf
  rw [sumTo_ext (g := fun i => s i * s i) fun i hi => by rw [e2 i hi]] at z
  exact sq_sum z
end Ly
namespace Ly
open PySem L2
/-- the signs of two hands, place by place -/
def sg (row : List Int) (a b : Int) : Nat → Int := fun i => signOf (row.getD i 0) a b
theorem signsOf_line (row : List Int) (a b : Int) : signsOf row a b = line (sg row a b) row.length := by
  refine line_ext (signsOf_len row a b) fun i hi => ?_
  rw [signsOf, List.getElem?_map, List.getElem?_eq_getElem hi]
  show some (signOf row[i] a b) = some (signOf (row.getD i 0) a b)
  rw [List.getD_eq_getElem?_getD, List.getElem?_eq_getElem hi]
  rfl
/-- each two of the hands are even: the last sums of the orders from 1 to m are nought -/
def REv (hands : Int) (row : List Int) (m : Nat) : Prop := ∀ a b : Nat, a < b → (b : Int) < hands → Lz row.length (sg row a b) m
/-- what a hand has of the k-th powers of its places -/
def mom (row : List Int) (h : Int) (k : Nat) : Int := sumTo row.length fun i => if row.getD i 0 = h then (i : Int) ^ k else 0
theorem sg_mom (row : List Int) {a b : Int} (hab : a ≠ b) (k : Nat) : sumTo row.length (fun i => sg row a b i * (i : Int) ^ k) = mom row a k - mom row b k := by
  rw [mom, mom, ← sumTo_sub]
  refine sumTo_ext fun i _ => ?_
  unfold sg signOf
  by_cases h1 : row.getD i 0 = a
  · rw [if_pos h1, if_pos h1, if_neg (fun z => hab (h1.symm.trans z)), Int.one_mul, Int.sub_zero]
  · by_cases h2 : row.getD i 0 = b
    · rw [if_neg h1, if_pos h2, if_neg h1, if_pos h2, Int.neg_mul, Int.one_mul, Int.zero_sub]
    · rw [if_neg h1, if_neg h2, if_neg h1, if_neg h2, Int.zero_mul]
      rfl
theorem rev_mom {hands : Int} (hh : 0 < hands) {row : List Int} {m : Nat} : REv hands row m ↔ ∀ h : Nat, (h : Int) < hands → ∀ k, k < m → mom row h k = mom row 0 k := by
  have key : ∀ a b : Nat, a < b → (Lz row.length (sg row a b) m ↔ ∀ k, k < m → mom row a k = mom row b k) := fun a b hab => by
    rw [lz_iff]
    have ne : (a : Int) ≠ (b : Int) := by omega
    constructor
    · intro h k hk
      have := h k hk
      rw [sg_mom row ne] at this
      omega
    · intro h k hk
      show sumTo row.length (fun i => sg row a b i * (i : Int) ^ k) = 0
      rw [sg_mom row ne, h k hk]
      omega
  constructor
  · intro h x hx k hk
    cases x with
    | zero => rfl
    | succ x =>
      have := (key 0 (x + 1) (by omega)).mp (h 0 (x + 1) (by omega) hx) k hk
      exact this.symm
  · intro h a b hab hb
    exact (key a b hab).mpr fun k hk => by rw [h a (by omega) k hk, h b hb k hk]
/-- no row of hands is even to a degree as great as places -/
theorem rev_ends {hands : Int} {row : List Int} (ok : RowOk hands row) : ¬ REv hands row row.length := by
  obtain ⟨h1, _, h3, _, h5⟩ := ok
  intro h
  cases row with
  | nil => exact h3 rfl
  | cons t r =>
    obtain ⟨t0, t1⟩ := h5 t List.mem_cons_self
    have s1 : ∀ a b : Nat, a < b → (b : Int) < hands → sg (t :: r) a b 0 = 0 := fun a b hab hb => (h a b hab hb).none 0 (by rw [List.length_cons]; omega)
    have e : ∀ a b : Nat, sg (t :: r) a b 0 = signOf t a b := fun a b => rfl
    by_cases c : t = 0
    · have := s1 0 1 (by omega) (by omega)
      rw [e, signOf, if_pos (show t = ((0 : Nat) : Int) from c)] at this
      cases this
    · have := s1 0 t.toNat (by omega) (by omega)
      rw [e, signOf, if_neg (show ¬ t = ((0 : Nat) : Int) from c), if_pos (Int.toNat_of_nonneg t0).symm] at this
      cases this
theorem REv.le {hands : Int} {row : List Int} {m k : Nat} (h : REv hands row m) (l : k ≤ m) : REv hands row k := fun a b hab hb j hj => h a b hab hb j (by omega)
/-- the evenness: to just one degree it is the first that fails -/
theorem evn_one {p : Nat → Prop} {d e : Nat} (h1 : ∀ j, j < d → p j) (h2 : ¬ p d) (h3 : ∀ j, j < e → p j) (h4 : ¬ p e) : d = e := by
  rcases Nat.lt_trichotomy d e with c | c | c
  · exact absurd (h3 d c) h2
  · exact c
  · exact absurd (h1 e c) h4
theorem cut_to (xs : List V) (j : Nat) : cutV xs none (some (j : Int)) = xs.take j := by
  unfold cutV
  rw [show HT.sIx xs.length xs.length (some (j : Int)) = min j xs.length from HT.sIx_nat xs.length xs.length j, HT.sIx_none, List.drop_zero, Nat.sub_zero]
  by_cases c : j ≤ xs.length
  · rw [Nat.min_eq_left c]
  · rw [Nat.min_eq_right (by omega), List.take_length, List.take_of_length_le (by omega)]
theorem at_end {l : List Int} {n : Nat} {z : Int} (hl : l.length = n + 1) (h : l[n]? = some z) : atI (l.map V.int) (-1) = some (.int z) := by
  unfold atI ixN
  rw [if_neg (by decide), List.length_map, hl, if_pos (by omega)]
  show (l.map V.int)[((-1 : Int) + ((n + 1 : Nat) : Int)).toNat]? = _
  rw [show ((-1 : Int) + ((n + 1 : Nat) : Int)).toNat = n by omega, List.getElem?_map, h]
  rfl
/-- a pair of hands at x -/
def PrAt (H : Hp) (x : V) (a b : Nat) : Prop := ∃ u, x = .ref u ∧ H u = some (.tup [.int (a : Int), .int (b : Int)])
/-- the pairs whose first is below i -/
def Prs (i m : Nat) (rs : List V) (H : Hp) : Prop := (∀ x ∈ rs, ∃ a b, a < b ∧ b < m ∧ a < i ∧ PrAt H x a b) ∧ ∀ a b, a < b → b < m → a < i → ∃ x ∈ rs, PrAt H x a b
theorem PrAt.keep {H H' : Hp} {x : V} {a b : Nat} (h : PrAt H x a b) (k : ∀ u xs, H u = some (.tup xs) → H' u = some (.tup xs)) : PrAt H' x a b := by
  obtain ⟨u, e, r⟩ := h
  exact ⟨u, e, k _ _ r⟩
theorem Prs.keep {H H' : Hp} {i m : Nat} {rs : List V} (h : Prs i m rs H) (k : ∀ u xs, H u = some (.tup xs) → H' u = some (.tup xs)) : Prs i m rs H' := by
  refine ⟨fun x hx => ?_, fun a b h1 h2 h3 => ?_⟩
  · obtain ⟨a, b, h1, h2, h3, p⟩ := h.1 x hx
    exact ⟨a, b, h1, h2, h3, p.keep k⟩
  · obtain ⟨x, hx, p⟩ := h.2 a b h1 h2 h3
    exact ⟨x, hx, p.keep k⟩
theorem Prs.next {H : Hp} {i m : Nat} {rs ys : List V} (h : Prs i m rs H) (ly : ys.length = m - (i + 1)) (k : ∀ j, j < m - (i + 1) → ∃ x, ys[j]? = some x ∧ PrAt H x i (i + 1 + j)) : Prs (i + 1) m (rs ++ ys) H := by
  refine ⟨fun x hx => ?_, fun a b h1 h2 h3 => ?_⟩
  · rcases List.mem_append.mp hx with g | g
    · obtain ⟨a, b, h1, h2, h3, p⟩ := h.1 x g
      exact ⟨a, b, h1, h2, by omega, p⟩
    · obtain ⟨j, hj, e⟩ := List.mem_iff_getElem.mp g
      obtain ⟨y, e2, p⟩ := k j (by omega)
      rw [List.getElem?_eq_getElem hj, e] at e2
      rw [← Option.some.inj e2] at p
      exact ⟨i, i + 1 + j, by omega, by omega, by omega, p⟩
  · by_cases c : a = i
    · obtain ⟨x, e, p⟩ := k (b - (i + 1)) (by omega)
      rw [show i + 1 + (b - (i + 1)) = b by omega, ← c] at p
      exact ⟨x, List.mem_append.mpr (.inr (List.mem_of_getElem? e)), p⟩
    · obtain ⟨x, hx, p⟩ := h.2 a b h1 h2 (by omega)
      exact ⟨x, List.mem_append.mpr (.inl hx), p⟩
end Ly

/-! one answer of a reading; all that answer themselves -/
local macro_rules | `(tactic| walk_at "ar") => `(tactic| first | decide | omega | (simp only [List.length_map, List.length_append, List.length_cons, List.length_nil] <;> omega))
local macro_rules | `(tactic| walk_at "rd1") => `(tactic| first
  | (refine ⟨_, rfl, ?_⟩)
  | (refine ⟨_, _, rfl, rfl, ?_⟩)
  | (refine ⟨_, _, rfl, .inl (by assumption), ?_⟩)
  | (refine ⟨_, _, rfl, .inr (by assumption), ?_⟩)
  | (refine ⟨_, _, _, _, rfl, rfl, (by assumption), Ly.at_intI (by walk_at "ar") (by walk_at "ar"), ?_⟩)
  | (refine ⟨_, _, (rfl : [L2.V.int _, L2.V.int _] = [L2.V.int _, L2.V.int _]), ?_⟩)
  | (refine And.intro rfl ?_)
  | (refine And.intro (by walk_at "ar") ?_)
  | (refine And.intro (And.intro (by walk_at "ar") (by walk_at "ar")) ?_)
  | (refine And.intro (Or.inr (And.intro (by decide) (by decide))) ?_)
  | (refine And.intro (Or.inl (And.intro (by decide) (by decide))) ?_))
local macro_rules | `(tactic| walk_at "rd") => `(tactic| repeat (walk_at "rd1"))

namespace Ev
open PySem PySem.Spec PyProof.Rows L2 RZ Ly
def topS (i : Nat) : Stmt := PySem.Challenge.pw_evenrows_k02_whole_smooth.main.body.getD i (.Pass ⟨0, 0, 0, 0⟩)
abbrev S__law_cell_at : Stmt := topS 18
theorem sc__law_cell_at : FnScope ["_law_script", "_law_k", "_law_spare", "_law_again"] ["_law_script", "_law_k"] (defScope S__law_cell_at) := ⟨rfl, rfl, rfl, by decide +kernel, rfl, by decide +kernel, by decide +kernel⟩
abbrev S__law_mixed : Stmt := topS 19
theorem sc__law_mixed : FnScope ["_law_script", "_law_k", "_law_reach", "_law_spun"] ["_law_script", "_law_k", "_law_reach"] (defScope S__law_mixed) := ⟨rfl, rfl, rfl, by decide +kernel, rfl, by decide +kernel, by decide +kernel⟩
abbrev S__law_draw : Stmt := topS 20
theorem sc__law_draw : FnScope ["_law_script", "_law_town", "_law_reach"] ["_law_script", "_law_town", "_law_reach"] (defScope S__law_draw) := ⟨rfl, rfl, rfl, by decide +kernel, rfl, by decide +kernel, by decide +kernel⟩
abbrev S__law_same_truth : Stmt := topS 21
theorem sc__law_same_truth : FnScope ["_law_got", "_law_due"] ["_law_got", "_law_due"] (defScope S__law_same_truth) := ⟨rfl, rfl, rfl, by decide +kernel, rfl, by decide +kernel, by decide +kernel⟩
abbrev S__law_power : Stmt := topS 23
theorem sc__law_power : FnScope ["_law_number", "_law_many", "_law_made", "_law_again"] ["_law_number", "_law_many"] (defScope S__law_power) := ⟨rfl, rfl, rfl, by decide +kernel, rfl, by decide +kernel, by decide +kernel⟩
abbrev S__law_smooth_worths : Stmt := topS 24
theorem sc__law_smooth_worths : FnScope ["_law_script", "_law_town", "_law_places", "_law_degree", "_law_parts", "_law_made", "_law_place", "_law_k", "_law_part"] ["_law_script", "_law_town", "_law_places", "_law_degree"] (defScope S__law_smooth_worths) := ⟨rfl, rfl, rfl, by decide +kernel, rfl, by decide +kernel, by decide +kernel⟩
abbrev S__law_steps_so : Stmt := topS 22
theorem sc__law_steps_so : FnScope ["_law_worths", "_law_times", "_law_made", "_law_again", "_law_at"] ["_law_worths", "_law_times"] (defScope S__law_steps_so) := ⟨rfl, rfl, rfl, by decide +kernel, rfl, by decide +kernel, by decide +kernel⟩
abbrev S_is_whole : Stmt := topS 8
theorem sc_is_whole : FnScope ["thing"] ["thing"] (defScope S_is_whole) := ⟨rfl, rfl, rfl, by decide +kernel, rfl, by decide +kernel, by decide +kernel⟩
abbrev S_is_from_to : Stmt := topS 9
theorem sc_is_from_to : FnScope ["thing", "least", "most"] ["thing", "least", "most"] (defScope S_is_from_to) := ⟨rfl, rfl, rfl, by decide +kernel, rfl, by decide +kernel, by decide +kernel⟩
abbrev S_check_order : Stmt := topS 11
theorem sc_check_order : FnScope ["order"] ["order"] (defScope S_check_order) := ⟨rfl, rfl, rfl, by decide +kernel, rfl, by decide +kernel, by decide +kernel⟩
abbrev S_check_worths : Stmt := topS 10
theorem sc_check_worths : FnScope ["worths", "worth"] ["worths"] (defScope S_check_worths) := ⟨rfl, rfl, rfl, by decide +kernel, rfl, by decide +kernel, by decide +kernel⟩
abbrev S_differences_of : Stmt := topS 16
theorem sc_differences_of : FnScope ["worths", "order", "line", "_", "before", "after"] ["worths", "order"] (defScope S_differences_of) := ⟨rfl, rfl, rfl, by decide +kernel, rfl, by decide +kernel, by decide +kernel⟩
abbrev S_differences : Stmt := topS 14
theorem sc_differences : FnScope ["worths", "order"] ["worths", "order"] (defScope S_differences) := ⟨rfl, rfl, rfl, by decide +kernel, rfl, by decide +kernel, by decide +kernel⟩
abbrev S_check_degree : Stmt := topS 12
theorem sc_check_degree : FnScope ["degree", "most"] ["degree", "most"] (defScope S_check_degree) := ⟨rfl, rfl, rfl, by decide +kernel, rfl, by decide +kernel, by decide +kernel⟩
abbrev S_is_smooth : Stmt := topS 15
theorem sc_is_smooth : FnScope ["worths", "degree", "gap"] ["worths", "degree"] (defScope S_is_smooth) := ⟨rfl, rfl, rfl, by decide +kernel, rfl, by decide +kernel, by decide +kernel⟩
abbrev S_law : Stmt := topS 25
theorem sc_law : FnScope ["_law_script", "_law_town", "_law_places", "_law_degree", "_law_worths", "_law_bent", "_law_some", "_law_times", "_law_due", "_law_zero", "_law_one"] ["_law_script"] (defScope S_law) := ⟨rfl, rfl, rfl, by decide +kernel, rfl, by decide +kernel, by decide +kernel⟩
/-- what the top has left, by names -/
structure Txt (K : PySem.W.Frag) (mg : Str → Option Value) : Prop where
  f__law_cell_at : At K mg "_law_cell_at" S__law_cell_at []
  f__law_mixed : At K mg "_law_mixed" S__law_mixed []
  f__law_draw : At K mg "_law_draw" S__law_draw []
  f__law_same_truth : At K mg "_law_same_truth" S__law_same_truth []
  f__law_power : At K mg "_law_power" S__law_power []
  f__law_smooth_worths : At K mg "_law_smooth_worths" S__law_smooth_worths []
  f__law_steps_so : At K mg "_law_steps_so" S__law_steps_so []
  f_is_whole : At K mg "is_whole" S_is_whole []
  f_is_from_to : At K mg "is_from_to" S_is_from_to []
  f_check_order : At K mg "check_order" S_check_order []
  f_check_worths : At K mg "check_worths" S_check_worths []
  f_differences_of : At K mg "differences_of" S_differences_of []
  f_differences : At K mg "differences" S_differences [("order", .int 1)]
  f_check_degree : At K mg "check_degree" S_check_degree [("most", .int 9)]
  f_is_smooth : At K mg "is_smooth" S_is_smooth []
  b_all : mg "all" = none
  b_bool : mg "bool" = none
  b_enumerate : mg "enumerate" = none
  b_int : mg "int" = none
  b_isinstance : mg "isinstance" = none
  b_len : mg "len" = none
  b_list : mg "list" = none
  b_min : mg "min" = none
  b_range : mg "range" = none
  b_sum : mg "sum" = none
  b_tuple : mg "tuple" = none
  b_zip : mg "zip" = none
  k_MOST_ORDER : ∃ t, mg "MOST_ORDER" = some (.int (9) t)
section
variable {P : Program} {w : World} {K : PySem.W.Frag} {mg : Str → Option Value} {base : Heap}

/-! _law_cell_at -/
/-- some whole number -/
def sp__law_cell_at (K : PySem.W.Frag) : Sp := fun vs H Q _ => ∃ (a : Addr) (ns : List Int) (k : Nat), vs = [.ref a, .int (k : Int)] ∧ SqL K H a (ns.map V.int) ∧ ns.length ≤ 63 ∧ ∀ (z : Int) (H' : Hp), Same H H' → Q (.int z) H'
theorem c__law_cell_at (T : Txt K mg) : Cal P w K mg base 1 "_law_cell_at" ["_law_script", "_law_k"] (sp__law_cell_at K) := by
  refine T.f__law_cell_at.cal sc__law_cell_at (fun _ _ _ _ _ _ us hl => match us, hl with | [_, _], _ => rfl) (fun vs H Q E h => by first | (obtain ⟨_, rfl, _⟩ := h; rfl) | (obtain ⟨_, _, rfl, _⟩ := h; rfl) | (obtain ⟨_, _, _, rfl, _⟩ := h; rfl) | (obtain ⟨_, _, _, _, rfl, _⟩ := h; rfl) | (obtain ⟨_, _, _, _, _, rfl, _⟩ := h; rfl) | (obtain ⟨_, _, _, _, _, _, rfl, _⟩ := h; rfl) | (obtain ⟨_, _, _, _, _, _, _, rfl, _⟩ := h; rfl) | (obtain ⟨_, _, _, _, _, _, _, _, rfl, _⟩ := h; rfl) | (obtain ⟨_, _, _, _, _, _, _, _, _, rfl, _⟩ := h; rfl) | (obtain ⟨_, _, _, _, _, _, _, _, _, _, rfl, _⟩ := h; rfl) | (obtain ⟨_, _, _, _, _, _, _, _, _, _, _, rfl, _⟩ := h; rfl) | (obtain ⟨_, _, _, _, _, _, _, _, _, _, _, _, rfl, _⟩ := h; rfl) | (obtain ⟨_, _, _, _, _, _, _, _, _, _, _, _, _, rfl, _⟩ := h; rfl)) (fun cdv A outer s H vs Q E f hr h => ?_)
  obtain ⟨a, ns, k, rfl, hS, hl, q⟩ := h
  refine ⟨_, (pss_cons (ps_if (pt_cmpR op_lt (pv 1) (pe_callB (kz_len (K := K)) (by rfl) T.b_len bt_len (pa_cons (pv 0) pa_nil)) (nomark _)) (pss_one (ps_ret (pe_ix (kz_ixL (K := K)) (pv 0) (pv 1) (fun _ _ => rfl)))) pss_nil)
    (pss_cons (ps_if (pt_cmpR (kz_eqD (K := K) hr.units) (pv 0) (pe_lst pa_nil) (nomark _)) (pss_one (ps_ret pe_int)) pss_nil)
    (pss_cons (ps_set (i := 2) sc__law_cell_at.nd rfl (.inl rfl) (pe_ix (kz_ixL (K := K)) (pv 0) (pe_op op_mod (pv 1) (pe_callB (kz_len (K := K)) (by rfl) T.b_len bt_len (pa_cons (pv 0) pa_nil))) (fun _ _ => rfl)))
    (pss_cons (ps_for PassesOwn.never rfl (pi_range1 (by rfl) T.b_range (pa_cons (pe_callB (call_min2 rfl) (by rfl) T.b_min bt_min (pa_cons (pe_op op_fdiv (pv 1) (pe_callB (kz_len (K := K)) (by rfl) T.b_len bt_len (pa_cons (pv 0) pa_nil))) (pa_cons pe_int pa_nil))) pa_nil)) (pg_name (i := 3) sc__law_cell_at.nd rfl (.inl rfl)) (pss_one (ps_set (i := 2) sc__law_cell_at.nd rfl (.inl rfl) (pe_op op_fdiv (pv 2) pe_int))))
    (pss_one (ps_ret (pe_op op_add (pe_op op_add (pe_op op_mul (pe_ix (kz_ixL (K := K)) (pv 0) (pe_op op_mod (pv 1) (pe_callB (kz_len (K := K)) (by rfl) T.b_len bt_len (pa_cons (pv 0) pa_nil))) (fun _ _ => rfl)) pe_int) (pv 1)) (pe_op op_mul (pv 2) pe_int)))))))), ?_⟩
  walk_at "rd"
  refine ite2 (fun c => ?_) (fun c => ?_)
  · have hk : k < ns.length := by simpa using c
    walk_at "rd"
    exact q _ _ (L2.Same.refl H)
  · walk_at "rd"
    refine fun p np => eqL0 (seqL (same_new np) hS) upd_same ?_
    have sm : Same H (upd H p (.lst [])) := same_new np
    have hS2 := seqL sm hS
    walk_at "rd"
    refine ite2 (fun c => q _ _ sm) (fun c => ?_)
    have h0 : ns ≠ [] := fun z => c (decide_eq_true z)
    have h1 : 0 < ns.length := List.length_pos_iff.mpr h0
    have g : 0 ≤ (k : Int) % (ns.length : Int) ∧ (k : Int) % (ns.length : Int) < (ns.length : Int) := ⟨Int.emod_nonneg _ (by omega), Int.emod_lt_of_pos _ (by omega)⟩
    have g2 : 0 ≤ (k : Int) / (ns.length : Int) := Int.ediv_nonneg (by omega) (by omega)
    walk_at "rd"
    refine for_range (fun _ σ H' => ∃ (z : Int) (y : Option V), σ = [some (.ref a), some (.int (k : Int)), some (.int z), y] ∧ H' = upd H p (.lst [])) ⟨_, none, rfl, rfl⟩ ?_ ?_
    · rintro i σ H' _ ⟨z, y, rfl, rfl⟩
      exact ⟨_, rfl, _, _, rfl, rfl, ⟨by decide, by decide⟩, _, _, rfl, rfl⟩
    · rintro σ H' ⟨z, y, rfl, rfl⟩
      walk_at "rd"
      exact q _ _ sm

/-! _law_mixed -/
/-- a whole number from 0 to below the reach -/
def sp__law_mixed (K : PySem.W.Frag) : Sp := fun vs H Q _ => ∃ (a : Addr) (ns : List Int) (k : Nat) (r : Int), vs = [.ref a, .int (k : Int), .int r] ∧ SqL K H a (ns.map V.int) ∧ ns.length ≤ 63 ∧ 0 < r ∧
  ∀ (z : Int) (H' : Hp), 0 ≤ z → z < r → Same H H' → Q (.int z) H'
theorem c__law_mixed (T : Txt K mg) : Cal P w K mg base 2 "_law_mixed" ["_law_script", "_law_k", "_law_reach"] (sp__law_mixed K) := by
  refine T.f__law_mixed.cal sc__law_mixed (fun _ _ _ _ _ _ us hl => match us, hl with | [_, _, _], _ => rfl) (fun vs H Q E h => by first | (obtain ⟨_, rfl, _⟩ := h; rfl) | (obtain ⟨_, _, rfl, _⟩ := h; rfl) | (obtain ⟨_, _, _, rfl, _⟩ := h; rfl) | (obtain ⟨_, _, _, _, rfl, _⟩ := h; rfl) | (obtain ⟨_, _, _, _, _, rfl, _⟩ := h; rfl) | (obtain ⟨_, _, _, _, _, _, rfl, _⟩ := h; rfl) | (obtain ⟨_, _, _, _, _, _, _, rfl, _⟩ := h; rfl) | (obtain ⟨_, _, _, _, _, _, _, _, rfl, _⟩ := h; rfl) | (obtain ⟨_, _, _, _, _, _, _, _, _, rfl, _⟩ := h; rfl) | (obtain ⟨_, _, _, _, _, _, _, _, _, _, rfl, _⟩ := h; rfl) | (obtain ⟨_, _, _, _, _, _, _, _, _, _, _, rfl, _⟩ := h; rfl) | (obtain ⟨_, _, _, _, _, _, _, _, _, _, _, _, rfl, _⟩ := h; rfl) | (obtain ⟨_, _, _, _, _, _, _, _, _, _, _, _, _, rfl, _⟩ := h; rfl)) (fun cdv A outer s H vs Q E f hr h => ?_)
  obtain ⟨a, ns, k, r, rfl, hS, hl, hr0, q⟩ := h
  refine ⟨_, (pss_cons (ps_set (i := 3) sc__law_mixed.nd rfl (.inl rfl) (pe_op op_mod (pe_op op_add (pe_op op_add (pe_op op_mul (pe_cal (c__law_cell_at T) hr (by decide) (pa_cons (pv 0) (pa_cons (pv 1) pa_nil))) pe_int) (pe_op op_mul pe_int (pv 1))) pe_int) pe_int))
    (pss_one (ps_ret (pe_op op_mod (pe_op op_mod (pe_op op_mod (pe_op op_pow (pv 3) pe_int) pe_int) pe_int) (pv 2))))), ?_⟩
  walk_at "rd"
  refine ⟨a, ns, k, rfl, hS, hl, fun z H' sm => ?_⟩
  have g : ∀ x : Int, 0 ≤ x % 2147483647 ∧ x % 2147483647 < 2147483647 := fun x => ⟨Int.emod_nonneg _ (by decide), Int.emod_lt_of_pos _ (by decide)⟩
  have := g (z * 1103515245 + 7919 * (k : Int) + 12345)
  walk_at "rd"
  exact q _ _ (Int.emod_nonneg _ (by omega)) (Int.emod_lt_of_pos _ hr0) sm

/-! _law_draw -/
/-- the town grows by one; a whole number from 0 to below the reach -/
def sp__law_draw (K : PySem.W.Frag) : Sp := fun vs H Q _ => ∃ (a b : Addr) (ns : List Int) (n : Nat) (r : Int), vs = [.ref a, .ref b, .int r] ∧ Scr K H b a ns ∧ Town b n H ∧ n < 90000 ∧ 0 < r ∧
  ∀ (z : Int) (H' : Hp), 0 ≤ z → z < r → But b H H' → Town b (n + 1) H' → Q (.int z) H'
theorem c__law_draw (T : Txt K mg) : Cal P w K mg base 3 "_law_draw" ["_law_script", "_law_town", "_law_reach"] (sp__law_draw K) := by
  refine T.f__law_draw.cal sc__law_draw (fun _ _ _ _ _ _ us hl => match us, hl with | [_, _, _], _ => rfl) (fun vs H Q E h => by first | (obtain ⟨_, rfl, _⟩ := h; rfl) | (obtain ⟨_, _, rfl, _⟩ := h; rfl) | (obtain ⟨_, _, _, rfl, _⟩ := h; rfl) | (obtain ⟨_, _, _, _, rfl, _⟩ := h; rfl) | (obtain ⟨_, _, _, _, _, rfl, _⟩ := h; rfl) | (obtain ⟨_, _, _, _, _, _, rfl, _⟩ := h; rfl) | (obtain ⟨_, _, _, _, _, _, _, rfl, _⟩ := h; rfl) | (obtain ⟨_, _, _, _, _, _, _, _, rfl, _⟩ := h; rfl) | (obtain ⟨_, _, _, _, _, _, _, _, _, rfl, _⟩ := h; rfl) | (obtain ⟨_, _, _, _, _, _, _, _, _, _, rfl, _⟩ := h; rfl) | (obtain ⟨_, _, _, _, _, _, _, _, _, _, _, rfl, _⟩ := h; rfl) | (obtain ⟨_, _, _, _, _, _, _, _, _, _, _, _, rfl, _⟩ := h; rfl) | (obtain ⟨_, _, _, _, _, _, _, _, _, _, _, _, _, rfl, _⟩ := h; rfl)) (fun cdv A outer s H vs Q E f hr h => ?_)
  obtain ⟨a, b, ns, n, r, rfl, hS, ⟨xs, hb, hx⟩, hn, hr0, q⟩ := h
  refine ⟨_, (pss_cons (ps_expr (pe_bm PySem.F.plainAttrs_list PySem.F.slot_list_append PySem.F.type_list_append mt_append (pv 1) (pa_cons pe_int pa_nil)))
    (pss_one (ps_ret (pe_cal (c__law_mixed T) hr (by decide) (pa_cons (pv 0) (pa_cons (pe_callB (kz_len (K := K)) (by rfl) T.b_len bt_len (pa_cons (pv 1) pa_nil)) (pa_cons (pv 2) pa_nil))))))), ?_⟩
  refine ⟨_, rfl, .inl ⟨rfl, _, .inl (.inl hb)⟩, b, xs, _, rfl, rfl, hb, szl (by omega), ?_⟩
  have hS2 : Scr K (upd H b (.lst (xs ++ [V.int 0]))) b a ns := hS.but But.at
  refine ⟨_, rfl, _, rfl, _, _, rfl, .inl (.inl (.inl upd_same)), ?_⟩
  refine ⟨_, rfl, a, ns, (xs ++ [V.int 0]).length, r, rfl, hS2.sq, hS2.1, hr0, fun z H' z0 zr sm => q z H' z0 zr (But.at.same sm) ⟨_, sm _ _ upd_same, ?_⟩⟩
  rw [List.length_append]
  show xs.length + 1 ≤ n + 1
  omega

/-! _law_same_truth -/
def sp__law_same_truth (K : PySem.W.Frag) : Sp := fun vs H Q _ => ∃ a b : Bool, vs = [.bl a, .bl b] ∧ Q (.bl (decide (a = b))) H
theorem c__law_same_truth (T : Txt K mg) : Cal P w K mg base 1 "_law_same_truth" ["_law_got", "_law_due"] (sp__law_same_truth K) := by
  refine T.f__law_same_truth.cal sc__law_same_truth (fun _ _ _ _ _ _ us hl => match us, hl with | [_, _], _ => rfl) (fun vs H Q E h => by first | (obtain ⟨_, rfl, _⟩ := h; rfl) | (obtain ⟨_, _, rfl, _⟩ := h; rfl) | (obtain ⟨_, _, _, rfl, _⟩ := h; rfl) | (obtain ⟨_, _, _, _, rfl, _⟩ := h; rfl) | (obtain ⟨_, _, _, _, _, rfl, _⟩ := h; rfl) | (obtain ⟨_, _, _, _, _, _, rfl, _⟩ := h; rfl) | (obtain ⟨_, _, _, _, _, _, _, rfl, _⟩ := h; rfl) | (obtain ⟨_, _, _, _, _, _, _, _, rfl, _⟩ := h; rfl) | (obtain ⟨_, _, _, _, _, _, _, _, _, rfl, _⟩ := h; rfl) | (obtain ⟨_, _, _, _, _, _, _, _, _, _, rfl, _⟩ := h; rfl) | (obtain ⟨_, _, _, _, _, _, _, _, _, _, _, rfl, _⟩ := h; rfl) | (obtain ⟨_, _, _, _, _, _, _, _, _, _, _, _, rfl, _⟩ := h; rfl) | (obtain ⟨_, _, _, _, _, _, _, _, _, _, _, _, _, rfl, _⟩ := h; rfl)) (fun cdv A outer s H vs Q E f hr h => ?_)
  obtain ⟨a, b, rfl, q⟩ := h
  refine ⟨_, (pss_one (ps_ret (pe_and (pe_callB (kz_isi (K := K)) (by rfl) T.b_isinstance bt_isinstance (pa_cons (pv 0) (pa_cons (pe_ty (by rfl) T.b_bool bt_bool) pa_nil))) (pe_one (pe_cmpR op_eq (pv 0) (pv 1) (nomark _)))))), ?_⟩
  walk_at "rd"
  refine ⟨_, _, _, _, _, rfl, .ty _, .base (.bl a), kit_ty kit_bool_bool, _, rfl, iteT ?_⟩
  walk_at "rd"
  have e : decide (V.bl a = V.bl b) = decide (a = b) := by
    by_cases c : a = b
    · rw [c, decide_eq_true rfl, decide_eq_true rfl]
    · rw [decide_eq_false c, decide_eq_false (fun w => c (V.bl.inj w))]
  rw [e]
  exact q

/-! _law_power -/
def sp__law_power (K : PySem.W.Frag) : Sp := fun vs H Q _ => ∃ (a : Int) (k : Nat), vs = [.int a, .int (k : Int)] ∧ (-(2 ^ 64) < a ∧ a < 2 ^ 64) ∧ k < 1000000 ∧ Q (.int (a ^ k)) H
theorem c__law_power (T : Txt K mg) : Cal P w K mg base 1 "_law_power" ["_law_number", "_law_many"] (sp__law_power K) := by
  refine T.f__law_power.cal sc__law_power (fun _ _ _ _ _ _ us hl => match us, hl with | [_, _], _ => rfl) (fun vs H Q E h => by first | (obtain ⟨_, rfl, _⟩ := h; rfl) | (obtain ⟨_, _, rfl, _⟩ := h; rfl) | (obtain ⟨_, _, _, rfl, _⟩ := h; rfl) | (obtain ⟨_, _, _, _, rfl, _⟩ := h; rfl) | (obtain ⟨_, _, _, _, _, rfl, _⟩ := h; rfl) | (obtain ⟨_, _, _, _, _, _, rfl, _⟩ := h; rfl) | (obtain ⟨_, _, _, _, _, _, _, rfl, _⟩ := h; rfl) | (obtain ⟨_, _, _, _, _, _, _, _, rfl, _⟩ := h; rfl) | (obtain ⟨_, _, _, _, _, _, _, _, _, rfl, _⟩ := h; rfl) | (obtain ⟨_, _, _, _, _, _, _, _, _, _, rfl, _⟩ := h; rfl) | (obtain ⟨_, _, _, _, _, _, _, _, _, _, _, rfl, _⟩ := h; rfl) | (obtain ⟨_, _, _, _, _, _, _, _, _, _, _, _, rfl, _⟩ := h; rfl) | (obtain ⟨_, _, _, _, _, _, _, _, _, _, _, _, _, rfl, _⟩ := h; rfl)) (fun cdv A outer s H vs Q E f hr h => ?_)
  obtain ⟨a, k, rfl, ha, hk, q⟩ := h
  refine ⟨_, (pss_cons (ps_set (i := 2) sc__law_power.nd rfl (.inl rfl) pe_int)
    (pss_cons (ps_for PassesOwn.never rfl (pi_range1 (by rfl) T.b_range (pa_cons (pv 1) pa_nil)) (pg_name (i := 3) sc__law_power.nd rfl (.inl rfl)) (pss_one (ps_set (i := 2) sc__law_power.nd rfl (.inl rfl) (pe_op op_mul (pv 2) (pv 0)))))
    (pss_one (ps_ret (pv 2))))), ?_⟩
  walk_at "rd"
  refine for_range (fun i σ H2 => ∃ y3 : Option V, σ = [some (.int a), some (.int (k : Int)), some (.int (a ^ i)), y3] ∧ H2 = H) ⟨none, by rw [Int.pow_zero]; rfl, rfl⟩ ?_ ?_
  · rintro i σ H2 hi ⟨y3, rfl, rfl⟩
    refine ⟨_, rfl, _, rfl, _, _, rfl, rfl, .inr ha, some (.int (0 + (i : Int))), ?_, rfl⟩
    rw [Int.pow_succ]
    rfl
  · rintro σ H2 ⟨y3, rfl, rfl⟩
    exact ⟨_, rfl, q⟩

/-! _law_smooth_worths -/
def sp__law_smooth_worths (K : PySem.W.Frag) : Sp := fun vs H Q _ => ∃ (a b : Addr) (ns : List Int) (n : Nat) (m : Nat) (d : Nat), vs = [.ref a, .ref b, .int (m : Int), .int (d : Int)] ∧ Scr K H b a ns ∧ Town b n H ∧ n < 80000 ∧ 0 < m ∧ m ≤ 1000 ∧ d ≤ 20 ∧
  ∀ (p : Addr) (cs : List Int) (H' : Hp), cs.length = d + 1 → p ≠ b → H p = none → H' p = some (.tup ((line (poly cs) m).map V.int)) → But b H H' → Town b (n + 21) H' → Q (.ref p) H'
theorem c__law_smooth_worths (T : Txt K mg) : Cal P w K mg base 4 "_law_smooth_worths" ["_law_script", "_law_town", "_law_places", "_law_degree"] (sp__law_smooth_worths K) := by
  refine T.f__law_smooth_worths.cal sc__law_smooth_worths (fun _ _ _ _ _ _ us hl => match us, hl with | [_, _, _, _], _ => rfl) (fun vs H Q E h => by first | (obtain ⟨_, rfl, _⟩ := h; rfl) | (obtain ⟨_, _, rfl, _⟩ := h; rfl) | (obtain ⟨_, _, _, rfl, _⟩ := h; rfl) | (obtain ⟨_, _, _, _, rfl, _⟩ := h; rfl) | (obtain ⟨_, _, _, _, _, rfl, _⟩ := h; rfl) | (obtain ⟨_, _, _, _, _, _, rfl, _⟩ := h; rfl) | (obtain ⟨_, _, _, _, _, _, _, rfl, _⟩ := h; rfl) | (obtain ⟨_, _, _, _, _, _, _, _, rfl, _⟩ := h; rfl) | (obtain ⟨_, _, _, _, _, _, _, _, _, rfl, _⟩ := h; rfl) | (obtain ⟨_, _, _, _, _, _, _, _, _, _, rfl, _⟩ := h; rfl) | (obtain ⟨_, _, _, _, _, _, _, _, _, _, _, rfl, _⟩ := h; rfl) | (obtain ⟨_, _, _, _, _, _, _, _, _, _, _, _, rfl, _⟩ := h; rfl) | (obtain ⟨_, _, _, _, _, _, _, _, _, _, _, _, _, rfl, _⟩ := h; rfl)) (fun cdv A outer s H vs Q E f hr h => ?_)
  obtain ⟨a, b, ns, n, m, d, rfl, hS, hT, hn, hm0, hm, hd, q⟩ := h
  refine ⟨_, (pss_cons (ps_setLc (i := 4) (own := [("_law_k", 7)]) (g := (gName 7)) (tt := tYes) rfl sc__law_smooth_worths.nd rfl rfl (sw_true rfl rfl rfl (by decide +kernel)) (pi_range1 (by rfl) T.b_range (pa_cons (pe_op op_add (pv 3) pe_int) pa_nil)) (blkOk_by (own := [("_law_k", 7)]) (N := ["_law_script", "_law_town", "_law_places", "_law_degree", "_law_parts", "_law_made", "_law_place", "_law_k", "_law_part"]) (sc := defScope S__law_smooth_worths) (by decide +kernel)) (fun _ _ _ _ _ => (pg_name (i := 7) sc__law_smooth_worths.nd rfl (.inl rfl))) (fun _ _ _ _ _ => pts_nil) (fun _ _ _ _ _ => (pe_op op_sub (pe_cal (c__law_draw T) hr (by decide) (pa_cons (pv 0) (pa_cons (pv 1) (pa_cons pe_int pa_nil)))) pe_int)))
    (pss_cons (ps_set (i := 5) sc__law_smooth_worths.nd rfl (.inl rfl) (pe_lst pa_nil))
    (pss_cons (ps_for PassesOwn.never rfl (pi_range1 (by rfl) T.b_range (pa_cons (pv 2) pa_nil)) (pg_name (i := 6) sc__law_smooth_worths.nd rfl (.inr rfl)) (pss_one (ps_expr (pe_bm PySem.F.plainAttrs_list PySem.F.slot_list_append PySem.F.type_list_append mt_append (pv 5) (pa_cons (pe_callB (kz_sum (K := K) rfl) (by rfl) T.b_sum bt_sum (pa_cons (pe_lc (own := [("_law_k", 7), ("_law_part", 8)]) (g := (gTup K 2 (gCons (gName 7) (gCons (gName 8) gNil)))) (tt := tYes) rfl sc__law_smooth_worths.nd (kz_enum (K := K) (by rfl) T.b_enumerate (pa_cons (pv 4) pa_nil)) (blkOk_by (own := [("_law_k", 7), ("_law_part", 8)]) (N := ["_law_script", "_law_town", "_law_places", "_law_degree", "_law_parts", "_law_made", "_law_place", "_law_k", "_law_part"]) (sc := defScope S__law_smooth_worths) (by decide +kernel)) (fun _ _ _ _ _ => (kz_gtup (K := K) 2 rfl (pgs_cons (pg_name (i := 7) sc__law_smooth_worths.nd rfl (.inl rfl)) (pgs_cons (pg_name (i := 8) sc__law_smooth_worths.nd rfl (.inl rfl)) pgs_nil)))) (fun _ _ _ _ _ => pts_nil) (fun _ _ _ _ _ => (pe_op op_mul (pv 8) (pe_cal (c__law_power T) hr (by decide) (pa_cons (pv 6) (pa_cons (pv 7) pa_nil)))))) pa_nil)) pa_nil)))))
    (pss_one (ps_ret (pe_callTy (kz_tuple (K := K)) (by rfl) T.b_tuple bt_tuple (pa_cons (pv 5) pa_nil))))))), ?_⟩
  walk_at "rd"
  intro D nD
  refine lct walk_range (fun z => -9 ≤ z ∧ z ≤ 9) (c := 1) hT nD (by omega) (fun _ _ => trivial) ?_ ?_
  · rintro i x H2 H' R hi b2 t2 ⟨rfl, rfl⟩ k
    refine ⟨rfl, ?_⟩
    walk_at "rd"
    refine ⟨a, b, ns, n + 1 * i, 19, rfl, hS.but b2, t2, by omega, by omega, fun z H4 z0 zh b4 t4 => ?_⟩
    walk_at "rd"
    exact k (z - 9) H4 ⟨by omega, by omega⟩ b4 (t4.le (by omega))
  intro cs H2 lc hc b2 t2 hD
  have lc2 : cs.length = d + 1 := by omega
  have nDb : D ≠ b := hT.ne_new nD
  have nDH : H D = none := nD
  change tSeq _ _ _ [some (.ref a), some (.ref b), some (.int (m : Int)), some (.int (d : Int)), some (.ref D), none, none, none, none] H2
  walk_at "rd"
  intro M nM
  have sM := same_new (o := .lst []) nM
  have nMb : M ≠ b := t2.ne_new nM
  have nMH : H M = none := but_none b2 nMb nM
  have nMD : M ≠ D := fun e => by
    rw [e, hD] at nM
    cases nM
  walk_at "rd"
  refine for_range (fun i σ H3 => ∃ y6, σ = [some (.ref a), some (.ref b), some (.int (m : Int)), some (.int (d : Int)), some (.ref D), some (.ref M), y6, none, none] ∧ But b H H3 ∧ Town b (n + 21) H3 ∧ H3 D = some (.lst (cs.map V.int)) ∧ H3 M = some (.lst ((line (poly cs) i).map V.int)))
    ⟨none, rfl, b2.same sM, (t2.same sM).le (by omega), sM _ _ hD, upd_same⟩ ?_ ?_
  · rintro i σ H3 hi ⟨y6, rfl, b3, t3, hD3, hM3⟩
    refine ⟨_, rfl, .inl ⟨rfl, _, .inl (.inl hM3)⟩, ?_⟩
    refine ⟨_, rfl, D, _, rfl, .inl (.inl hD3), fun E nE => ?_⟩
    have zl : (cs.zipIdx.map fun p => V.int (p.1 * (i : Int) ^ p.2)).length = cs.length := by rw [List.length_map, List.length_zipIdx]
    refine lcp (walk_enum (xs := cs.map V.int)) nE (fun j => (cs.zipIdx.map fun p => V.int (p.1 * (i : Int) ^ p.2)).take j) rfl (fun j _ => ?_) (fun H4 s4 => .inl (.inl (s4 _ _ hD3))) ?_ ?_
    · rw [List.length_take, zl]
      omega
    · rintro j x H4 H5 R N hj s4 ⟨T1, v1, v2, rfl, nT, rfl, h1, h2⟩ k1 _
      cases h1
      obtain ⟨c, e2, rfl⟩ := map_at h2
      obtain ⟨c1, c2⟩ := hc c (List.mem_of_getElem? e2)
      refine ⟨T1, _, rfl, .inl (.inl upd_same), rfl, _, _, rfl, _, _, rfl, rfl, rfl, ?_⟩
      walk_at "rd"
      rw [List.length_map] at hj
      refine ⟨by omega, ?_⟩
      · refine ⟨_, _, rfl, rfl, .inl ⟨by omega, by omega⟩, k1 _ _ (same_new nT) ?_⟩
        rw [List.take_add_one, List.getElem?_map, List.getElem?_zipIdx, e2, Int.zero_add]
        simp
    · intro H4 s4 hE
      rw [List.take_of_length_le (by rw [zl, List.length_map]; exact Nat.le_refl _)] at hE
      refine ⟨E, cs.zipIdx.map fun p => p.1 * (i : Int) ^ p.2, rfl, ?_, M, _, _, rfl, rfl, s4 _ _ hM3, szl ?_, ?_⟩
      · rw [List.map_map]
        exact .inl (.inl hE)
      · rw [List.length_map, line_len]
        omega
      · have e : (line (poly cs) (i + 1)).map V.int = (line (poly cs) i).map V.int ++ [V.int ((cs.zipIdx.map fun p => p.1 * (i : Int) ^ p.2).sum)] := by
          rw [line, List.range_succ, List.map_append, List.map_append]
          rfl
        refine ⟨some (.int (0 + (i : Int))), rfl, fun c o nc hc => ?_, ?_, ?_, ?_⟩
        · rw [upd_ne (fun z => by rw [z, nMH] at hc; cases hc)]
          exact s4 _ _ (b3 _ _ nc hc)
        · obtain ⟨xs, hx, lx⟩ := t3
          exact ⟨xs, by rw [upd_ne (Ne.symm nMb)]; exact s4 _ _ hx, lx⟩
        · rw [upd_ne (Ne.symm nMD)]
          exact s4 _ _ hD3
        · rw [upd_same, e]
  · rintro σ H3 ⟨y6, rfl, b3, t3, hD3, hM3⟩
    refine ⟨_, rfl, M, _, rfl, .inl ⟨.inl (.inl hM3), fun p np => ?_⟩⟩
    have npb : p ≠ b := t3.ne_new np
    exact q p cs _ lc2 npb (but_none b3 npb np) upd_same (b3.same (same_new np)) (t3.same (same_new np))

/-! _law_steps_so -/
def sp__law_steps_so (K : PySem.W.Frag) : Sp := fun vs H Q _ => ∃ (r : Addr) (ws : List Int) (k : Nat), vs = [.ref r, .int (k : Int)] ∧ SqT K H r (ws.map V.int) ∧ ws.length ≤ 100000 ∧ k ≤ 1000 ∧
  ∀ (p : Addr) (H' : Hp), H p = none → Same H H' → H' p = some (.lst ((diffsN k ws).map V.int)) → Q (.ref p) H'
theorem c__law_steps_so (T : Txt K mg) : Cal P w K mg base 1 "_law_steps_so" ["_law_worths", "_law_times"] (sp__law_steps_so K) := by
  refine T.f__law_steps_so.cal sc__law_steps_so (fun _ _ _ _ _ _ us hl => match us, hl with | [_, _], _ => rfl) (fun vs H Q E h => by first | (obtain ⟨_, rfl, _⟩ := h; rfl) | (obtain ⟨_, _, rfl, _⟩ := h; rfl) | (obtain ⟨_, _, _, rfl, _⟩ := h; rfl) | (obtain ⟨_, _, _, _, rfl, _⟩ := h; rfl) | (obtain ⟨_, _, _, _, _, rfl, _⟩ := h; rfl) | (obtain ⟨_, _, _, _, _, _, rfl, _⟩ := h; rfl) | (obtain ⟨_, _, _, _, _, _, _, rfl, _⟩ := h; rfl) | (obtain ⟨_, _, _, _, _, _, _, _, rfl, _⟩ := h; rfl) | (obtain ⟨_, _, _, _, _, _, _, _, _, rfl, _⟩ := h; rfl) | (obtain ⟨_, _, _, _, _, _, _, _, _, _, rfl, _⟩ := h; rfl) | (obtain ⟨_, _, _, _, _, _, _, _, _, _, _, rfl, _⟩ := h; rfl) | (obtain ⟨_, _, _, _, _, _, _, _, _, _, _, _, rfl, _⟩ := h; rfl) | (obtain ⟨_, _, _, _, _, _, _, _, _, _, _, _, _, rfl, _⟩ := h; rfl)) (fun cdv A outer s H vs Q E f hr h => ?_)
  obtain ⟨r, ws, k, rfl, hS, hl, hk, q⟩ := h
  refine ⟨_, (pss_cons (ps_set (i := 2) sc__law_steps_so.nd rfl (.inr rfl) (pe_callTy (kz_list (K := K)) (by rfl) T.b_list bt_list (pa_cons (pv 0) pa_nil)))
    (pss_cons (ps_for PassesOwn.never rfl (pi_range1 (by rfl) T.b_range (pa_cons (pv 1) pa_nil)) (pg_name (i := 3) sc__law_steps_so.nd rfl (.inl rfl)) (pss_one (ps_set (i := 2) sc__law_steps_so.nd rfl (.inr rfl) (pe_lc (own := [("_law_at", 4)]) (g := (gName 4)) (tt := tYes) rfl sc__law_steps_so.nd (pi_range1 (by rfl) T.b_range (pa_cons (pe_op op_sub (pe_callB (kz_len (K := K)) (by rfl) T.b_len bt_len (pa_cons (pv 2) pa_nil)) pe_int) pa_nil)) (blkOk_by (own := [("_law_at", 4)]) (N := ["_law_worths", "_law_times", "_law_made", "_law_again", "_law_at"]) (sc := defScope S__law_steps_so) (by decide +kernel)) (fun _ _ _ _ _ => (pg_name (i := 4) sc__law_steps_so.nd rfl (.inl rfl))) (fun _ _ _ _ _ => pts_nil) (fun _ _ _ _ _ => (pe_op op_sub (pe_ix (kz_ixL (K := K)) (pv 2) (pe_op op_add (pv 4) pe_int) (fun _ _ => rfl)) (pe_ix (kz_ixL (K := K)) (pv 2) (pv 4) (fun _ _ => rfl))))))))
    (pss_one (ps_ret (pv 2))))), ?_⟩
  walk_at "rd"
  intro p0 n0
  walk_at "rd"
  refine for_range (fun i σ H2 => ∃ (y3 : Option V) (p : Addr), σ = [some (.ref r), some (.int (k : Int)), some (.ref p), y3, none] ∧ H p = none ∧ Same H H2 ∧ H2 p = some (.lst ((diffsN i ws).map V.int))) ⟨none, p0, rfl, n0, same_new n0, upd_same⟩ ?_ ?_
  · rintro i σ H2 hi ⟨y3, p, rfl, np, s2, hp⟩
    have dl := diffsN_len i ws
    have hp2 : SqL K H2 p ((diffsN i ws).map V.int) := .inl (.inl hp)
    walk_at "rd"
    intro D nD
    refine lcp walk_range nD (fun j => ((diffs (diffsN i ws)).map V.int).take j) rfl (fun j _ => ?_) (fun _ _ => trivial) ?_ ?_
    · rw [List.length_take, List.length_map, diffs_len]
      omega
    · rintro j x H4 H5 R N hj s4 ⟨rfl, rfl⟩ k1 _
      rw [List.length_map] at hj
      have l1 : j < (diffsN i ws).length := by omega
      have l2 : j + 1 < (diffsN i ws).length := by omega
      have e1 := List.getElem?_eq_getElem l1
      have e2 := List.getElem?_eq_getElem l2
      have hp4 := seqL s4 hp2
      refine ⟨rfl, _, rfl, _, rfl, _, _, rfl, rfl, _, _, _, _, rfl, rfl, hp4, at_intE (j := j + 1) (by show (0 + (j : Int) + 1) = _; omega) e2, ?_⟩
      refine ⟨_, rfl, _, rfl, _, _, _, _, rfl, rfl, hp4, at_intE (j := j) (by show (0 + (j : Int)) = _; omega) e1, ?_⟩
      refine ⟨_, _, rfl, rfl, k1 _ _ (L2.Same.refl _) ?_⟩
      rw [List.take_add_one, List.getElem?_map, diffs_at _ j _ _ e1 e2]
      rfl
    · intro H4 s4 hD
      refine ⟨some (.int (0 + (i : Int))), D, rfl, none_back s2 nD, s2.trans s4, ?_⟩
      rw [hD, List.take_of_length_le]
      · rfl
      · rw [List.length_map, List.length_map, diffs_len]
        omega
  · rintro σ H2 ⟨y3, p, rfl, np, s2, hp⟩
    walk_at "rd"
    refine q p H2 np s2 ?_
    rw [hp]
    rfl

/-! is_whole -/
def sp_is_whole (K : PySem.W.Frag) : Sp := fun vs H Q _ => ∃ (v : V) (b : Bool), vs = [v] ∧ Wh K H v b ∧ Q (.bl b) H
theorem c_is_whole (T : Txt K mg) : Cal P w K mg base 1 "is_whole" ["thing"] (sp_is_whole K) := by
  refine T.f_is_whole.cal sc_is_whole (fun _ _ _ _ _ _ us hl => match us, hl with | [_], _ => rfl) (fun vs H Q E h => by first | (obtain ⟨_, rfl, _⟩ := h; rfl) | (obtain ⟨_, _, rfl, _⟩ := h; rfl) | (obtain ⟨_, _, _, rfl, _⟩ := h; rfl) | (obtain ⟨_, _, _, _, rfl, _⟩ := h; rfl) | (obtain ⟨_, _, _, _, _, rfl, _⟩ := h; rfl) | (obtain ⟨_, _, _, _, _, _, rfl, _⟩ := h; rfl) | (obtain ⟨_, _, _, _, _, _, _, rfl, _⟩ := h; rfl) | (obtain ⟨_, _, _, _, _, _, _, _, rfl, _⟩ := h; rfl) | (obtain ⟨_, _, _, _, _, _, _, _, _, rfl, _⟩ := h; rfl) | (obtain ⟨_, _, _, _, _, _, _, _, _, _, rfl, _⟩ := h; rfl) | (obtain ⟨_, _, _, _, _, _, _, _, _, _, _, rfl, _⟩ := h; rfl) | (obtain ⟨_, _, _, _, _, _, _, _, _, _, _, _, rfl, _⟩ := h; rfl) | (obtain ⟨_, _, _, _, _, _, _, _, _, _, _, _, _, rfl, _⟩ := h; rfl)) (fun cdv A outer s H vs Q E f hr h => ?_)
  obtain ⟨v, b, rfl, hw, q⟩ := h
  refine ⟨_, (pss_one (ps_ret (pe_and (pe_callB (kz_isi (K := K)) (by rfl) T.b_isinstance bt_isinstance (pa_cons (pv 0) (pa_cons (pe_ty (by rfl) T.b_int bt_int) pa_nil))) (pe_one (pe_not (pe_callB (kz_isi (K := K)) (by rfl) T.b_isinstance bt_isinstance (pa_cons (pv 0) (pa_cons (pe_ty (by rfl) T.b_bool bt_bool) pa_nil)))))))), ?_⟩
  walk_at "rd"
  cases hw with
  | int i =>
    refine ⟨_, _, _, _, _, rfl, .ty _, .base (.int i), kit_ty kit_int_int, _, rfl, iteT ?_⟩
    walk_at "rd"
    exact ⟨_, _, _, _, _, rfl, .ty _, .base (.int i), kit_ty kit_int_bool, _, rfl, q⟩
  | bl b =>
    refine ⟨_, _, _, _, _, rfl, .ty _, .base (.bl b), kit_ty kit_bool_int, _, rfl, iteT ?_⟩
    walk_at "rd"
    exact ⟨_, _, _, _, _, rfl, .ty _, .base (.bl b), kit_ty kit_bool_bool, _, rfl, q⟩
  | no h k nb => exact ⟨_, _, _, _, _, rfl, .ty _, h, kit_ty k, _, rfl, iteF q⟩

/-! is_from_to -/
def sp_is_from_to (K : PySem.W.Frag) : Sp := fun vs H Q _ => ∃ (v : V) (lo hi : Int) (b : Bool), vs = [v, .int lo, .int hi] ∧ Wh K H v b ∧ Q (.bl (whB v lo hi)) H
theorem c_is_from_to (T : Txt K mg) : Cal P w K mg base 2 "is_from_to" ["thing", "least", "most"] (sp_is_from_to K) := by
  refine T.f_is_from_to.cal sc_is_from_to (fun _ _ _ _ _ _ us hl => match us, hl with | [_, _, _], _ => rfl) (fun vs H Q E h => by first | (obtain ⟨_, rfl, _⟩ := h; rfl) | (obtain ⟨_, _, rfl, _⟩ := h; rfl) | (obtain ⟨_, _, _, rfl, _⟩ := h; rfl) | (obtain ⟨_, _, _, _, rfl, _⟩ := h; rfl) | (obtain ⟨_, _, _, _, _, rfl, _⟩ := h; rfl) | (obtain ⟨_, _, _, _, _, _, rfl, _⟩ := h; rfl) | (obtain ⟨_, _, _, _, _, _, _, rfl, _⟩ := h; rfl) | (obtain ⟨_, _, _, _, _, _, _, _, rfl, _⟩ := h; rfl) | (obtain ⟨_, _, _, _, _, _, _, _, _, rfl, _⟩ := h; rfl) | (obtain ⟨_, _, _, _, _, _, _, _, _, _, rfl, _⟩ := h; rfl) | (obtain ⟨_, _, _, _, _, _, _, _, _, _, _, rfl, _⟩ := h; rfl) | (obtain ⟨_, _, _, _, _, _, _, _, _, _, _, _, rfl, _⟩ := h; rfl) | (obtain ⟨_, _, _, _, _, _, _, _, _, _, _, _, _, rfl, _⟩ := h; rfl)) (fun cdv A outer s H vs Q E f hr h => ?_)
  obtain ⟨v, lo, hi, b, rfl, hw, q⟩ := h
  refine ⟨_, (pss_one (ps_ret (pe_and (pe_cal (c_is_whole T) hr (by decide) (pa_cons (pv 0) pa_nil)) (pe_one (pe_chain op_le op_le (pv 1) (pv 0) (pv 2)))))), ?_⟩
  walk_at "rd"
  refine ⟨v, b, rfl, hw, _, rfl, ?_⟩
  rcases hw.cases_ with ⟨i, rfl, rfl⟩ | ⟨hv, rfl⟩
  · refine iteT ?_
    walk_at "rd"
    have e : whB (.int i) lo hi = (decide (lo ≤ i) && decide (i ≤ hi)) := Bool.decide_and ..
    rw [e] at q
    by_cases c : lo ≤ i
    · rw [decide_eq_true c] at q ⊢
      refine iteT ?_
      walk_at "rd"
      exact q
    · rw [decide_eq_false c] at q ⊢
      exact iteF q
  · rw [whB_no hv] at q
    exact iteF q

/-! check_order -/
def sp_check_order (K : PySem.W.Frag) : Sp := fun vs H Q _ => ∃ k : Int, vs = [.int k] ∧ 0 ≤ k ∧ k ≤ 9 ∧ Q .non H
theorem c_check_order (T : Txt K mg) : Cal P w K mg base 3 "check_order" ["order"] (sp_check_order K) := by
  refine T.f_check_order.cal sc_check_order (fun _ _ _ _ _ _ us hl => match us, hl with | [_], _ => rfl) (fun vs H Q E h => by first | (obtain ⟨_, rfl, _⟩ := h; rfl) | (obtain ⟨_, _, rfl, _⟩ := h; rfl) | (obtain ⟨_, _, _, rfl, _⟩ := h; rfl) | (obtain ⟨_, _, _, _, rfl, _⟩ := h; rfl) | (obtain ⟨_, _, _, _, _, rfl, _⟩ := h; rfl) | (obtain ⟨_, _, _, _, _, _, rfl, _⟩ := h; rfl) | (obtain ⟨_, _, _, _, _, _, _, rfl, _⟩ := h; rfl) | (obtain ⟨_, _, _, _, _, _, _, _, rfl, _⟩ := h; rfl) | (obtain ⟨_, _, _, _, _, _, _, _, _, rfl, _⟩ := h; rfl) | (obtain ⟨_, _, _, _, _, _, _, _, _, _, rfl, _⟩ := h; rfl) | (obtain ⟨_, _, _, _, _, _, _, _, _, _, _, rfl, _⟩ := h; rfl) | (obtain ⟨_, _, _, _, _, _, _, _, _, _, _, _, rfl, _⟩ := h; rfl) | (obtain ⟨_, _, _, _, _, _, _, _, _, _, _, _, _, rfl, _⟩ := h; rfl)) (fun cdv A outer s H vs Q E f hr h => ?_)
  obtain ⟨k, rfl, h1, h2, q⟩ := h
  refine ⟨_, (pss_one (ps_if (pt_not (pt_val (pe_cal (c_is_from_to T) hr (by decide) (pa_cons (pv 0) (pa_cons pe_int (pa_cons (pe_kon T.k_MOST_ORDER) pa_nil)))))) (pss_one ps_never) pss_nil)), ?_⟩
  walk_at "rd"
  refine ⟨.int k, 0, 9, true, rfl, .int _, _, rfl, ?_⟩
  have e : whB (.int k) 0 9 = true := decide_eq_true ⟨h1, h2⟩
  rw [e]
  exact iteF q

/-! check_worths -/
def sp_check_worths (K : PySem.W.Frag) : Sp := fun vs H Q _ => ∃ (r : Addr) (ws : List Int), vs = [.ref r] ∧ ws ≠ [] ∧ ws.length ≤ 100000 ∧ SqT K H r (ws.map V.int) ∧ ∀ H', Same H H' → Q .non H'
theorem c_check_worths (T : Txt K mg) : Cal P w K mg base 2 "check_worths" ["worths"] (sp_check_worths K) := by
  refine T.f_check_worths.cal sc_check_worths (fun _ _ _ _ _ _ us hl => match us, hl with | [_], _ => rfl) (fun vs H Q E h => by first | (obtain ⟨_, rfl, _⟩ := h; rfl) | (obtain ⟨_, _, rfl, _⟩ := h; rfl) | (obtain ⟨_, _, _, rfl, _⟩ := h; rfl) | (obtain ⟨_, _, _, _, rfl, _⟩ := h; rfl) | (obtain ⟨_, _, _, _, _, rfl, _⟩ := h; rfl) | (obtain ⟨_, _, _, _, _, _, rfl, _⟩ := h; rfl) | (obtain ⟨_, _, _, _, _, _, _, rfl, _⟩ := h; rfl) | (obtain ⟨_, _, _, _, _, _, _, _, rfl, _⟩ := h; rfl) | (obtain ⟨_, _, _, _, _, _, _, _, _, rfl, _⟩ := h; rfl) | (obtain ⟨_, _, _, _, _, _, _, _, _, _, rfl, _⟩ := h; rfl) | (obtain ⟨_, _, _, _, _, _, _, _, _, _, _, rfl, _⟩ := h; rfl) | (obtain ⟨_, _, _, _, _, _, _, _, _, _, _, _, rfl, _⟩ := h; rfl) | (obtain ⟨_, _, _, _, _, _, _, _, _, _, _, _, _, rfl, _⟩ := h; rfl)) (fun cdv A outer s H vs Q E f hr h => ?_)
  obtain ⟨r, ws, rfl, h0, hl, hS, q⟩ := h
  have h1 : 0 < ws.length := List.length_pos_iff.mpr h0
  refine ⟨_, (pss_cons (ps_if (PW.pt (pw_or (pt_not (pt_val (pe_callB (kz_isi (K := K)) (by rfl) T.b_isinstance bt_isinstance (pa_cons (pv 0) (pa_cons (pe_ty (by rfl) T.b_tuple bt_tuple) pa_nil))))) (pw_or1 (pt_cmpR op_eq (pe_callB (kz_len (K := K)) (by rfl) T.b_len bt_len (pa_cons (pv 0) pa_nil)) pe_int (nomark _))))) (pss_one ps_never) pss_nil)
    (pss_one (ps_if (pt_not (pt_val (pe_callB (kz_all (K := K) rfl) (by rfl) T.b_all bt_all (pa_cons (pe_lc (own := [("worth", 1)]) (g := (gName 1)) (tt := tYes) rfl sc_check_worths.nd (kz_piT (K := K) (pv 0)) (blkOk_by (own := [("worth", 1)]) (N := ["worths", "worth"]) (sc := defScope S_check_worths) (by decide +kernel)) (fun _ _ _ _ _ => (pg_name (i := 1) sc_check_worths.nd rfl (.inl rfl))) (fun _ _ _ _ _ => pts_nil) (fun _ _ _ _ _ => (pe_cal (c_is_whole T) hr (by decide) (pa_cons (pv 1) pa_nil)))) pa_nil)))) (pss_one ps_never) pss_nil))), ?_⟩
  walk_at "rd"
  refine ⟨_, _, _, _, _, rfl, .ty _, ty_tup hS, kit_ty kit_tup_tup, _, rfl, iteF ?_⟩
  walk_at "rd"
  rw [List.length_map]
  refine ite2 (fun c => absurd (V.int.inj (of_decide_eq_true c)) (by omega)) (fun _ => ?_)
  refine ⟨_, rfl, _, rfl, ⟨_, hS⟩, fun D nD => ?_⟩
  refine lcp walk_tup nD (fun i => (ws.map fun _ => V.bl true).take i) rfl (fun i _ => ?_) (fun H2 s2 => seqT s2 hS) ?_ ?_
  · rw [List.length_take, List.length_map]
    omega
  · rintro i x H2 H' R N hi s2 ⟨rfl, hx⟩ k _
    obtain ⟨z, hz, rfl⟩ := map_at hx
    refine ⟨rfl, ?_⟩
    walk_at "rd"
    refine ⟨.int z, true, rfl, .int z, k _ _ (L2.Same.refl _) ?_⟩
    rw [List.take_add_one, List.getElem?_map, hz]
    rfl
  · intro H2 s2 hD
    rw [List.take_of_length_le (by rw [List.length_map, List.length_map]; exact Nat.le_refl _)] at hD
    refine ⟨D, ws.map fun _ => true, rfl, ?_, _, rfl, ?_⟩
    · rw [List.map_map]
      exact .inl (.inl hD)
    · have e : (ws.map fun _ => true).all id = true := List.all_eq_true.mpr fun x hx => by
        obtain ⟨_, _, e⟩ := List.mem_map.mp hx
        exact e.symm
      rw [e]
      exact iteF (q _ s2)

/-! differences_of -/
def sp_differences_of (K : PySem.W.Frag) : Sp := fun vs H Q _ => ∃ (r : Addr) (ws : List Int) (k : Nat), vs = [.ref r, .int (k : Int)] ∧ SqT K H r (ws.map V.int) ∧ ws.length ≤ 100000 ∧ k ≤ 1000 ∧
  ∀ (p : Addr) (H' : Hp), H p = none → Same H H' → H' p = some (.lst ((diffsN k ws).map V.int)) → Q (.ref p) H'
theorem c_differences_of (T : Txt K mg) : Cal P w K mg base 1 "differences_of" ["worths", "order"] (sp_differences_of K) := by
  refine T.f_differences_of.cal sc_differences_of (fun _ _ _ _ _ _ us hl => match us, hl with | [_, _], _ => rfl) (fun vs H Q E h => by first | (obtain ⟨_, rfl, _⟩ := h; rfl) | (obtain ⟨_, _, rfl, _⟩ := h; rfl) | (obtain ⟨_, _, _, rfl, _⟩ := h; rfl) | (obtain ⟨_, _, _, _, rfl, _⟩ := h; rfl) | (obtain ⟨_, _, _, _, _, rfl, _⟩ := h; rfl) | (obtain ⟨_, _, _, _, _, _, rfl, _⟩ := h; rfl) | (obtain ⟨_, _, _, _, _, _, _, rfl, _⟩ := h; rfl) | (obtain ⟨_, _, _, _, _, _, _, _, rfl, _⟩ := h; rfl) | (obtain ⟨_, _, _, _, _, _, _, _, _, rfl, _⟩ := h; rfl) | (obtain ⟨_, _, _, _, _, _, _, _, _, _, rfl, _⟩ := h; rfl) | (obtain ⟨_, _, _, _, _, _, _, _, _, _, _, rfl, _⟩ := h; rfl) | (obtain ⟨_, _, _, _, _, _, _, _, _, _, _, _, rfl, _⟩ := h; rfl) | (obtain ⟨_, _, _, _, _, _, _, _, _, _, _, _, _, rfl, _⟩ := h; rfl)) (fun cdv A outer s H vs Q E f hr h => ?_)
  obtain ⟨r, ws, k, rfl, hS, hl, hk, q⟩ := h
  refine ⟨_, (pss_cons (ps_set (i := 2) sc_differences_of.nd rfl (.inl rfl) (pe_callTy (kz_list (K := K)) (by rfl) T.b_list bt_list (pa_cons (pv 0) pa_nil)))
    (pss_cons (ps_for PassesOwn.never rfl (pi_range1 (by rfl) T.b_range (pa_cons (pv 1) pa_nil)) (pg_name (i := 3) sc_differences_of.nd rfl (.inl rfl)) (pss_one (ps_setLc (i := 2) (own := [("before", 4), ("after", 5)]) (g := (gTup K 2 (gCons (gName 4) (gCons (gName 5) gNil)))) (tt := tYes) rfl sc_differences_of.nd rfl rfl (sw_true rfl rfl rfl (by decide +kernel)) (kz_zip (K := K) (by rfl) T.b_zip (pa_cons (pv 2) (pa_cons (pe_slice (kz_slL (K := K)) (pv 2) (po_some pe_int) po_none) pa_nil))) (blkOk_by (own := [("before", 4), ("after", 5)]) (N := ["worths", "order", "line", "_", "before", "after"]) (sc := defScope S_differences_of) (by decide +kernel)) (fun _ _ _ _ _ => (kz_gtup (K := K) 2 rfl (pgs_cons (pg_name (i := 4) sc_differences_of.nd rfl (.inl rfl)) (pgs_cons (pg_name (i := 5) sc_differences_of.nd rfl (.inl rfl)) pgs_nil)))) (fun _ _ _ _ _ => pts_nil) (fun _ _ _ _ _ => (pe_op op_sub (pv 5) (pv 4))))))
    (pss_one (ps_ret (pv 2))))), ?_⟩
  walk_at "rd"
  intro p0 n0
  walk_at "rd"
  refine for_range (fun i σ H2 => ∃ (y3 : Option V) (p : Addr), σ = [some (.ref r), some (.int (k : Int)), some (.ref p), y3, none, none] ∧ H p = none ∧ Same H H2 ∧ H2 p = some (.lst ((diffsN i ws).map V.int))) ⟨none, p0, rfl, n0, same_new n0, upd_same⟩ ?_ ?_
  · rintro i σ H2 hi ⟨y3, p, rfl, np, s2, hp⟩
    refine ⟨_, rfl, _, rfl, 1, rfl, p, _, rfl, .inl (.inl hp), fun c nc => ?_⟩
    have s3 := same_new (o := .lst (cutV ((diffsN i ws).map V.int) (some 1) none)) nc
    have ncp : c ≠ p := fun e => by
      rw [e, hp] at nc
      cases nc
    have hc : SqL K (upd H2 c (.lst (cutV ((diffsN i ws).map V.int) (some 1) none))) c (((diffsN i ws).drop 1).map V.int) := by
      rw [cut1, ← List.map_drop]
      exact .inl (.inl upd_same)
    have hp3 : SqL K (upd H2 c (.lst (cutV ((diffsN i ws).map V.int) (some 1) none))) p ((diffsN i ws).map V.int) := .inl (.inl (s3 _ _ hp))
    generalize upd H2 c (.lst (cutV ((diffsN i ws).map V.int) (some 1) none)) = H3 at s3 hc hp3 ⊢
    refine ⟨p, c, _, _, rfl, .inl ⟨hp3, hc, fun D nD => ?_⟩⟩
    have dl := diffsN_len i ws
    refine lcp (walk_zip (n := (diffsN i ws).length - 1) (xs := (diffsN i ws).map V.int) (ys := ((diffsN i ws).drop 1).map V.int) (by rw [List.length_map, List.length_map, List.length_drop]; omega)) nD (fun j => ((diffs (diffsN i ws)).map V.int).take j) rfl (fun j _ => ?_)
      (fun H4 s4 => ⟨seqL s4 hp3, seqL s4 hc⟩) ?_ ?_
    · rw [List.length_take, List.length_map, diffs_len]
      omega
    · rintro j x H4 H5 R N hj s4 ⟨T1, v1, v2, rfl, nT, rfl, h1, h2⟩ k1 _
      obtain ⟨z1, e1, rfl⟩ := map_at h1
      obtain ⟨z2, e2, rfl⟩ := map_at h2
      rw [List.getElem?_drop, Nat.add_comm] at e2
      refine ⟨T1, _, rfl, .inl (.inl upd_same), rfl, _, _, rfl, _, _, rfl, rfl, rfl, ?_⟩
      refine ⟨_, rfl, _, rfl, _, _, rfl, rfl, k1 _ _ (same_new nT) ?_⟩
      rw [List.take_add_one, List.getElem?_map, diffs_at _ j _ _ e1 e2]
      rfl
    · intro H4 s4 hD
      have s24 := (s2.trans s3).trans s4
      refine ⟨some (.int (0 + (i : Int))), D, rfl, none_back (s2.trans s3) nD, s24, ?_⟩
      rw [hD, List.take_of_length_le]
      · rfl
      · rw [List.length_map, diffs_len]
        exact Nat.le_refl _
  · rintro σ H2 ⟨y3, p, rfl, np, s2, hp⟩
    walk_at "rd"
    refine q p H2 np s2 ?_
    rw [hp]
    rfl

/-! differences -/
def sp_differences (K : PySem.W.Frag) : Sp := fun vs H Q _ => ∃ (r : Addr) (ws : List Int) (k : Nat), vs = [.ref r, .int (k : Int)] ∧ SqT K H r (ws.map V.int) ∧ ws ≠ [] ∧ ws.length ≤ 100000 ∧ k ≤ 9 ∧
  ∀ (p : Addr) (H' : Hp), H p = none → Same H H' → H' p = some (.lst ((diffsN k ws).map V.int)) → Q (.ref p) H'
theorem fk_differences (T : Txt K mg) : ∃ f fd, FunD K "differences" "differences" (defArgs S_differences) (defBody S_differences) (defScope S_differences) [] [("order", .int 1)] f fd ∧ mg "differences" = some (.ref f) ∧ FnOk P w K mg base CX0 4 f fd ["worths", "order"] (sp_differences K) := by
  refine T.f_differences.fn sc_differences (fun vs H Q E h => by first | (obtain ⟨_, rfl, _⟩ := h; rfl) | (obtain ⟨_, _, rfl, _⟩ := h; rfl) | (obtain ⟨_, _, _, rfl, _⟩ := h; rfl) | (obtain ⟨_, _, _, _, rfl, _⟩ := h; rfl) | (obtain ⟨_, _, _, _, _, rfl, _⟩ := h; rfl) | (obtain ⟨_, _, _, _, _, _, rfl, _⟩ := h; rfl) | (obtain ⟨_, _, _, _, _, _, _, rfl, _⟩ := h; rfl) | (obtain ⟨_, _, _, _, _, _, _, _, rfl, _⟩ := h; rfl) | (obtain ⟨_, _, _, _, _, _, _, _, _, rfl, _⟩ := h; rfl) | (obtain ⟨_, _, _, _, _, _, _, _, _, _, rfl, _⟩ := h; rfl) | (obtain ⟨_, _, _, _, _, _, _, _, _, _, _, rfl, _⟩ := h; rfl) | (obtain ⟨_, _, _, _, _, _, _, _, _, _, _, _, rfl, _⟩ := h; rfl) | (obtain ⟨_, _, _, _, _, _, _, _, _, _, _, _, _, rfl, _⟩ := h; rfl)) (fun cdv A outer s H vs Q E f hr h => ?_)
  obtain ⟨r, ws, k, rfl, hS, h0, hl, hk, q⟩ := h
  refine ⟨_, (pss_cons (ps_expr (pe_cal (c_check_worths T) hr (by decide) (pa_cons (pv 0) pa_nil)))
    (pss_cons (ps_expr (pe_cal (c_check_order T) hr (by decide) (pa_cons (pv 1) pa_nil)))
    (pss_one (ps_ret (pe_cal (c_differences_of T) hr (by decide) (pa_cons (pv 0) (pa_cons (pv 1) pa_nil))))))), ?_⟩
  walk_at "rd"
  refine ⟨r, ws, rfl, h0, hl, hS, fun H1 s1 => ?_⟩
  walk_at "rd"
  exact ⟨r, ws, k, rfl, seqT s1 hS, hl, by omega, fun p H2 np s2 hp => q p H2 (none_back s1 np) (s1.trans s2) hp⟩
theorem cd_differences (T : Txt K mg) : CalD P w K mg base 4 "differences" ["worths", "order"] (sp_differences K) (.int 1) := by
  obtain ⟨f, fd, F, m, G⟩ := fk_differences (P := P) (w := w) (base := base) T
  obtain ⟨ds, r, b⟩ := F.binds0 (ps := ["worths", "order"]) 1 (by simp) rfl (fun D doc pm an cdv ct us ks hl hk => match us, ks, hl, hk with | [_], [_], _, _ => ⟨_, _, _, _, _, _, rfl, rfl, rfl⟩)
  exact ⟨f, fd, ds, G, m, F.kp, b, r⟩
theorem ck_differences (T : Txt K mg) : CalK P w K mg base 4 "differences" ["worths", "order"] (sp_differences K) 1 "order" := by
  obtain ⟨f, fd, F, m, G⟩ := fk_differences (P := P) (w := w) (base := base) T
  refine ⟨f, fd, G, m, F.kp, ⟨fun s us ws _ hl hw => ?_, fun r1 r2 => r1.append r2⟩⟩
  obtain ⟨oc, od, dV, kV, doc, pm, an, cdv, ct, osl, rfl, lk, hcd, hD, hK⟩ := F.ex
  rcases hD with ⟨_, rfl⟩ | ⟨e, _⟩
  · exact match us, ws, hl, hw with | [_], [_], _, _ => .of_eq rfl
  · exact absurd rfl e

/-! check_degree -/
def sp_check_degree (K : PySem.W.Frag) : Sp := fun vs H Q _ => ∃ k m : Int, vs = [.int k, .int m] ∧ 0 ≤ k ∧ k ≤ m ∧ Q .non H
theorem fk_check_degree (T : Txt K mg) : ∃ f fd, FunD K "check_degree" "check_degree" (defArgs S_check_degree) (defBody S_check_degree) (defScope S_check_degree) [] [("most", .int 9)] f fd ∧ mg "check_degree" = some (.ref f) ∧ FnOk P w K mg base CX0 3 f fd ["degree", "most"] (sp_check_degree K) := by
  refine T.f_check_degree.fn sc_check_degree (fun vs H Q E h => by first | (obtain ⟨_, rfl, _⟩ := h; rfl) | (obtain ⟨_, _, rfl, _⟩ := h; rfl) | (obtain ⟨_, _, _, rfl, _⟩ := h; rfl) | (obtain ⟨_, _, _, _, rfl, _⟩ := h; rfl) | (obtain ⟨_, _, _, _, _, rfl, _⟩ := h; rfl) | (obtain ⟨_, _, _, _, _, _, rfl, _⟩ := h; rfl) | (obtain ⟨_, _, _, _, _, _, _, rfl, _⟩ := h; rfl) | (obtain ⟨_, _, _, _, _, _, _, _, rfl, _⟩ := h; rfl) | (obtain ⟨_, _, _, _, _, _, _, _, _, rfl, _⟩ := h; rfl) | (obtain ⟨_, _, _, _, _, _, _, _, _, _, rfl, _⟩ := h; rfl) | (obtain ⟨_, _, _, _, _, _, _, _, _, _, _, rfl, _⟩ := h; rfl) | (obtain ⟨_, _, _, _, _, _, _, _, _, _, _, _, rfl, _⟩ := h; rfl) | (obtain ⟨_, _, _, _, _, _, _, _, _, _, _, _, _, rfl, _⟩ := h; rfl)) (fun cdv A outer s H vs Q E f hr h => ?_)
  obtain ⟨k, m, rfl, h1, h2, q⟩ := h
  refine ⟨_, (pss_one (ps_if (pt_not (pt_val (pe_cal (c_is_from_to T) hr (by decide) (pa_cons (pv 0) (pa_cons pe_int (pa_cons (pv 1) pa_nil)))))) (pss_one ps_never) pss_nil)), ?_⟩
  walk_at "rd"
  refine ⟨.int k, 0, m, true, rfl, .int _, _, rfl, ?_⟩
  have e : whB (.int k) 0 m = true := decide_eq_true ⟨h1, h2⟩
  rw [e]
  exact iteF q
theorem cd_check_degree (T : Txt K mg) : CalD P w K mg base 3 "check_degree" ["degree", "most"] (sp_check_degree K) (.int 9) := by
  obtain ⟨f, fd, F, m, G⟩ := fk_check_degree (P := P) (w := w) (base := base) T
  obtain ⟨ds, r, b⟩ := F.binds0 (ps := ["degree", "most"]) 1 (by simp) rfl (fun D doc pm an cdv ct us ks hl hk => match us, ks, hl, hk with | [_], [_], _, _ => ⟨_, _, _, _, _, _, rfl, rfl, rfl⟩)
  exact ⟨f, fd, ds, G, m, F.kp, b, r⟩
theorem ck_check_degree (T : Txt K mg) : CalK P w K mg base 3 "check_degree" ["degree", "most"] (sp_check_degree K) 1 "most" := by
  obtain ⟨f, fd, F, m, G⟩ := fk_check_degree (P := P) (w := w) (base := base) T
  refine ⟨f, fd, G, m, F.kp, ⟨fun s us ws _ hl hw => ?_, fun r1 r2 => r1.append r2⟩⟩
  obtain ⟨oc, od, dV, kV, doc, pm, an, cdv, ct, osl, rfl, lk, hcd, hD, hK⟩ := F.ex
  rcases hD with ⟨_, rfl⟩ | ⟨e, _⟩
  · exact match us, ws, hl, hw with | [_], [_], _, _ => .of_eq rfl
  · exact absurd rfl e

/-! is_smooth -/
def sp_is_smooth (K : PySem.W.Frag) : Sp := fun vs H Q _ => ∃ (r : Addr) (ws : List Int) (d : Nat), vs = [.ref r, .int (d : Int)] ∧ SqT K H r (ws.map V.int) ∧ ws ≠ [] ∧ ws.length ≤ 100000 ∧ d ≤ 9 ∧ ∀ H', Same H H' → Q (.bl (smB (d + 1) ws)) H'
theorem c_is_smooth (T : Txt K mg) : Cal P w K mg base 4 "is_smooth" ["worths", "degree"] (sp_is_smooth K) := by
  refine T.f_is_smooth.cal sc_is_smooth (fun _ _ _ _ _ _ us hl => match us, hl with | [_, _], _ => rfl) (fun vs H Q E h => by first | (obtain ⟨_, rfl, _⟩ := h; rfl) | (obtain ⟨_, _, rfl, _⟩ := h; rfl) | (obtain ⟨_, _, _, rfl, _⟩ := h; rfl) | (obtain ⟨_, _, _, _, rfl, _⟩ := h; rfl) | (obtain ⟨_, _, _, _, _, rfl, _⟩ := h; rfl) | (obtain ⟨_, _, _, _, _, _, rfl, _⟩ := h; rfl) | (obtain ⟨_, _, _, _, _, _, _, rfl, _⟩ := h; rfl) | (obtain ⟨_, _, _, _, _, _, _, _, rfl, _⟩ := h; rfl) | (obtain ⟨_, _, _, _, _, _, _, _, _, rfl, _⟩ := h; rfl) | (obtain ⟨_, _, _, _, _, _, _, _, _, _, rfl, _⟩ := h; rfl) | (obtain ⟨_, _, _, _, _, _, _, _, _, _, _, rfl, _⟩ := h; rfl) | (obtain ⟨_, _, _, _, _, _, _, _, _, _, _, _, rfl, _⟩ := h; rfl) | (obtain ⟨_, _, _, _, _, _, _, _, _, _, _, _, _, rfl, _⟩ := h; rfl)) (fun cdv A outer s H vs Q E f hr h => ?_)
  obtain ⟨r, ws, d, rfl, hS, h0, hl, hd, q⟩ := h
  refine ⟨_, (pss_cons (ps_expr (pe_cal (c_check_worths T) hr (by decide) (pa_cons (pv 0) pa_nil)))
    (pss_cons (ps_expr (pe_calD (cd_check_degree T) hr (by decide) (pa_cons (pv 1) pa_nil)))
    (pss_one (ps_ret (pe_callB (kz_all (K := K) rfl) (by rfl) T.b_all bt_all (pa_cons (pe_lc (own := [("gap", 2)]) (g := (gName 2)) (tt := tYes) rfl sc_is_smooth.nd (kz_piL (K := K) (pe_cal (c_differences_of T) hr (by decide) (pa_cons (pv 0) (pa_cons (pe_op op_add (pv 1) pe_int) pa_nil)))) (blkOk_by (own := [("gap", 2)]) (N := ["worths", "degree", "gap"]) (sc := defScope S_is_smooth) (by decide +kernel)) (fun _ _ _ _ _ => (pg_name (i := 2) sc_is_smooth.nd rfl (.inl rfl))) (fun _ _ _ _ _ => pts_nil) (fun _ _ _ _ _ => (pe_cmpR op_eq (pv 2) pe_int (nomark _)))) pa_nil)))))), ?_⟩
  walk_at "rd"
  refine ⟨r, ws, rfl, h0, hl, hS, fun H1 s1 => ?_⟩
  walk_at "rd"
  refine ⟨r, ws, d + 1, rfl, seqT s1 hS, hl, by omega, fun p H2 np s2 hp => ?_⟩
  refine ⟨p, rfl, ⟨_, .inl (.inl hp)⟩, fun D nD => ?_⟩
  have dl := diffsN_len (d + 1) ws
  refine lcp (walk_list (xs := (diffsN (d + 1) ws).map V.int)) nD (fun j => ((diffsN (d + 1) ws).map fun z => V.bl (decide (z = 0))).take j) rfl (fun j _ => ?_) (fun H4 s4 => .inl (.inl (s4 _ _ hp))) ?_ ?_
  · rw [List.length_take, List.length_map]
    omega
  · rintro j x H4 H5 R N hj s4 ⟨rfl, h1⟩ k1 _
    obtain ⟨z, e1, rfl⟩ := map_at h1
    refine ⟨rfl, _, rfl, rfl, k1 _ _ (L2.Same.refl _) ?_⟩
    rw [List.take_add_one, List.getElem?_map, e1]
    have e : decide (V.int z = V.int 0) = decide (z = 0) := by
      by_cases c : z = 0
      · rw [c, decide_eq_true rfl, decide_eq_true rfl]
      · rw [decide_eq_false c, decide_eq_false (fun w => c (V.int.inj w))]
    show _ = _ ++ [V.bl (decide (V.int z = V.int 0))]
    rw [e]
    rfl
  · intro H4 s4 hD
    refine ⟨D, (diffsN (d + 1) ws).map fun z => decide (z = 0), rfl, ?_, ?_⟩
    · rw [List.map_map]
      rw [List.take_of_length_le (by rw [List.length_map, List.length_map]; exact Nat.le_refl _)] at hD
      exact .inl (.inl hD)
    · have e : smB (d + 1) ws = ((diffsN (d + 1) ws).map fun z => decide (z = 0)).all id := by
        unfold smB
        rw [List.all_map]
        rfl
      rw [← e]
      exact q _ ((s1.trans s2).trans s4)

/-! law -/
theorem nz_filter (l : List Int) : (l.all fun z => decide (z = 0)) = decide (l.filter (fun z => !decide (z = 0)) = []) := by
  induction l with
  | nil => rfl
  | cons a r ih =>
    by_cases c : a = 0
    · rw [List.all_cons, List.filter_cons_of_neg (by rw [decide_eq_true c]; exact Bool.false_ne_true), ih, decide_eq_true c, Bool.true_and]
    · rw [List.all_cons, List.filter_cons_of_pos (by rw [decide_eq_false c]; rfl), decide_eq_false c, Bool.false_and]
      exact (decide_eq_false (List.cons_ne_nil _ _)).symm
def sp_law (K : PySem.W.Frag) : Sp := fun vs H Q _ => ∃ (a : Addr) (ns : List Int), vs = [.ref a] ∧ SqL K H a (ns.map V.int) ∧ ns.length ≤ 63 ∧ ∀ H', Q (.bl true) H'
theorem ok_law (T : Txt K mg) {f : Addr} {fd : FuncData} (F : FunD K "law" "law" (defArgs S_law) (defBody S_law) (defScope S_law) [] [] f fd) : FnOk P w K mg base CX0 5 f fd ["_law_script"] (sp_law K) := by
  refine fn_ok F sc_law (fun vs H Q E h => by first | (obtain ⟨_, rfl, _⟩ := h; rfl) | (obtain ⟨_, _, rfl, _⟩ := h; rfl) | (obtain ⟨_, _, _, rfl, _⟩ := h; rfl) | (obtain ⟨_, _, _, _, rfl, _⟩ := h; rfl) | (obtain ⟨_, _, _, _, _, rfl, _⟩ := h; rfl) | (obtain ⟨_, _, _, _, _, _, rfl, _⟩ := h; rfl) | (obtain ⟨_, _, _, _, _, _, _, rfl, _⟩ := h; rfl) | (obtain ⟨_, _, _, _, _, _, _, _, rfl, _⟩ := h; rfl) | (obtain ⟨_, _, _, _, _, _, _, _, _, rfl, _⟩ := h; rfl) | (obtain ⟨_, _, _, _, _, _, _, _, _, _, rfl, _⟩ := h; rfl) | (obtain ⟨_, _, _, _, _, _, _, _, _, _, _, rfl, _⟩ := h; rfl) | (obtain ⟨_, _, _, _, _, _, _, _, _, _, _, _, rfl, _⟩ := h; rfl) | (obtain ⟨_, _, _, _, _, _, _, _, _, _, _, _, _, rfl, _⟩ := h; rfl)) (fun cdv A outer s H vs Q E hr h => ?_)
  obtain ⟨a, ns, rfl, hS0, hl, q⟩ := h
  refine ⟨_, (pss_cons (ps_set (i := 1) sc_law.nd rfl (.inl rfl) (pe_lst pa_nil))
    (pss_cons (ps_par (i := 2) (j := 3) rfl sc_law.nd rfl rfl (by decide) rfl rfl (pa_cons (pe_op op_add pe_int (pe_cal (c__law_draw T) hr (by decide) (pa_cons (pv 0) (pa_cons (pv 1) (pa_cons pe_int pa_nil))))) (pa_cons (pe_cal (c__law_draw T) hr (by decide) (pa_cons (pv 0) (pa_cons (pv 1) (pa_cons pe_int pa_nil)))) pa_nil)) (by rfl))
    (pss_cons (ps_set (i := 4) sc_law.nd rfl (.inl rfl) (pe_cal (c__law_smooth_worths T) hr (by decide) (pa_cons (pv 0) (pa_cons (pv 1) (pa_cons (pv 2) (pa_cons (pv 3) pa_nil))))))
    (pss_cons (ps_if (PW.pt (pw_or (pt_not (pt_val (pe_cal (c_is_smooth T) hr (by decide) (pa_cons (pv 4) (pa_cons (pv 3) pa_nil))))) (pw_or1 (pt_cmpR op_notBl (pe_cal (c_is_smooth T) hr (by decide) (pa_cons (pv 4) (pa_cons (pv 3) pa_nil))) pe_bl (nomark _))))) (pss_one (ps_ret pe_bl)) pss_nil)
    (pss_cons (ps_set (i := 5) sc_law.nd rfl (.inl rfl) (pe_callTy (kz_list (K := K)) (by rfl) T.b_list bt_list (pa_cons (pv 4) pa_nil)))
    (pss_cons (ps_augS (pv 5) (pe_cal (c__law_draw T) hr (by decide) (pa_cons (pv 0) (pa_cons (pv 1) (pa_cons (pv 2) pa_nil)))) (kz_getL (K := K)) (pe_op op_add pe_int (pe_cal (c__law_draw T) hr (by decide) (pa_cons (pv 0) (pa_cons (pv 1) (pa_cons pe_int pa_nil))))) ip_add set_list)
    (pss_cons (ps_for PassesOwn.never rfl (kz_piT (K := K) (pe_tup (pa_cons (pv 4) (pa_cons (pe_callTy (kz_tuple (K := K)) (by rfl) T.b_tuple bt_tuple (pa_cons (pv 5) pa_nil)) pa_nil)))) (pg_name (i := 6) sc_law.nd rfl (.inl rfl)) (pss_cons (ps_for PassesOwn.never rfl (pi_range1 (by rfl) T.b_range (pa_cons pe_int pa_nil)) (pg_name (i := 7) sc_law.nd rfl (.inl rfl)) (pss_cons (ps_set (i := 8) sc_law.nd rfl (.inl rfl) (pe_cal (c__law_steps_so T) hr (by decide) (pa_cons (pv 6) (pa_cons (pv 7) pa_nil))))
    (pss_cons (ps_if (pt_cmpR (kz_neD (K := K) hr.units) (pe_calK (ck_differences T) hr (by decide) (pa_cons (pv 6) pa_nil) (pk_cons (pv 7) pk_nil)) (pv 8) (nomark _)) (pss_one (ps_ret pe_bl)) pss_nil)
    (pss_cons (ps_set (i := 9) sc_law.nd rfl (.inl rfl) (pe_cmpR (kz_eqD (K := K) hr.units) (pe_lc (own := [("_law_one", 10)]) (g := (gName 10)) (tt := _) rfl sc_law.nd (kz_piL (K := K) (pv 8)) (blkOk_by (own := [("_law_one", 10)]) (N := ["_law_script", "_law_town", "_law_places", "_law_degree", "_law_worths", "_law_bent", "_law_some", "_law_times", "_law_due", "_law_zero", "_law_one"]) (sc := defScope S_law) (by decide +kernel)) (fun _ _ _ _ _ => (pg_name (i := 10) sc_law.nd rfl (.inl rfl))) (fun _ _ _ _ _ => pts_one (pt_cmpR op_ne (pv 10) pe_int (nomark _))) (fun _ _ _ _ _ => (pv 10))) (pe_lst pa_nil) (nomark _)))
    (pss_one (ps_if (PW.pt (pw_and (pt_cmpR op_gt (pv 7) pe_int (nomark _)) (pw_and1 (pt_not (pt_val (pe_cal (c__law_same_truth T) hr (by decide) (pa_cons (pe_cal (c_is_smooth T) hr (by decide) (pa_cons (pv 6) (pa_cons (pe_op op_sub (pv 7) pe_int) pa_nil))) (pa_cons (pv 9) pa_nil)))))))) (pss_one (ps_ret pe_bl)) pss_nil))))))
    (pss_one (ps_if (pt_cmpR (kz_neD (K := K) hr.units) (pe_calD (cd_differences T) hr (by decide) (pa_cons (pv 6) pa_nil)) (pe_calK (ck_differences T) hr (by decide) (pa_cons (pv 6) pa_nil) (pk_cons pe_int pk_nil)) (nomark _)) (pss_one (ps_ret pe_bl)) pss_nil))))
    (pss_cons (ps_if (PW.pt (pw_and (pt_cmpR op_gt (pv 2) (pe_op op_add (pv 3) pe_int) (nomark _)) (pw_and1 (pt_cmpR op_notBl (pe_cal (c_is_smooth T) hr (by decide) (pa_cons (pe_callTy (kz_tuple (K := K)) (by rfl) T.b_tuple bt_tuple (pa_cons (pv 5) pa_nil)) (pa_cons (pv 3) pa_nil))) pe_bl (nomark _))))) (pss_one (ps_ret pe_bl)) pss_nil)
    (pss_one (ps_ret (pe_cmpR op_isBl (pe_cal (c_is_smooth T) hr (by decide) (pa_cons (pv 4) (pa_cons pe_int pa_nil))) pe_bl (nomark _)))))))))))), ?_⟩
  walk_at "rd"
  intro b nb
  have hS : Scr K (upd H b (.lst [])) b a ns := .of hS0 hl nb
  have t0 : Town b 0 (upd H b (.lst [])) := ⟨[], upd_same, Nat.le_refl _⟩
  walk_at "rd"
  refine ⟨a, b, ns, 0, 20, rfl, hS, t0, by omega, by omega, fun z1 H1 z10 z11 b1 t1 => ?_⟩
  refine ⟨_, _, rfl, rfl, ?_⟩
  walk_at "rd"
  refine ⟨a, b, ns, 1, 5, rfl, hS.but b1, t1, by omega, by omega, fun z2 H2 z20 z21 b2 t2 => ?_⟩
  refine ⟨_, _, rfl, ?_⟩
  change tSeq _ _ _ [some (.ref a), some (.ref b), some (.int (1 + z1)), some (.int z2), none, none, none, none, none, none, none] H2
  obtain ⟨m, hm⟩ : ∃ m : Nat, 1 + z1 = (m : Int) := ⟨(1 + z1).toNat, by omega⟩
  obtain ⟨d, hd⟩ : ∃ d : Nat, z2 = (d : Int) := ⟨z2.toNat, by omega⟩
  rw [hm, hd]
  have hS2 := (hS.but b1).but b2
  walk_at "rd"
  refine ⟨a, b, ns, 2, m, d, rfl, hS2, t2, by omega, by omega, by omega, by omega, fun u cs H3 lc nu _ hu b3 t3 => ?_⟩
  have sm := sm_poly cs
  rw [lc] at sm
  generalize poly cs = f at hu sm
  have ln0 : ∀ f : Nat → Int, line f m ≠ [] := fun f e => by
    have l := line_len f m
    rw [e] at l
    simp only [List.length_nil] at l
    omega
  have lne := ln0
  have hu3 : SqT K H3 u ((line f m).map V.int) := .inl (.inl hu)
  have hS3 := hS2.but b3
  have sB : ∀ k, d + 1 ≤ k → smB k (line f m) = true := fun k hk => smB_iff.mpr (SmL.of (sm.le hk))
  change tSeq _ _ _ [some (.ref a), some (.ref b), some (.int (m : Int)), some (.int (d : Int)), some (.ref u), none, none, none, none, none, none] H3
  walk_at "rd"
  refine ⟨u, _, d, rfl, hu3, ln0 f, by rw [line_len]; omega, by omega, fun H4 s4 => ⟨_, rfl, ?_⟩⟩
  rw [sB (d + 1) (Nat.le_refl _)]
  walk_at "rd"
  refine ⟨u, _, d, rfl, seqT s4 hu3, ln0 f, by rw [line_len]; omega, by omega, fun H5 s5 => ?_⟩
  rw [sB (d + 1) (Nat.le_refl _)]
  walk_at "rd"
  have s35 := s4.trans s5
  have hu5 := seqT s35 hu3
  have hS5 := hS3.same s35
  have t5 := t3.same s35
  walk_at "rd"
  intro B nB
  have nuB : u ≠ B := ne_of_none (s35 _ _ hu) nB
  have nBb : B ≠ b := t5.ne_new nB
  have sB5 := same_new (o := .lst ((line f m).map V.int)) nB
  have hB : (upd H5 B (.lst ((line f m).map V.int))) B = some (.lst ((line f m).map V.int)) := upd_same
  have hu6 := seqT sB5 hu5
  have hS6 := hS5.same sB5
  have t6 := t5.same sB5
  generalize upd H5 B (.lst ((line f m).map V.int)) = H6 at hB hu6 hS6 t6 ⊢
  change tSeq _ _ _ [some (.ref a), some (.ref b), some (.int (m : Int)), some (.int (d : Int)), some (.ref u), some (.ref B), none, none, none, none, none] H6
  -- one worth changed
  walk_at "rd"
  refine ⟨a, b, ns, 23, m, rfl, hS6, t6, by omega, by omega, fun z3 H7 z30 z31 b7 t7 => ?_⟩
  obtain ⟨i, hi⟩ : ∃ i : Nat, z3 = (i : Int) := ⟨z3.toNat, by omega⟩
  rw [hi]
  have im : i < m := by omega
  have gi : ((line f m).map V.int)[i]? = some (.int (f i)) := by
    rw [List.getElem?_map, line_at im]
    rfl
  have hB7 := b7 _ _ nBb hB
  have hu7 := butT b7 nu hu6
  refine ⟨B, _, i, _, rfl, rfl, .inl (.inl hB7), gi, ?_⟩
  walk_at "rd"
  refine ⟨a, b, ns, 24, 5, rfl, hS6.but b7, t7, by omega, by omega, fun z4 H8 z40 z41 b8 t8 => ?_⟩
  have hB8 := b8 _ _ nBb hB7
  have hu8 := butT b8 nu hu7
  refine ⟨_, _, rfl, rfl, _, _, rfl, rfl, B, _, (i : Int), i, rfl, rfl, hB8, ?_, ?_⟩
  · unfold ixN
    rw [if_pos (by omega), if_pos (by rw [List.length_map, line_len]; omega), Int.toNat_natCast]
  have eg : ((line f m).map V.int).set i (.int (f i + (1 + z4))) = (line (fun k => f k + (1 + z4) * bump i k) m).map V.int := by
    refine List.ext_getElem? fun k => ?_
    rw [List.getElem?_set, List.length_map, line_len]
    by_cases hk : k < m
    · rw [List.getElem?_map, List.getElem?_map, line_at hk, line_at hk]
      by_cases c : i = k
      · rw [if_pos c, if_pos im, ← c]
        show _ = some (V.int (f i + (1 + z4) * bump i i))
        rw [Ly.bump, if_pos rfl, Int.mul_one]
      · rw [if_neg c]
        show _ = some (V.int (f k + (1 + z4) * bump i k))
        rw [Ly.bump, if_neg (Ne.symm c), Int.mul_zero, Int.add_zero]
        rfl
    · rw [if_neg (by omega), List.getElem?_eq_none (by rw [List.length_map, line_len]; omega), List.getElem?_eq_none (by rw [List.length_map, line_len]; omega)]
  rw [eg]
  have bn : d + 1 < m → ¬ SmL (d + 1) (line (fun k => f k + (1 + z4) * bump i k) m) := fun h => bent_not sm im h (by omega)
  have hu9 : SqT K (upd H8 B (.lst ((line (fun k => f k + (1 + z4) * bump i k) m).map V.int))) u ((line f m).map V.int) := butT But.at nuB hu8
  have hB9 : SqL K (upd H8 B (.lst ((line (fun k => f k + (1 + z4) * bump i k) m).map V.int))) B ((line (fun k => f k + (1 + z4) * bump i k) m).map V.int) := .inl (.inl upd_same)
  generalize (fun k => f k + (1 + z4) * bump i k) = g at *
  generalize upd H8 B (.lst ((line g m).map V.int)) = H9 at hu9 hB9 ⊢
  -- the two
  walk_at "rd"
  refine ⟨B, _, rfl, .inl ⟨hB9, fun v nv => ?_⟩⟩
  have s10 := same_new (o := .tup ((line g m).map V.int)) nv
  have hv10 : SqT K (upd H9 v (.tup ((line g m).map V.int))) v ((line g m).map V.int) := .inl (.inl upd_same)
  have hu10 := seqT s10 hu9
  have hB10 := seqL s10 hB9
  generalize upd H9 v (.tup ((line g m).map V.int)) = H10 at s10 hu10 hv10 hB10 ⊢
  walk_at "rd"
  refine ⟨by show 2 ≤ sizeLine; decide, fun w nw => ⟨w, rfl, ⟨_, .inl (.inl upd_same)⟩, ?_⟩⟩
  have s11 := same_new (o := .tup [.ref u, .ref v]) nw
  have hw11 : SqT K (upd H10 w (.tup [.ref u, .ref v])) w [.ref u, .ref v] := .inl (.inl upd_same)
  have hu11 := seqT s11 hu10
  have hv11 := seqT s11 hv10
  have hB11 := seqL s11 hB10
  generalize upd H10 w (.tup [.ref u, .ref v]) = H11 at hw11 hu11 hv11 hB11 ⊢
  refine for_tup (xs := [.ref u, .ref v]) (fun _ σ H => ∃ y6 y7 y8 y9, σ = [some (.ref a), some (.ref b), some (.int (m : Int)), some (.int (d : Int)), some (.ref u), some (.ref B), y6, y7, y8, y9, none] ∧ Same H11 H)
    ⟨none, none, none, none, rfl, L2.Same.refl _⟩ (fun _ σ H _ h => by obtain ⟨_, _, _, _, _, s⟩ := h; exact seqT s hw11) ?_ ?_
  · rintro k x σ H hx ⟨y6, y7, y8, y9, rfl, s12⟩
    obtain ⟨r, fl, rfl, hr⟩ : ∃ r fl, x = .ref r ∧ SqT K H11 r ((line fl m).map V.int) := by
      match k, hx with
      | 0, hx => exact ⟨u, f, (Option.some.inj hx).symm, hu11⟩
      | 1, hx => exact ⟨v, g, (Option.some.inj hx).symm, hv11⟩
    have ll : (line fl m).length ≤ 100000 := by rw [line_len]; omega
    walk_at "rd"
    refine for_range (fun _ σ H => ∃ y7 y8 y9, σ = [some (.ref a), some (.ref b), some (.int (m : Int)), some (.int (d : Int)), some (.ref u), some (.ref B), some (.ref r), y7, y8, y9, none] ∧ Same H11 H) ⟨y7, y8, y9, rfl, s12⟩ ?_ ?_
    · rintro t σ H13 ht ⟨y7, y8, y9, rfl, s13⟩
      have ht9 : t ≤ 9 := by omega
      have hr13 := seqT s13 hr
      change tSeq _ _ _ [some (.ref a), some (.ref b), some (.int (m : Int)), some (.int (d : Int)), some (.ref u), some (.ref B), some (.ref r), some (.int (0 + (t : Int))), y8, y9, none] H13
      rw [Int.zero_add]
      walk_at "rd"
      refine ⟨r, _, t, rfl, hr13, ll, by omega, fun p1 H14 np1 s14 hp1 => ?_⟩
      change tSeq _ _ _ [some (.ref a), some (.ref b), some (.int (m : Int)), some (.int (d : Int)), some (.ref u), some (.ref B), some (.ref r), some (.int (t : Int)), some (.ref p1), y9, none] H14
      walk_at "rd"
      refine ⟨r, _, t, rfl, seqT s14 hr13, ?_, ll, ht9, fun p2 H15 np2 s15 hp2 => ?_⟩
      · intro e
        have l := line_len fl m
        rw [e] at l
        simp only [List.length_nil] at l
        omega
      have hp1' : SqL K H15 p1 ((diffsN t (line fl m)).map V.int) := .inl (.inl (s15 _ _ hp1))
      refine ⟨_, rfl, neL (.inl (.inl hp2)) hp1' ?_⟩
      rw [decide_eq_true rfl]
      refine ⟨_, rfl, ite2 (fun c => Bool.noConfusion c) (fun _ => ?_)⟩
      change tSeq _ _ _ [some (.ref a), some (.ref b), some (.int (m : Int)), some (.int (d : Int)), some (.ref u), some (.ref B), some (.ref r), some (.int (t : Int)), some (.ref p1), y9, none] H15
      refine ⟨_, rfl, p1, rfl, ⟨_, hp1'⟩, fun D nD => ?_⟩
      refine lcp (walk_list (xs := (diffsN t (line fl m)).map V.int)) nD (fun j => (((diffsN t (line fl m)).take j).filter fun z => !decide (z = 0)).map V.int) rfl (fun j _ => ?_) (fun H4 s4 => seqL s4 hp1') ?_ ?_
      · rw [List.length_map]
        refine Nat.lt_of_le_of_lt (List.length_filter_le _ _) ?_
        rw [List.length_take, diffsN_len]
        omega
      · rintro j x H4 H5 R N hj s4 ⟨rfl, h1⟩ k1 k2
        obtain ⟨z, e1, rfl⟩ := map_at h1
        have step : (((diffsN t (line fl m)).take (j + 1)).filter fun z => !decide (z = 0)) = (((diffsN t (line fl m)).take j).filter fun z => !decide (z = 0)) ++ if z = 0 then [] else [z] := by
          rw [List.take_add_one, e1, List.filter_append]
          congr 1
          by_cases c : z = 0
          · rw [if_pos c]
            exact List.filter_cons_of_neg (by rw [decide_eq_true c]; exact Bool.false_ne_true)
          · rw [if_neg c]
            exact List.filter_cons_of_pos (by rw [decide_eq_false c]; rfl)
        refine ⟨rfl, _, rfl, rfl, _, rfl, ?_⟩
        by_cases c : z = 0
        · rw [if_pos c, List.append_nil] at step
          rw [c, decide_eq_true rfl]
          exact iteF (k2 _ (L2.Same.refl _) (by rw [step]))
        · rw [if_neg c] at step
          rw [decide_eq_false (fun w => c (V.int.inj w))]
          exact iteT ⟨_, rfl, k1 _ _ (L2.Same.refl _) (by rw [step, List.map_append]; rfl)⟩
      intro H16 s16 hD
      rw [List.take_of_length_le (by rw [List.length_map]; exact Nat.le_refl _)] at hD
      refine ⟨Nat.zero_le _, fun p3 np3 => eqL0 (.inl (.inl (same_new np3 _ _ hD))) upd_same ?_⟩
      have s17 := (((s13.trans s14).trans s15).trans s16).trans (same_new (o := .lst []) np3)
      rw [← nz_filter]
      dsimp only [gName]
      show tIfS _ _ _ _ [some (.ref a), some (.ref b), some (.int (m : Int)), some (.int (d : Int)), some (.ref u), some (.ref B), some (.ref r), some (.int (t : Int)), some (.ref p1), some (.bl (smB t (line fl m))), none] _
      generalize upd H16 p3 (.lst []) = H17 at s17 ⊢
      have hr17 := seqT s17 hr
      refine ⟨_, rfl, _, _, rfl, rfl, _, rfl, ?_⟩
      by_cases ct : (0 : Int) < (t : Int)
      · rw [decide_eq_true ct]
        refine iteT ?_
        walk_at "rd"
        refine ⟨r, line fl m, t - 1, congrArg (fun z : Int => [V.ref r, V.int z]) (show (t : Int) - 1 = ((t - 1 : Nat) : Int) by omega), hr17, lne fl, ll, by omega, fun H18 s18 => ?_⟩
        rw [Nat.sub_add_cancel (show 1 ≤ t by omega)]
        refine ⟨_, rfl, _, _, rfl, _, rfl, ?_⟩
        rw [decide_eq_true rfl]
        exact ite2 (fun c => Bool.noConfusion c) (fun _ => ⟨_, _, _, rfl, s17.trans s18⟩)
      · rw [decide_eq_false ct]
        refine iteF ?_
        exact iteF ⟨_, _, _, rfl, s17⟩
    · rintro σ H13 ⟨y7, y8, y9, rfl, s13⟩
      have hr13 := seqT s13 hr
      walk_at "rd"
      refine ⟨r, line fl m, 1, rfl, hr13, lne fl, ll, by omega, fun p1 H14 np1 s14 hp1 => ?_⟩
      walk_at "rd"
      refine ⟨r, line fl m, 1, rfl, seqT s14 hr13, lne fl, ll, by omega, fun p2 H15 np2 s15 hp2 => ?_⟩
      refine neL (.inl (.inl (s15 _ _ hp1))) (.inl (.inl hp2)) ?_
      rw [decide_eq_true rfl]
      exact ⟨_, rfl, ite2 (fun c => Bool.noConfusion c) (fun _ => ⟨_, _, _, _, rfl, (s13.trans s14).trans s15⟩)⟩
  · rintro σ H13 ⟨y6, y7, y8, y9, rfl, s13⟩
    have hu13 := seqT s13 hu11
    have hB13 := seqL s13 hB11
    have fin : ∀ H14, Same H13 H14 → tRet (tOp rIsB (tCall (sp_is_smooth K) [] E0 (tCons (tVar 4) (tCons (tC (.int 9)) tNil))) (tC (.bl true))) { nx := fun _ H' => Q .non H', rt := Q }
        [some (.ref a), some (.ref b), some (.int (m : Int)), some (.int (d : Int)), some (.ref u), some (.ref B), y6, y7, y8, y9, none] H14 := fun H14 s14 => by
      walk_at "rd"
      refine ⟨u, line f m, 9, rfl, seqT s14 hu13, lne f, by rw [line_len]; omega, by omega, fun H15 s15 => ?_⟩
      rw [sB (9 + 1) (by omega)]
      walk_at "rd"
      exact q _
    walk_at "rd"
    by_cases cm : ((d : Int) + 1) < (m : Int)
    · rw [decide_eq_true cm]
      refine iteT ?_
      refine ⟨_, rfl, B, _, rfl, .inl ⟨hB13, fun v2 nv2 => ?_⟩⟩
      have s14 := same_new (o := .tup ((line g m).map V.int)) nv2
      walk_at "rd"
      refine ⟨v2, line g m, d, rfl, .inl (.inl upd_same), lne g, by rw [line_len]; omega, by omega, fun H15 s15 => ?_⟩
      have e : smB (d + 1) (line g m) = false := by
        cases c : smB (d + 1) (line g m) with
        | false => rfl
        | true => exact absurd (smB_iff.mp c) (bn (by omega))
      rw [e]
      refine ⟨_, _, rfl, rfl, _, rfl, ?_⟩
      exact ite2 (fun c => Bool.noConfusion c) (fun _ => fin _ (s14.trans s15))
    · rw [decide_eq_false cm]
      exact iteF (iteF (fin _ (L2.Same.refl _)))

end
end Ev

/-! ### the head -/
namespace Ev
open PySem PySem.Spec PyProof.Rows L2 RZ Ly
def d__law_cell_at : He.DefD := ⟨("_law_cell_at", none), "_law_cell_at", "_law_cell_at", defArgs S__law_cell_at, defBody S__law_cell_at, defScope S__law_cell_at, [], []⟩
def d__law_mixed : He.DefD := ⟨("_law_mixed", none), "_law_mixed", "_law_mixed", defArgs S__law_mixed, defBody S__law_mixed, defScope S__law_mixed, [], []⟩
def d__law_draw : He.DefD := ⟨("_law_draw", none), "_law_draw", "_law_draw", defArgs S__law_draw, defBody S__law_draw, defScope S__law_draw, [], []⟩
def d__law_same_truth : He.DefD := ⟨("_law_same_truth", none), "_law_same_truth", "_law_same_truth", defArgs S__law_same_truth, defBody S__law_same_truth, defScope S__law_same_truth, [], []⟩
def d__law_power : He.DefD := ⟨("_law_power", none), "_law_power", "_law_power", defArgs S__law_power, defBody S__law_power, defScope S__law_power, [], []⟩
def d__law_smooth_worths : He.DefD := ⟨("_law_smooth_worths", none), "_law_smooth_worths", "_law_smooth_worths", defArgs S__law_smooth_worths, defBody S__law_smooth_worths, defScope S__law_smooth_worths, [], []⟩
def d__law_steps_so : He.DefD := ⟨("_law_steps_so", none), "_law_steps_so", "_law_steps_so", defArgs S__law_steps_so, defBody S__law_steps_so, defScope S__law_steps_so, [], []⟩
def d_is_whole : He.DefD := ⟨("is_whole", none), "is_whole", "is_whole", defArgs S_is_whole, defBody S_is_whole, defScope S_is_whole, [], []⟩
def d_is_from_to : He.DefD := ⟨("is_from_to", none), "is_from_to", "is_from_to", defArgs S_is_from_to, defBody S_is_from_to, defScope S_is_from_to, [], []⟩
def d_check_order : He.DefD := ⟨("check_order", none), "check_order", "check_order", defArgs S_check_order, defBody S_check_order, defScope S_check_order, [], []⟩
def d_check_worths : He.DefD := ⟨("check_worths", none), "check_worths", "check_worths", defArgs S_check_worths, defBody S_check_worths, defScope S_check_worths, [], []⟩
def d_differences_of : He.DefD := ⟨("differences_of", none), "differences_of", "differences_of", defArgs S_differences_of, defBody S_differences_of, defScope S_differences_of, [], []⟩
def d_differences : He.DefD := ⟨("differences", none), "differences", "differences", defArgs S_differences, defBody S_differences, defScope S_differences, [], [("order", .int 1)]⟩
def d_check_degree : He.DefD := ⟨("check_degree", none), "check_degree", "check_degree", defArgs S_check_degree, defBody S_check_degree, defScope S_check_degree, [], [("most", .int 9)]⟩
def d_is_smooth : He.DefD := ⟨("is_smooth", none), "is_smooth", "is_smooth", defArgs S_is_smooth, defBody S_is_smooth, defScope S_is_smooth, [], []⟩
def d_law : He.DefD := ⟨("law", none), "law", "law", defArgs S_law, defBody S_law, defScope S_law, [], []⟩
def fnL : List He.DefD := [d__law_cell_at, d__law_mixed, d__law_draw, d__law_same_truth, d__law_power, d__law_smooth_worths, d__law_steps_so, d_is_whole, d_is_from_to, d_check_order, d_check_worths, d_differences_of, d_differences, d_check_degree, d_is_smooth, d_law]
def faL : List He.Fa := [.glo "_law_cell_at", .glo "_law_mixed", .glo "_law_draw", .glo "_law_same_truth", .glo "_law_power", .glo "_law_smooth_worths", .glo "_law_steps_so", .glo "is_whole", .glo "is_from_to", .glo "check_order", .glo "check_worths", .glo "differences_of", .glo "differences", .glo "check_degree", .glo "is_smooth", .glo "law", .free "all", .free "bool", .free "enumerate", .free "int", .free "isinstance", .free "len", .free "list", .free "min", .free "range", .free "sum", .free "tuple", .free "zip", .int "MOST_ORDER" (9)]
abbrev Rw : PySem.W.OpenRow := PySem.W.OpenLaw.row PySem.Challenge.rw_evenrows_k02_whole_smooth
abbrev hk : PySem.W.Hook := He.hookD 5 faL fnL
def ob (s : PySem.W.SharedT) : He.AlD := He.obsDG 5 faL fnL (HandSHeadRun.getT s)
theorem ob_eq (s : PySem.W.SharedT) : ob s = hk.obs s.abs := He.obsDG_eq (HandSHeadRun.getT_eq s)
def loose0 : List PySem.Str := ["TurnError", "NoWorths", "NoOrder", "NoDegree", "MOST_ORDER", "MOST_DEGREE", "is_whole", "is_from_to", "check_worths", "check_order", "check_degree", "differences", "is_smooth", "differences_of", "_law_cell_at", "_law_mixed", "_law_draw", "_law_same_truth", "_law_steps_so", "_law_power", "_law_smooth_worths"]
def looseL : List PySem.Str := loose0
theorem run (w : World) : HandSHeadRun.RunEq Rw (PySem.W.view Rw.prog [25]) hk ob 20000 looseL w := by
  intro os
  kernel_rfl
theorem txt {K : PySem.W.Frag} {h : Heap} {mg : Str → Option Value} (X : K.In h) (G : h.Ns mainGlobals mg) (c : He.SaysD faL fnL K) : Txt K mg where
  f__law_cell_at := at_of (d := d__law_cell_at) X G c 0 0 rfl rfl rfl
  f__law_mixed := at_of (d := d__law_mixed) X G c 1 1 rfl rfl rfl
  f__law_draw := at_of (d := d__law_draw) X G c 2 2 rfl rfl rfl
  f__law_same_truth := at_of (d := d__law_same_truth) X G c 3 3 rfl rfl rfl
  f__law_power := at_of (d := d__law_power) X G c 4 4 rfl rfl rfl
  f__law_smooth_worths := at_of (d := d__law_smooth_worths) X G c 5 5 rfl rfl rfl
  f__law_steps_so := at_of (d := d__law_steps_so) X G c 6 6 rfl rfl rfl
  f_is_whole := at_of (d := d_is_whole) X G c 7 7 rfl rfl rfl
  f_is_from_to := at_of (d := d_is_from_to) X G c 8 8 rfl rfl rfl
  f_check_order := at_of (d := d_check_order) X G c 9 9 rfl rfl rfl
  f_check_worths := at_of (d := d_check_worths) X G c 10 10 rfl rfl rfl
  f_differences_of := at_of (d := d_differences_of) X G c 11 11 rfl rfl rfl
  f_differences := at_of (d := d_differences) X G c 12 12 rfl rfl rfl
  f_check_degree := at_of (d := d_check_degree) X G c 13 13 rfl rfl rfl
  f_is_smooth := at_of (d := d_is_smooth) X G c 14 14 rfl rfl rfl
  b_all := He.free_ok X G (c.fact 16 (f := .free "all") rfl)
  b_bool := He.free_ok X G (c.fact 17 (f := .free "bool") rfl)
  b_enumerate := He.free_ok X G (c.fact 18 (f := .free "enumerate") rfl)
  b_int := He.free_ok X G (c.fact 19 (f := .free "int") rfl)
  b_isinstance := He.free_ok X G (c.fact 20 (f := .free "isinstance") rfl)
  b_len := He.free_ok X G (c.fact 21 (f := .free "len") rfl)
  b_list := He.free_ok X G (c.fact 22 (f := .free "list") rfl)
  b_min := He.free_ok X G (c.fact 23 (f := .free "min") rfl)
  b_range := He.free_ok X G (c.fact 24 (f := .free "range") rfl)
  b_sum := He.free_ok X G (c.fact 25 (f := .free "sum") rfl)
  b_tuple := He.free_ok X G (c.fact 26 (f := .free "tuple") rfl)
  b_zip := He.free_ok X G (c.fact 27 (f := .free "zip") rfl)
  k_MOST_ORDER := He.int_ok X G (c.fact 28 (f := .int "MOST_ORDER" (9)) rfl)
theorem facts {P : Program} {w : World} {K : PySem.W.Frag} {h : Heap} {mg : Str → Option Value} {f : Addr} (X : K.In h) (G : h.Ns mainGlobals mg) (hfa : mg ("law" : Str) = some (.ref f)) (c : He.SaysD faL fnL K) :
    ∃ fd : FuncData, (∀ (s : Shared) (v : Value), BindsTo s fd ⟨[v], []⟩ [("_law_script", v)]) ∧ ∀ base : Heap, K.In base → base.Ns mainGlobals mg → FnOk P w K mg base CX0 5 f fd ["_law_script"] (sp_law K) := by
  obtain ⟨fd, F⟩ := c.def_ 15 (d := d_law) rfl
  have e := hfa.symm.trans (He.glo_ok X G (c.fact 15 (f := .glo "law") rfl))
  cases e
  have b := FunD.bindsA (ps := ["_law_script"]) F fun _ _ _ _ _ _ us hl => match us, hl with | [_], _ => rfl
  exact ⟨fd, fun s v => b s [v] rfl, fun base _ _ => ok_law (txt X G c) F⟩
end Ev
open PySem PySem.W PySem.Calls PyProof.Rows
set_option maxHeartbeats 0 in
theorem PySem.Challenge.cw_evenrows_k02_whole_smooth_holds : PySem.Challenge.rw_evenrows_k02_whole_smooth.Holds := by
  w_on; o_law
  refine HandSHeadRun.head_any (r := (OpenLaw.row PySem.Challenge.rw_evenrows_k02_whole_smooth)) (q := view (OpenLaw.row PySem.Challenge.rw_evenrows_k02_whole_smooth).prog [25]) (H := Ev.hk) (ob := Ev.ob) (M := 20000) (loose := Ev.looseL) (d := HandSHeadRun.topDef (OpenLaw.row PySem.Challenge.rw_evenrows_k02_whole_smooth).prog 25) (kwd := []) Ev.ob_eq
    (by kernel_rfl) (fun s => by kernel_rfl) Ev.run (by kernel_rfl) (by kernel_rfl) (by kernel_rfl) (by rfl) (by first | assumption | decide +kernel) (by decide +kernel) ⟨rfl, rfl, rfl, rfl, rfl, by decide +kernel⟩ ?hw ?hc
  case hw => w_witness2
  case hc =>
    refine L2.walk_ofE (l := PySem.Challenge.rw_evenrows_k02_whole_smooth) (n := 63) (k := 5) (x := "_law_script") (CX := L2.CX0) rfl (by decide) (by kernel_rfl) ⟨rfl, by decide, by decide⟩ ?F (fun _ _ _ _ z => z)
    intro w mg fa h Y G hmg0
    obtain ⟨K, KX, c⟩ := Y
    have hmg : mg ("law" : PySem.Str) = some (.ref fa) := by
      have e : (HandSHeadRun.topDef (OpenLaw.row PySem.Challenge.rw_evenrows_k02_whole_smooth).prog 25).name = ("law" : PySem.Str) := by kernel_rfl
      rw [← e]
      exact hmg0
    obtain ⟨fd, hb, hF⟩ := Ev.facts (P := (PySem.Challenge.rw_evenrows_k02_whole_smooth).prog) (w := w) KX G hmg c
    exact ⟨K, fd, Ev.sp_law K, KX, hb, fun H a ns hl _ hS => ⟨a, ns, rfl, hS, hl, fun _ => rfl⟩, hF⟩
