import PyProof.Rows.All
import Wide.All
import OpenK.AllK
import Wide.FinOn
import HandS.Base
import HandS.Call
import HandS.List
import HandS.Comp
import HandS.Ends
import HandS.Dict
import HandS.Iter
import HandS.Text
import HandS.Words
import HandS.WordsList
import HandS.WordsDict
import HandS.Exc
import HandS.TryOnly
import HandS.ExcOwn
import HandS.ExcInit
import HandS.WordsExc
import HandS.HotCalls
import KE.KExcIs
import PyProof.ReprRoads
import PyProof.ReprLen
import HandS.More
import HandS.IsInst
import HandS.Walk
import HandS.ListItems
import HandS.Wide
import HandS.Strs
import KE.KSetAt
import HandS.DictComp
import HandS.Style
import HandS.Deep
import HandS.SetTxt0
import HandS.SetBool
import KE.SortData
import HandS.Evl
import HandS.Flow
import PySem.Challenge.RW_stillmain_k61_steps_told
set_option Elab.async false
set_option linter.all false
set_option maxRecDepth 100000
set_option maxHeartbeats 4000000
/-! Part 1: a def that runs where no guard stands (G), so that repr of data may be told. -/
namespace SM
open PySem PySem.Spec PyProof.Rows L2
/-- nothing is being shown around -/
abbrev Quiet (A : Around) : Prop := A.guards = some []
theorem quiet_deeper {A : Around} (q : Quiet A) (env : Env) : Quiet (A.deeper env) := q
/-- a def's promise, where nothing is being shown around -/
structure FnG (P : Program) (w : World) (K : PySem.W.Frag) (mg : Str → Option Value) (base : Heap) (CX : CXT) (k : Nat) (f : Addr) (fd : FuncData) (ps : List Str) (sp : Sp) : Prop where
  len : ∀ vs H Q E, sp vs H Q E → vs.length = ps.length
  go : ∀ (A : Around) (outer : List Env) (s : Shared) (H : Hp) (args : Args) (us : List Value) (vs : List V) (Q : VK) (E : XK), Quiet A → Room k A → Env0 P w K mg base A outer s H → BindsTo s fd args (ps.zip us) → Vals vs us → sp vs H Q E →
    codeAny (model P w) A (.call (.ref f) args) (CR CX outer P w H s Q E) s
section
variable {P : Program} {w : World} {K : PySem.W.Frag} {mg : Str → Option Value} {base : Heap} {CX : CXT} {k : Nat} {f : Addr} {fd : FuncData} {ps : List Str} {sp : Sp}
theorem FnG.of (F : FnOk P w K mg base CX k f fd ps sp) : FnG P w K mg base CX k f fd ps sp :=
  ⟨F.len, fun A outer s H args us vs Q E _ hr e0 hb r h => F.run A outer s H args us vs Q E hr e0 hb r h⟩
theorem FnG.up {j : Nat} (F : FnG P w K mg base CX j f fd ps sp) (h : j ≤ k) : FnG P w K mg base CX k f fd ps sp :=
  ⟨F.len, fun A outer s H args us vs Q E q hr => F.go A outer s H args us vs Q E q (hr.mono h)⟩
end
section
variable {CX : CXT} {P : Program} {w : World} {K : PySem.W.Frag} {mg : Str → Option Value} {base : Heap}
/-- a quiet def by its body -/
theorem fnG_body {k : Nat} {f : Addr} {name qual : Str} {params : Arguments} {body : List Stmt} {scope : Scope} {dV kV doc pm cdv ct oc : Value} {an od : Option Addr} {osl : Array (Option Value)} {N ps : List Str} {sp : Sp}
    (lk : K.lookup f = some ⟨oc, od, .func (PySem.W.fnOf name qual params body scope dV kV doc pm an cdv ct), osl⟩) (hcd : PySem.W.codeIn K cdv qual = true) (S : FnScope N ps scope) (len : ∀ vs H Q E, sp vs H Q E → vs.length = ps.length)
    (bd : ∀ (A : Around) (outer : List Env) (s : Shared) (H : Hp) (vs : List V) (Q : VK) (E : XK), Quiet A → Room k (A.deeper (envOfC qual scope s.heap.objs.size f cdv)) → sp vs H Q E →
      ∃ t, PSs (cxOf CX P w K mg base N qual scope f cdv A outer s H E) body t ∧ t { nx := fun _ H' => Q .non H', rt := Q } (L2.start N vs) H) :
    FnG P w K mg base CX (k + 1) f (PySem.W.fnOf name qual params body scope dV kV doc pm an cdv ct) ps sp where
  len := len
  go A outer s H args us vs Q E qa hr e0 hb r hsp := by
    have hvl := len vs H Q E hsp
    have kIn : K.In s.heap := e0.mod.kin.keeps fun b o z => (e0.bs b o z).1
    have noLim : s.heap.NoLimit := e0.mod.nolimit.keeps fun b o z => (e0.bs b o z).1
    have kinds : ∀ y ∈ ps.zip us, scope.names.lookup y.1 = some .local ∨ (scope.names.lookup y.1 = some .cell ∧ ((cellsFrom (s.heap.objs.size + 1) scope.names []).lookup y.1).isSome = true) := by
      rintro ⟨n, v⟩ hy
      exact (S.par n (List.of_mem_zip hy).1).imp id fun q => ⟨q, PySem.W.cellsFrom_some _ _ _ (.inl q)⟩
    refine codeAny_call_function hr.depth (kIn f _ lk) rfl S.co S.gen rfl (PySem.W.codeRec_of kIn hcd) (hb _ _ _ _ ?_)
    refine wpAny_newFunctionEnv_cells S.kind kinds fun env he s1 x => ?_
    subst he
    obtain ⟨t, ht, hq⟩ := bd A outer s H vs Q E qa (hr.deeper _) hsp
    have J : Inv (cxOf CX P w K mg base N qual scope f cdv A outer s H E) [] (L2.start N vs) H s1 := inv_start S hr.hd e0 hvl r x
    refine ⟨noLim.keeps x.toInCall.keep, codeAny_func (wpAny_mono (ht.run [] s1 _ H _ J hq) ?_ fun _ _ hs => hs)⟩
    intro fl s2 hs
    cases fl with
    | ret u =>
      obtain ⟨v, σ2, H2, J2, rv, q⟩ := hs
      exact ⟨v, H2, J2.os, J2.bare, J2.base, J2.hok, rv, q⟩
    | next =>
      obtain ⟨σ2, H2, J2, q⟩ := hs
      exact ⟨V.non, H2, J2.os, J2.bare, J2.base, J2.hok, rfl, q⟩
    | brk =>
      obtain ⟨_, _, _, z⟩ := hs
      exact z.elim
    | cont =>
      obtain ⟨_, _, _, z⟩ := hs
      exact z.elim
/-- the same of a def of the text, nothing is let out -/
theorem Fun.okG {x qual : Str} {st : Stmt} {f : Addr} {fd : FuncData} {N ps : List Str} {k : Nat} {sp : Sp} (F : L2.Fun K x qual st f fd) (S : FnScope N ps (defScope st)) (len : ∀ vs H Q E, sp vs H Q E → vs.length = ps.length)
    (bd : ∀ (cdv : Value) (A : Around) (outer : List Env) (s : Shared) (H : Hp) (vs : List V) (Q : VK) (E : XK), Quiet A → Room k (A.deeper (envOfC qual (defScope st) s.heap.objs.size f cdv)) → sp vs H Q E →
      ∃ t, PSs (cxOf CX0 P w K mg base N qual (defScope st) f cdv A outer s H E).nox (defBody st) t ∧ t { nx := fun _ H' => Q .non H', rt := Q } (L2.start N vs) H) : FnG P w K mg base CX0 (k + 1) f fd ps sp := by
  obtain ⟨oc, od, kV, doc, pm, an, cdv, ct, osl, rfl, lk, hcd⟩ := F.ex
  refine fnG_body lk hcd S len fun A outer s H vs Q E qa hr hsp => ?_
  obtain ⟨t, ht, hq⟩ := bd cdv A outer s H vs Q E qa hr hsp
  exact ⟨t, ht.nox, hq⟩
end
section
variable {X : Cx} {CX : CXT} {k : Nat} {f : Addr} {fd : FuncData} {ps : List Str} {sp : Sp} {E : XK} {x : Str} {p pos : Pos} {e : Expr} {es : List Expr} {t : TA}
theorem runG {pins : List (Addr × Obj)} {σ : L2.St} {H : Hp} {s : Shared} {Q : VK} {us : List Value} {vs : List V} (F : FnG X.prog X.w X.K X.mg X.base CX k f fd ps sp) (qa : Quiet X.A) (hr : Room k X.A) (hb : Binds X.K fd ps []) (hx : Passes CX X E)
    (I : Inv X pins σ H s) (r : Vals vs us) (h : sp vs H Q E) : wpAny (model X.prog X.w) X.A (call (.ref f) us) (EP X pins σ Q) X.xe s := by
  have el : us.length = ps.length := r.length.symm.trans (F.len vs H Q E h)
  have bb := hb s us I.kIn (by rw [List.append_nil]; exact el)
  rw [List.append_nil] at bb
  refine wpAny_call (codeAny_mono (F.go X.A X.stack s H ⟨us, []⟩ us vs Q E qa hr I.env0 bb r h) ?_)
  intro res s2 hq
  match res, hq with
  | .error er, hq => exact hx pins σ H s er s2 I hq
  | .ok (.ret u), hq => exact I.after hq
  | .ok .next, hq => exact False.elim hq
  | .ok .brk, hq => exact False.elim hq
  | .ok .cont, hq => exact False.elim hq
/-- f(e, ..), f a quiet def, called where it is quiet -/
theorem pe_callG (F : FnG X.prog X.w X.K X.mg X.base CX k f fd ps sp) (qa : Quiet X.A) (hr : Room k X.A) (hg : Gl X x) (hm : X.mg x = some (.ref f)) (hk : PySem.W.keepIn X.K (.ref f) = true) (hb : Binds X.K fd ps []) (hx : Passes CX X E)
    (ha : PA X (e :: es) t) (hdb : (x == ("__debug__" : Str)) = false := by decide) (he : starEach (e :: es) X.env = (false, eval e X.env) :: starEach es X.env := by rfl) (hpl : (backTo pos (starEach es X.env)).any (·.1) = false := by rfl) :
    PE X (.Call (.Name x p) (e :: es) [] pos) (tCall sp [] E t) := by
  refine ⟨fun pins s σ H Q I h => wpAny_Call_Name_kw (ld_glob I hg hm ?_ hdb)⟩
  refine PySem.W.callWith_K (h₀ := X.base) I.ok.mod.kin hk (thn (ha.run pos pins s σ H _ I h) ?_) he hpl
  rintro us s1 ⟨vs, H1, I1, r, q⟩
  rw [List.append_nil] at q
  exact ⟨I1.kIn, runG F qa hr hb hx I1 r q⟩
end
end SM
/-! Part F: defs by name, no address told. -/
namespace SM
open PySem PySem.Spec PyProof.Rows L2
/-- the def st stands at the module's name x -/
def DefAt (K : PySem.W.Frag) (mg : Str → Option Value) (x : Str) (st : Stmt) : Prop := ∃ f fd, L2.Fun K x x st f fd ∧ mg x = some (.ref f)
/-- whoever calls x by its name has the promise sp -/
def OkF (P : Program) (w : World) (K : PySem.W.Frag) (mg : Str → Option Value) (base : Heap) (CX : CXT) (k : Nat) (x : Str) (ps : List Str) (sp : Sp) : Prop :=
  ∃ f fd, mg x = some (.ref f) ∧ PySem.W.keepIn K (.ref f) = true ∧ Binds K fd ps [] ∧ FnOk P w K mg base CX k f fd ps sp
/-- .. where it is quiet -/
def OkQ (P : Program) (w : World) (K : PySem.W.Frag) (mg : Str → Option Value) (base : Heap) (CX : CXT) (k : Nat) (x : Str) (ps : List Str) (sp : Sp) : Prop :=
  ∃ f fd, mg x = some (.ref f) ∧ PySem.W.keepIn K (.ref f) = true ∧ Binds K fd ps [] ∧ FnG P w K mg base CX k f fd ps sp
section
variable {P : Program} {w : World} {K : PySem.W.Frag} {mg : Str → Option Value} {base : Heap} {CX : CXT} {k : Nat} {x : Str} {ps : List Str} {sp : Sp}
theorem OkF.up {j : Nat} (F : OkF P w K mg base CX j x ps sp) (h : j ≤ k) : OkF P w K mg base CX k x ps sp :=
  let ⟨f, fd, a, b, c, d⟩ := F; ⟨f, fd, a, b, c, d.mono h⟩
theorem OkQ.up {j : Nat} (F : OkQ P w K mg base CX j x ps sp) (h : j ≤ k) : OkQ P w K mg base CX k x ps sp :=
  let ⟨f, fd, a, b, c, d⟩ := F; ⟨f, fd, a, b, c, d.up h⟩
theorem OkF.q (F : OkF P w K mg base CX k x ps sp) : OkQ P w K mg base CX k x ps sp :=
  let ⟨f, fd, a, b, c, d⟩ := F; ⟨f, fd, a, b, c, .of d⟩
/-- binding of written parameters -/
abbrev BindsBy (x : Str) (st : Stmt) (ps : List Str) : Prop := ∀ (kV doc pm : Value) (an : Option Addr) (cdv ct : Value) (us : List Value), us.length = ps.length →
  bindArgs (PySem.W.fnOf x x (defArgs st) (defBody st) (defScope st) .none kV doc pm an cdv ct) ⟨us, []⟩ = pure (ps.zip us)
/-- a def that lets nothing out -/
theorem DefAt.ok {st : Stmt} {N : List Str} (D : DefAt K mg x st) (S : FnScope N ps (defScope st)) (b : BindsBy x st ps) (len : ∀ vs H Q E, sp vs H Q E → vs.length = ps.length)
    (bd : ∀ (f : Addr) (cdv : Value) (A : Around) (outer : List Env) (s : Shared) (H : Hp) (vs : List V) (Q : VK) (E : XK), Room k (A.deeper (envOfC x (defScope st) s.heap.objs.size f cdv)) → sp vs H Q E →
      ∃ t, PSs (cxOf CX0 P w K mg base N x (defScope st) f cdv A outer s H E).nox (defBody st) t ∧ t { nx := fun _ H' => Q .non H', rt := Q } (L2.start N vs) H) : OkF P w K mg base CX0 (k + 1) x ps sp := by
  obtain ⟨f, fd, F, g⟩ := D
  exact ⟨f, fd, g, F.kp, F.binds b, F.ok S len fun cdv A outer s H vs Q E hr h => bd f cdv A outer s H vs Q E hr h⟩
/-- .. that may raise -/
theorem DefAt.okX {st : Stmt} {N : List Str} (D : DefAt K mg x st) (S : FnScope N ps (defScope st)) (b : BindsBy x st ps) (len : ∀ vs H Q E, sp vs H Q E → vs.length = ps.length)
    (bd : ∀ (f : Addr) (cdv : Value) (A : Around) (outer : List Env) (s : Shared) (H : Hp) (vs : List V) (Q : VK) (E : XK), Room k (A.deeper (envOfC x (defScope st) s.heap.objs.size f cdv)) → sp vs H Q E →
      ∃ t, PSs (cxOf (L2.CX P w) P w K mg base N x (defScope st) f cdv A outer s H E) (defBody st) t ∧ t { nx := fun _ H' => Q .non H', rt := Q } (L2.start N vs) H) : OkF P w K mg base (L2.CX P w) (k + 1) x ps sp := by
  obtain ⟨f, fd, F, g⟩ := D
  exact ⟨f, fd, g, F.kp, F.binds b, F.okX S len fun cdv A outer s H vs Q E hr h => bd f cdv A outer s H vs Q E hr h⟩
/-- .. that wants it quiet -/
theorem DefAt.okQ {st : Stmt} {N : List Str} (D : DefAt K mg x st) (S : FnScope N ps (defScope st)) (b : BindsBy x st ps) (len : ∀ vs H Q E, sp vs H Q E → vs.length = ps.length)
    (bd : ∀ (f : Addr) (cdv : Value) (A : Around) (outer : List Env) (s : Shared) (H : Hp) (vs : List V) (Q : VK) (E : XK), Quiet A → Room k (A.deeper (envOfC x (defScope st) s.heap.objs.size f cdv)) → sp vs H Q E →
      ∃ t, PSs (cxOf CX0 P w K mg base N x (defScope st) f cdv A outer s H E).nox (defBody st) t ∧ t { nx := fun _ H' => Q .non H', rt := Q } (L2.start N vs) H) : OkQ P w K mg base CX0 (k + 1) x ps sp := by
  obtain ⟨f, fd, F, g⟩ := D
  exact ⟨f, fd, g, F.kp, F.binds b, Fun.okG F S len fun cdv A outer s H vs Q E qa hr h => bd f cdv A outer s H vs Q E qa hr h⟩
end
section
variable {X : Cx} {CX : CXT} {k : Nat} {ps : List Str} {sp : Sp} {E : XK} {x : Str} {p pos : Pos} {e : Expr} {es : List Expr} {t : TA}
theorem pe_f (F : OkF X.prog X.w X.K X.mg X.base CX k x ps sp) (hr : Room k X.A) (hx : Passes CX X E) (ha : PA X (e :: es) t) (hg : Gl X x := by rfl) (hdb : (x == ("__debug__" : Str)) = false := by decide)
    (he : starEach (e :: es) X.env = (false, eval e X.env) :: starEach es X.env := by rfl) (hpl : (backTo pos (starEach es X.env)).any (·.1) = false := by rfl) : PE X (.Call (.Name x p) (e :: es) [] pos) (tCall sp [] E t) := by
  obtain ⟨f, fd, a, b, c, d⟩ := F
  exact pe_call d hr hg a b c .nil hx ha hdb he hpl
theorem pe_q (F : OkQ X.prog X.w X.K X.mg X.base CX k x ps sp) (qa : Quiet X.A) (hr : Room k X.A) (hx : Passes CX X E) (ha : PA X (e :: es) t) (hg : Gl X x := by rfl) (hdb : (x == ("__debug__" : Str)) = false := by decide)
    (he : starEach (e :: es) X.env = (false, eval e X.env) :: starEach es X.env := by rfl) (hpl : (backTo pos (starEach es X.env)).any (·.1) = false := by rfl) : PE X (.Call (.Name x p) (e :: es) [] pos) (tCall sp [] E t) := by
  obtain ⟨f, fd, a, b, c, d⟩ := F
  exact pe_callG d qa hr hg a b c hx ha hdb he hpl
/-- in a try's body: what is raised is wished for at the slots as they stand -/
theorem pe_fS {E : L2.St → XK} (F : OkF X.prog X.w X.K X.mg X.base CX k x ps sp) (hr : Room k X.A) (hx : ∀ σ, PassesAt CX X σ (E σ)) (ha : PA X (e :: es) t) (hg : Gl X x := by rfl) (hdb : (x == ("__debug__" : Str)) = false := by decide)
    (he : starEach (e :: es) X.env = (false, eval e X.env) :: starEach es X.env := by rfl) (hpl : (backTo pos (starEach es X.env)).any (·.1) = false := by rfl) : PE X (.Call (.Name x p) (e :: es) [] pos) (tCallS sp E t) := by
  obtain ⟨f, fd, a, b, c, d⟩ := F
  exact pe_callS d hr hg a b c hx ha hdb he hpl
end
/-! ### small facts -/
theorem if_t {c : Bool} {A B : Prop} (hc : c = true) (h : A) : if c = true then A else B := by
  rw [if_pos hc]
  exact h
theorem if_f {c : Bool} {A B : Prop} (hc : c = false) (h : B) : if c = true then A else B := by
  rw [hc, if_neg Bool.false_ne_true]
  exact h
theorem hu64 {A : Around} {k : Nat} (hr : Room k A) : A.units + 64 < cLine := hr.units
theorem hu0 {A : Around} {k : Nat} (hr : Room k A) : A.units < cLine := hr.units0
/-- what was tracked stays, a new thing beside -/
theorem Same.newp {H : Hp} {p : Addr} {o : HO} (h : H p = none) : Same H (upd H p o) := fun b u e => by
  rw [upd_ne (ne_of_none e h)]
  exact e
theorem Same.seqT {K : PySem.W.Frag} {H H' : Hp} {a : Addr} {xs : List V} (e : Same H H') (h : SqT K H a xs) : SqT K H' a xs := by
  rcases h with (h | ⟨o, h⟩) | h
  · exact .inl (.inl (e _ _ h))
  · exact .inl (.inr ⟨o, e _ _ h⟩)
  · exact .inr h
mutual
theorem dp_same {K : PySem.W.Frag} {H H' : Hp} (e : Same H H') : ∀ (d : PyData) (v : V), Dp K H v d → Dp K H' v d
  | .none, _, h => by cases h; exact .non
  | .bool _, _, h => by cases h; exact .bl _
  | .int _, _, h => by cases h; exact .int _
  | .str _, _, h => by cases h; exact .str _
  | .list ds, _, h => by cases h with | lst s t => exact .lst (L2.Same.seq e s) (dps_same e ds _ t)
  | .tuple ds, _, h => by cases h with | tup s t => exact .tup (Same.seqT e s) (dps_same e ds _ t)
  | .dict _, _, h => by cases h
theorem dps_same {K : PySem.W.Frag} {H H' : Hp} (e : Same H H') : ∀ (ds : List PyData) (vs : List V), DpAll K H vs ds → DpAll K H' vs ds
  | [], _, h => by cases h; exact .nil
  | d :: ds, _, h => by cases h with | cons a b => exact .cons (dp_same e d _ a) (dps_same e ds _ b)
end
end SM
/-! Part G: the bag of draws. -/
namespace SM
open PySem PySem.Spec PyProof.Rows L2
/-- l[i], i not below nought, for l[i] op= e -/
def gL (K : PySem.W.Frag) : V → V → Hp → VK → Prop := fun x y H Q => ∃ (p : Addr) (xs : List V) (i : Int) (v : V), x = .ref p ∧ y = .int i ∧ SqL K H p xs ∧ 0 ≤ i ∧ xs[i.toNat]? = some v ∧ Q v H
theorem get_list {X : Cx} : PGet X (gL X.K) := by
  intro pins s σ H o i ov iv Q I ro ri h
  obtain ⟨p, xs, n, v, rfl, rfl, sq, h0, hx, q⟩ := h
  obtain rfl : ov = Value.ref p := ro
  obtain ⟨t, rfl⟩ := ri
  obtain ⟨its, rv, pl, hz⟩ := I.list sq
  obtain ⟨u, eu, ru⟩ := rv.get hx
  have hi : n.toNat < xs.length := (List.getElem?_eq_some_iff.mp hx).1
  have l63 := line63
  exact wpAny_getItem_list pl.isList h0 (by omega) (by simpa using eu) ⟨v, H, I, ru, q⟩
/-- the bag at p: three numbers and the cells at q -/
structure BagIs (H : Hp) (p q : Addr) (a b c : Int) (ns : List Int) : Prop where
  top : H p = some (.lst [.int a, .int b, .int c, .ref q])
  low : H q = some (.lst (ns.map V.int))
  a0 : 0 ≤ a
  b0 : 0 ≤ b
  b1 : b < 2147483647
  c0 : 0 ≤ c
  nn : ∀ n ∈ ns, 0 ≤ n
def Bag (H : Hp) (p q : Addr) : Prop := ∃ a b c ns, BagIs H p q a b c ns
theorem Bag.ne {H : Hp} {p q : Addr} (B : Bag H p q) : p ≠ q := by
  obtain ⟨a, b, c, ns, B⟩ := B
  intro e
  subst e
  have z := B.top.symm.trans B.low
  have z2 := congrArg (fun o => match o with | some (HO.lst xs) => xs | _ => []) z
  have z3 : ([.int a, .int b, .int c, .ref p] : List V) = ns.map V.int := z2
  have z4 : V.ref p ∈ ns.map V.int := by rw [← z3]; simp
  obtain ⟨n, _, hn⟩ := List.mem_map.mp z4
  cases hn
/-- but for what stands at p all is as it was -/
def But (p : Addr) (H H' : Hp) : Prop := ∀ b, b ≠ p → H' b = H b
theorem But.refl (p : Addr) (H : Hp) : But p H H := fun _ _ => rfl
theorem But.trans {p : Addr} {H H1 H2 : Hp} (x : But p H H1) (y : But p H1 H2) : But p H H2 := fun b hb => (y b hb).trans (x b hb)
theorem But.upd {p : Addr} {H : Hp} {o : HO} : But p H (L2.upd H p o) := fun _ hb => upd_ne hb
theorem Bag.keep {H H' : Hp} {p q : Addr} (B : Bag H p q) (ep : H' p = H p) (eq : H' q = H q) : Bag H' p q := by
  obtain ⟨a, b, c, ns, B⟩ := B
  exact ⟨a, b, c, ns, ep.trans B.top, eq.trans B.low, B.a0, B.b0, B.b1, B.c0, B.nn⟩
theorem Bag.same {H H' : Hp} {p q : Addr} (B : Bag H p q) (e : Same H H') : Bag H' p q := by
  obtain ⟨a, b, c, ns, B⟩ := B
  exact ⟨a, b, c, ns, e _ _ B.top, e _ _ B.low, B.a0, B.b0, B.b1, B.c0, B.nn⟩
theorem Bag.there {H : Hp} {p q : Addr} (B : Bag H p q) : H p ≠ none ∧ H q ≠ none := by
  obtain ⟨a, b, c, ns, B⟩ := B
  refine ⟨fun z => ?_, fun z => ?_⟩
  · rw [B.top] at z
    cases z
  · rw [B.low] at z
    cases z
/-- _law_bag(script): a new bag -/
def spBag (K : PySem.W.Frag) : Sp := fun vs H Q _ => ∃ (a : Addr) (ns : List Int), vs = [.ref a] ∧ SqL K H a (ns.map V.int) ∧ ns.length ≤ 63 ∧
  ∀ (H' : Hp) (p q : Addr), Same H H' → H p = none → H q = none → Bag H' p q → Q (.ref p) H'
/-- _law_take(bag, m): a number from 0 to m - 1; the bag's own list alone is changed -/
def spTake : Sp := fun vs H Q _ => ∃ (p q : Addr) (m : Int), vs = [.ref p, .int m] ∧ Bag H p q ∧ 0 < m ∧ m < 1073741824 ∧
  ∀ (v : Int) (H' : Hp), 0 ≤ v → v < m → Bag H' p q → But p H H' → Q (.int v) H'
/-! the mathematics of a draw -/
theorem fst_ok {b : Int} (h0 : 0 ≤ b) (h1 : b < 2147483647) : 0 ≤ (b + 1) * 39373 % 1000000007 ∧ (b + 1) * 39373 % 1000000007 < 1000000007 := by
  constructor <;> omega
theorem snd_ok (z : Int) : 0 ≤ z % 998244353 ∧ z % 998244353 < 998244353 := by
  constructor <;> omega
theorem atI_some {α : Type} {xs : List α} {v : Int} (h0 : 0 ≤ v) (h1 : v < xs.length) : ∃ y, y ∈ xs ∧ atI xs v = some y := by
  have lt : v.toNat < xs.length := by omega
  refine ⟨xs[v.toNat], List.getElem_mem _, ?_⟩
  have e := atI_nat (xs := xs) (j := v.toNat) (v := xs[v.toNat]) (List.getElem?_eq_getElem lt)
  rw [Int.toNat_of_nonneg h0] at e
  exact e
theorem pos31 : (0 : Int) < 2147483647 := by decide
theorem posA : (0 : Int) < 1000000007 := by decide
theorem posB : (0 : Int) < 998244353 := by decide
end SM
/-! Part X: the program's errors: made with a field, raised, caught, asked. -/
namespace SM
open PySem PySem.Spec PyProof.Rows L2
/-- a class of errors, by what the top has written: C, its bases' chain bm -/
structure ErrC (K : PySem.W.Frag) (C : Addr) (bm : List Value) : Prop where
  look : ∃ nm q N bs sn sub ab col dd k0 k1 k2 k3 k5, K.lookup C = some (excClassObj nm q C N bs bm true sn sub ab col dd k0 k1 k2 k3 k5 "ValueError.__new__")
  ve : PySem.HandSPX.refsVE bm = true
  sa : PySem.W.findIn K (.ref C) "__setattr__" = some (some (.builtin "object.__setattr__"))
  ga : PySem.W.findIn K (.ref C) "__getattribute__" = some (some (.builtin "BaseException.__getattribute__"))
  gg : PySem.W.findIn K (.ref C) "__getattr__" = some none
  ac : PySem.W.findIn K (.ref C) "__class__" = some (some (.builtin "object.__class__"))
  kC : PySem.W.keepIn K (.ref C) = true
  hd : PySem.W.hasDictIn K C = true
/-- what holds of object.__class__ -/
structure ClsGet (K : PySem.W.Frag) : Prop where
  sp : PySem.W.specialIn K (.builtin "object.__class__") "__get__" = some (some (.builtin "getset_descriptor.__get__"))
  tk : PySem.W.takesIn K (.builtin "object.__class__") = some true
section
variable {K : PySem.W.Frag} {C D : Addr} {bm bmD : List Value}
theorem ErrC.cls (T : ErrC K C bm) : ∃ cd, PySem.W.clsIn K C = some cd ∧ cd.mro = .ref C :: bm := by
  obtain ⟨nm, q, N, bs, sn, sub, ab, col, dd, k0, k1, k2, k3, k5, e⟩ := T.look
  refine ⟨{ name := nm, bases := bs, mro := .ref C :: bm, ns := N, qualname := q, hasDict := true, slotNames := sn, subclasses := sub, abstract := ab, collection := col, hasDel := false }, ?_, rfl⟩
  unfold PySem.W.clsIn
  rw [e] <;> rfl
theorem ErrC.some (T : ErrC K C bm) : (PySem.W.clsIn K C).isSome = true := by
  obtain ⟨cd, e, _⟩ := T.cls
  rw [e]
  rfl
theorem ErrC.mro (T : ErrC K C bm) (b : Value) : PySem.W.mroIn K C b = Option.some ((Value.ref C :: bm).contains b) := by
  obtain ⟨cd, e, em⟩ := T.cls
  unfold PySem.W.mroIn
  rw [e, Option.bind_some, em]
  rfl
theorem ErrC.ty (T : ErrC K C bm) : PySem.W.typeIn K (.ref C) = Option.some (.type "type") := by
  obtain ⟨nm, q, N, bs, sn, sub, ab, col, dd, k0, k1, k2, k3, k5, e⟩ := T.look
  show (K.lookup C).map (·.cls) = _
  rw [e]
  rfl
theorem ErrC.base (T : ErrC K C bm) (x : String) (h : PySem.HandSPX.veTail.contains (.type x) = true) : PySem.W.subIn K (.ref C) (.type x) = Option.some true := by
  show PySem.W.mroIn K C (.type x) = _
  rw [T.mro]
  have e := PySem.HandSPX.refsVE_contains x bm T.ve
  rw [h] at e
  show Option.some ((Value.type x == Value.ref C) || bm.contains (.type x)) = _
  rw [e, Bool.or_true]
theorem ErrC.bexc (T : ErrC K C bm) : PySem.W.subIn K (.ref C) (.type "BaseException") = Option.some true := T.base "BaseException" (by decide +kernel)
theorem ErrC.oex (T : ErrC K C bm) : OexC K C := by
  obtain ⟨nm, q, N, bs, sn, sub, ab, col, dd, k0, k1, k2, k3, k5, e⟩ := T.look
  exact ⟨⟨nm, q, N, bs, bm, sn, sub, ab, col, dd, k0, k1, k2, k3, k5, e, T.ve⟩, T.sa, T.bexc, T.ty, T.kC⟩
/-- is the error of C one of D's? -/
theorem ErrC.kit (T : ErrC K C bm) (U : ErrC K D bmD) : PySem.W.kitOne K (.ref C) (.ref D) = Option.some ((Value.ref C :: bm).contains (.ref D)) := by
  unfold PySem.W.kitOne
  by_cases h : (Value.ref C == Value.ref D) = true
  · rw [if_pos h]
    have e : C = D := Value.ref.inj (beq_iff_eq.mp h)
    subst e
    simp
  · rw [if_neg h]
    show (if ((PySem.W.clsIn K D).isSome && PySem.W.typeIn K (.ref D) == Option.some (.type "type")) = true then PySem.W.mroIn K C (.ref D) else none) = _
    rw [U.some, U.ty, T.mro, if_pos (by decide)]
theorem ErrC.kitV (T : ErrC K C bm) (x : String) (h : PySem.HandSPX.veTail.contains (.type x) = true) (m : PySem.W.kitMeta x = true) : PySem.W.kitOne K (.ref C) (.type x) = Option.some true := by
  unfold PySem.W.kitOne
  rw [if_neg (show ¬ ((Value.ref C == Value.type x) = true) from fun z => Bool.noConfusion z)]
  show (if PySem.W.kitMeta x = true then PySem.W.subIn K (.ref C) (.type x) else none) = _
  rw [if_pos m, T.base x h]
theorem ErrC.exm (T : ErrC K C bm) (U : ErrC K D bmD) : PySem.W.exmOne K (.ref C) (.ref D) = Option.some ((Value.ref C :: bm).contains (.ref D)) := by
  unfold PySem.W.exmOne
  rw [U.bexc, if_pos (by decide)]
  show (if ((PySem.W.clsIn K D).isSome && PySem.W.typeIn K (.ref D) == Option.some (.type "type")) = true then PySem.W.mroIn K C (.ref D) else none) = _
  rw [U.some, U.ty, T.mro, if_pos (by decide)]
end
theorem nodup_ix' {α : Type} {l : List α} (hN : l.Nodup) {i j : Nat} {x : α} (a : l[i]? = Option.some x) (b : l[j]? = Option.some x) : i = j := by
  obtain ⟨h1, e1⟩ := List.getElem?_eq_some_iff.mp a
  obtain ⟨h2, e2⟩ := List.getElem?_eq_some_iff.mp b
  exact (List.getElem_inj hN).mp (e1.trans e2.symm)
/-! ### an error with one field, made and raised -/
/-- __init__(self, f): self.f = f, of an error that is being made -/
def spExc (C : Addr) (f : Str) : Sp := fun vs H Q _ => ∃ (a : Addr) (y : V), vs = [.ref a, y] ∧ H a = Option.some (exo a C Option.none) ∧
  ∀ dx, H dx = Option.none → dx ≠ a → Q .non (upd (upd H dx (exd dx [(f, y)])) a (exo a C (Option.some dx)))
/-- the class's __init__ as the top has written it -/
def InitAt (K : PySem.W.Frag) (C : Addr) (q : Str) (st : Stmt) : Prop := ∃ (fI : Addr) (fd : FuncData), L2.Fun K "__init__" q st fI fd ∧ PySem.W.findIn K (.ref C) "__init__" = Option.some (Option.some (.ref fI)) ∧ PySem.W.typeIn K (.ref fI) = Option.some (.type "function")
def InitOk (P : Program) (w : World) (K : PySem.W.Frag) (mg : Str → Option Value) (base : Heap) (C : Addr) (f : Str) : Prop :=
  ∃ (fI : Addr) (fd : FuncData), PySem.W.findIn K (.ref C) "__init__" = Option.some (Option.some (.ref fI)) ∧ PySem.W.typeIn K (.ref fI) = Option.some (.type "function") ∧ Binds K fd [("self" : Str), f] [] ∧ FnOk P w K mg base CX0 1 fI fd [("self" : Str), f] (spExc C f)
theorem init_ok {P : Program} {w : World} {K : PySem.W.Frag} {mg : Str → Option Value} {base : Heap} {C fI : Addr} {bm : List Value} {f q : Str} {st : Stmt} {fd : FuncData} (F : L2.Fun K "__init__" q st fI fd) (T : ErrC K C bm) (no : PySem.W.findIn K (.ref C) f = Option.some Option.none)
    (S : FnScope [("self" : Str), f] [("self" : Str), f] (defScope st))
    (hb : ∀ (cdv : Value) (A : Around) (outer : List Env) (s : Shared) (H : Hp) (E : XK), PSs (cxOf CX0 P w K mg base [("self" : Str), f] q (defScope st) fI cdv A outer s H E).nox (defBody st) (tOst K f (tVar 0) (tVar 1))) : FnOk P w K mg base CX0 1 fI fd [("self" : Str), f] (spExc C f) := by
  refine F.ok S (fun vs H Q E h => ?_) (fun cdv A outer s H vs Q E hr h => ⟨tOst K f (tVar 0) (tVar 1), hb cdv A outer s H E, ?_⟩)
  · obtain ⟨a, y, rfl, _⟩ := h
    rfl
  · obtain ⟨a, y, rfl, ha, k⟩ := h
    exact ⟨y, rfl, .ref a, rfl, a, C, rfl, T.oex, no, .inl ⟨ha, k⟩⟩
theorem PS.imp {X : Cx} {st : Stmt} {t t' : TS} (h : PS X st t) (i : ∀ D σ H, t' D σ H → t D σ H) : PS X st t' := ⟨fun pins s σ H D I q => h.run pins s σ H D I (i D σ H q)⟩
/-- what raise C(e) asks: see raise1 -/
def tRaise1 (C : Addr) (f : Str) (W : WX) (te : TE) : TS := fun _ σ H => tMkO C (spExc C f) [] (tCons te tNil) σ H fun cls d H' => W cls d σ H'
theorem made_eq {H : Hp} {a dx : Addr} {o1 o2 o3 : HO} {u : HO} (ha : H a = Option.none) (n : dx ≠ a) : upd (L2.del (upd (upd (upd H a o1) dx o2) a o3) a) dx u = upd H dx u := by
  funext b
  by_cases h1 : b = dx
  · subst h1
    rw [upd_same, upd_same]
  · rw [upd_ne h1, upd_ne h1]
    by_cases h2 : b = a
    · subst h2
      rw [L2.del_same, ha]
    · rw [L2.del_ne h2, upd_ne h2, upd_ne h1, upd_ne h2]
theorem ps_raise1 {X : Cx} {C : Addr} {bm : List Value} {f x : Str} {W : WX} {e : Expr} {te : TE} {p pos pos2 : Pos} (hc : X.calm = true) (T : ErrC X.K C bm) (IO : InitOk X.prog X.w X.K X.mg X.base C f) (gC : X.mg x = Option.some (.ref C)) (hr : Room 2 X.A) (tk : Takes X W) (he : PE X e te)
    (hg : Gl X x := by rfl) (hdb : (x == ("__debug__" : Str)) = false := by decide) (hs : starEach (e :: []) X.env = (false, eval e X.env) :: starEach [] X.env := by rfl) (hpl : (backTo pos (starEach [] X.env)).any (·.1) = false := by rfl) :
    PS X (.Raise (Option.some (.Call (.Name x p) [e] [] pos)) Option.none pos2) (tRaise1 C f W te) := by
  obtain ⟨fI, fd, iC, tI, hb, F1⟩ := IO
  exact ps_raise hc tk (pmk_oex (k := 1) T.oex iC tI F1 hr hb .nil pass0 hg gC (pa_cons he pa_nil hs) hdb hs hpl)
/-- .. for each new dict of the error, with the field's value -/
theorem raise1 {C : Addr} {f : Str} {y : V} {H1 : Hp} {Q : XK} (k : ∀ d, H1 d = Option.none → Q (.ref C) (Option.some d) (upd H1 d (.xd [(f, y)]))) :
    [y].length ≤ 1000 ∧ ∀ a, H1 a = Option.none → spExc C f (.ref a :: ([y] ++ [])) (upd H1 a (exo a C Option.none))
      (fun v H2 => v = .non ∧ ∃ (d : Addr) (fs : List (Str × V)), H2 a = Option.some (exo a C (Option.some d)) ∧ H2 d = Option.some (exd d fs) ∧ H1 d = Option.none ∧ Q (.ref C) (Option.some d) (upd (L2.del H2 a) d (.xd fs))) (fun _ _ _ => False) := by
  refine ⟨by show 1 ≤ 1000; decide, fun a ha => ⟨a, y, rfl, upd_same, fun dx hd nd => ⟨rfl, dx, [(f, y)], upd_same, ?_, ?_, ?_⟩⟩⟩
  · rw [upd_ne nd, upd_same]
  · rw [upd_ne nd] at hd
    exact hd
  · rw [upd_ne nd] at hd
    rw [made_eq ha nd]
    exact k dx hd
/-- raise C(), C without a field -/
theorem pmk_own0 {X : Cx} {C : Addr} {bmB : List Value} {B newId initId : String} {x : Str} {p pos : Pos} (F : ExcBaseFacts B newId initId bmB) (q : PySem.W.excIn X.K C bmB newId = true) (gC : X.mg x = Option.some (.ref C)) (kC : PySem.W.keepIn X.K (.ref C) = true) (r : Raises X (.ref C)) (hg : Gl X x := by rfl)
    (hdb : (x == ("__debug__" : Str)) = false := by decide) : PMk X (.Call (.Name x p) [] [] pos) (fun _ H Q => Q (.ref C) Option.none H) := by
  intro pins s σ H Q I h
  refine wpAny_Call_Name_kw (ld_glob I hg gC ?_ hdb)
  obtain ⟨bm, N, nm, qn, bs, hdct, sn, sub, ab, col, dd, k0, k1, k2, k3, k5, mN, hC, hN, hni, T⟩ := exc_obj I.kIn q
  refine PySem.W.callWith_K0 I.kIn kC (wpAny_call_exc_subT F T hC hN hni (fun h' e hm => ?_) (by show 0 ≤ sizeLine; exact Nat.zero_le _))
  exact mk_of I hm r h (I.hok.gone hm.new)
/-! ### an error that is handled: asked in a def that is called from the clause -/
/-- the context bears the error's object oe, at a; its class cls, its own dict d -/
structure Bears (X : Cx) (a : Addr) (oe : Obj) (cls : Value) (d : Option Addr) : Prop where
  mem : (a, oe) ∈ X.pn
  z : Zc cls d oe
  fl : ∃ vs, oe.data = .fields vs
/-- the error's own dict, where it has one, stands -/
def DictOk (d : Option Addr) (H : Hp) : Prop := ∀ dd, d = Option.some dd → ∃ fs, H dd = Option.some (.xd fs)
theorem dictOk_none (H : Hp) : DictOk Option.none H := fun _ z => nomatch z
theorem dictOk_new {H : Hp} {d : Addr} {fs : List (Str × V)} : DictOk (Option.some d) (upd H d (.xd fs)) := fun dd z => by
  cases z
  exact ⟨fs, upd_same⟩
theorem DictOk.same {d : Option Addr} {H H' : Hp} (h : DictOk d H) (e : Same H H') : DictOk d H' := fun dd z => let ⟨fs, q⟩ := h dd z; ⟨fs, e _ _ q⟩
section
variable {X : Cx} {pins : List (Addr × Obj)} {σ : L2.St} {H : Hp} {s : Shared} {a C : Addr} {oe : Obj} {d : Option Addr} {bm : List Value}
theorem inst_of (I : Inv X pins σ H s) (b : Bears X a oe (.ref C) d) (hd : DictOk d H) : ∃ od, PySem.W.InstAt s.heap a oe C od ∧ ∀ dd, d = Option.some dd → ∃ o, od = Option.some o ∧ s.heap.get? dd = Option.some o := by
  have ha : s.heap.get? a = Option.some oe := (I.pin (a, oe) (List.mem_append_left _ b.mem)).1
  obtain ⟨vs, hv⟩ := b.fl
  have no : PySem.W.notCls oe = true := by
    unfold PySem.W.notCls
    rw [hv] <;> rfl
  cases hdd : d with
  | none =>
    refine ⟨Option.none, ⟨ha, b.z.1, no, ?_⟩, fun dd z => nomatch z⟩
    rw [b.z.2, hdd]
    trivial
  | some dd =>
    obtain ⟨fs, hx⟩ := hd dd hdd
    obtain ⟨mA, hns, _⟩ := (show ObjOk X.prog X.w H s.heap dd (.xd fs) from I.hok dd _ hx)
    obtain ⟨od, ho, _⟩ := lookIn_ns hns
    refine ⟨Option.some od, ⟨ha, b.z.1, no, ?_⟩, fun d2 z => ?_⟩
    · rw [b.z.2, hdd]
      exact ho
    · cases z
      exact ⟨od, rfl, ho⟩
/-- isinstance(e, c), e the error -/
def rIsX (K : PySem.W.Frag) (C a : Addr) (d : Option Addr) : List V → Hp → VK → Prop := fun xs H Q => ∃ (c : V) (cv : Value) (b : Bool), xs = [.ref a, c] ∧ (∀ u, RelV c u → u = cv) ∧ PySem.W.kitOne K (.ref C) cv = Option.some b ∧ DictOk d H ∧ Q (.bl b) H
theorem call_isX (g : ClsGet X.K) (T : ErrC X.K C bm) (b : Bears X a oe (.ref C) d) : CallR X (.builtin "isinstance") (rIsX X.K C a d) := by
  intro pins s σ H xs us Q I r h
  obtain ⟨c, cv, k, rfl, hcv, e, hd, q⟩ := h
  obtain ⟨u1, u2, rfl, r1, r2⟩ := vals2 r
  obtain rfl : u1 = Value.ref a := r1
  have e2 := hcv _ r2
  subst e2
  obtain ⟨od, J, _⟩ := inst_of I b hd
  have mo : PySem.W.mroIn X.K C (.type "object") = Option.some true := T.base "object" (by decide +kernel)
  refine PySem.W.kia_one (PySem.W.kitx_exc T.some T.ga T.gg T.bexc T.ac g.sp g.tk mo) I.kIn J e (fun z => nomatch z) fun tk => ?_
  exact ⟨.bl k, H, I.tok tk, rfl, q⟩
/-- e.f, e the error -/
def tXfB (a : Addr) (d : Option Addr) (f : Str) (te : TE) : TE := fun σ H Q => te σ H fun x H1 => x = .ref a ∧ ∃ (dd : Addr) (fs : List (Str × V)) (v : V), d = Option.some dd ∧ H1 dd = Option.some (.xd fs) ∧ fs.lookup f = Option.some v ∧ Q v H1
theorem pe_xfB {e : Expr} {te : TE} {pos : Pos} {f : Str} (T : ErrC X.K C bm) (b : Bears X a oe (.ref C) d) (no : PySem.W.findIn X.K (.ref C) f = Option.some Option.none) (he : PE X e te) (hb : attributeBase e f X.env (eval e X.env) = eval e X.env := by rfl) :
    PE X (.Attribute e f pos) (tXfB a d f te) := by
  refine ⟨fun pins s σ H Q I h => attr_of hb (thn (he.run pins s σ H _ I h) ?_)⟩
  rintro u s1 ⟨x, H1, I1, rx, rfl, dd, fs, v, ed, ex, l, q⟩
  obtain rfl : u = Value.ref a := rx
  obtain ⟨od, J, hod⟩ := inst_of I1 b (fun d2 z => by rw [ed] at z; cases z; exact ⟨fs, ex⟩)
  obtain ⟨o, rfl, ho⟩ := hod dd ed
  obtain ⟨mA, hns, hr⟩ := (show ObjOk X.prog X.w H1 s1.heap dd (.xd fs) from I1.hok dd _ ex)
  obtain ⟨o2, ho2, hl⟩ := lookIn_ns hns
  rw [ho] at ho2
  cases ho2
  obtain ⟨w, hw, rw_⟩ := RelO.some_of (v := v) (o := mA f) (by rw [← l]; exact hr f)
  exact PySem.HandSPX.exc_get I1.kIn J T.ga T.gg T.bexc (PySem.W.findObj_own T.hd no rfl (by rw [hl, hw])) (handed_of rw_) ⟨v, H1, I1.tok _, rw_, q⟩
end
/-- a def that is called from a clause, the error handed in: its promise speaks of the error too -/
structure FnX (P : Program) (w : World) (K : PySem.W.Frag) (mg : Str → Option Value) (base : Heap) (k : Nat) (f : Addr) (fd : FuncData) (ps : List Str) (sp : Addr → Value → Option Addr → Sp) : Prop where
  len : ∀ a c d vs H Q E, sp a c d vs H Q E → vs.length = ps.length
  go : ∀ (A : Around) (outer : List Env) (s : Shared) (H : Hp) (args : Args) (us : List Value) (vs : List V) (Q : VK) (E : XK) (a : Addr) (oe : Obj) (c : Value) (d : Option Addr), L2H.RoomH k A → A.handled = Option.some (.ref a) → L2H.PinOk outer H s (a, oe) →
    Zc c d oe → (∃ vs, oe.data = .fields vs) → Env0 P w K mg base A outer s H → BindsTo s fd args (ps.zip us) → Vals vs us → sp a c d vs H Q E → codeAny (model P w) A (.call (.ref f) args) (CR CX0 outer P w H s Q E) s
section
variable {P : Program} {w : World} {K : PySem.W.Frag} {mg : Str → Option Value} {base : Heap}
theorem fnX_body {x qual : Str} {st : Stmt} {f : Addr} {fd : FuncData} {N ps : List Str} {k : Nat} {sp : Addr → Value → Option Addr → Sp} (F : L2.Fun K x qual st f fd) (S : FnScope N ps (defScope st)) (len : ∀ a c d vs H Q E, sp a c d vs H Q E → vs.length = ps.length)
    (bd : ∀ (cdv : Value) (A : Around) (outer : List Env) (s : Shared) (H : Hp) (vs : List V) (Q : VK) (E : XK) (a : Addr) (oe : Obj) (c : Value) (d : Option Addr), Zc c d oe → (∃ vs, oe.data = .fields vs) → L2H.RoomH k (A.deeper (envOfC qual (defScope st) s.heap.objs.size f cdv)) → sp a c d vs H Q E →
      ∃ t, PSs (L2H.cxH CX0 P w K mg base N qual (defScope st) f cdv A outer s H E (a, oe)).nox (defBody st) t ∧ t { nx := fun _ H' => Q .non H', rt := Q } (L2.start N vs) H) : FnX P w K mg base (k + 1) f fd ps sp where
  len := len
  go A outer s H args us vs Q E a oe c d hr hh hpin hz hf e0 hb r hsp := by
    obtain ⟨oc, od, kV, doc, pm, an, cdv, ct, osl, rfl, lk, hcd⟩ := F.ex
    have hvl := len a c d vs H Q E hsp
    have kIn : K.In s.heap := e0.mod.kin.keeps fun b o z => (e0.bs b o z).1
    have noLim : s.heap.NoLimit := e0.mod.nolimit.keeps fun b o z => (e0.bs b o z).1
    have kinds : ∀ y ∈ ps.zip us, (defScope st).names.lookup y.1 = Option.some .local ∨ ((defScope st).names.lookup y.1 = Option.some .cell ∧ ((cellsFrom (s.heap.objs.size + 1) (defScope st).names []).lookup y.1).isSome = true) := by
      rintro ⟨n, v⟩ hy
      exact (S.par n (List.of_mem_zip hy).1).imp id fun q => ⟨q, PySem.W.cellsFrom_some _ _ _ (.inl q)⟩
    refine codeAny_call_function hr.depth (kIn f _ lk) rfl S.co S.gen rfl (PySem.W.codeRec_of kIn hcd) (hb _ _ _ _ ?_)
    refine wpAny_newFunctionEnv_cells S.kind kinds fun env he s1 x1 => ?_
    subst he
    obtain ⟨t, ht, hq⟩ := bd cdv A outer s H vs Q E a oe c d hz hf (hr.deeper _) hsp
    have J : Inv (L2H.cxH CX0 P w K mg base N qual (defScope st) f cdv A outer s H E (a, oe)) [] (L2.start N vs) H s1 := L2H.inv_startH S hpin e0 hvl r x1
    refine ⟨noLim.keeps x1.toInCall.keep, codeAny_func (wpAny_mono (ht.nox.run [] s1 _ H _ J hq) ?_ fun _ _ hs => hs)⟩
    intro fl s2 hs
    cases fl with
    | ret u =>
      obtain ⟨v, σ2, H2, J2, rv, q⟩ := hs
      exact ⟨v, H2, J2.os, J2.bare, J2.base, J2.hok, rv, q⟩
    | next =>
      obtain ⟨σ2, H2, J2, q⟩ := hs
      exact ⟨V.non, H2, J2.os, J2.bare, J2.base, J2.hok, rfl, q⟩
    | brk =>
      obtain ⟨_, _, _, z⟩ := hs
      exact z.elim
    | cont =>
      obtain ⟨_, _, _, z⟩ := hs
      exact z.elim
def OkX (P : Program) (w : World) (K : PySem.W.Frag) (mg : Str → Option Value) (base : Heap) (k : Nat) (x : Str) (ps : List Str) (sp : Addr → Value → Option Addr → Sp) : Prop :=
  ∃ f fd, mg x = Option.some (.ref f) ∧ PySem.W.keepIn K (.ref f) = true ∧ Binds K fd ps [] ∧ FnX P w K mg base k f fd ps sp
theorem DefAt.okH {x : Str} {ps : List Str} {k : Nat} {st : Stmt} {N : List Str} {sp : Addr → Value → Option Addr → Sp} (D : DefAt K mg x st) (S : FnScope N ps (defScope st)) (b : BindsBy x st ps) (len : ∀ a c d vs H Q E, sp a c d vs H Q E → vs.length = ps.length)
    (bd : ∀ (f : Addr) (cdv : Value) (A : Around) (outer : List Env) (s : Shared) (H : Hp) (vs : List V) (Q : VK) (E : XK) (a : Addr) (oe : Obj) (c : Value) (d : Option Addr), Zc c d oe → (∃ vs, oe.data = .fields vs) → L2H.RoomH k (A.deeper (envOfC x (defScope st) s.heap.objs.size f cdv)) → sp a c d vs H Q E →
      ∃ t, PSs (L2H.cxH CX0 P w K mg base N x (defScope st) f cdv A outer s H E (a, oe)).nox (defBody st) t ∧ t { nx := fun _ H' => Q .non H', rt := Q } (L2.start N vs) H) : OkX P w K mg base (k + 1) x ps sp := by
  obtain ⟨f, fd, F, g⟩ := D
  exact ⟨f, fd, g, F.kp, F.binds b, fnX_body F S len fun cdv A outer s H vs Q E a oe c d hz hf hr h => bd f cdv A outer s H vs Q E a oe c d hz hf hr h⟩
end
section
variable {Y : Cx} {k : Nat} {ps : List Str} {sp : Addr → Value → Option Addr → Sp} {x : Str} {p pos : Pos} {e : Expr} {es : List Expr} {t : TA} {a : Addr} {oe : Obj} {c : Value} {d : Option Addr} {pn : List (Addr × Obj)}
/-- f(e, ..) in a clause -/
theorem pe_x (F : OkX Y.prog Y.w Y.K Y.mg Y.base k x ps sp) (hr : Room k Y.A) (hz : Zc c d oe) (hf : ∃ vs, oe.data = .fields vs) (ha : PA (Y.suite a ((a, oe) :: pn)) (e :: es) t) (hg : Gl Y x := by rfl) (hdb : (x == ("__debug__" : Str)) = false := by decide)
    (he : starEach (e :: es) Y.env = (false, eval e Y.env) :: starEach es Y.env := by rfl) (hpl : (backTo pos (starEach es Y.env)).any (·.1) = false := by rfl) : PE (Y.suite a ((a, oe) :: pn)) (.Call (.Name x p) (e :: es) [] pos) (tCall (sp a c d) [] E0 t) := by
  obtain ⟨f, fd, g, kp, hb, F⟩ := F
  refine ⟨fun pins s σ H Q I h => wpAny_Call_Name_kw (ld_glob I hg g ?_ hdb)⟩
  refine PySem.W.callWith_K (h₀ := Y.base) I.ok.mod.kin kp (thn (ha.run pos pins s σ H _ I h) ?_) he hpl
  rintro us s1 ⟨vs, H1, I1, r, q⟩
  rw [List.append_nil] at q
  refine ⟨I1.kIn, ?_⟩
  have el : us.length = ps.length := r.length.symm.trans (F.len _ _ _ vs H1 Q _ q)
  have bb := hb s1 us I1.kIn (by rw [List.append_nil]; exact el)
  rw [List.append_nil] at bb
  have pin := I1.pin (a, oe) (List.mem_append_left _ List.mem_cons_self)
  have pk : L2H.PinOk (Y.suite a ((a, oe) :: pn)).stack H1 s1 (a, oe) := ⟨pin.1, pin.2.1, fun hm => (List.mem_cons.mp (I1.stkSub a hm)).elim pin.2.2.1 pin.2.2.2.1, pin.2.2.2.2⟩
  have rh : L2H.RoomH k (Y.A.mark (Option.some (.ref a))) := ⟨hr.dp, hr.un⟩
  have hh : (Y.A.mark (Option.some (.ref a))).handled = Option.some (.ref a) := rfl
  refine wpAny_call (codeAny_mono (F.go _ _ s1 H1 ⟨us, []⟩ us vs Q E0 a oe c d rh hh pk hz hf I1.env0 bb r q) ?_)
  intro res s2 hq
  match res, hq with
  | .error er, hq => exact False.elim hq
  | .ok (.ret u), hq => exact I1.after hq
  | .ok .next, hq => exact False.elim hq
  | .ok .brk, hq => exact False.elim hq
  | .ok .cont, hq => exact False.elim hq
end
end SM
/-! Part D: data: equal to itself, shown. -/
namespace SM
open PySem PySem.Spec PyProof.Rows L2
mutual
theorem eqv_self : ∀ d : PyData, d.canLay0 = true → PyData.eqv d d = true
  | .none, _ => by simp only [PyData.eqv]
  | .bool b, _ => by simp [PyData.eqv]
  | .int i, _ => by simp [PyData.eqv]
  | .str x, _ => by simp [PyData.eqv]
  | .list xs, h => by
    simp only [PyData.eqv]
    exact eqvAll_self xs (by simpa only [PyData.canLay0] using h)
  | .tuple xs, h => by
    simp only [PyData.eqv]
    exact eqvAll_self xs (by simpa only [PyData.canLay0] using h)
  | .dict _, h => by simp only [PyData.canLay0] at h; exact Bool.noConfusion h
theorem eqvAll_self : ∀ ds : List PyData, PyData.canLayAll0 ds = true → PyData.eqvAll ds ds = true
  | [], _ => by simp only [PyData.eqvAll]
  | d :: ds, h => by
    have h' : d.canLay0 = true ∧ PyData.canLayAll0 ds = true := by simpa only [PyData.canLayAll0, Bool.and_eq_true] using h
    simp only [PyData.eqvAll, eqv_self d h'.1, eqvAll_self ds h'.2, Bool.and_self]
end
/-- data that may be compared and shown -/
structure Fine (d : PyData) : Prop where
  lay : d.canLay0 = true
  dep : d.depth ≤ 50
  ish : d.intsShort 64 = true
  show_ : d.showable = true
  wt : d.weight ≤ 100000
theorem Fine.shaped {d : PyData} (h : Fine d) : SeqAt.shaped d = true := by
  show (d.canLay0 && decide (d.depth ≤ 64)) = true
  rw [h.lay, Bool.true_and]
  exact decide_eq_true (Nat.le_trans h.dep (by decide))
theorem Fine.len {d : PyData} (h : Fine d) : d.shown.length ≤ sizeLine := by
  have e := PyData.shown_le 64 (by decide) d (PyData.leavesShort_of_canLay0 64 d h.lay h.ish)
  have w := h.wt
  have m : (64 + 2) * d.weight ≤ 66 * 100000 := Nat.mul_le_mul (by decide) w
  rw [sizeLine_eq]
  omega
section
variable {X : Cx}
/-- repr(x) of data, where it is quiet -/
def rReprD (K : PySem.W.Frag) : List V → Hp → VK → Prop := fun xs H Q => ∃ (x : V) (d : PyData), xs = [x] ∧ Dp K H x d ∧ Fine d ∧ Q (.str d.shown) H
theorem call_reprD {k : Nat} (qa : Quiet X.A) (hr : Room k X.A) : CallR X (.builtin "repr") (rReprD X.K) := by
  intro pins s σ H xs us Q I r h
  obtain ⟨x, d, rfl, hd, hf, q⟩ := h
  obtain ⟨u, rfl, ru⟩ := vals1 r
  have hu := hr.units
  obtain ⟨as, rd⟩ := Dp.reads I d x u hd ru
  have noD : d.hasDict = true → sysModules ∉ as := PyData.noDict_hsm (PyData.hasDict_of_canLay d hf.lay)
  have room : X.A.units + (d.depth + 1) < cLine := by have := hf.dep; omega
  cases hd with
  | non =>
    obtain rfl : u = Value.none := ru
    exact PySem.P.repr_of_none ⟨V.str _, H, I.tok _, ⟨_, rfl⟩, q⟩
  | bl b =>
    obtain rfl : u = Value.bool b := ru
    exact PySem.P.repr_of_bool ⟨V.str _, H, I.tok _, ⟨_, rfl⟩, q⟩
  | int i =>
    obtain ⟨t, rfl⟩ := ru
    have hs := hf.show_
    simp only [PyData.showable, decide_eq_true_eq] at hs
    exact PySem.P.repr_of_int hs ⟨V.str _, H, I.tok _, ⟨_, rfl⟩, q⟩
  | str z =>
    obtain ⟨t, rfl⟩ := ru
    exact PySem.P.repr_of_str ⟨V.str _, H, I.tok _, ⟨_, rfl⟩, q⟩ hf.len
  | lst s1 s2 =>
    rename_i a xs ds
    obtain rfl : u = Value.ref a := ru
    exact repr_of_reads' rd hf.show_ noD qa room (fun _ _ e => e) (fun h' u tk k => ⟨V.str _, H, I.kept (t' := tk) k, ⟨_, rfl⟩, q⟩) hf.len
  | tup s1 s2 =>
    rename_i a xs ds
    obtain rfl : u = Value.ref a := ru
    exact repr_of_reads' rd hf.show_ noD qa room (fun _ _ e => e) (fun h' u tk k => ⟨V.str _, H, I.kept (t' := tk) k, ⟨_, rfl⟩, q⟩) hf.len
end
theorem dps_bools {K : PySem.W.Frag} {H : Hp} : ∀ bs : List Bool, DpAll K H (bs.map V.bl) (bs.map PyData.bool)
  | [] => .nil
  | b :: bs => .cons (.bl b) (dps_bools bs)
theorem dps_ints {K : PySem.W.Frag} {H : Hp} : ∀ bs : List Int, DpAll K H (bs.map V.int) (bs.map PyData.int)
  | [] => .nil
  | b :: bs => .cons (.int b) (dps_ints bs)
theorem dps_strs {K : PySem.W.Frag} {H : Hp} : ∀ bs : List Str, DpAll K H (bs.map V.str) (bs.map PyData.str)
  | [] => .nil
  | b :: bs => .cons (.str b) (dps_strs bs)
theorem lay_bools : ∀ bs : List Bool, PyData.canLayAll0 (bs.map PyData.bool) = true
  | [] => by simp only [List.map_nil, PyData.canLayAll0]
  | b :: bs => by simp only [List.map_cons, PyData.canLayAll0, PyData.canLay0, lay_bools bs, Bool.and_self]
theorem dep_bools : ∀ bs : List Bool, PyData.depthAll (bs.map PyData.bool) = 0
  | [] => by simp only [List.map_nil, PyData.depthAll]
  | b :: bs => by simp only [List.map_cons, PyData.depthAll, PyData.depth, dep_bools bs, Nat.max_self]
theorem shaped_bools (bs : List Bool) : SeqAt.shaped (.list (bs.map PyData.bool)) = true := by
  show ((PyData.list (bs.map PyData.bool)).canLay0 && decide ((PyData.list (bs.map PyData.bool)).depth ≤ 64)) = true
  simp only [PyData.canLay0, PyData.depth, lay_bools, dep_bools]
  decide
end SM
/-! Part E: the end of a law whose def is quiet. -/
namespace SM
open PySem PySem.Spec PyProof.Rows L2
section
variable {P : Program} {w : World} {K : PySem.W.Frag} {mg mb : Str → Option Value} {k : Nat} {fa a : Addr} {x nm : Str} {sp : Sp} {s1 : Shared} {vs : List Value} {ns : List Int}
/-- what the caller wants of the law's call -/
abbrev LawEnd (s1 : Shared) (r : Result) (s2 : Shared) : Prop := r = .ok (.ret (.bool true)) ∧ OldK s1.heap s2.heap ∧ s2.os = s1.os ∧ AllBare s2.gens
/-- from a heap in which the script alone may stand -/
theorem law_from (H : Hp) (only : Only H) (one : ∀ b, H b ≠ none → b = a) (apart : H a ≠ none → K.lookup a = none) (hok : HOk P w H s1.heap) (sq : SqL K H a (ns.map V.int))
    (kIn : K.In s1.heap) (gl : s1.heap.Ns mainGlobals mg) (bl : s1.heap.Ns builtinsNs mb) (bb : ∀ x : Str, x ≠ "__name__" → mb x = bootBuiltins x) (lim : s1.heap.NoLimit) (gens : s1.gens = #[])
    (obj : s1.heap.get? a = some { cls := .type "list", data := .seq vs.toArray }) (hr : Room k callerA)
    (F : ∀ base : Heap, K.In base → base.Ns mainGlobals mg → OkQ P w K mg base CX0 k nm [x] sp) (hm : mg nm = some (.ref fa))
    (hsp : sp [.ref a] H (fun v _ => v = .bl true) fun _ _ _ => False) : codeAny (model P w) callerA (.call (.ref fa) ⟨[.ref a], []⟩) (LawEnd s1) s1 := by
  have stays : ∀ {b : Addr} {o : Obj}, s1.heap.get? b = some o → (H b ≠ none → False) → (hidT s1.heap H).get? b = some o := fun {b o} e n => by
    refine hidT_get e ?_
    cases q : H b with
    | none => rfl
    | some u => exact (n (by rw [q]; exact fun z => nomatch z)).elim
  have isA : ∀ {b : Addr} {o : Obj}, s1.heap.get? b = some o → H b ≠ none → b = a ∧ o.data = .seq vs.toArray := fun {b o} e n => by
    have eb := one b n
    subst eb
    rw [obj] at e
    exact ⟨rfl, by cases e; rfl⟩
  have nsOf : ∀ {b : Addr} {m : Str → Option Value}, s1.heap.Ns b m → (hidT s1.heap H).Ns b m := by
    rintro b m ⟨o, es, ep, e, d, r⟩
    refine ⟨o, es, ep, stays e fun n => ?_, d, r⟩
    have z := (isA e n).2
    rw [d] at z
    cases z
  have kBase : K.In (hidT s1.heap H) := fun b o e => stays (kIn b o e) fun n => by
    have eb := one b n
    subst eb
    rw [apart n] at e
    cases e
  obtain ⟨mc, l1, l2⟩ := lim
  have M : Mod K mg (hidT s1.heap H) := ⟨kBase, nsOf gl, ⟨mb, nsOf bl, bb⟩, ⟨mc, nsOf l1, l2⟩⟩
  have none_ : ∀ b ∈ frs ([] : List Env), H b = none := fun b hb => absurd (show b ∈ ([] : List Addr) from hb) List.not_mem_nil
  have e0 : Env0 P w K mg (hidT s1.heap H) callerA [] s1 H := ⟨rfl, M, fun b o e => of_hidT e, Nat.le_of_eq (hidT_size _ _), trivial, none_, hok, .of_eq gens⟩
  obtain ⟨f2, fd, g2, _, bind, G2⟩ := F _ kBase (nsOf gl)
  rw [hm] at g2
  cases g2
  refine codeAny_mono (G2.go callerA [] s1 H ⟨[.ref a], []⟩ [.ref a] [.ref a] _ _ rfl hr e0 (bind s1 [.ref a] kIn rfl) (.cons rfl .nil) hsp) ?_
  intro r s2 q
  match r, q with
  | .error _, q => exact False.elim q
  | .ok .next, q => exact False.elim q
  | .ok .brk, q => exact False.elim q
  | .ok .cont, q => exact False.elim q
  | .ok (.ret u), ⟨v, H2, os, bare, un, hok2, rv, qv⟩ =>
    have qv' : v = .bl true := qv
    subst qv'
    have eu : u = Value.bool true := rv
    subst eu
    refine ⟨rfl, OldK.of_keep fun b o e => ?_, os, bare⟩
    have nofr : b ∉ frs ([] : List Env) := fun z => absurd (show b ∈ ([] : List Addr) from z) List.not_mem_nil
    cases q : H b with
    | none => exact un.keep b o e q nofr List.not_mem_nil
    | some u2 =>
      obtain z | ⟨ob, xs, z⟩ := only b
      · rw [q] at z
        cases z
      · have z1 := (hok b _ z).1
        rw [e] at z1
        cases z1
        exact (hok2 b _ (un.frzs b _ _ z)).1
theorem law_callG (kIn : K.In s1.heap) (gl : s1.heap.Ns mainGlobals mg) (bl : s1.heap.Ns builtinsNs mb) (bb : ∀ x : Str, x ≠ "__name__" → mb x = bootBuiltins x) (lim : s1.heap.NoLimit) (gens : s1.gens = #[])
    (obj : s1.heap.get? a = some { cls := .type "list", data := .seq vs.toArray }) (hi : IntsAre vs ns) (hl : ns.length ≤ sizeLine) (hr : Room k callerA)
    (F : ∀ base : Heap, K.In base → base.Ns mainGlobals mg → OkQ P w K mg base CX0 k nm [x] sp) (hm : mg nm = some (.ref fa))
    (hsp : ∀ H : Hp, SqL K H a (ns.map V.int) → sp [.ref a] H (fun v _ => v = .bl true) fun _ _ _ => False) : codeAny (model P w) callerA (.call (.ref fa) ⟨[.ref a], []⟩) (LawEnd s1) s1 := by
  have rv : Vals (ns.map V.int) vs := vals_of_ints hi
  have ln : (ns.map V.int).length = vs.length := rv.length
  rw [List.length_map] at ln
  by_cases hk : K.lookup a = none
  · have at_ : (fun b => if b = a then some (HO.frz { cls := .type "list", data := .seq vs.toArray } (.lst (ns.map V.int))) else none : Hp) a = some (HO.frz { cls := .type "list", data := .seq vs.toArray } (.lst (ns.map V.int))) := if_pos rfl
    refine law_from (fun b => if b = a then some (HO.frz { cls := .type "list", data := .seq vs.toArray } (.lst (ns.map V.int))) else none) (fun b => ?_) (fun b n => ?_) (fun _ => hk) (fun b u e => ?_) (.inl (.inr ⟨_, at_⟩)) kIn gl bl bb lim gens obj hr F hm (hsp _ (.inl (.inr ⟨_, at_⟩)))
    · by_cases hb : b = a
      · exact .inr ⟨_, _, if_pos hb⟩
      · exact .inl (if_neg hb)
    · by_cases hb : b = a
      · exact hb
      · exact absurd (if_neg hb) n
    · by_cases hb : b = a
      · subst hb
        have e' := at_.symm.trans e
        cases e'
        exact ⟨obj, by rw [List.length_map]; exact hl, vs, _, rv, obj⟩
      · have e' := (if_neg hb).symm.trans e
        cases e'
  · obtain ⟨o, ho⟩ := Option.ne_none_iff_exists'.mp hk
    have eo := kIn a o ho
    rw [obj] at eo
    cases eo
    have sq : SqL K (fun _ => none) a (ns.map V.int) := .inr ⟨_, vs.toArray, _, ho, rfl, rfl, rfl, by rw [List.size_toArray, ← ln]; exact hl, by simpa using rv⟩
    exact law_from (fun _ => none) (fun _ => .inl rfl) (fun b n => absurd rfl n) (fun n => absurd rfl n) (fun b u z => by cases z) sq kIn gl bl bb lim gens obj hr F hm (hsp _ sq)
end
/-- what the head leaves to be shown, from a quiet def -/
theorem walkG {l : PySem.W.OpenLaw} {n k : Nat} {q : Program} {loose : List Str} {XP : (Str → Option Value) → Heap → Prop} {YP : World → Heap → Prop} {d : DefRec} {K : Params → PySem.W.Frag} {sp : PySem.W.Frag → Sp} {x : Str}
    (hn : l.most = some n) (hn2 : n ≤ sizeLine) (hdf : d.params.defaults = []) (hr : Room k callerA) (hY : ∀ (w : World) (h : Heap), YP w h → (K w.params).In h)
    (F : ∀ (w : World) (mg : Str → Option Value) (fa : Addr) (h : Heap), (K w.params).In h → h.Ns mainGlobals mg → mg d.name = some (.ref fa) →
      ∀ base : Heap, (K w.params).In base → base.Ns mainGlobals mg → OkQ l.prog w (K w.params) mg base CX0 k d.name [x] (sp (K w.params)))
    (hsp : ∀ (K : PySem.W.Frag) (H : Hp) (a : Addr) (ns : List Int), ns.length ≤ n → SqL K H a (ns.map V.int) → sp K [.ref a] H (fun v _ => v = .bl true) fun _ _ _ => False) :
    PySem.W.WalkO q loose XP YP l.row.toRowW d [] (fun f vs => PySem.call f vs) := by
  refine Att.attach_call hn hdf ?_
  intro w s0 s1 mg mb fa o pm cd doc a vs ns G Y ho hd hcd hmg hobj hints hlen hg
  exact law_callG (hY w _ Y) G.T.g G.T.b G.T.builtins G.T.nolimit hg hobj hints (Nat.le_trans hlen hn2) hr (F w mg fa _ (hY w _ Y) G.T.g hmg) hmg (fun H hS => hsp _ H a ns hlen hS)
end SM
/-! Part L: refusals, kinds, tables, the layout as it stands in the heap. -/
namespace SM
open PySem PySem.Spec PyProof.Rows L2
/-! ### refusals -/
/-- the field of the n-th error's class -/
def fldN : Nat → Str
  | 0 => "at"
  | 1 => "name"
  | 2 => "name"
  | 3 => "most"
  | 4 => "name"
  | 5 => "hands"
  | 6 => "name"
  | 7 => "way"
  | 8 => "job"
  | 9 => "damp"
  | _ => "number"
/-- the n-th error, made of y, goes out; nothing that stood is changed -/
def Ref (C : Nat → Addr) (n : Nat) (y : V) (H : Hp) (E : XK) : Prop := ∀ d H', Same H H' → H d = none → H' d = some (.xd [(fldN n, y)]) → E (.ref (C n)) (some d) H'
section
variable {C : Nat → Addr} {n : Nat} {y : V} {H H1 : Hp} {E : XK}
theorem Ref.along (R : Ref C n y H E) (s : Same H H1) : Ref C n y H1 E := fun d H' s1 e x => R d H' (s.trans s1) (s.free e) x
theorem Ref.out (R : Ref C n y H E) {d : Addr} (hd : H d = none) : E (.ref (C n)) (some d) (upd H d (.xd [(fldN n, y)])) := R d _ (Same.newp hd) hd upd_same
end
/-! ### kinds of values -/
theorem tyOf_same {K : PySem.W.Frag} {H H' : Hp} {x : V} {t : Value} (h : TyOf K H x t) (e : Same H H') : TyOf K H' x t := by
  cases h with
  | non => exact .non
  | bl b => exact .bl b
  | int i => exact .int i
  | str z => exact .str z
  | flt z => exact .flt z
  | lst q => exact .lst (e _ _ q)
  | frz q => exact .frz (e _ _ q)
  | tup q => exact .tup (e _ _ q)
  | dK q => exact .dK (e _ _ q)
  | dT q => exact .dT (e _ _ q)
  | ins q a b c d f => exact .ins (e _ _ q) a b c d f
theorem tyX_same {K : PySem.W.Frag} {H H' : Hp} {x : V} {t : Value} (h : TyX K H x t) (e : Same H H') : TyX K H' x t := by
  cases h with
  | base b => exact .base (tyOf_same b e)
  | byt b => exact .byt b
  | set q => exact .set (e _ _ q)
  | kList a b => exact .kList a b
  | kTuple a b => exact .kTuple a b
  | kDict a b => exact .kDict a b
  | fTuple q => exact .fTuple (e _ _ q)
  | fDict q => exact .fDict (e _ _ q)
def sgA : Str := "a"
def sgZ : Str := "z"
def okSign (c : Nat) : Bool := !decide ([c] < sgA.cps.toList) && !decide (sgZ.cps.toList < [c])
def okName (z : Str) : Bool := decide (1 ≤ z.cps.size) && decide (z.cps.size ≤ 8) && z.cps.toList.all okSign
/-- is it a name: b -/
def NameQ (K : PySem.W.Frag) (H : Hp) (x : V) (b : Bool) : Prop := (∃ z : Str, x = .str z ∧ z.cps.size ≤ sizeLine ∧ b = okName z) ∨ (b = false ∧ ∃ t, TyX K H x t ∧ PySem.W.kitOne K t (.type "str") = some false)
theorem NameQ.same {K : PySem.W.Frag} {H H' : Hp} {x : V} {b : Bool} (h : NameQ K H x b) (e : Same H H') : NameQ K H' x b := by
  rcases h with h | ⟨h, t, ty, q⟩
  · exact .inl h
  · exact .inr ⟨h, t, tyX_same ty e, q⟩
theorem NameQ.yes {K : PySem.W.Frag} {H : Hp} {x : V} (h : NameQ K H x true) : ∃ z : Str, x = .str z ∧ okName z = true := by
  rcases h with ⟨z, e, _, q⟩ | ⟨h, _⟩
  · exact ⟨z, e, q.symm⟩
  · cases h
theorem NameQ.of {K : PySem.W.Frag} {H : Hp} {z : Str} (h : okName z = true) : NameQ K H (.str z) true := by
  refine .inl ⟨z, rfl, ?_, h.symm⟩
  simp only [okName, Bool.and_eq_true, decide_eq_true_eq] at h
  exact Nat.le_trans h.1.2 (by decide)
/-- is it a whole number: b -/
def WholeQ (K : PySem.W.Frag) (H : Hp) (x : V) (b : Bool) : Prop := ∃ t i j, TyX K H x t ∧ PySem.W.kitOne K t (.type "int") = some i ∧ PySem.W.kitOne K t (.type "bool") = some j ∧ b = (i && !j)
theorem WholeQ.int {K : PySem.W.Frag} {H : Hp} (i : Int) : WholeQ K H (.int i) true := ⟨_, true, false, .base (.int i), kit_ty (by decide +kernel), kit_ty (by decide +kernel), rfl⟩
theorem WholeQ.same {K : PySem.W.Frag} {H H' : Hp} {x : V} {b : Bool} (h : WholeQ K H x b) (e : Same H H') : WholeQ K H' x b := by
  obtain ⟨t, i, j, a, c, d, f⟩ := h
  exact ⟨t, i, j, tyX_same a e, c, d, f⟩
def okCost (i : Int) : Bool := decide (0 ≤ i) && decide (i ≤ 99)
/-- is it a cost: b -/
def CostQ (K : PySem.W.Frag) (H : Hp) (x : V) (b : Bool) : Prop := (∃ i : Int, x = .int i ∧ b = okCost i) ∨ (b = false ∧ WholeQ K H x false)
theorem CostQ.same {K : PySem.W.Frag} {H H' : Hp} {x : V} {b : Bool} (h : CostQ K H x b) (e : Same H H') : CostQ K H' x b := by
  rcases h with h | ⟨h, q⟩
  · exact .inl h
  · exact .inr ⟨h, q.same e⟩
theorem CostQ.yes {K : PySem.W.Frag} {H : Hp} {x : V} (h : CostQ K H x true) : ∃ i : Int, x = .int i ∧ okCost i = true := by
  rcases h with ⟨z, e, q⟩ | ⟨h, _⟩
  · exact ⟨z, e, q.symm⟩
  · cases h
/-! ### tables: a dict with text keys beside a list of pairs -/
section
variable {α : Type}
def look (tab : List (Str × α)) (k : Str) : Option α := (tab.find? fun e => decide (e.1 = k)).map (·.2)
def del (tab : List (Str × α)) (k : Str) : List (Str × α) := tab.filter fun e => decide (e.1 ≠ k)
def keys (tab : List (Str × α)) : List Str := tab.map (·.1)
/-- the dict's pairs kvs beside the list tab -/
abbrev Kr (G : V → α → Prop) : List (Key × V) → List (Str × α) → Prop := Paired fun p q => p.1 = Sum.inr q.1 ∧ G p.2 q.2
def RelA (G : V → α → Prop) : Option V → Option α → Prop
  | some v, some a => G v a
  | none, none => True
  | _, _ => False
theorem look_pos {p : Str × α} {r : List (Str × α)} {k : Str} (e : p.1 = k) : look (p :: r) k = some p.2 := by simp [look, List.find?_cons, e]
theorem look_neg {p : Str × α} {r : List (Str × α)} {k : Str} (e : ¬ p.1 = k) : look (p :: r) k = look r k := by simp [look, List.find?_cons, e]
theorem Kr.val {G : V → α → Prop} {k : Str} : ∀ {kvs : List (Key × V)} {tab : List (Str × α)}, Kr G kvs tab → RelA G (valV kvs (Sum.inr k)) (look tab k)
  | _, _, .nil => True.intro
  | p :: ps, q :: qs, .cons h t => by
    by_cases e : q.1 = k
    · rw [look_pos e, valV_pos (h.1.trans (congrArg Sum.inr e))]
      exact h.2
    · have e' : ¬ p.1 = Sum.inr k := fun z => e (Sum.inr.inj (h.1.symm.trans z))
      rw [look_neg e, valV_neg e']
      exact Kr.val t
theorem Kr.has {G : V → α → Prop} {k : Str} {kvs : List (Key × V)} {tab : List (Str × α)} (h : Kr G kvs tab) : (valV kvs (Sum.inr k)).isSome = (look tab k).isSome := by
  have z := h.val (k := k)
  cases e1 : valV kvs (Sum.inr k) <;> cases e2 : look tab k <;> rw [e1, e2] at z <;> first | rfl | exact z.elim
theorem Kr.get {G : V → α → Prop} {k : Str} {kvs : List (Key × V)} {tab : List (Str × α)} {a : α} (h : Kr G kvs tab) (e : look tab k = some a) : ∃ v, valV kvs (Sum.inr k) = some v ∧ G v a := by
  have z := h.val (k := k)
  rw [e] at z
  cases e1 : valV kvs (Sum.inr k) with
  | none => rw [e1] at z; exact z.elim
  | some v => rw [e1] at z; exact ⟨v, rfl, z⟩
theorem Kr.no {G : V → α → Prop} {k : Str} {kvs : List (Key × V)} {tab : List (Str × α)} (h : Kr G kvs tab) (e : look tab k = none) : valV kvs (Sum.inr k) = none := by
  have z := h.val (k := k)
  rw [e] at z
  cases e1 : valV kvs (Sum.inr k) with
  | none => rfl
  | some v => rw [e1] at z; exact z.elim
theorem Kr.mono {G G' : V → α → Prop} (i : ∀ v a, G v a → G' v a) : ∀ {kvs : List (Key × V)} {tab : List (Str × α)}, Kr G kvs tab → Kr G' kvs tab
  | _, _, .nil => .nil
  | _, _, .cons h t => .cons ⟨h.1, i _ _ h.2⟩ (Kr.mono i t)
theorem Kr.snoc {G : V → α → Prop} {k : Str} {v : V} {a : α} (g : G v a) : ∀ {kvs : List (Key × V)} {tab : List (Str × α)}, Kr G kvs tab → Kr G (kvs ++ [(Sum.inr k, v)]) (tab ++ [(k, a)])
  | _, _, .nil => .cons ⟨rfl, g⟩ .nil
  | _, _, .cons h t => .cons h (Kr.snoc g t)
theorem Kr.put {G : V → α → Prop} {k : Str} {v : V} {a : α} {kvs : List (Key × V)} {tab : List (Str × α)} (h : Kr G kvs tab) (e : look tab k = none) (g : G v a) : Kr G (putK kvs (Sum.inr k) v) (tab ++ [(k, a)]) := by
  rw [putK_new v (h.no e)]
  exact h.snoc g
theorem Kr.drop {G : V → α → Prop} {k : Str} : ∀ {kvs : List (Key × V)} {tab : List (Str × α)}, Kr G kvs tab → Kr G (dropK kvs (Sum.inr k)) (del tab k)
  | _, _, .nil => .nil
  | p :: ps, q :: qs, .cons h t => by
    by_cases e : q.1 = k
    · have e' : p.1 = Sum.inr k := h.1.trans (congrArg Sum.inr e)
      rw [dropK_pos e', show del (q :: qs) k = del qs k by simp [del, e]]
      exact Kr.drop t
    · have e' : ¬ p.1 = Sum.inr k := fun z => e (Sum.inr.inj (h.1.symm.trans z))
      rw [dropK_neg e', show del (q :: qs) k = q :: del qs k by simp [del, e]]
      exact .cons h (Kr.drop t)
theorem Kr.len {G : V → α → Prop} {kvs : List (Key × V)} {tab : List (Str × α)} (h : Kr G kvs tab) : kvs.length = tab.length := Paired.length h
theorem Kr.names {G : V → α → Prop} : ∀ {kvs : List (Key × V)} {tab : List (Str × α)}, Kr G kvs tab → kvs.map (·.1) = (keys tab).map Sum.inr
  | _, _, .nil => rfl
  | _, _, .cons h t => by
    have e := Kr.names t
    simp only [SM.keys, List.map_cons, List.map_map] at e ⊢
    rw [h.1, e]
theorem look_isSome {tab : List (Str × α)} {k : Str} : (look tab k).isSome = decide (k ∈ keys tab) := by
  induction tab with
  | nil => rfl
  | cons p r ih =>
    by_cases e : p.1 = k
    · rw [look_pos e]
      simp [keys, e]
    · rw [look_neg e, ih]
      have e' : ¬ k = p.1 := fun z => e z.symm
      simp only [keys, List.map_cons, List.mem_cons, e', false_or]
      exact decide_eq_decide.mpr Iff.rfl
theorem look_none {tab : List (Str × α)} {k : Str} : look tab k = none ↔ k ∉ keys tab := by
  have z := look_isSome (tab := tab) (k := k)
  cases e : look tab k with
  | none =>
    rw [e] at z
    have z' : false = decide (k ∈ keys tab) := z
    simpa using z'.symm
  | some v =>
    rw [e] at z
    have z' : true = decide (k ∈ keys tab) := z
    simpa using z'.symm
theorem keys_snoc {tab : List (Str × α)} {k : Str} {a : α} : keys (tab ++ [(k, a)]) = keys tab ++ [k] := by simp [keys]
theorem keys_del {tab : List (Str × α)} {k : Str} : keys (del tab k) = (keys tab).filter fun x => decide (x ≠ k) := by
  unfold keys del
  rw [List.filter_map]
  rfl
end
/-- names alone as a table -/
def uT (xs : List Str) : List (Str × Unit) := xs.map fun x => (x, ())
theorem keys_uT (xs : List Str) : keys (uT xs) = xs := by simp [keys, uT, Function.comp_def]
theorem uT_snoc (xs : List Str) (x : Str) : uT xs ++ [(x, ())] = uT (xs ++ [x]) := by simp [uT]
theorem uT_del (xs : List Str) (x : Str) : del (uT xs) x = uT (xs.filter fun y => decide (y ≠ x)) := by
  unfold uT del
  rw [List.filter_map]
  rfl
theorem uT_len (xs : List Str) : (uT xs).length = xs.length := by simp [uT]
theorem uT_look {xs : List Str} {k : Str} : (look (uT xs) k).isSome = decide (k ∈ xs) := by rw [look_isSome, keys_uT]
theorem uT_none {xs : List Str} {k : Str} : look (uT xs) k = none ↔ k ∉ xs := by rw [look_none, keys_uT]
/-! ### the layout's state, its deeds and what is due -/
abbrev LineV := Str × Str × Int
structure LS where
  rooms : List Str
  lines : List (Str × LineV)
  drains : List (Str × Str)
  sources : List Str
def LS.new : LS := ⟨[], [], [], []⟩
/-- the lines that end in a room -/
def LS.at (S : LS) (x : Str) : List Str := keys (S.lines.filter fun e => decide (x = e.2.1) || decide (x = e.2.2.1))
structure LS.Ok (S : LS) : Prop where
  rN : S.rooms.Nodup
  rL : S.rooms.length ≤ 24
  lN : (keys S.lines).Nodup
  lL : S.lines.length ≤ 40
  dN : (keys S.drains).Nodup
  dL : S.drains.length ≤ 12
  sN : S.sources.Nodup
  sI : ∀ x ∈ S.sources, x ∈ S.rooms
  lI : ∀ e ∈ S.lines, e.2.1 ∈ S.rooms ∧ e.2.2.1 ∈ S.rooms ∧ e.2.1 ≠ e.2.2.1 ∧ okCost e.2.2.2 = true
  dI : ∀ e ∈ S.drains, e.2 ∈ S.rooms
  rG : ∀ x ∈ S.rooms, okName x = true
  lG : ∀ x ∈ keys S.lines, okName x = true
  dG : ∀ x ∈ keys S.drains, okName x = true
inductive Deed where
  | addRoom (x : Str)
  | addLine (x a b : Str) (c : Int)
  | addDrain (x r : Str)
  | addSource (x : Str)
  | takeRoom (x : Str)
  | takeLine (x : Str)
  | takeDrain (x : Str)
  | takeSource (x : Str)
/-- what is refused, and with what -/
inductive Rf where
  | there (x : Str)
  | lacks (x : Str)
  | tooMany (n : Int)
  | inUse (x : Str)
def Rf.cls : Rf → Nat
  | .there _ => 1
  | .lacks _ => 2
  | .tooMany _ => 3
  | .inUse _ => 4
def Rf.val : Rf → V
  | .there x => .str x
  | .lacks x => .str x
  | .tooMany n => .int n
  | .inUse x => .str x
def LS.taken (S : LS) (x : Str) : Bool := decide (x ∈ keys S.lines) || decide (x ∈ keys S.drains)
def LS.used (S : LS) (x : Str) : Bool := decide (x ∈ S.sources) || decide (x ∈ S.drains.map (·.2)) || decide (0 < (S.at x).length)
def LS.due (S : LS) : Deed → Option Rf
  | .addRoom x => if x ∈ S.rooms then some (.there x) else if 24 ≤ S.rooms.length then some (.tooMany 24) else none
  | .addLine x a b _ => if S.taken x = true then some (.there x) else if a ∉ S.rooms then some (.lacks a) else if b ∉ S.rooms then some (.lacks b) else if 40 ≤ S.lines.length then some (.tooMany 40) else none
  | .addDrain x r => if S.taken x = true then some (.there x) else if r ∉ S.rooms then some (.lacks r) else if 12 ≤ S.drains.length then some (.tooMany 12) else none
  | .addSource x => if x ∉ S.rooms then some (.lacks x) else if x ∈ S.sources then some (.there x) else none
  | .takeRoom x => if x ∉ S.rooms then some (.lacks x) else if S.used x = true then some (.inUse x) else none
  | .takeLine x => if x ∉ keys S.lines then some (.lacks x) else none
  | .takeDrain x => if x ∉ keys S.drains then some (.lacks x) else none
  | .takeSource x => if x ∉ S.sources then some (.lacks x) else none
def LS.put (S : LS) : Deed → LS
  | .addRoom x => { S with rooms := S.rooms ++ [x] }
  | .addLine x a b c => { S with lines := S.lines ++ [(x, a, b, c)] }
  | .addDrain x r => { S with drains := S.drains ++ [(x, r)] }
  | .addSource x => { S with sources := S.sources ++ [x] }
  | .takeRoom x => { S with rooms := S.rooms.filter fun y => decide (y ≠ x) }
  | .takeLine x => { S with lines := del S.lines x }
  | .takeDrain x => { S with drains := del S.drains x }
  | .takeSource x => { S with sources := S.sources.filter fun y => decide (y ≠ x) }
/-- what is handed in is as told -/
def Deed.Good : Deed → Prop
  | .addRoom x => okName x = true
  | .addLine x a b c => okName x = true ∧ okName a = true ∧ okName b = true ∧ a ≠ b ∧ okCost c = true
  | .addDrain x r => okName x = true ∧ okName r = true
  | .addSource x => okName x = true
  | .takeRoom x => okName x = true
  | .takeLine x => okName x = true
  | .takeDrain x => okName x = true
  | .takeSource x => okName x = true
theorem nd_snocS {l : List Str} {k : Str} (h : l.Nodup) (n : k ∉ l) : (l ++ [k]).Nodup := nd_snoc h n
theorem nodup_filter {l : List Str} {p : Str → Bool} (h : l.Nodup) : (l.filter p).Nodup := List.Pairwise.filter p h
theorem len_sub : ∀ {xs ys : List Str}, xs.Nodup → (∀ x ∈ xs, x ∈ ys) → xs.length ≤ ys.length
  | [], _, _, _ => Nat.zero_le _
  | x :: xs, ys, h, s => by
    have hx := s x List.mem_cons_self
    have h' := List.nodup_cons.mp h
    have ih := len_sub (xs := xs) (ys := ys.erase x) h'.2 fun y hy => by
      have ne : y ≠ x := fun z => h'.1 (z ▸ hy)
      exact (List.mem_erase_of_ne ne).mpr (s y (List.mem_cons_of_mem _ hy))
    rw [List.length_erase_of_mem hx] at ih
    have := List.length_pos_of_mem hx
    rw [List.length_cons]
    omega
theorem LS.Ok.sL {S : LS} (o : S.Ok) : S.sources.length ≤ 24 := Nat.le_trans (len_sub o.sN o.sI) o.rL
theorem LS.new_ok : LS.new.Ok := by
  refine ⟨List.nodup_nil, by decide, List.nodup_nil, by decide, List.nodup_nil, by decide, List.nodup_nil, ?_, ?_, ?_, ?_, ?_, ?_⟩ <;> (intro x h; cases h)
theorem mem_at {S : LS} {x : Str} {e : Str × LineV} (he : e ∈ S.lines) (h : x = e.2.1 ∨ x = e.2.2.1) : 0 < (S.at x).length := by
  unfold LS.at keys
  rw [List.length_map]
  refine List.length_pos_of_mem (a := e) (List.mem_filter.mpr ⟨he, ?_⟩)
  rcases h with h | h
  · simp [h]
  · simp [h]
/-- a deed that is let by keeps the state sound -/
theorem LS.Ok.put {S : LS} (o : S.Ok) {D : Deed} (g : D.Good) (h : S.due D = none) : (S.put D).Ok := by
  obtain ⟨rN, rL, lN, lL, dN, dL, sN, sI, lI, dI, rG, lG, dG⟩ := o
  cases D with
  | addRoom x =>
    simp only [LS.due] at h
    split at h
    · cases h
    split at h
    · cases h
    rename_i h1 h2
    refine ⟨nd_snocS rN h1, by show (S.rooms ++ [x]).length ≤ 24; rw [List.length_append, List.length_singleton]; omega, lN, lL, dN, dL, sN, fun y hy => List.mem_append_left _ (sI y hy), fun e he => ?_, fun e he => List.mem_append_left _ (dI e he), fun y hy => ?_, lG, dG⟩
    · obtain ⟨a, b, c⟩ := lI e he
      exact ⟨List.mem_append_left _ a, List.mem_append_left _ b, c⟩
    · rcases List.mem_append.mp hy with z | z
      · exact rG y z
      · rw [List.mem_singleton.mp z]
        exact g
  | addLine x a b c =>
    simp only [LS.due] at h
    split at h
    · cases h
    split at h
    · cases h
    split at h
    · cases h
    split at h
    · cases h
    rename_i h1 h2 h3 h4
    have nx : x ∉ keys S.lines := fun z => h1 (by simp [LS.taken, z])
    refine ⟨rN, rL, ?_, by show (S.lines ++ [(x, a, b, c)]).length ≤ 40; rw [List.length_append, List.length_singleton]; omega, dN, dL, sN, sI, fun e he => ?_, dI, rG, fun y hy => ?_, dG⟩
    · show (keys (S.lines ++ [(x, a, b, c)])).Nodup
      rw [keys_snoc]
      exact nd_snocS lN nx
    · rcases List.mem_append.mp he with z | z
      · exact lI e z
      · rw [List.mem_singleton.mp z]
        exact ⟨Classical.not_not.mp h2, Classical.not_not.mp h3, g.2.2.2.1, g.2.2.2.2⟩
    · have hy' : y ∈ keys (S.lines ++ [(x, a, b, c)]) := hy
      rw [keys_snoc] at hy'
      rcases List.mem_append.mp hy' with z | z
      · exact lG y z
      · rw [List.mem_singleton.mp z]
        exact g.1
  | addDrain x r =>
    simp only [LS.due] at h
    split at h
    · cases h
    split at h
    · cases h
    split at h
    · cases h
    rename_i h1 h2 h3
    have nx : x ∉ keys S.drains := fun z => h1 (by simp [LS.taken, z])
    refine ⟨rN, rL, lN, lL, ?_, by show (S.drains ++ [(x, r)]).length ≤ 12; rw [List.length_append, List.length_singleton]; omega, sN, sI, lI, fun e he => ?_, rG, lG, fun y hy => ?_⟩
    · show (keys (S.drains ++ [(x, r)])).Nodup
      rw [keys_snoc]
      exact nd_snocS dN nx
    · rcases List.mem_append.mp he with z | z
      · exact dI e z
      · rw [List.mem_singleton.mp z]
        exact Classical.not_not.mp h2
    · have hy' : y ∈ keys (S.drains ++ [(x, r)]) := hy
      rw [keys_snoc] at hy'
      rcases List.mem_append.mp hy' with z | z
      · exact dG y z
      · rw [List.mem_singleton.mp z]
        exact g.1
  | addSource x =>
    simp only [LS.due] at h
    split at h
    · cases h
    split at h
    · cases h
    rename_i h1 h2
    refine ⟨rN, rL, lN, lL, dN, dL, nd_snocS sN h2, fun y hy => ?_, lI, dI, rG, lG, dG⟩
    rcases List.mem_append.mp hy with z | z
    · exact sI y z
    · rw [List.mem_singleton.mp z]
      exact Classical.not_not.mp h1
  | takeRoom x =>
    simp only [LS.due] at h
    split at h
    · cases h
    split at h
    · cases h
    rename_i h1 h2
    have nu : x ∉ S.sources ∧ x ∉ S.drains.map (·.2) ∧ ¬ 0 < (S.at x).length := by
      refine ⟨fun z => h2 ?_, fun z => h2 ?_, fun z => h2 ?_⟩
      · simp only [LS.used, decide_eq_true z, Bool.true_or]
      · simp only [LS.used, decide_eq_true z, Bool.true_or, Bool.or_true]
      · simp only [LS.used, decide_eq_true z, Bool.or_true]
    have keep : ∀ y, y ∈ S.rooms → y ≠ x → y ∈ S.rooms.filter fun y => decide (y ≠ x) := fun y hy n => List.mem_filter.mpr ⟨hy, decide_eq_true n⟩
    refine ⟨nodup_filter rN, Nat.le_trans (List.length_filter_le _ _) rL, lN, lL, dN, dL, sN, fun y hy => keep y (sI y hy) fun z => nu.1 (z ▸ hy), fun e he => ?_, fun e he => keep _ (dI e he) fun z => nu.2.1 (z ▸ List.mem_map_of_mem he), fun y hy => rG y (List.mem_filter.mp hy).1, lG, dG⟩
    obtain ⟨a, b, c⟩ := lI e he
    exact ⟨keep _ a fun z => nu.2.2 (mem_at he (.inl z.symm)), keep _ b fun z => nu.2.2 (mem_at he (.inr z.symm)), c⟩
  | takeLine x =>
    refine ⟨rN, rL, ?_, Nat.le_trans (List.length_filter_le _ _) lL, dN, dL, sN, sI, fun e he => lI e (List.mem_filter.mp he).1, dI, rG, fun y hy => ?_, dG⟩
    · show (keys (del S.lines x)).Nodup
      rw [keys_del]
      exact nodup_filter lN
    · have hy' : y ∈ keys (del S.lines x) := hy
      rw [keys_del] at hy'
      exact lG y (List.mem_filter.mp hy').1
  | takeDrain x =>
    refine ⟨rN, rL, lN, lL, ?_, Nat.le_trans (List.length_filter_le _ _) dL, sN, sI, lI, fun e he => dI e (List.mem_filter.mp he).1, rG, lG, fun y hy => ?_⟩
    · show (keys (del S.drains x)).Nodup
      rw [keys_del]
      exact nodup_filter dN
    · have hy' : y ∈ keys (del S.drains x) := hy
      rw [keys_del] at hy'
      exact dG y (List.mem_filter.mp hy').1
  | takeSource x => exact ⟨rN, rL, lN, lL, dN, dL, nodup_filter sN, fun y hy => sI y (List.mem_filter.mp hy).1, lI, dI, rG, lG, dG⟩
end SM
/-! Part M: methods by name; the layout in the heap. -/
namespace SM
open PySem PySem.Spec PyProof.Rows L2
/-- the method m of the class at L is the text st -/
def MethAt (K : PySem.W.Frag) (L : Addr) (m q : Str) (st : Stmt) : Prop := ∃ f fd, L2.Fun K m q st f fd ∧ Meth K L m f
def OkM (P : Program) (w : World) (K : PySem.W.Frag) (mg : Str → Option Value) (base : Heap) (CX : CXT) (k : Nat) (L : Addr) (m : Str) (ps : List Str) (sp : Sp) : Prop :=
  ∃ f fd, Meth K L m f ∧ Binds K fd ps [] ∧ FnOk P w K mg base CX k f fd ps sp
section
variable {P : Program} {w : World} {K : PySem.W.Frag} {mg : Str → Option Value} {base : Heap} {CX : CXT} {k : Nat} {L : Addr} {m q : Str} {ps : List Str} {sp : Sp}
theorem OkM.up {j : Nat} (F : OkM P w K mg base CX j L m ps sp) (h : j ≤ k) : OkM P w K mg base CX k L m ps sp :=
  let ⟨f, fd, a, b, c⟩ := F; ⟨f, fd, a, b, c.mono h⟩
abbrev BindsBy2 (x q : Str) (st : Stmt) (ps : List Str) : Prop := ∀ (kV doc pm : Value) (an : Option Addr) (cdv ct : Value) (us : List Value), us.length = ps.length →
  bindArgs (PySem.W.fnOf x q (defArgs st) (defBody st) (defScope st) .none kV doc pm an cdv ct) ⟨us, []⟩ = pure (ps.zip us)
theorem MethAt.ok {st : Stmt} {N : List Str} (D : MethAt K L m q st) (S : FnScope N ps (defScope st)) (b : BindsBy2 m q st ps) (len : ∀ vs H Q E, sp vs H Q E → vs.length = ps.length)
    (bd : ∀ (f : Addr) (cdv : Value) (A : Around) (outer : List Env) (s : Shared) (H : Hp) (vs : List V) (Q : VK) (E : XK), Room k (A.deeper (envOfC q (defScope st) s.heap.objs.size f cdv)) → sp vs H Q E →
      ∃ t, PSs (cxOf CX0 P w K mg base N q (defScope st) f cdv A outer s H E).nox (defBody st) t ∧ t { nx := fun _ H' => Q .non H', rt := Q } (L2.start N vs) H) : OkM P w K mg base CX0 (k + 1) L m ps sp := by
  obtain ⟨f, fd, F, g⟩ := D
  exact ⟨f, fd, g, F.binds b, F.ok S len fun cdv A outer s H vs Q E hr h => bd f cdv A outer s H vs Q E hr h⟩
theorem MethAt.okX {st : Stmt} {N : List Str} (D : MethAt K L m q st) (S : FnScope N ps (defScope st)) (b : BindsBy2 m q st ps) (len : ∀ vs H Q E, sp vs H Q E → vs.length = ps.length)
    (bd : ∀ (f : Addr) (cdv : Value) (A : Around) (outer : List Env) (s : Shared) (H : Hp) (vs : List V) (Q : VK) (E : XK), Room k (A.deeper (envOfC q (defScope st) s.heap.objs.size f cdv)) → sp vs H Q E →
      ∃ t, PSs (cxOf (L2.CX P w) P w K mg base N q (defScope st) f cdv A outer s H E) (defBody st) t ∧ t { nx := fun _ H' => Q .non H', rt := Q } (L2.start N vs) H) : OkM P w K mg base (L2.CX P w) (k + 1) L m ps sp := by
  obtain ⟨f, fd, F, g⟩ := D
  exact ⟨f, fd, g, F.binds b, F.okX S len fun cdv A outer s H vs Q E hr h => bd f cdv A outer s H vs Q E hr h⟩
end
section
variable {X : Cx} {CX : CXT} {k : Nat} {L : Addr} {ps : List Str} {sp : Sp} {E : XK} {m : Str} {o e : Expr} {es : List Expr} {ta : TE} {t : TA} {pos apos : Pos} {pl : Sem Bool}
theorem pe_m (F : OkM X.prog X.w X.K X.mg X.base CX k L m ps sp) (c : Cls X.K L) (hr : Room k X.A) (hx : Passes CX X E) (he : PE X o ta) (ha : PA X (e :: es) t)
    (hst : starEach (e :: es) X.env = (false, eval e X.env) :: starEach es X.env := by rfl) (hpl : (backTo pos (starEach es X.env)).any (·.1) = false := by rfl)
    (ht : eval (.Call (.Attribute o m apos) (e :: es) [] pos) X.env = (do
      let ov ← eval o X.env
      standAt apos.atName
      let (f, first) ← holding [ov] (getMethod ov m pl)
      callWith pos f first (backTo pos (starEach (e :: es) X.env)) (backToKw pos (keywordEach [] X.env))) := by rfl) :
    PE X (.Call (.Attribute o m apos) (e :: es) [] pos) (tMeth L m sp [] E ta t) := by
  obtain ⟨f, fd, a, b, d⟩ := F
  exact pe_meth (pl := pl) he c a d hr b .nil hx ha hst hpl ht
theorem pe_m0 (F : OkM X.prog X.w X.K X.mg X.base CX k L m ps sp) (c : Cls X.K L) (hr : Room k X.A) (hx : Passes CX X E) (he : PE X o ta)
    (ht : eval (.Call (.Attribute o m apos) [] [] pos) X.env = (do
      let ov ← eval o X.env
      standAt apos.atName
      let (f, first) ← holding [ov] (getMethod ov m pl)
      callWith pos f first (backTo pos (starEach [] X.env)) (backToKw pos (keywordEach [] X.env))) := by rfl) :
    PE X (.Call (.Attribute o m apos) [] [] pos) (tMeth L m sp [] E ta tNil) := by
  obtain ⟨f, fd, a, b, d⟩ := F
  exact pe_meth0 (pl := pl) he c a d hr b .nil hx ht
end
/-! ### what stays -/
/-- but for what stands at ms all is as it was; tuples, instances and lists of flat things stay anyhow -/
structure Keep (ms : List Addr) (H H' : Hp) : Prop where
  out : ∀ b u, H b = some u → b ∉ ms → H' b = some u
  tup : ∀ b xs, H b = some (.tup xs) → H' b = some (.tup xs)
  ins : ∀ b C dx fs, H b = some (.ins C dx fs) → H' b = some (.ins C dx fs)
  flat : ∀ b xs, H b = some (.lst xs) → xs.all flatV = true → H' b = some (.lst xs)
  has : ∀ b, H' b = none → H b = none
section
variable {ms ms' : List Addr} {H H1 H2 : Hp}
theorem Keep.refl : Keep ms H H := ⟨fun _ _ e _ => e, fun _ _ e => e, fun _ _ _ _ e => e, fun _ _ e _ => e, fun _ e => e⟩
theorem Keep.of (s : Same H H1) : Keep ms H H1 := ⟨fun b u e _ => s b u e, fun b xs e => s b _ e, fun b _ _ _ e => s b _ e, fun b _ e _ => s b _ e, fun b e => s.free e⟩
theorem Keep.trans (a : Keep ms H H1) (b : Keep ms H1 H2) : Keep ms H H2 :=
  ⟨fun x u e n => b.out x u (a.out x u e n) n, fun x xs e => b.tup x xs (a.tup x xs e), fun x c d f e => b.ins x c d f (a.ins x c d f e), fun x xs e f => b.flat x xs (a.flat x xs e f) f, fun x e => a.has x (b.has x e)⟩
theorem Keep.mono (a : Keep ms H H1) (h : ∀ x ∈ ms, x ∈ ms') : Keep ms' H H1 := ⟨fun x u e n => a.out x u e fun z => n (h x z), a.tup, a.ins, a.flat, a.has⟩
theorem Keep.at {d : Addr} {u u' : HO} (h : H d = some u) (m : d ∈ ms) (h1 : ∀ xs, u ≠ .tup xs) (h2 : ∀ C dx fs, u ≠ .ins C dx fs) (h3 : ∀ xs, u = .lst xs → xs.all flatV = false) : Keep ms H (upd H d u') := by
  refine ⟨fun b v e n => ?_, fun b xs e => ?_, fun b c x f e => ?_, fun b xs e f => ?_, fun b e => ?_⟩
  · rw [upd_ne (show b ≠ d from fun z => n (by rw [z]; exact m))]
    exact e
  · by_cases z : b = d
    · rw [z, h] at e
      exact absurd (Option.some.inj e) (h1 xs)
    · rw [upd_ne z]
      exact e
  · by_cases z : b = d
    · rw [z, h] at e
      exact absurd (Option.some.inj e) (h2 c x f)
    · rw [upd_ne z]
      exact e
  · by_cases z : b = d
    · rw [z, h] at e
      rw [h3 xs (Option.some.inj e)] at f
      cases f
    · rw [upd_ne z]
      exact e
  · by_cases z : b = d
    · rw [z, upd_same] at e
      cases e
    · rw [upd_ne z] at e
      exact e
theorem Keep.dput {d : Addr} {kvs kvs' : List (Key × V)} (h : H d = some (.dK kvs)) (m : d ∈ ms) : Keep ms H (upd H d (.dK kvs')) :=
  Keep.at h m (fun _ z => by cases z) (fun _ _ _ z => by cases z) fun _ z => by cases z
/-- a draw -/
theorem Keep.bag {p q : Addr} (B : Bag H p q) (B1 : Bag H1 p q) (b : But p H H1) (m : p ∈ ms) : Keep ms H H1 := by
  obtain ⟨x, y, c, ns, B⟩ := B
  have top := B.top
  refine ⟨fun b' v e n => ?_, fun b' xs e => ?_, fun b' c x f e => ?_, fun b' xs e f => ?_, fun b' e => ?_⟩
  · exact (b b' fun z => n (by rw [z]; exact m)).trans e
  · exact (b b' (ne_of e top (by intro z; cases z))).trans e
  · exact (b b' (ne_of e top (by intro z; cases z))).trans e
  · refine (b b' fun z => ?_).trans e
    rw [z, top] at e
    cases e
    exact Bool.noConfusion f
  · by_cases z : b' = p
    · rw [z] at e
      exact absurd e B1.there.1
    · exact (b b' z).symm.trans e
theorem Bag.kept {p q : Addr} (B : Bag H p q) (k : Keep ms H H1) (n : p ∉ ms) : Bag H1 p q := by
  obtain ⟨x, y, c, ns, B⟩ := B
  exact ⟨x, y, c, ns, k.out _ _ B.top n, k.flat _ _ B.low (by rw [List.all_map]; exact List.all_eq_true.mpr fun _ _ => rfl), B.a0, B.b0, B.b1, B.c0, B.nn⟩
end
/-! ### the layout -/
/-- where a layout's parts stand -/
structure LA where
  p : Addr
  r : Addr
  l : Addr
  d : Addr
  s : Addr
def LA.ms (A : LA) : List Addr := [A.r, A.l, A.d, A.s]
def lfl (A : LA) : List (Str × V) := [("_rooms", .ref A.r), ("_lines", .ref A.l), ("_drains", .ref A.d), ("_sources", .ref A.s)]
theorem nRL : (("_lines" : Str) == "_rooms") = false := by decide +kernel
theorem nRD : (("_drains" : Str) == "_rooms") = false := by decide +kernel
theorem nRS : (("_sources" : Str) == "_rooms") = false := by decide +kernel
theorem nLD : (("_drains" : Str) == "_lines") = false := by decide +kernel
theorem nLS : (("_sources" : Str) == "_lines") = false := by decide +kernel
theorem nDS : (("_sources" : Str) == "_drains") = false := by decide +kernel
theorem lfl_r (A : LA) : (lfl A).lookup ("_rooms" : Str) = some (.ref A.r) := by simp only [lfl, List.lookup_cons, beq_self_eq_true]
theorem lfl_l (A : LA) : (lfl A).lookup ("_lines" : Str) = some (.ref A.l) := by simp only [lfl, List.lookup_cons, beq_self_eq_true, nRL]
theorem lfl_d (A : LA) : (lfl A).lookup ("_drains" : Str) = some (.ref A.d) := by simp only [lfl, List.lookup_cons, beq_self_eq_true, nRD, nLD]
theorem lfl_s (A : LA) : (lfl A).lookup ("_sources" : Str) = some (.ref A.s) := by simp only [lfl, List.lookup_cons, beq_self_eq_true, nRS, nLS, nDS]
theorem lfl_no (A : LA) {m : Str} (h : ([("_rooms" : Str), "_lines", "_drains", "_sources"]).contains m = false) : (lfl A).lookup m = none := by
  simp only [List.contains_cons, Bool.or_eq_false_iff, List.contains_nil] at h
  simp only [lfl, List.lookup_cons, h.1, h.2.1, h.2.2.1, h.2.2.2.1, List.lookup_nil]
theorem kRL : ¬ (("_rooms" : Str) = "_lines") := by decide +kernel
theorem kRD : ¬ (("_rooms" : Str) = "_drains") := by decide +kernel
theorem kRS : ¬ (("_rooms" : Str) = "_sources") := by decide +kernel
theorem kLD : ¬ (("_lines" : Str) = "_drains") := by decide +kernel
theorem kLS : ¬ (("_lines" : Str) = "_sources") := by decide +kernel
theorem kDS : ¬ (("_drains" : Str) = "_sources") := by decide +kernel
theorem putF_skip {f g : Str} {v x : V} {r : List (Str × V)} (h : ¬ g = f) : putF f v ((g, x) :: r) = (g, x) :: putF f v r := by
  show (if g = f then (g, v) :: r else (g, x) :: putF f v r) = _
  rw [if_neg h]
theorem putF_nil {f : Str} {v : V} : putF f v [] = [(f, v)] := rfl
theorem pf2 (x y : V) : putF "_lines" y (putF "_rooms" x []) = ([("_rooms", x), ("_lines", y)] : List (Str × V)) := by
  rw [putF_nil, putF_skip kRL, putF_nil]
theorem pf3 (x y z : V) : putF "_drains" z ([("_rooms", x), ("_lines", y)] : List (Str × V)) = ([("_rooms", x), ("_lines", y), ("_drains", z)] : List (Str × V)) := by
  rw [putF_skip kRD, putF_skip kLD, putF_nil]
theorem pf4 (x y z u : V) : putF "_sources" u ([("_rooms", x), ("_lines", y), ("_drains", z)] : List (Str × V)) = ([("_rooms", x), ("_lines", y), ("_drains", z), ("_sources", u)] : List (Str × V)) := by
  rw [putF_skip kRS, putF_skip kLS, putF_skip kDS, putF_nil]
def LineG (H : Hp) (v : V) (e : LineV) : Prop := ∃ t, v = .ref t ∧ H t = some (.tup [.str e.1, .str e.2.1, .int e.2.2])
abbrev TrueG (v : V) (_ : Unit) : Prop := v = .bl true
abbrev StrG (v : V) (x : Str) : Prop := v = .str x
/-- a layout stands at A, its state is S -/
structure LayAt (L : Addr) (H : Hp) (A : LA) (S : LS) : Prop where
  ob : ∃ dx, H A.p = some (.ins L dx (lfl A))
  rm : ∃ kvs, H A.r = some (.dK kvs) ∧ Kr TrueG kvs (uT S.rooms)
  ln : ∃ kvs, H A.l = some (.dK kvs) ∧ Kr (LineG H) kvs S.lines
  dr : ∃ kvs, H A.d = some (.dK kvs) ∧ Kr StrG kvs S.drains
  sc : ∃ kvs, H A.s = some (.dK kvs) ∧ Kr TrueG kvs (uT S.sources)
  nd : A.ms.Nodup
section
variable {L : Addr} {H H' : Hp} {A : LA} {S : LS} {ms : List Addr}
theorem LayAt.keep (h : LayAt L H A S) (k : Keep ms H H') (n : ∀ b ∈ ms, b ∉ A.ms) : LayAt L H' A S := by
  obtain ⟨⟨dx, ob⟩, ⟨k1, r1, r2⟩, ⟨k2, l1, l2⟩, ⟨k3, d1, d2⟩, ⟨k4, s1, s2⟩, nd⟩ := h
  have off : ∀ {b u}, b ∈ A.ms → H b = some u → H' b = some u := fun {b u} hb e => k.out b u e fun z => n b z hb
  exact ⟨⟨dx, k.ins _ _ _ _ ob⟩, ⟨k1, off (by simp [LA.ms]) r1, r2⟩, ⟨k2, off (by simp [LA.ms]) l1, l2.mono fun v a ⟨t, e, ht⟩ => ⟨t, e, k.tup t _ ht⟩⟩, ⟨k3, off (by simp [LA.ms]) d1, d2⟩, ⟨k4, off (by simp [LA.ms]) s1, s2⟩, nd⟩
theorem LayAt.same (h : LayAt L H A S) (s : Same H H') : LayAt L H' A S := h.keep (ms := []) (Keep.of s) fun b z => (nomatch z)
theorem LayAt.ne (h : LayAt L H A S) : A.r ≠ A.l ∧ A.r ≠ A.d ∧ A.r ≠ A.s ∧ A.l ≠ A.d ∧ A.l ≠ A.s ∧ A.d ≠ A.s := by
  have n := h.nd
  simp only [LA.ms, List.nodup_cons, List.mem_cons, List.not_mem_nil, or_false, not_or] at n
  exact ⟨n.1.1, n.1.2.1, n.1.2.2, n.2.1.1, n.2.1.2, n.2.2.1⟩
theorem LayAt.dp (h : LayAt L H A S) : A.p ≠ A.r ∧ A.p ≠ A.l ∧ A.p ≠ A.d ∧ A.p ≠ A.s := by
  obtain ⟨⟨dx, ob⟩, ⟨k1, r1, r2⟩, ⟨k2, l1, l2⟩, ⟨k3, d1, d2⟩, ⟨k4, s1, s2⟩, nd⟩ := h
  exact ⟨ne_of ob r1 (by intro z; cases z), ne_of ob l1 (by intro z; cases z), ne_of ob d1 (by intro z; cases z), ne_of ob s1 (by intro z; cases z)⟩
theorem LineG.put {kvs kvs' : List (Key × V)} {d : Addr} (hd : H d = some (.dK kvs)) {v : V} {e : LineV} (h : LineG H v e) : LineG (upd H d (.dK kvs')) v e := by
  obtain ⟨t, e, ht⟩ := h
  exact ⟨t, e, by rw [upd_ne (ne_of ht hd (by intro z; cases z))]; exact ht⟩
theorem LayAt.setR (h : LayAt L H A S) {kvs : List (Key × V)} {xs : List Str} (k : Kr TrueG kvs (uT xs)) : LayAt L (upd H A.r (.dK kvs)) A { S with rooms := xs } := by
  have n := h.ne
  have q := h.dp
  obtain ⟨⟨dx, ob⟩, ⟨k1, r1, r2⟩, ⟨k2, l1, l2⟩, ⟨k3, d1, d2⟩, ⟨k4, s1, s2⟩, nd⟩ := h
  exact ⟨⟨dx, (upd_ne q.1).trans ob⟩, ⟨kvs, upd_same, k⟩, ⟨k2, (upd_ne n.1.symm).trans l1, l2.mono fun v a g => g.put r1⟩, ⟨k3, (upd_ne n.2.1.symm).trans d1, d2⟩, ⟨k4, (upd_ne n.2.2.1.symm).trans s1, s2⟩, nd⟩
theorem LayAt.setL (h : LayAt L H A S) {kvs : List (Key × V)} {xs : List (Str × LineV)} (k : Kr (LineG H) kvs xs) : LayAt L (upd H A.l (.dK kvs)) A { S with lines := xs } := by
  have n := h.ne
  have q := h.dp
  obtain ⟨⟨dx, ob⟩, ⟨k1, r1, r2⟩, ⟨k2, l1, l2⟩, ⟨k3, d1, d2⟩, ⟨k4, s1, s2⟩, nd⟩ := h
  exact ⟨⟨dx, (upd_ne q.2.1).trans ob⟩, ⟨k1, (upd_ne n.1).trans r1, r2⟩, ⟨kvs, upd_same, k.mono fun v a g => g.put l1⟩, ⟨k3, (upd_ne n.2.2.2.1.symm).trans d1, d2⟩, ⟨k4, (upd_ne n.2.2.2.2.1.symm).trans s1, s2⟩, nd⟩
theorem LayAt.setD (h : LayAt L H A S) {kvs : List (Key × V)} {xs : List (Str × Str)} (k : Kr StrG kvs xs) : LayAt L (upd H A.d (.dK kvs)) A { S with drains := xs } := by
  have n := h.ne
  have q := h.dp
  obtain ⟨⟨dx, ob⟩, ⟨k1, r1, r2⟩, ⟨k2, l1, l2⟩, ⟨k3, d1, d2⟩, ⟨k4, s1, s2⟩, nd⟩ := h
  exact ⟨⟨dx, (upd_ne q.2.2.1).trans ob⟩, ⟨k1, (upd_ne n.2.1).trans r1, r2⟩, ⟨k2, (upd_ne n.2.2.2.1).trans l1, l2.mono fun v a g => g.put d1⟩, ⟨kvs, upd_same, k⟩, ⟨k4, (upd_ne n.2.2.2.2.2.symm).trans s1, s2⟩, nd⟩
theorem LayAt.setS (h : LayAt L H A S) {kvs : List (Key × V)} {xs : List Str} (k : Kr TrueG kvs (uT xs)) : LayAt L (upd H A.s (.dK kvs)) A { S with sources := xs } := by
  have n := h.ne
  have q := h.dp
  obtain ⟨⟨dx, ob⟩, ⟨k1, r1, r2⟩, ⟨k2, l1, l2⟩, ⟨k3, d1, d2⟩, ⟨k4, s1, s2⟩, nd⟩ := h
  exact ⟨⟨dx, (upd_ne q.2.2.2).trans ob⟩, ⟨k1, (upd_ne n.2.2.1).trans r1, r2⟩, ⟨k2, (upd_ne n.2.2.2.2.1).trans l1, l2.mono fun v a g => g.put s1⟩, ⟨k3, (upd_ne n.2.2.2.2.2).trans d1, d2⟩, ⟨kvs, upd_same, k⟩, nd⟩
end
/-! ### the promises -/
theorem inV_strs (z : Str) : ∀ xs : List Str, inV (.str z) (xs.map V.str) = decide (z ∈ xs)
  | [] => rfl
  | x :: xs => by
    have ih := inV_strs z xs
    unfold inV at ih ⊢
    rw [List.map_cons, List.any_cons, ih]
    show ((x == z) || decide (z ∈ xs)) = _
    by_cases e : x = z
    · subst e
      simp
    · have e' : ¬ z = x := fun q => e q.symm
      simp [e, e']
theorem flat_strs (xs : List Str) : (xs.map V.str).all flatV = true := by
  rw [List.all_map]
  exact List.all_eq_true.mpr fun x _ => rfl
theorem Kr.strs : ∀ {kvs : List (Key × V)} {tab : List (Str × Str)}, Kr StrG kvs tab → kvs.map (·.2) = (tab.map (·.2)).map V.str
  | _, _, .nil => rfl
  | _, _, .cons h t => by
    have e := Kr.strs t
    have h2 : _ = V.str _ := h.2
    rw [List.map_cons, List.map_cons, List.map_cons, h2, e]
theorem Kr.at {α : Type} {G : V → α → Prop} : ∀ {kvs : List (Key × V)} {tab : List (Str × α)}, Kr G kvs tab → ∀ {i : Nat} {p : Key × V}, kvs[i]? = some p → ∃ q, tab[i]? = some q ∧ p.1 = Sum.inr q.1 ∧ G p.2 q.2
  | _, _, .nil, i, p, e => by simp at e
  | a :: as, b :: bs, .cons h t, 0, p, e => by
    have e' : a = p := by simpa using e
    subst e'
    exact ⟨b, rfl, h⟩
  | a :: as, b :: bs, .cons h t, i + 1, p, e => by
    obtain ⟨q, e1, e2⟩ := Kr.at t (i := i) (p := p) (by simpa using e)
    exact ⟨q, by simpa using e1, e2⟩
section
variable (K : PySem.W.Frag) (C : Nat → Addr) (L : Addr)
def spNeed : Sp := fun vs H Q E => ∃ (y : V) (b : Bool), vs = [y, .bl b] ∧ (b = true → Q .non H) ∧ (b = false → Ref C 0 y H E)
def spIsName : Sp := fun vs H Q _ => ∃ (x : V) (b : Bool), vs = [x] ∧ NameQ K H x b ∧ ∀ H', Same H H' → Q (.bl b) H'
def spIsWhole : Sp := fun vs H Q _ => ∃ (x : V) (b : Bool), vs = [x] ∧ WholeQ K H x b ∧ Q (.bl b) H
def spIsCost : Sp := fun vs H Q _ => ∃ (x : V) (b : Bool), vs = [x] ∧ CostQ K H x b ∧ Q (.bl b) H
/-- what a deed does: it is let by, or refused -/
def Does (D : Deed) (A : LA) (S : LS) (H : Hp) (Q : VK) (E : XK) : Prop :=
  (S.due D = none → ∀ H', LayAt L H' A (S.put D) → Keep A.ms H H' → Q .non H') ∧ ∀ f, S.due D = some f → Ref C f.cls f.val H E
/-- a deed of one name -/
def spOne (D : Str → Deed) : Sp := fun vs H Q E => ∃ (A : LA) (x : V) (b : Bool) (S : LS), vs = [.ref A.p, x] ∧ LayAt L H A S ∧ S.Ok ∧ NameQ K H x b ∧ (b = false → Ref C 0 (.int 0) H E) ∧ ∀ z, x = .str z → okName z = true → Does C L (D z) A S H Q E
def spAddDrain : Sp := fun vs H Q E => ∃ (A : LA) (x y : V) (b c : Bool) (S : LS), vs = [.ref A.p, x, y] ∧ LayAt L H A S ∧ S.Ok ∧ NameQ K H x b ∧ NameQ K H y c ∧ (b = false → Ref C 0 (.int 0) H E) ∧ (b = true → c = false → Ref C 0 (.int 1) H E) ∧
  ∀ z r, x = .str z → y = .str r → okName z = true → okName r = true → Does C L (.addDrain z r) A S H Q E
def spAddLine : Sp := fun vs H Q E => ∃ (A : LA) (x y z u : V) (b1 b2 b3 b4 : Bool) (S : LS), vs = [.ref A.p, x, y, z, u] ∧ LayAt L H A S ∧ S.Ok ∧ NameQ K H x b1 ∧ NameQ K H y b2 ∧ NameQ K H z b3 ∧ CostQ K H u b4 ∧
  (b1 = false → Ref C 0 (.int 0) H E) ∧ (b1 = true → b2 = false → Ref C 0 (.int 1) H E) ∧ (b1 = true → b2 = true → (b3 = false ∨ z = y) → Ref C 0 (.int 2) H E) ∧ (b1 = true → b2 = true → b3 = true → z ≠ y → b4 = false → Ref C 0 (.int 3) H E) ∧
  ∀ n o p c, x = .str n → y = .str o → z = .str p → u = .int c → okName n = true → okName o = true → okName p = true → o ≠ p → okCost c = true → Does C L (.addLine n o p c) A S H Q E
/-- rooms(), lines(), drains(), sources() -/
def spSorted (f : LS → List Str) : Sp := fun vs H Q _ => ∃ (A : LA) (S : LS), vs = [.ref A.p] ∧ LayAt L H A S ∧ S.Ok ∧ ∀ (H' : Hp) (p : Addr) (ys : List Str), ys.Perm (f S) → sortedS ys = true → Same H H' → H p = none → H' p = some (.lst (ys.map V.str)) → Q (.ref p) H'
/-- a question of one name; ans: None where it is lacking -/
def spAsk {α : Type} (ans : LS → Str → Option α) (told : α → V → Hp → Hp → Prop) : Sp := fun vs H Q E => ∃ (A : LA) (x : V) (b : Bool) (S : LS), vs = [.ref A.p, x] ∧ LayAt L H A S ∧ S.Ok ∧ NameQ K H x b ∧ (b = false → Ref C 0 (.int 0) H E) ∧
  ∀ z, x = .str z → okName z = true → (ans S z = none → Ref C 2 (.str z) H E) ∧ ∀ a, ans S z = some a → ∀ H' v, Same H H' → told a v H H' → Q v H'
/-- self._refuse_..(name): refused where the test holds -/
def spRefuse (n : Nat) (f : LS → Str → Bool) : Sp := fun vs H Q E => ∃ (A : LA) (z : Str) (S : LS), vs = [.ref A.p, .str z] ∧ LayAt L H A S ∧ (f S z = true → Ref C n (.str z) H E) ∧ (f S z = false → Q .non H)
/-- self._ending_at(room) -/
def spEnding : Sp := fun vs H Q _ => ∃ (A : LA) (z : Str) (S : LS), vs = [.ref A.p, .str z] ∧ LayAt L H A S ∧ S.Ok ∧ ∀ H' p, Same H H' → H p = none → H' p = some (.lst ((S.at z).map V.str)) → Q (.ref p) H'
def spInUse : Sp := fun vs H Q _ => ∃ (A : LA) (z : Str) (S : LS), vs = [.ref A.p, .str z] ∧ LayAt L H A S ∧ S.Ok ∧ ∀ H', Same H H' → Q (.bl (S.used z)) H'
/-- Layout(): __init__ -/
def spInitL : Sp := fun vs H Q _ => ∃ (p dx : Addr), vs = [.ref p] ∧ H p = some (.ins L dx []) ∧ ∀ (A : LA) (H' : Hp), A.p = p → LayAt L H' A LS.new → (∀ b u, H b = some u → b ≠ p → H' b = some u) → (∀ b ∈ A.ms, H b = none) → (∀ b, H' b = none → H b = none) → Q .non H'
end
end SM
/-! Part V: list(d.values()). -/
namespace SM
open PySem PySem.Spec PyProof.Rows L2
def rValuesL : V → Hp → VK → Prop := fun x H Q => ∃ (d : Addr) (kvs : List (Key × V)), x = .ref d ∧ H d = some (.dK kvs) ∧ ∀ p, H p = none → Q (.ref p) (upd H p (.lst (kvs.map (·.2))))
def tListValues (te : TE) : TE := fun σ H Q => te σ H fun x H1 => rValuesL x H1 Q
theorem vals_kv : ∀ {kvs : List (Key × V)} {vs : List (Key × Value)} {us : List Value}, KV kvs vs → us.length = vs.length → (∀ (j : Nat) (v : Value), us[j]? = some v → ∃ k : Key, vs[j]? = some (k, v)) → Vals (kvs.map (·.2)) us
  | [], [], [], _, _, _ => .nil
  | _, _, u :: us, .cons h t, hl, hu => by
    obtain ⟨k, e⟩ := hu 0 u rfl
    have e' := Option.some.inj e
    refine .cons ?_ (vals_kv t (by simpa using hl) fun j v q => ?_)
    · have r := h.2
      rw [e'] at r
      exact r
    · obtain ⟨k2, e2⟩ := hu (j + 1) v (by simpa using q)
      exact ⟨k2, by simpa using e2⟩
  | _, _, [], .cons _ _, hl, _ => by simp at hl
  | _, _, _ :: _, .nil, hl, _ => by simp at hl
section
variable {X : Cx} {e : Expr} {te : TE} {p apos cpos pos : Pos}
/-- list(e.values()) -/
theorem pe_listValues (hc : X.calm = true) (he : PE X e te) (hg : Gl X "list") (hm : X.mg "list" = none) (hv : bootBuiltins "list" = some (.type "list")) (hbase : attributeBase e "values" X.env (eval e X.env) = eval e X.env := by rfl) (hline : (apos.endLine == cpos.line) = true := by rfl)
    (hs : starEach [.Call (.Attribute e "values" apos) [] [] cpos] X.env = (false, eval (.Call (.Attribute e "values" apos) [] [] cpos) X.env) :: starEach [] X.env := by rfl) :
    PE X (.Call (.Name "list" p) [.Call (.Attribute e "values" apos) [] [] cpos] [] pos) (tListValues te) := by
  refine ⟨fun pins s σ H Q I hq => ?_⟩
  refine wpAny_Call_Name_kw (ld_blt I hg hm hv ?_)
  refine PyProof.Rows.callWith_type1 ?_ hs rfl
  rw [hs]
  show wpAny _ _ (spliced ((false, eval (.Call (.Attribute e "values" apos) [] [] cpos) X.env) :: backTo pos (starEach [] X.env))) _ _ s
  refine Calls.spliced_cons ?_
  refine wpAny_Call_method (T := "dict") (id := "dict.values") hbase rfl hline F.plainAttrs_dict F.slot_dict_values F.type_dict_values (thn (he.run pins s σ H _ I hq) fun u s1 ⟨x, H1, I1, rx, d, kvs, ex, hd, q⟩ => ?_)
  subst ex
  obtain rfl : u = Value.ref d := rx
  obtain ⟨hz, hs0, vs, kv, hdo⟩ := I1.hok d _ hd
  obtain ⟨ep, hat⟩ := hdo.dictAt
  have lk : kvs.length = vs.length := Paired.length kv
  have I2 : Inv X pins σ H1 { s1 with heap := s1.heap.push { cls := .type "dict_values", data := .fields #[.ref d] } } := I1.kept (t' := s1.toks) fun b ob q => Heap.get?_push_of_some _ q
  refine ⟨hdo.typeIs, hdo.mapOf.noDict, ?_⟩
  show wpAny _ _ (callWith cpos (.builtin "dict.values") [.ref d] [] []) _ X.xe s1
  refine method_meetsIn F.slot_dict_values F.entry_dict_values rfl (PySem.evalArgs_none ⟨rfl, hdo.typeIs, F.args_dict_values_1 _, _, meets_dict_values (mixKind X.prog X.w) d hs0, ⟨vs, hdo⟩, ?_⟩)
  refine Calls.spliced_nil ?_
  refine PySem.W.kdl_call (PySem.W.kdl_values (knd := mixKind X.prog X.w) (kvs := vs) (ep := ep)) (I1.ok.hd hc) ⟨⟨_, Heap.get?_push_size _ rfl, rfl, rfl⟩, hat.push _⟩ (by omega) fun h' tk acc c hk hS hacc => ?_
  have hvs : Vals (kvs.map (·.2)) acc.toList := vals_kv kv (by rw [Array.length_toList]; exact hacc.1) fun j v e => hacc.2 j v (by rw [← Array.getElem?_toList]; exact e)
  exact ⟨.ref _, upd H1 _ (.lst (kvs.map (·.2))), I2.laid (t' := tk) hk (Nat.le_refl _)
    (show ObjOk X.prog X.w _ _ _ (.lst (kvs.map (·.2))) from ⟨by rw [List.length_map]; exact hz, acc.toList, c, hvs, by rw [Array.toArray_toList]; exact hS⟩), rfl, q _ (I2.hok.fresh (Nat.le_refl _))⟩
end
section
variable {X : Cx} {K : PySem.W.Frag}
theorem op_in_seqK (h : X.K = K) : OpR X (compareOp .In) (rIn K false) := by
  subst h
  exact op_in_seq
theorem op_notIn_seqK (h : X.K = K) : OpR X (compareOp .NotIn) (rIn K true) := by
  subst h
  exact op_notIn_seq
theorem ix_listK (h : X.K = K) : IxR X (rIxL K) := by
  subst h
  exact ix_list
theorem pg_tupK {es : List Expr} {k : Nat} {t : TGs} {n : Nat} {pos : Pos} (hK : X.K = K) (hc : X.calm = true) (h : PGs X es t)
    (hn : (assignEach es X.env).length = n := by rfl) (hst : (assignEach es X.env).findIdx? (·.1) = none := by rfl) : PG X (.Tuple es k pos) (gTup K n t) := by
  subst hK
  exact pg_tup hc h hn hst
end
end SM
/-! Part K: what a law holds of a layout: sorted lists, data, its own book. -/
namespace SM
open PySem PySem.Spec PyProof.Rows L2
/-! ### sorted lists of texts: one arrangement -/
theorem lt_anti : ∀ {a b : List Nat}, ltCps b a = false → ltCps a b = false → a = b
  | [], [], _, _ => rfl
  | [], _ :: _, _, h => by cases h
  | _ :: _, [], h, _ => by cases h
  | x :: xs, y :: ys, h1, h2 => by
    simp only [ltCps, Bool.or_eq_false_iff, decide_eq_false_iff_not] at h1 h2
    have e : x = y := by omega
    subst e
    have h1' : ltCps ys xs = false := by simpa using h1.2
    have h2' : ltCps xs ys = false := by simpa using h2.2
    rw [lt_anti h1' h2']
theorem le_tr : ∀ {a b c : List Nat}, ltCps b a = false → ltCps c b = false → ltCps c a = false
  | [], _, [], _, _ => rfl
  | [], [], _ :: _, _, _ => rfl
  | [], _ :: _, _ :: _, _, _ => rfl
  | _ :: _, [], _, h, _ => by cases h
  | _ :: _, _ :: _, [], _, h => by cases h
  | x :: xs, y :: ys, z :: zs, h1, h2 => by
    simp only [ltCps, Bool.or_eq_false_iff, decide_eq_false_iff_not] at h1 h2 ⊢
    refine ⟨by omega, ?_⟩
    by_cases e : z = x
    · have e1 : y = x := by omega
      subst e1
      subst e
      have h1' : ltCps ys xs = false := by simpa using h1.2
      have h2' : ltCps zs ys = false := by simpa using h2.2
      rw [le_tr h1' h2', Bool.and_false]
    · rw [beq_false_of_ne e, Bool.false_and]
abbrev leS (a b : Str) : Prop := ltCps b.cps.toList a.cps.toList = false
theorem leS_anti {a b : Str} (h1 : leS a b) (h2 : leS b a) : a = b := by
  have e := lt_anti h1 h2
  obtain ⟨⟨x⟩⟩ := a
  obtain ⟨⟨y⟩⟩ := b
  have e' : x = y := e
  rw [e']
theorem rising_pw : ∀ {l : List Str} {p : Str}, risingS p l = true → (p :: l).Pairwise leS
  | [], p, _ => List.pairwise_singleton _ _
  | x :: r, p, h => by
    have h' : (!ltCps x.cps.toList p.cps.toList) = true ∧ risingS x r = true := by
      have z : (!ltCps x.cps.toList p.cps.toList && risingS x r) = true := h
      simpa using z
    have ih := rising_pw h'.2
    have px : leS p x := by simpa using h'.1
    refine List.pairwise_cons.mpr ⟨fun y hy => ?_, ih⟩
    rcases List.mem_cons.mp hy with e | hy
    · rw [e]
      exact px
    · exact le_tr px ((List.pairwise_cons.mp ih).1 y hy)
theorem sorted_pw : ∀ {l : List Str}, sortedS l = true → l.Pairwise leS
  | [], _ => List.Pairwise.nil
  | _ :: _, h => rising_pw h
theorem sorted_one {xs ys zs : List Str} (p : ys.Perm xs) (q : zs.Perm xs) (s : sortedS ys = true) (t : sortedS zs = true) : ys = zs :=
  List.Perm.eq_of_pairwise (fun a b _ _ h1 h2 => leS_anti h1 h2) (sorted_pw s) (sorted_pw t) (p.trans q.symm)
/-! ### xs.count(y), all flat -/
theorem countP_eqU {x : V} : ∀ {xs : List V} {us : List Value}, Vals xs us → xs.all flatV = true → us.countP (eqU x) = xs.countP fun y => eqV y x
  | _, _, .nil, _ => rfl
  | y :: xs, u :: us, .cons r t, f => by
    rw [List.all_cons, Bool.and_eq_true] at f
    rw [List.countP_cons, List.countP_cons, eqU_of r f.1, countP_eqU t f.2]
def rCntF (K : PySem.W.Frag) : V → List V → Hp → VK → Prop := fun x vs H Q => ∃ (p : Addr) (xs : List V) (y : V), x = .ref p ∧ vs = [y] ∧ SqL K H p xs ∧ flatV y = true ∧ xs.all flatV = true ∧ Q (.int (xs.countP fun z => eqV z y : Nat)) H
theorem mt_countF {X : Cx} : MtR X "list.count" (rCntF X.K) := by
  intro pins s σ H x vs v us Q I rx rxs h
  obtain ⟨p, xs, y, rfl, rfl, hs, fy, fx, q⟩ := h
  cases rx
  obtain ⟨u, rfl, ru⟩ := rxs.one
  obtain ⟨its, rv, ⟨⟨cls, dd, data, sl⟩, n, ho, hc, hdn, hd⟩, hlen⟩ := I.list hs
  simp only at hc hd
  subst hc hd
  refine call_meets PySem.F.slot_list_count ⟨_, ho, rfl⟩ PySem.F.entry_list_count (PySem.F.args_list_count_2 _ _)
    (SeqAt.list_countAt p its.toArray n dd sl u (eqU y)) ⟨ho, fun z hz => mem_eqAt ru fy rv fx z (by simpa using hz), ?_⟩
  have ec : its.toArray.toList.countP (eqU y) = xs.countP fun z => eqV z y := countP_eqU rv fx
  refine ⟨.int (xs.countP fun z => eqV z y : Nat), H, I.tok _, ⟨s.toks, ?_⟩, q⟩
  show Value.int ((its.toArray.toList.countP (eqU y) : Nat) : Int) s.toks = Value.int ((xs.countP fun z => eqV z y : Nat) : Int) s.toks
  rw [ec]
/-! ### small data -/
structure Sm (k w : Nat) (d : PyData) : Prop where
  lay : d.canLay0 = true
  dep : d.depth ≤ k
  ish : d.intsShort 64 = true
  sho : d.showable = true
  wt : d.weight ≤ w
structure SmAll (k w : Nat) (ds : List PyData) : Prop where
  lay : PyData.canLayAll0 ds = true
  dep : PyData.depthAll ds ≤ k
  ish : PyData.intsShortAll 64 ds = true
  sho : PyData.showableAll ds = true
  wt : PyData.weightAll ds ≤ ds.length * (w + 1)
theorem SmAll.nil {k w : Nat} : SmAll k w [] := ⟨by simp only [PyData.canLayAll0], by simp only [PyData.depthAll]; omega, by simp only [PyData.intsShortAll], by simp only [PyData.showableAll], by simp only [PyData.weightAll]; omega⟩
theorem SmAll.cons {k w : Nat} {d : PyData} {ds : List PyData} (h : Sm k w d) (t : SmAll k w ds) : SmAll k w (d :: ds) := by
  refine ⟨?_, ?_, ?_, ?_, ?_⟩
  · simp only [PyData.canLayAll0, h.lay, t.lay, Bool.and_self]
  · simp only [PyData.depthAll]
    have := h.dep
    have := t.dep
    omega
  · simp only [PyData.intsShortAll, h.ish, t.ish, Bool.and_self]
  · simp only [PyData.showableAll, h.sho, t.sho, Bool.and_self]
  · simp only [PyData.weightAll, List.length_cons, Nat.succ_mul]
    have := h.wt
    have := t.wt
    omega
theorem SmAll.map {α : Type} {k w : Nat} (f : α → PyData) : ∀ {xs : List α}, (∀ x ∈ xs, Sm k w (f x)) → SmAll k w (xs.map f)
  | [], _ => .nil
  | _ :: _, h => .cons (h _ List.mem_cons_self) (SmAll.map f fun x hx => h x (List.mem_cons_of_mem _ hx))
theorem Sm.lst {k w : Nat} {ds : List PyData} (h : SmAll k w ds) : Sm (k + 1) (ds.length * (w + 1)) (.list ds) := by
  refine ⟨?_, ?_, ?_, ?_, ?_⟩
  · simp only [PyData.canLay0, h.lay]
  · simp only [PyData.depth]
    have := h.dep
    omega
  · simp only [PyData.intsShort, h.ish]
  · simp only [PyData.showable, h.sho]
  · simp only [PyData.weight]
    exact h.wt
theorem Sm.tup {k w : Nat} {ds : List PyData} (h : SmAll k w ds) : Sm (k + 1) (ds.length * (w + 1)) (.tuple ds) := by
  refine ⟨?_, ?_, ?_, ?_, ?_⟩
  · simp only [PyData.canLay0, h.lay]
  · simp only [PyData.depth]
    have := h.dep
    omega
  · simp only [PyData.intsShort, h.ish]
  · simp only [PyData.showable, h.sho]
  · simp only [PyData.weight]
    exact h.wt
theorem Sm.mono {k k' w w' : Nat} {d : PyData} (h : Sm k w d) (a : k ≤ k') (b : w ≤ w') : Sm k' w' d := ⟨h.lay, Nat.le_trans h.dep a, h.ish, h.sho, Nat.le_trans h.wt b⟩
theorem Sm.fine {k w : Nat} {d : PyData} (h : Sm k w d) (a : k ≤ 50) (b : w ≤ 100000) : Fine d := ⟨h.lay, Nat.le_trans h.dep a, h.ish, h.sho, Nat.le_trans h.wt b⟩
def smallS (z : Str) : Bool := PyData.strOk z && decide (z.cps.size ≤ 16)
theorem sm_str {z : Str} (h : smallS z = true) : Sm 0 16 (.str z) := by
  simp only [smallS, Bool.and_eq_true, decide_eq_true_eq] at h
  exact ⟨by simp only [PyData.canLay0, h.1], by simp only [PyData.depth]; omega, by simp only [PyData.intsShort], by simp only [PyData.showable], by simp only [PyData.weight]; exact h.2⟩
theorem sm_none : Sm 0 16 .none := ⟨by simp only [PyData.canLay0], by simp only [PyData.depth]; omega, by simp only [PyData.intsShort], by simp only [PyData.showable], by simp only [PyData.weight]; omega⟩
theorem sm_int {i : Int} (h0 : 0 ≤ i) (h1 : i ≤ 99) : Sm 0 16 (.int i) := by
  obtain ⟨n, rfl⟩ : ∃ n : Nat, i = n := ⟨i.toNat, by omega⟩
  have hn : n ≤ 99 := by omega
  have key : ∀ m : Nat, m < 100 → (PyData.intsShort 64 (.int (m : Int)) && PyData.showable (.int (m : Int)) && decide (PyData.weight (.int (m : Int)) ≤ 16)) = true := by decide +kernel
  have k := key n (by omega)
  simp only [Bool.and_eq_true, decide_eq_true_eq] at k
  exact ⟨by simp only [PyData.canLay0], by simp only [PyData.depth]; omega, k.1.1, k.1.2, k.2⟩
theorem lexlt_cons {c d : Nat} : ([c] < [d]) ↔ c < d := by
  constructor
  · intro h
    cases h with
    | rel h => exact h
    | cons h => cases h
  · intro h
    exact List.Lex.rel h
theorem sgA_eq : sgA.cps.toList = [97] := by decide +kernel
theorem sgZ_eq : sgZ.cps.toList = [122] := by decide +kernel
theorem okSign_iff {c : Nat} : okSign c = true ↔ 97 ≤ c ∧ c ≤ 122 := by
  unfold okSign
  rw [sgA_eq, sgZ_eq]
  simp only [Bool.and_eq_true, Bool.not_eq_true', decide_eq_false_iff_not, lexlt_cons]
  omega
theorem okName_small {z : Str} (h : okName z = true) : smallS z = true := by
  simp only [okName, Bool.and_eq_true, decide_eq_true_eq] at h
  simp only [smallS, PyData.strOk, Bool.and_eq_true, decide_eq_true_eq]
  refine ⟨?_, by omega⟩
  rw [Array.all_eq_true']
  intro c hc
  have := okSign_iff.mp (List.all_eq_true.mp h.2 c (by simpa using hc))
  exact decide_eq_true (by omega)
theorem okName_iff {z : Str} : okName z = true ↔ 1 ≤ z.cps.size ∧ z.cps.size ≤ 8 ∧ ∀ c ∈ z.cps.toList, okSign c = true := by
  simp only [okName, Bool.and_eq_true, decide_eq_true_eq, List.all_eq_true]
  exact ⟨fun h => ⟨h.1.1, h.1.2, h.2⟩, fun h => ⟨⟨h.1, h.2.1⟩, h.2.2⟩⟩
/-! ### a law's deeds -/
def Deed.vs : Deed → List V
  | .addRoom x => [.str "add_room", .str x]
  | .addLine x a b c => [.str "add_line", .str x, .str a, .str b, .int c]
  | .addDrain x r => [.str "add_drain", .str x, .str r]
  | .addSource x => [.str "add_source", .str x]
  | .takeRoom x => [.str "take_room", .str x]
  | .takeLine x => [.str "take_line", .str x]
  | .takeDrain x => [.str "take_drain", .str x]
  | .takeSource x => [.str "take_source", .str x]
def Rf.word : Rf → Str
  | .there _ => "There"
  | .lacks _ => "Lacks"
  | .tooMany _ => "TooMany"
  | .inUse _ => "InUse"
def Rf.data : Rf → PyData
  | .there x => .str x
  | .lacks x => .str x
  | .tooMany n => .int n
  | .inUse x => .str x
/-- what is due as a value -/
def DueV (H : Hp) (v : V) : Option Rf → Prop
  | none => v = .non
  | some f => ∃ t, v = .ref t ∧ H t = some (.tup [.str f.word, f.val])
theorem DueV.keep {ms : List Addr} {H H' : Hp} {v : V} {o : Option Rf} (h : DueV H v o) (k : Keep ms H H') : DueV H' v o := by
  cases o with
  | none => exact h
  | some f =>
    obtain ⟨t, e, q⟩ := h
    exact ⟨t, e, k.tup _ _ q⟩
/-- what is said: as data -/
def saidD : Option Rf → PyData
  | none => .tuple [.str "told", .none]
  | some f => .tuple [.str "refused", .tuple [.str f.word, f.data]]
theorem Rf.dp {K : PySem.W.Frag} {H : Hp} (f : Rf) : Dp K H f.val f.data := by
  cases f with
  | there x => exact .str x
  | lacks x => exact .str x
  | tooMany n => exact .int n
  | inUse x => exact .str x
/-- a refusal that a layout makes of names -/
def Rf.Good : Rf → Prop
  | .there x => okName x = true
  | .lacks x => okName x = true
  | .tooMany n => 0 ≤ n ∧ n ≤ 99
  | .inUse x => okName x = true
theorem Rf.Good.sm {f : Rf} (g : f.Good) : Sm 0 16 f.data := by
  cases f with
  | there x => exact sm_str (okName_small g)
  | lacks x => exact sm_str (okName_small g)
  | tooMany n => exact sm_int g.1 g.2
  | inUse x => exact sm_str (okName_small g)
theorem Rf.word_small : ∀ f : Rf, smallS f.word = true
  | .there _ => (by decide +kernel : smallS "There" = true)
  | .lacks _ => (by decide +kernel : smallS "Lacks" = true)
  | .tooMany _ => (by decide +kernel : smallS "TooMany" = true)
  | .inUse _ => (by decide +kernel : smallS "InUse" = true)
theorem said_fine {o : Option Rf} (g : ∀ f, o = some f → f.Good) : Fine (saidD o) := by
  cases o with
  | none =>
    exact (Sm.tup (.cons (sm_str (by decide +kernel)) (.cons sm_none .nil))).fine (by decide) (show 2 * (16 + 1) ≤ 100000 by decide)
  | some f =>
    have i := Sm.tup (SmAll.cons (sm_str f.word_small) (.cons (g f rfl).sm .nil))
    exact (Sm.tup (.cons ((sm_str (z := "refused") (by decide +kernel)).mono (k' := 1) (w' := 34) (by decide) (by decide)) (.cons (i.mono (k' := 1) (w' := 34) (by decide) (Nat.le_refl _)) .nil))).fine (by decide) (show 2 * (34 + 1) ≤ 100000 by decide)
theorem due_good {S : LS} {D : Deed} (g : D.Good) {f : Rf} (h : S.due D = some f) : f.Good := by
  cases D with
  | addRoom x => simp only [LS.due] at h; split at h <;> (try split at h) <;> first | (cases h; exact g) | (cases h; exact ⟨by decide, by decide⟩) | cases h
  | addLine x a b c => simp only [LS.due] at h; split at h <;> (try split at h) <;> (try split at h) <;> (try split at h) <;> first | (cases h; exact g.1) | (cases h; exact g.2.1) | (cases h; exact g.2.2.1) | (cases h; exact ⟨by decide, by decide⟩) | cases h
  | addDrain x r => simp only [LS.due] at h; split at h <;> (try split at h) <;> (try split at h) <;> first | (cases h; exact g.1) | (cases h; exact g.2) | (cases h; exact ⟨by decide, by decide⟩) | cases h
  | addSource x => simp only [LS.due] at h; split at h <;> (try split at h) <;> first | (cases h; exact g) | cases h
  | takeRoom x => simp only [LS.due] at h; split at h <;> (try split at h) <;> first | (cases h; exact g) | cases h
  | takeLine x => simp only [LS.due] at h; split at h <;> first | (cases h; exact g) | cases h
  | takeDrain x => simp only [LS.due] at h; split at h <;> first | (cases h; exact g) | cases h
  | takeSource x => simp only [LS.due] at h; split at h <;> first | (cases h; exact g) | cases h
/-! ### a law's book of a layout -/
structure MA where
  m : Addr
  l : Addr
  d : Addr
  tw : Bool
def MA.ms (A : MA) : List Addr := [A.m, A.l, A.d]
def mtop (A : MA) (a b : Addr) : List (Key × V) := if A.tw = true then ([(Sum.inr "rooms", .ref a), (Sum.inr "sources", .ref b), (Sum.inr "lines", .ref A.l), (Sum.inr "drains", .ref A.d)] : List (Key × V)) else [(Sum.inr "rooms", .ref a), (Sum.inr "lines", .ref A.l), (Sum.inr "drains", .ref A.d), (Sum.inr "sources", .ref b)]
theorem mtop_t {A : MA} {a b : Addr} (h : A.tw = true) : mtop A a b = ([(Sum.inr "rooms", .ref a), (Sum.inr "sources", .ref b), (Sum.inr "lines", .ref A.l), (Sum.inr "drains", .ref A.d)] : List (Key × V)) := if_pos h
theorem mtop_f {A : MA} {a b : Addr} (h : ¬ A.tw = true) : mtop A a b = ([(Sum.inr "rooms", .ref a), (Sum.inr "lines", .ref A.l), (Sum.inr "drains", .ref A.d), (Sum.inr "sources", .ref b)] : List (Key × V)) := if_neg h
theorem mtop_len (A : MA) (a b : Addr) : (mtop A a b).length ≤ 1000 := by
  by_cases h : A.tw = true
  · rw [mtop_t h]
    show 4 ≤ 1000
    decide
  · rw [mtop_f h]
    show 4 ≤ 1000
    decide
/-- a sorted list of xs stands at a -/
def SortAt (H : Hp) (a : Addr) (xs : List Str) : Prop := ∃ ys : List Str, ys.Perm xs ∧ sortedS ys = true ∧ H a = some (.lst (ys.map V.str))
structure MdAt (H : Hp) (A : MA) (S : LS) : Prop where
  top : ∃ a b, H A.m = some (.dK (mtop A a b)) ∧ SortAt H a S.rooms ∧ SortAt H b S.sources
  ln : ∃ kvs, H A.l = some (.dK kvs) ∧ Kr (LineG H) kvs S.lines
  dr : ∃ kvs, H A.d = some (.dK kvs) ∧ Kr StrG kvs S.drains
  nd : A.ms.Nodup
section
variable {H H' : Hp} {A : MA} {S : LS} {ms : List Addr}
theorem SortAt.keep {a : Addr} {xs : List Str} (h : SortAt H a xs) (k : Keep ms H H') : SortAt H' a xs := by
  obtain ⟨ys, p, s, e⟩ := h
  exact ⟨ys, p, s, k.flat _ _ e (flat_strs _)⟩
theorem MdAt.keep (h : MdAt H A S) (k : Keep ms H H') (n : ∀ b ∈ ms, b ∉ A.ms) : MdAt H' A S := by
  obtain ⟨⟨a, b, e1, e2, e3⟩, ⟨k2, l1, l2⟩, ⟨k3, d1, d2⟩, nd⟩ := h
  have off : ∀ {b u}, b ∈ A.ms → H b = some u → H' b = some u := fun {b u} hb e => k.out b u e fun z => n b z hb
  exact ⟨⟨a, b, off (by simp [MA.ms]) e1, e2.keep k, e3.keep k⟩, ⟨k2, off (by simp [MA.ms]) l1, l2.mono fun v a ⟨t, e, ht⟩ => ⟨t, e, k.tup t _ ht⟩⟩, ⟨k3, off (by simp [MA.ms]) d1, d2⟩, nd⟩
theorem MdAt.same (h : MdAt H A S) (s : Same H H') : MdAt H' A S := h.keep (ms := []) (Keep.of s) fun b z => (nomatch z)
theorem MdAt.ne (h : MdAt H A S) : A.m ≠ A.l ∧ A.m ≠ A.d ∧ A.l ≠ A.d := by
  have n := h.nd
  simp only [MA.ms, List.nodup_cons, List.mem_cons, List.not_mem_nil, or_false, not_or] at n
  exact ⟨n.1.1, n.1.2, n.2.1⟩
end
theorem kq1 : ¬ (Sum.inr ("rooms" : Str) : Key) = Sum.inr ("lines" : Str) := by decide +kernel
theorem kq2 : ¬ (Sum.inr ("rooms" : Str) : Key) = Sum.inr ("drains" : Str) := by decide +kernel
theorem kq3 : ¬ (Sum.inr ("rooms" : Str) : Key) = Sum.inr ("sources" : Str) := by decide +kernel
theorem kq4 : ¬ (Sum.inr ("lines" : Str) : Key) = Sum.inr ("drains" : Str) := by decide +kernel
theorem kq5 : ¬ (Sum.inr ("lines" : Str) : Key) = Sum.inr ("sources" : Str) := by decide +kernel
theorem kq6 : ¬ (Sum.inr ("drains" : Str) : Key) = Sum.inr ("sources" : Str) := by decide +kernel
theorem mtop_r (A : MA) (a b : Addr) : valV (mtop A a b) (Sum.inr "rooms") = some (.ref a) := by
  by_cases h : A.tw = true
  · rw [mtop_t h, valV_pos rfl]
  · rw [mtop_f h, valV_pos rfl]
theorem mtop_l (A : MA) (a b : Addr) : valV (mtop A a b) (Sum.inr "lines") = some (.ref A.l) := by
  by_cases h : A.tw = true
  · rw [mtop_t h, valV_neg kq1, valV_neg (Ne.symm kq5), valV_pos rfl]
  · rw [mtop_f h, valV_neg kq1, valV_pos rfl]
theorem mtop_d (A : MA) (a b : Addr) : valV (mtop A a b) (Sum.inr "drains") = some (.ref A.d) := by
  by_cases h : A.tw = true
  · rw [mtop_t h, valV_neg kq2, valV_neg (Ne.symm kq6), valV_neg kq4, valV_pos rfl]
  · rw [mtop_f h, valV_neg kq2, valV_neg kq4, valV_pos rfl]
theorem mtop_s (A : MA) (a b : Addr) : valV (mtop A a b) (Sum.inr "sources") = some (.ref b) := by
  by_cases h : A.tw = true
  · rw [mtop_t h, valV_neg kq3, valV_pos rfl]
  · rw [mtop_f h, valV_neg kq3, valV_neg kq5, valV_neg kq6, valV_pos rfl]
theorem mtop_setR (A : MA) (a b c : Addr) : putK (mtop A a b) (Sum.inr "rooms") (.ref c) = mtop A c b := by
  unfold putK
  rw [valV_any, mtop_r, if_pos (show (some (V.ref a)).isSome = true from rfl)]
  by_cases h : A.tw = true
  · rw [mtop_t h, mtop_t h]
    simp only [List.map_cons, List.map_nil, if_neg (Ne.symm kq1), if_neg (Ne.symm kq2), if_neg (Ne.symm kq3), if_true]
  · rw [mtop_f h, mtop_f h]
    simp only [List.map_cons, List.map_nil, if_neg (Ne.symm kq1), if_neg (Ne.symm kq2), if_neg (Ne.symm kq3), if_true]
theorem mtop_setS (A : MA) (a b c : Addr) : putK (mtop A a b) (Sum.inr "sources") (.ref c) = mtop A a c := by
  unfold putK
  rw [valV_any, mtop_s, if_pos (show (some (V.ref b)).isSome = true from rfl)]
  by_cases h : A.tw = true
  · rw [mtop_t h, mtop_t h]
    simp only [List.map_cons, List.map_nil, if_neg kq3, if_neg kq5, if_neg kq6, if_true]
  · rw [mtop_f h, mtop_f h]
    simp only [List.map_cons, List.map_nil, if_neg kq3, if_neg kq5, if_neg kq6, if_true]
theorem dget_of {H : Hp} {d : Addr} {kvs : List (Key × V)} {z : Str} {v : V} (h : H d = some (.dK kvs)) (e : valV kvs (Sum.inr z) = some v) : DGet H d (.str z) (some v) := by
  have g := DGet.k (k := Sum.inr z) h
  rw [e] at g
  exact g
/-- .. read under a lock, too -/
theorem dget_rd {H : Hp} {d : Addr} {kvs : List (Key × V)} {z : Str} {v : V} (h : Rd H d (.dK kvs)) (e : valV kvs (Sum.inr z) = some v) : DGet H d (.str z) (some v) := .inl ⟨kvs, Sum.inr z, h, rfl, e.symm⟩
end SM
namespace SM
open PySem PySem.Spec PyProof.Rows L2
theorem joinL_single : ∀ cs : List Nat, TL.joinL [] (cs.map fun c => [c]) = cs
  | [] => rfl
  | [c] => rfl
  | c :: d :: r => by
    have e := joinL_single (d :: r)
    simp only [List.map_cons] at e ⊢
    show [c] ++ ([] ++ TL.joinL [] ([d] :: r.map fun c => [c])) = c :: d :: r
    rw [e]
    rfl
theorem okName_join {cs : List Nat} (h1 : 1 ≤ cs.length) (h8 : cs.length ≤ 8) (h : ∀ c ∈ cs, okSign c = true) : okName (Txt.join "" (cs.map fun c => (⟨#[c]⟩ : Str))) = true := by
  have e : (Txt.join "" (cs.map fun c => (⟨#[c]⟩ : Str))).cps.toList = cs := by
    rw [TL.join_eq]
    have t := TL.tl_join "" (cs.map fun c => (⟨#[c]⟩ : Str))
    have e0 : TL.tl "" = [] := by decide +kernel
    rw [e0, List.map_map] at t
    exact t.trans (joinL_single cs)
  refine okName_iff.mpr ⟨?_, ?_, ?_⟩
  · rw [← Array.length_toList, e]
    exact h1
  · rw [← Array.length_toList, e]
    exact h8
  · rw [e]
    exact h
/-! ### promises of a law's own defs -/
def spAlike (K : PySem.W.Frag) : Sp := fun vs H Q _ => ∃ (x y : V) (d : PyData), vs = [x, y] ∧ Dp K H x d ∧ Dp K H y d ∧ Fine d ∧ Q (.bl true) H
def spNameL : Sp := fun vs H Q _ => ∃ (p q : Addr), vs = [.ref p] ∧ Bag H p q ∧ ∀ (z : Str) (H' : Hp), okName z = true → Bag H' p q → Keep [p] H H' → Q (.str z) H'
/-- a list of names -/
def NamesAt (H : Hp) (a : Addr) (ys : List Str) : Prop := H a = some (.lst (ys.map V.str)) ∧ 0 < ys.length ∧ ys.length ≤ 30 ∧ ∀ y ∈ ys, okName y = true
theorem NamesAt.keep {ms : List Addr} {H H' : Hp} {a : Addr} {ys : List Str} (h : NamesAt H a ys) (k : Keep ms H H') : NamesAt H' a ys := ⟨k.flat _ _ h.1 (flat_strs _), h.2⟩
def spNamesL : Sp := fun vs H Q _ => ∃ (p q : Addr) (n : Int), vs = [.ref p, .int n] ∧ Bag H p q ∧ 1 ≤ n ∧ n ≤ 30 ∧ ∀ (a : Addr) (ys : List Str) (H' : Hp), NamesAt H' a ys → Bag H' p q → Keep [p] H H' → Q (.ref a) H'
def spNewL : Sp := fun vs H Q _ => vs = [] ∧ ∀ (A : MA) (H' : Hp), MdAt H' A LS.new → Same H H' → (∀ b ∈ A.ms, H b = none) → Q (.ref A.m) H'
def spCostL : Sp := fun vs H Q _ => ∃ (p q : Addr), vs = [.ref p] ∧ Bag H p q ∧ ∀ (i : Int) (H' : Hp), okCost i = true → Bag H' p q → Keep [p] H H' → Q (.int i) H'
/-- a deed's tuple, of good names -/
def DeedAt (H : Hp) (v : V) (D : Deed) : Prop := ∃ t, v = .ref t ∧ H t = some (.tup D.vs)
theorem DeedAt.keep {ms : List Addr} {H H' : Hp} {v : V} {D : Deed} (h : DeedAt H v D) (k : Keep ms H H') : DeedAt H' v D := by
  obtain ⟨t, e, q⟩ := h
  exact ⟨t, e, k.tup _ _ q⟩
def spAddLineL : Sp := fun vs H Q _ => ∃ (p q a b : Addr) (rs ds : List Str), vs = [.ref p, .ref a, .ref b] ∧ Bag H p q ∧ NamesAt H a rs ∧ NamesAt H b ds ∧ ∀ (D : Deed) (v : V) (H' : Hp), D.Good → DeedAt H' v D → Bag H' p q → Keep [p] H H' → Q v H'
/-- a law's deed of words ws -/
def spDeedL : Sp := fun vs H Q _ => ∃ (p q a b c : Addr) (rs ds ws : List Str), vs = [.ref p, .ref a, .ref b, .ref c] ∧ Bag H p q ∧ NamesAt H a rs ∧ NamesAt H b ds ∧ H c = some (.lst (ws.map V.str)) ∧ 0 < ws.length ∧ ws.length ≤ 30 ∧
  (∀ x ∈ ws, x ∈ (["add_room", "add_line", "add_drain", "add_source", "take_room", "take_line", "take_drain", "take_source"] : List Str)) ∧ ∀ (D : Deed) (v : V) (H' : Hp), D.Good → DeedAt H' v D → Bag H' p q → Keep [p] H H' → Q v H'
def spDueL : Sp := fun vs H Q _ => ∃ (A : MA) (S : LS) (v : V) (D : Deed), vs = [.ref A.m, v] ∧ MdAt H A S ∧ S.Ok ∧ DeedAt H v D ∧ D.Good ∧ ∀ (u : V) (H' : Hp), DueV H' u (S.due D) → Same H H' → Q u H'
def spDoL : Sp := fun vs H Q _ => ∃ (A : MA) (S : LS) (v : V) (D : Deed), vs = [.ref A.m, v] ∧ MdAt H A S ∧ S.Ok ∧ DeedAt H v D ∧ S.due D = none ∧ ∀ (H' : Hp), MdAt H' A (S.put D) → Keep A.ms H H' → Q .non H'
def spCallL (C : Nat → Addr) (L : Addr) : Sp := fun vs H Q E => ∃ (A : LA) (S : LS) (v : V) (D : Deed), vs = [.ref A.p, v] ∧ LayAt L H A S ∧ S.Ok ∧ DeedAt H v D ∧ D.Good ∧ Does C L D A S H Q E
def spClassL (C : Nat → Addr) : Addr → Value → Option Addr → Sp := fun a c d vs H Q _ => ∃ (f : Rf) (dd : Addr), c = .ref (C f.cls) ∧ d = some dd ∧ H dd = some (.xd [(fldN f.cls, f.val)]) ∧ vs = [.ref a] ∧
  ∀ (H' : Hp) (t : Addr), Same H H' → H' t = some (.tup [.str f.word, f.val]) → Q (.ref t) H'
/-- what is said of a deed -/
def SaidV (H : Hp) (v : V) : Option Rf → Prop
  | none => ∃ t, v = .ref t ∧ H t = some (.tup [.str "told", .non])
  | some f => ∃ t t2, v = .ref t ∧ H t = some (.tup [.str "refused", .ref t2]) ∧ H t2 = some (.tup [.str f.word, f.val])
theorem SaidV.keep {ms : List Addr} {H H' : Hp} {v : V} {o : Option Rf} (h : SaidV H v o) (k : Keep ms H H') : SaidV H' v o := by
  cases o with
  | none =>
    obtain ⟨t, e, q⟩ := h
    exact ⟨t, e, k.tup _ _ q⟩
  | some f =>
    obtain ⟨t, t2, e, q, q2⟩ := h
    exact ⟨t, t2, e, k.tup _ _ q, k.tup _ _ q2⟩
theorem SaidV.dp {K : PySem.W.Frag} {H : Hp} {v : V} {o : Option Rf} (h : SaidV H v o) : Dp K H v (saidD o) := by
  cases o with
  | none =>
    obtain ⟨t, rfl, q⟩ := h
    exact .tup (SqT.of q) (.cons (.str _) (.cons .non .nil))
  | some f =>
    obtain ⟨t, t2, rfl, q, q2⟩ := h
    exact .tup (SqT.of q) (.cons (.str _) (.cons (.tup (SqT.of q2) (.cons (.str _) (.cons f.dp .nil))) .nil))
def spSayL (C : Nat → Addr) (L : Addr) : Sp := fun vs H Q _ => ∃ (A : LA) (S : LS) (v : V) (D : Deed), vs = [.ref A.p, v] ∧ LayAt L H A S ∧ S.Ok ∧ DeedAt H v D ∧ D.Good ∧
  ∀ (u : V) (H' : Hp), SaidV H' u (S.due D) → LayAt L H' A (if S.due D = none then S.put D else S) → Keep A.ms H H' → Q u H'
/-- the layout and the law's book of it: one state -/
structure Both (L : Addr) (H : Hp) (A : LA) (B : MA) (S : LS) : Prop where
  lay : LayAt L H A S
  md : MdAt H B S
  ok : S.Ok
  apart : ∀ b ∈ A.ms, b ∉ B.ms
def LS.step (S : LS) (D : Deed) : LS := if S.due D = none then S.put D else S
theorem LS.Ok.step {S : LS} (o : S.Ok) {D : Deed} (g : D.Good) : (S.step D).Ok := by
  unfold LS.step
  split
  · rename_i h
    exact o.put g h
  · exact o
def spStepL (L : Addr) : Sp := fun vs H Q _ => ∃ (A : LA) (B : MA) (S : LS) (v : V) (D : Deed), vs = [.ref A.p, .ref B.m, v] ∧ Both L H A B S ∧ DeedAt H v D ∧ D.Good ∧
  ∀ (H' : Hp), Both L H' A B (S.step D) → Keep (A.ms ++ B.ms) H H' → Q (.bl true) H'
/-- asked whether all is alike -/
def spAskL (L : Addr) : Sp := fun vs H Q _ => ∃ (A : LA) (B : MA) (S : LS), vs = [.ref A.p, .ref B.m] ∧ Both L H A B S ∧ ∀ (H' : Hp), Same H H' → Q (.bl true) H'
def spSameL (L : Addr) : Sp := fun vs H Q _ => ∃ (A : LA) (B : MA) (S : LS) (n : Int), vs = [.ref A.p, .ref B.m, .int n] ∧ 0 ≤ n ∧ Both L H A B S ∧ ∀ (H' : Hp), Same H H' → Q (.bl true) H'
theorem Both.keep {L : Addr} {H H' : Hp} {A : LA} {B : MA} {S : LS} {ms : List Addr} (h : Both L H A B S) (k : Keep ms H H') (n : ∀ b ∈ ms, b ∉ A.ms ∧ b ∉ B.ms) : Both L H' A B S :=
  ⟨h.lay.keep k fun b hb => (n b hb).1, h.md.keep k fun b hb => (n b hb).2, h.ok, h.apart⟩
theorem Both.same {L : Addr} {H H' : Hp} {A : LA} {B : MA} {S : LS} (h : Both L H A B S) (s : Same H H') : Both L H' A B S := ⟨h.lay.same s, h.md.same s, h.ok, h.apart⟩
end SM
namespace SM
open PySem PySem.Spec PyProof.Rows L2
theorem mtop_merge (m l d a b : Addr) : mergeK [] (mtop ⟨m, l, d, false⟩ a b) = mtop ⟨m, l, d, false⟩ a b := by
  rw [mtop_f (A := ⟨m, l, d, false⟩) (fun z => Bool.noConfusion z)]
  have n0 : valV ([] : List (Key × V)) (Sum.inr "rooms") = none := rfl
  have n1 : valV ([(Sum.inr "rooms", .ref a)] : List (Key × V)) (Sum.inr "lines") = none := by rw [valV_neg kq1]; rfl
  have n2 : valV ([(Sum.inr "rooms", .ref a), (Sum.inr "lines", .ref l)] : List (Key × V)) (Sum.inr "drains") = none := by rw [valV_neg kq2, valV_neg kq4]; rfl
  have n3 : valV ([(Sum.inr "rooms", .ref a), (Sum.inr "lines", .ref l), (Sum.inr "drains", .ref d)] : List (Key × V)) (Sum.inr "sources") = none := by rw [valV_neg kq3, valV_neg kq5, valV_neg kq6]; rfl
  show putK (putK (putK (putK ([] : List (Key × V)) (Sum.inr "rooms") (.ref a)) (Sum.inr "lines") (.ref l)) (Sum.inr "drains") (.ref d)) (Sum.inr "sources") (.ref b) = _
  rw [putK_new _ n0]
  show putK (putK (putK ([(Sum.inr "rooms", .ref a)] : List (Key × V)) (Sum.inr "lines") (.ref l)) (Sum.inr "drains") (.ref d)) (Sum.inr "sources") (.ref b) = _
  rw [putK_new _ n1]
  show putK (putK ([(Sum.inr "rooms", .ref a), (Sum.inr "lines", .ref l)] : List (Key × V)) (Sum.inr "drains") (.ref d)) (Sum.inr "sources") (.ref b) = _
  rw [putK_new _ n2]
  show putK ([(Sum.inr "rooms", .ref a), (Sum.inr "lines", .ref l), (Sum.inr "drains", .ref d)] : List (Key × V)) (Sum.inr "sources") (.ref b) = _
  rw [putK_new _ n3]
  rfl
section
variable {X : Cx} {K : PySem.W.Frag} {CX : CXT} {k : Nat} {ps : List Str} {sp : Sp} {E : XK} {x : Str} {p pos : Pos}
theorem sl_listK (h : X.K = K) : SlR X (rSlL K) := by
  subst h
  exact sl_list
theorem sl_tupK (h : X.K = K) : SlR X (rSlT K) := by
  subst h
  exact sl_tup
theorem pe_f0 (F : OkF X.prog X.w X.K X.mg X.base CX k x ps sp) (hr : Room k X.A) (hx : Passes CX X E) (hg : Gl X x := by rfl) (hdb : (x == ("__debug__" : Str)) = false := by decide) : PE X (.Call (.Name x p) [] [] pos) (tCall sp [] E tNil) := by
  obtain ⟨f, fd, a, b, c, d⟩ := F
  exact pe_call0 d hr hg a b c .nil hx hdb
end
theorem cutV_flat {xs : List V} (h : xs.all flatV = true) (lo hi : Option Int) : (cutV xs lo hi).all flatV = true := by
  refine List.all_eq_true.mpr fun x hx => ?_
  unfold cutV at hx
  exact List.all_eq_true.mp h x (List.mem_of_mem_drop (List.mem_of_mem_take hx))
theorem cutV_zero (xs : List V) : cutV xs none (some (((0 : Nat) : Int))) = [] := by
  unfold cutV
  rw [HT.sIx_none, HT.sIx_nat]
  simp
theorem names_sm {ys : List Str} (h : ∀ y ∈ ys, okName y = true) : Sm 1 (ys.length * 17) (.list (ys.map PyData.str)) := by
  have a := Sm.lst (SmAll.map (k := 0) (w := 16) PyData.str fun x hx => sm_str (okName_small (h x hx)))
  rw [List.length_map] at a
  exact a
theorem names_fine {ys : List Str} (h : ∀ y ∈ ys, okName y = true) (l : ys.length ≤ 64) : Fine (.list (ys.map PyData.str)) := (names_sm h).fine (by decide) (by omega)
theorem names_dp {K : PySem.W.Frag} {H : Hp} {a : Addr} {ys : List Str} (h : H a = some (.lst (ys.map V.str))) : Dp K H (.ref a) (.list (ys.map PyData.str)) := .lst (SqL.of h) (dps_strs ys)
theorem eqv_nil {ys : List Str} : PyData.eqv (.list (ys.map PyData.str)) (.list []) = decide (ys = []) := by
  cases ys with
  | nil => simp [PyData.eqv, PyData.eqvAll]
  | cons y r => simp [PyData.eqv, PyData.eqvAll]
theorem fine_nil : Fine (.list []) := names_fine (ys := []) (fun y h => by cases h) (by decide)
def wordsL : List Str := ["open", "shut", "by", "step", "none", "paper", "at", "done", "a", "aa", "ab", "b"]
theorem wordsL_ok : ∀ z ∈ wordsL, okName z = true := by
  have h : wordsL.all okName = true := by decide +kernel
  exact fun z hz => List.all_eq_true.mp h z hz
def lettersL : Str := "abcdefghijklmnopqrstuvwxyz"
theorem lettersL_ok : ∀ c ∈ lettersL.cps.toList, okSign c = true := by
  have h : lettersL.cps.toList.all okSign = true := by decide +kernel
  exact fun z hz => List.all_eq_true.mp h z hz
theorem lettersL_len : lettersL.cps.toList.length = 26 := by decide +kernel
end SM
namespace SM
open PySem PySem.Spec PyProof.Rows L2
/-- a list that is being made is written on -/
theorem Keep.over {ms : List Addr} {H H1 : Hp} {D : Addr} {o : HO} (k : Keep ms H H1) (hD : H D = none) : Keep ms H (upd H1 D o) := by
  refine ⟨fun b v e n => ?_, fun b xs e => ?_, fun b C dx fs e => ?_, fun b xs e f => ?_, fun b e => ?_⟩
  · rw [upd_ne (ne_of_none e hD)]
    exact k.out b v e n
  · rw [upd_ne (ne_of_none e hD)]
    exact k.tup b xs e
  · rw [upd_ne (ne_of_none e hD)]
    exact k.ins b C dx fs e
  · rw [upd_ne (ne_of_none e hD)]
    exact k.flat b xs e f
  · by_cases z : b = D
    · rw [z]
      exact hD
    · rw [upd_ne z] at e
      exact k.has b e
end SM
namespace SM
open PySem PySem.Spec PyProof.Rows L2
theorem NamesAt.pick {H : Hp} {a : Addr} {ys : List Str} (h : NamesAt H a ys) {v : Int} (v0 : 0 ≤ v) (v1 : v < ((ys.map V.str).length : Nat)) : ∃ z, okName z = true ∧ atI (ys.map V.str) v = some (.str z) := by
  obtain ⟨y, hy, e⟩ := atI_some (xs := ys.map V.str) v0 v1
  obtain ⟨z, hz, rfl⟩ := List.mem_map.mp hy
  exact ⟨z, h.2.2.2 z hz, e⟩
theorem NamesAt.pos {H : Hp} {a : Addr} {ys : List Str} (h : NamesAt H a ys) : (0 : Int) < ((ys.map V.str).length : Nat) := by
  rw [List.length_map]
  have := h.2.1
  omega
theorem NamesAt.lt {H : Hp} {a : Addr} {ys : List Str} (h : NamesAt H a ys) : (((ys.map V.str).length : Nat) : Int) < 1073741824 := by
  rw [List.length_map]
  have := h.2.2.1
  omega
end SM
namespace SM
open PySem PySem.Spec PyProof.Rows L2
/-- x not in y, y a list, a tuple or a dict -/
def rNotInAny (K : PySem.W.Frag) : R2 := fun x y H Q => rIn K true x y H Q ∨ ∃ a o, y = .ref a ∧ DGet H a x o ∧ Q (.bl (!o.isSome)) H
theorem op_notInAny {X : Cx} (hu : X.A.units + 1 < cLine) : OpR X (compareOp .NotIn) (rNotInAny X.K) := by
  intro pins s σ H x y v u Q I rx ry h
  rcases h with h | ⟨a, o, rfl, g, q⟩
  · exact op_notIn_seq pins s σ H x y v u Q I rx ry h
  · obtain rfl : u = Value.ref a := ry
    exact d_notIn hu I g rx fun s' I' => ⟨.bl (!o.isSome), H, I', rfl, q⟩
theorem sortedS_pw {l : List Str} (h : l.Pairwise leS) : sortedS l = true := sortedS_of_pairwise l h
theorem sorted_filter {ys xs : List Str} (p : ys.Perm xs) (s : sortedS ys = true) (f : Str → Bool) : (ys.filter f).Perm (xs.filter f) ∧ sortedS (ys.filter f) = true :=
  ⟨p.filter f, sortedS_pw (List.Pairwise.filter f (sorted_pw s))⟩
theorem inV_perm {ys xs : List Str} (p : ys.Perm xs) (z : Str) : inV (.str z) (ys.map V.str) = decide (z ∈ xs) := by
  rw [inV_strs]
  exact decide_eq_decide.mpr p.mem_iff
/-- a deed that takes away: its word, its name -/
inductive TakeD : Str → Str → Deed → Prop
  | room (z : Str) : TakeD "take_room" z (.takeRoom z)
  | line (z : Str) : TakeD "take_line" z (.takeLine z)
  | drain (z : Str) : TakeD "take_drain" z (.takeDrain z)
  | source (z : Str) : TakeD "take_source" z (.takeSource z)
def spDueTakeL : Sp := fun vs H Q _ => ∃ (A : MA) (S : LS) (x z : Str) (D : Deed), vs = [.ref A.m, .str x, .str z] ∧ MdAt H A S ∧ S.Ok ∧ TakeD x z D ∧ ∀ (u : V) (H' : Hp), DueV H' u (S.due D) → Same H H' → Q u H'
def kindsL : List (Key × V) := [(Sum.inr "take_room", .str "rooms"), (Sum.inr "take_line", .str "lines"), (Sum.inr "take_drain", .str "drains"), (Sum.inr "take_source", .str "sources")]
theorem kinds_room : valV (mergeK [] kindsL) (Sum.inr "take_room") = some (.str "rooms") := by decide +kernel
theorem kinds_line : valV (mergeK [] kindsL) (Sum.inr "take_line") = some (.str "lines") := by decide +kernel
theorem kinds_drain : valV (mergeK [] kindsL) (Sum.inr "take_drain") = some (.str "drains") := by decide +kernel
theorem kinds_source : valV (mergeK [] kindsL) (Sum.inr "take_source") = some (.str "sources") := by decide +kernel
theorem MdAt.low {H : Hp} {A : MA} {S : LS} (h : MdAt H A S) {p : Addr} {o : HO} (hp : H p = none) : MdAt (upd H p o) A S := h.same (Same.newp hp)
/-- the law's own list of the lines at a room -/
theorem at_keys {S : LS} {z : Str} {i : Nat} {q : Str × LineV} (e : S.lines[i]? = some q) : keys ((S.lines.take (i + 1)).filter fun e => decide (z = e.2.1) || decide (z = e.2.2.1)) =
    keys ((S.lines.take i).filter fun e => decide (z = e.2.1) || decide (z = e.2.2.1)) ++ (if (decide (z = q.2.1) || decide (z = q.2.2.1)) = true then [q.1] else []) := by
  have tk : S.lines.take (i + 1) = S.lines.take i ++ [q] := by
    rw [List.take_add_one, e]
    rfl
  rw [tk, List.filter_append, List.filter_cons, List.filter_nil]
  split <;> simp [keys]
theorem at_len {S : LS} (o : S.Ok) (z : Str) (i : Nat) : (keys ((S.lines.take i).filter fun e => decide (z = e.2.1) || decide (z = e.2.2.1))).length ≤ 40 := by
  have hl := o.lL
  have h2 := List.length_filter_le (fun e : Str × LineV => decide (z = e.2.1) || decide (z = e.2.2.1)) (S.lines.take i)
  rw [List.length_take] at h2
  rw [keys, List.length_map]
  omega
end SM
namespace SM
open PySem PySem.Spec PyProof.Rows L2
theorem cut2 (x y z : V) : cutV [x, y, z] none (some 2) = [x, y] := by
  unfold cutV
  rw [HT.sIx_none, show (2 : Int) = ((2 : Nat) : Int) from rfl, HT.sIx_nat]
  rfl
theorem part2 (x y z : V) : ¬ (HT.sIx [x, y, z].length 0 none = 0 ∧ HT.sIx [x, y, z].length [x, y, z].length (some 2) = [x, y, z].length) := by
  rintro ⟨_, e⟩
  rw [show (2 : Int) = ((2 : Nat) : Int) from rfl, HT.sIx_nat] at e
  have e' : min 2 3 = 3 := e
  exact absurd e' (by decide)
theorem inV2 (z a b : Str) : inV (.str z) [V.str a, V.str b] = (decide (z = a) || decide (z = b)) := by
  have e := inV_strs z [a, b]
  rw [show ([a, b].map V.str) = [V.str a, V.str b] from rfl] at e
  rw [e]
  simp
end SM
namespace SM
open PySem PySem.Spec PyProof.Rows L2
theorem valV_at {α : Type} {G : V → α → Prop} : ∀ {kvs : List (Key × V)} {tab : List (Str × α)}, Kr G kvs tab → (keys tab).Nodup → ∀ {i : Nat} {k : Key} {v : V}, kvs[i]? = some (k, v) → valV kvs k = some v
  | _, _, .nil, _, i, k, v, e => by simp at e
  | a :: as, b :: bs, .cons h t, n, 0, k, v, e => by
    have e' : a = (k, v) := by simpa using e
    subst e'
    exact valV_pos rfl
  | a :: as, b :: bs, .cons h t, n, i + 1, k, v, e => by
    have e' : as[i]? = some (k, v) := by simpa using e
    have n' : b.1 ∉ keys bs ∧ (keys bs).Nodup := List.nodup_cons.mp n
    obtain ⟨q, e1, e2, _⟩ := Kr.at t e'
    have mq : q.1 ∈ keys bs := List.mem_map_of_mem (List.mem_of_getElem? e1)
    have ne : ¬ a.1 = k := fun z => by
      have e2' : k = Sum.inr q.1 := e2
      rw [h.1, e2'] at z
      exact n'.1 (by rw [Sum.inr.inj z]; exact mq)
    rw [valV_neg ne]
    exact valV_at t n'.2 e'
theorem at_sub {S : LS} {z y : Str} (h : y ∈ S.at z) : y ∈ keys S.lines := by
  obtain ⟨e, he, rfl⟩ := List.mem_map.mp h
  exact List.mem_map_of_mem (List.mem_filter.mp he).1
end SM
namespace SM
open PySem PySem.Spec PyProof.Rows L2
section
variable {H : Hp} {A : MA} {S : LS}
theorem SortAt.dput {a d : Addr} {xs : List Str} {kvs kvs' : List (Key × V)} (h : SortAt H a xs) (hd : H d = some (.dK kvs)) : SortAt (upd H d (.dK kvs')) a xs := h.keep (ms := [d]) (Keep.dput hd (by simp))
theorem MdAt.setT (h : MdAt H A S) {a b : Addr} {rs ss : List Str} (ha : SortAt H a rs) (hb : SortAt H b ss) : MdAt (upd H A.m (.dK (mtop A a b))) A { S with rooms := rs, sources := ss } := by
  have n := h.ne
  obtain ⟨⟨a0, b0, e1, e2, e3⟩, ⟨k2, l1, l2⟩, ⟨k3, d1, d2⟩, nd⟩ := h
  exact ⟨⟨a, b, upd_same, ha.dput e1, hb.dput e1⟩, ⟨k2, (upd_ne n.1.symm).trans l1, l2.mono fun v a g => g.put e1⟩, ⟨k3, (upd_ne n.2.1.symm).trans d1, d2⟩, nd⟩
theorem MdAt.setL (h : MdAt H A S) {kvs : List (Key × V)} {xs : List (Str × LineV)} (k : Kr (LineG H) kvs xs) : MdAt (upd H A.l (.dK kvs)) A { S with lines := xs } := by
  have n := h.ne
  obtain ⟨⟨a0, b0, e1, e2, e3⟩, ⟨k2, l1, l2⟩, ⟨k3, d1, d2⟩, nd⟩ := h
  exact ⟨⟨a0, b0, (upd_ne n.1).trans e1, e2.dput l1, e3.dput l1⟩, ⟨kvs, upd_same, k.mono fun v a g => g.put l1⟩, ⟨k3, (upd_ne n.2.2.symm).trans d1, d2⟩, nd⟩
theorem MdAt.setD (h : MdAt H A S) {kvs : List (Key × V)} {xs : List (Str × Str)} (k : Kr StrG kvs xs) : MdAt (upd H A.d (.dK kvs)) A { S with drains := xs } := by
  have n := h.ne
  obtain ⟨⟨a0, b0, e1, e2, e3⟩, ⟨k2, l1, l2⟩, ⟨k3, d1, d2⟩, nd⟩ := h
  exact ⟨⟨a0, b0, (upd_ne n.2.1).trans e1, e2.dput d1, e3.dput d1⟩, ⟨k2, (upd_ne n.2.2).trans l1, l2.mono fun v a g => g.put d1⟩, ⟨kvs, upd_same, k⟩, nd⟩
end
theorem cmp_str {x y : Str} (h : (x == y) = false) : decide (V.str x = V.str y) = false := decide_eq_false fun z => by
  injection z with z
  rw [z] at h
  simp at h
end SM
namespace SM
open PySem PySem.Spec PyProof.Rows L2
theorem look_some {α : Type} {tab : List (Str × α)} {k : Str} (h : k ∈ keys tab) : ∃ a, look tab k = some a := by
  cases e : look tab k with
  | none => exact absurd h (look_none.mp e)
  | some a => exact ⟨a, rfl⟩
theorem Rf.cls_lt : ∀ f : Rf, f.cls < 5
  | .there _ => by show 1 < 5; decide
  | .lacks _ => by show 2 < 5; decide
  | .tooMany _ => by show 3 < 5; decide
  | .inUse _ => by show 4 < 5; decide
end SM
namespace SM
open PySem PySem.Spec PyProof.Rows L2
section
variable {X : Cx} {CX : CXT} {k : Nat} {L : Addr} {ps : List Str} {sp : Sp} {E : XK} {x : Str} {p pos : Pos}
theorem pe_mk0 (mk : PySem.W.makesIn X.K L = true) (kp : PySem.W.keepIn X.K (.ref L) = true) (F : OkM X.prog X.w X.K X.mg X.base CX k L "__init__" ps sp) (hr : Room (k + 1) X.A) (hm : X.mg x = some (.ref L)) (hx : Passes CX X E) (hg : Gl X x := by rfl)
    (hdb : (x == ("__debug__" : Str)) = false := by decide) : PE X (.Call (.Name x p) [] [] pos) (tMake L sp [] E tNil) := by
  obtain ⟨f, fd, a, b, d⟩ := F
  exact pe_make0 ⟨mk, a.at_, a.fn, kp⟩ d hr hg hm b .nil hx hdb
end
/-- a dict is locked -/
theorem Keep.lock {ms : List Addr} {H : Hp} {d : Addr} {kvs : List (Key × V)} {u : HO} (h : H d = some (.dK kvs)) (m : d ∈ ms) : Keep ms H (upd H d u) :=
  Keep.at h m (fun _ z => by cases z) (fun _ _ _ z => by cases z) fun _ z => by cases z
/-- .. and let go -/
theorem same_unlock {H H1 : Hp} {d : Addr} {kvs : List (Key × V)} {od : Obj} (h : H d = some (.dK kvs)) (e : Same (upd H d (.frz od (.dK kvs))) H1) : Same H (upd H1 d (.dK kvs)) := fun b u eb => by
  by_cases hb : b = d
  · subst hb
    rw [upd_same, ← h]
    exact eb
  · rw [upd_ne hb]
    exact e b u ((upd_ne hb).trans eb)
theorem line_fine {S : LS} (o : S.Ok) {e : Str × LineV} (he : e ∈ S.lines) : Fine (.tuple [.str e.2.1, .str e.2.2.1, .int e.2.2.2]) := by
  obtain ⟨a, b, _, c⟩ := o.lI e he
  simp only [okCost, Bool.and_eq_true, decide_eq_true_eq] at c
  exact (Sm.tup (.cons (sm_str (okName_small (o.rG _ a))) (.cons (sm_str (okName_small (o.rG _ b))) (.cons (sm_int c.1 c.2) .nil)))).fine (by decide) (show 3 * (16 + 1) ≤ 100000 by decide)
theorem LineG.dp {K : PySem.W.Frag} {H : Hp} {v : V} {e : LineV} (g : LineG H v e) : Dp K H v (.tuple [.str e.1, .str e.2.1, .int e.2.2]) := by
  obtain ⟨t, rfl, h⟩ := g
  exact .tup (SqT.of h) (.cons (.str _) (.cons (.str _) (.cons (.int _) .nil)))
theorem look_mem {α : Type} {tab : List (Str × α)} {k : Str} {a : α} (h : look tab k = some a) : (k, a) ∈ tab := by
  unfold look at h
  cases e : tab.find? fun e => decide (e.1 = k) with
  | none => rw [e] at h; cases h
  | some q =>
    rw [e] at h
    have h1 := List.mem_of_find?_eq_some e
    have h2 : q.1 = k := by simpa using List.find?_some e
    have h3 : q.2 = a := Option.some.inj h
    obtain ⟨x, y⟩ := q
    subst h2
    subst h3
    exact h1
theorem look_at {α : Type} {tab : List (Str × α)} (n : (keys tab).Nodup) {i : Nat} {q : Str × α} (h : tab[i]? = some q) : look tab q.1 = some q.2 := by
  induction tab generalizing i with
  | nil => simp at h
  | cons b bs ih =>
    have n' : b.1 ∉ keys bs ∧ (keys bs).Nodup := List.nodup_cons.mp n
    cases i with
    | zero =>
      have e : b = q := by simpa using h
      subst e
      exact look_pos rfl
    | succ i =>
      have e : bs[i]? = some q := by simpa using h
      have mq : q.1 ∈ keys bs := List.mem_map_of_mem (List.mem_of_getElem? e)
      rw [look_neg (fun z => n'.1 (by rw [z]; exact mq))]
      exact ih n'.2 e
theorem str_fine {z : Str} (h : okName z = true) : Fine (.str z) := (sm_str (okName_small h)).fine (by decide) (by decide)
theorem sort_dp {K : PySem.W.Frag} {H : Hp} {a b : Addr} {ys zs xs : List Str} (p1 : ys.Perm xs) (s1 : sortedS ys = true) (h1 : H a = some (.lst (ys.map V.str))) (p2 : zs.Perm xs) (s2 : sortedS zs = true) (h2 : H b = some (.lst (zs.map V.str))) :
    Dp K H (.ref a) (.list (ys.map PyData.str)) ∧ Dp K H (.ref b) (.list (ys.map PyData.str)) := by
  have e := sorted_one p2 p1 s2 s1
  subst e
  exact ⟨names_dp h1, names_dp h2⟩
theorem sort_fine {ys xs : List Str} (p : ys.Perm xs) (g : ∀ x ∈ xs, okName x = true) (l : xs.length ≤ 64) : Fine (.list (ys.map PyData.str)) :=
  names_fine (fun y hy => g y (p.mem_iff.mp hy)) (by rw [p.length_eq]; exact l)
def spLawL (K : PySem.W.Frag) : Sp := fun vs H Q _ => ∃ (a : Addr) (ns : List Int), vs = [.ref a] ∧ SqL K H a (ns.map V.int) ∧ ns.length ≤ 63 ∧ ∀ H', Q (.bl true) H'
end SM
namespace SM
open PySem PySem.Spec PyProof.Rows L2
theorem LayAt.there {L : Addr} {H : Hp} {A : LA} {S : LS} (h : LayAt L H A S) : ∀ b ∈ A.ms, H b ≠ none := by
  obtain ⟨_, ⟨k1, r1, _⟩, ⟨k2, l1, _⟩, ⟨k3, d1, _⟩, ⟨k4, s1, _⟩, _⟩ := h
  intro b hb
  have hb' : b = A.r ∨ b = A.l ∨ b = A.d ∨ b = A.s := by simpa [LA.ms] using hb
  rcases hb' with rfl | rfl | rfl | rfl
  · rw [r1]; exact fun z => nomatch z
  · rw [l1]; exact fun z => nomatch z
  · rw [d1]; exact fun z => nomatch z
  · rw [s1]; exact fun z => nomatch z
/-- a new layout and a new book of it -/
theorem both_new {L : Addr} {H H1 : Hp} {A : LA} {B : MA} (hL : LayAt L H A LS.new) (hM : MdAt H1 B LS.new) (s : Same H H1) (f : ∀ b ∈ B.ms, H b = none) : Both L H1 A B LS.new :=
  ⟨hL.same s, hM, LS.new_ok, fun b hb w => hL.there b hb (f b w)⟩
end SM
namespace SM
open PySem PySem.Spec PyProof.Rows L2
def spOfL : Sp := fun vs H Q _ => ∃ (p q s o : Addr) (xs ys : List Str), vs = [.ref p, .ref s, .ref o] ∧ Bag H p q ∧ H s = some (.lst (xs.map V.str)) ∧ xs.length ≤ 64 ∧ (∀ x ∈ xs, okName x = true) ∧ NamesAt H o ys ∧
  ∀ (z : Str) (H' : Hp), okName z = true → (z ∈ xs ∨ z ∈ ys) → Bag H' p q → Keep [p] H H' → Q (.str z) H'
def spLikelyL : Sp := fun vs H Q _ => ∃ (p q a b : Addr) (B : MA) (S : LS) (rs ds : List Str), vs = [.ref p, .ref B.m, .ref a, .ref b] ∧ Bag H p q ∧ MdAt H B S ∧ S.Ok ∧ p ∉ B.ms ∧ NamesAt H a rs ∧ NamesAt H b ds ∧
  ∀ (D : Deed) (v : V) (H' : Hp), D.Good → DeedAt H' v D → Bag H' p q → Keep [p] H H' → Q v H'
end SM
/-! Part N: methods called in a try's body; questions that are refused. -/
namespace SM
open PySem PySem.Spec PyProof.Rows L2
def tMethT (L : Addr) (m : Str) (sp : Sp) (E : L2.St → XK) (ta : TE) (t : TA) : TE := fun σ H Q => ta σ H fun x H1 => ∃ a dx fs, x = .ref a ∧ H1 a = some (.ins L dx fs) ∧ fs.lookup m = none ∧ t σ H1 fun vs H2 => sp (x :: vs) H2 Q (E σ)
section
variable {X : Cx} {CX : CXT} {k : Nat} {L : Addr} {ps : List Str} {sp : Sp} {E : L2.St → XK} {m : Str} {o e : Expr} {es : List Expr} {ta : TE} {t : TA} {pos apos : Pos} {pl : Sem Bool}
/-- o.m(e, ..) in a try's body: what is raised is wished for at the slots as they stand -/
theorem pe_mS (F : OkM X.prog X.w X.K X.mg X.base CX k L m ps sp) (c : Cls X.K L) (hr : Room k X.A) (hx : ∀ σ, PassesAt CX X σ (E σ)) (he : PE X o ta) (ha : PA X (e :: es) t)
    (hst : starEach (e :: es) X.env = (false, eval e X.env) :: starEach es X.env := by rfl) (hpl : (backTo pos (starEach es X.env)).any (·.1) = false := by rfl)
    (ht : eval (.Call (.Attribute o m apos) (e :: es) [] pos) X.env = (do
      let ov ← eval o X.env
      standAt apos.atName
      let (f, first) ← holding [ov] (getMethod ov m pl)
      callWith pos f first (backTo pos (starEach (e :: es) X.env)) (backToKw pos (keywordEach [] X.env))) := by rfl) :
    PE X (.Call (.Attribute o m apos) (e :: es) [] pos) (tMethT L m sp E ta t) := by
  obtain ⟨f, fd, hm, hb, F⟩ := F
  refine ⟨fun pins s σ H Q I h => ?_⟩
  refine PySem.W.methodCall_KW (pl := pl) (thn (he.run pins s σ H _ I h) fun u s1 ⟨x, H1, I1, rx, a, dx, fs, ex, ea, l, q⟩ => ?_) ht
  subst ex
  obtain rfl : u = Value.ref a := rx
  refine getmeth_ok I1 ea c hm l ?_
  refine PySem.W.callWith_K (first := [.ref a]) (h₀ := X.base) I.ok.mod.kin hm.kp (thn (ha.run pos pins s1 σ H1 _ I1 q) fun us s2 ⟨vs, H2, I2, r, q2⟩ => ⟨I2.kIn, ?_⟩) hst hpl
  exact run_fnS (us := .ref a :: us) (vs := .ref a :: vs) F hr hb (hx σ) I2 (.cons rfl r) q2
theorem ps_imp {st : Stmt} {t t' : TS} (h : PS X st t) (i : ∀ D σ H, t' D σ H → t D σ H) : PS X st t' := PS.imp h i
end
/-- is the name there: a line's, a drain's, a room's -/
def LS.isThere (S : LS) : Nat → Str → Bool
  | 0, z => decide (z ∈ keys S.lines)
  | 1, z => decide (z ∈ keys S.drains)
  | _, z => decide (z ∈ S.rooms)
/-- what is told of it; H before, H' behind -/
def ToldV (S : LS) (n : Nat) (z : Str) (v : V) (H H' : Hp) : Prop :=
  (n = 0 ∧ ∃ e, look S.lines z = some e ∧ LineG H' v e) ∨ (n = 1 ∧ ∃ r, look S.drains z = some r ∧ v = .str r) ∨
  (n = 2 ∧ ∃ p ys, v = .ref p ∧ H p = none ∧ ys.Perm (S.at z) ∧ sortedS ys = true ∧ H' p = some (.lst (ys.map V.str)))
/-- the body of a try that asks -/
def tAskS (C : Nat → Addr) (L : Addr) (W : WX) : TS := fun D σ H => ∃ (La : LA) (S : LS) (n : Nat) (z : Str), σ = [some (.ref La.p), some (.int (n : Int)), some (.str z), some .non, none] ∧ n < 3 ∧ LayAt L H La S ∧ S.Ok ∧ okName z = true ∧
  (S.isThere n z = false → Ref C 2 (.str z) H (WE W σ)) ∧ (S.isThere n z = true → ∀ v H', Same H H' → ToldV S n z v H H' → D.nx [some (.ref La.p), some (.int (n : Int)), some (.str z), some v, none] H')
/-- _law_asked(here, way, name) -/
def spAskedL (L : Addr) : Sp := fun vs H Q _ => ∃ (La : LA) (S : LS) (n : Nat) (z : Str), vs = [.ref La.p, .int (n : Int), .str z] ∧ n < 3 ∧ LayAt L H La S ∧ S.Ok ∧ okName z = true ∧
  (S.isThere n z = false → ∀ H' t t2, Same H H' → H' t = some (.tup [.str "refused", .ref t2]) → H' t2 = some (.tup [.str "Lacks", .str z]) → Q (.ref t) H') ∧
  (S.isThere n z = true → ∀ H' t v, Same H H' → ToldV S n z v H H' → H' t = some (.tup [.str "told", v]) → Q (.ref t) H')
theorem ToldV.behind {S : LS} {n : Nat} {z : Str} {v : V} {H H1 H2 : Hp} (h : ToldV S n z v H H1) (s : Same H1 H2) : ToldV S n z v H H2 := by
  rcases h with ⟨h, e, a, t, b, c⟩ | h | ⟨h, p, ys, a, b, c, d, e⟩
  · exact .inl ⟨h, e, a, t, b, s _ _ c⟩
  · exact .inr (.inl h)
  · exact .inr (.inr ⟨h, p, ys, a, b, c, d, s _ _ e⟩)
end SM
namespace SM
open PySem PySem.Spec PyProof.Rows L2
/-- _law_answer(m, way, name) -/
def spAnswerL : Sp := fun vs H Q _ => ∃ (B : MA) (S : LS) (n : Nat) (z : Str), vs = [.ref B.m, .int (n : Int), .str z] ∧ n < 3 ∧ MdAt H B S ∧ S.Ok ∧ okName z = true ∧
  (S.isThere n z = false → ∀ H' t t2, Same H H' → H' t = some (.tup [.str "refused", .ref t2]) → H' t2 = some (.tup [.str "Lacks", .str z]) → Q (.ref t) H') ∧
  (S.isThere n z = true → ∀ H' t v, Same H H' → ToldV S n z v H H' → H' t = some (.tup [.str "told", v]) → Q (.ref t) H')
end SM
namespace SM
open PySem PySem.Spec PyProof.Rows L2
/-- _law_names, and no two alike -/
def spNamesN : Sp := fun vs H Q _ => ∃ (p q : Addr) (n : Int), vs = [.ref p, .int n] ∧ Bag H p q ∧ 1 ≤ n ∧ n ≤ 30 ∧ ∀ (a : Addr) (ys : List Str) (H' : Hp), NamesAt H' a ys → ys.Nodup → Bag H' p q → Keep [p] H H' → Q (.ref a) H'
theorem cut_nat (ys : List Str) (i : Nat) : cutV (ys.map V.str) none (some ((i : Nat) : Int)) = (ys.take i).map V.str := by
  unfold cutV
  rw [HT.sIx_none, HT.sIx_nat, List.drop_zero, Nat.sub_zero, List.length_map, List.map_take]
  by_cases h : i ≤ ys.length
  · rw [Nat.min_eq_left h]
  · rw [Nat.min_eq_right (by omega), List.take_of_length_le (by rw [List.length_map]; omega), List.take_of_length_le (by rw [List.length_map]; omega)]
/-- the first of each: so far -/
structure Firsts (zs ys : List Str) : Prop where
  nd : zs.Nodup
  mem : ∀ x, x ∈ zs ↔ x ∈ ys
theorem Firsts.nil : Firsts [] [] := ⟨List.nodup_nil, fun x => Iff.rfl⟩
theorem Firsts.more {zs ys : List Str} {y : Str} (h : Firsts zs ys) (n : y ∉ ys) : Firsts (zs ++ [y]) (ys ++ [y]) :=
  ⟨nd_snoc h.nd (fun w => n ((h.mem y).mp w)), fun x => by simp [h.mem x]⟩
theorem Firsts.same {zs ys : List Str} {y : Str} (h : Firsts zs ys) (n : y ∈ ys) : Firsts zs (ys ++ [y]) :=
  ⟨h.nd, fun x => by
    rw [h.mem x, List.mem_append, List.mem_singleton]
    exact ⟨.inl, fun w => w.elim id fun e => by rw [e]; exact n⟩⟩
theorem told_dp {K : PySem.W.Frag} {S : LS} {n : Nat} {z : Str} {v u : V} {H1 H2 H : Hp} (o : S.Ok) (h1 : ToldV S n z v H1 H) (h2 : ToldV S n z u H2 H) : ∃ d, Dp K H v d ∧ Dp K H u d ∧ Sm 1 2000 d := by
  rcases h1 with ⟨n1, e, a, g⟩ | ⟨n1, r, a, g⟩ | ⟨n1, p, ys, rfl, _, pm, st, hp⟩
  · rcases h2 with ⟨_, e2, a2, g2⟩ | ⟨n2, _⟩ | ⟨n2, _⟩
    · rw [a] at a2
      cases a2
      refine ⟨_, g.dp, g2.dp, ?_⟩
      have f := line_fine o (look_mem a)
      obtain ⟨x, y, _, c⟩ := o.lI _ (look_mem a)
      simp only [okCost, Bool.and_eq_true, decide_eq_true_eq] at c
      exact (Sm.tup (.cons (sm_str (okName_small (o.rG _ x))) (.cons (sm_str (okName_small (o.rG _ y))) (.cons (sm_int c.1 c.2) .nil)))).mono (by decide) (show 3 * (16 + 1) ≤ 2000 by decide)
    · omega
    · omega
  · rcases h2 with ⟨n2, _⟩ | ⟨_, r2, a2, g2⟩ | ⟨n2, _⟩
    · omega
    · rw [a] at a2
      cases a2
      subst g g2
      exact ⟨_, .str _, .str _, (sm_str (okName_small (o.rG _ (o.dI _ (look_mem a))))).mono (by decide) (by decide)⟩
    · omega
  · rcases h2 with ⟨n2, _⟩ | ⟨n2, _⟩ | ⟨_, p2, zs, rfl, _, pm2, st2, hp2⟩
    · omega
    · omega
    · have dd := sort_dp (K := K) pm st hp pm2 st2 hp2
      refine ⟨_, dd.1, dd.2, ?_⟩
      have len : (S.at z).length ≤ 40 := by
        have w := at_len o z S.lines.length
        rw [List.take_length] at w
        exact w
      exact (names_sm (fun y hy => o.lG y (at_sub (pm.mem_iff.mp hy)))).mono (by decide) (by rw [pm.length_eq]; omega)
theorem told_fine {d : PyData} (h : Sm 1 2000 d) : Fine (.tuple [.str "told", d]) :=
  (Sm.tup (.cons ((sm_str (z := "told") (by decide +kernel)).mono (k' := 1) (w' := 2000) (by decide) (by decide)) (.cons h .nil))).fine (by decide) (show 2 * (2000 + 1) ≤ 100000 by decide)
def spRightL (L : Addr) : Sp := fun vs H Q _ => ∃ (p q a : Addr) (La : LA) (B : MA) (S : LS) (ys : List Str), vs = [.ref p, .ref La.p, .ref B.m, .ref a] ∧ Bag H p q ∧ Both L H La B S ∧ p ∉ La.ms ∧ p ∉ B.ms ∧ H a = some (.lst (ys.map V.str)) ∧ ys.length ≤ 100 ∧ (∀ y ∈ ys, okName y = true) ∧
  ∀ H', Bag H' p q → Keep [p] H H' → Q (.bl true) H'
end SM
namespace SM
open PySem PySem.Spec PyProof.Rows L2
def spDrawnL : Sp := fun vs H Q _ => ∃ (p q a b : Addr) (rs ds : List Str) (hub : Str), vs = [.ref p, .ref a, .ref b, .str hub] ∧ Bag H p q ∧ NamesAt H a rs ∧ rs.Nodup ∧ hub ∈ rs ∧ 2 ≤ rs.length ∧ NamesAt H b ds ∧
  ∀ (D : Deed) (v : V) (H' : Hp), D.Good → DeedAt H' v D → Bag H' p q → Keep [p] H H' → Q v H'
theorem len_ne : ∀ {rs : List Str} {h : Str}, rs.Nodup → h ∈ rs → (rs.filter fun y => decide (y ≠ h)).length + 1 = rs.length
  | [], _, _, m => nomatch m
  | x :: r, h, n, m => by
    have n' := List.nodup_cons.mp n
    by_cases e : x = h
    · subst e
      rw [List.filter_cons, if_neg (by simp), List.length_cons]
      have all : r.filter (fun y => decide (y ≠ x)) = r := List.filter_eq_self.mpr fun y hy => decide_eq_true fun w => n'.1 (by rw [← w]; exact hy)
      rw [all]
    · have m' : h ∈ r := by
        rcases List.mem_cons.mp m with w | w
        · exact absurd w.symm e
        · exact w
      rw [List.filter_cons, if_pos (by simp [e]), List.length_cons, List.length_cons, len_ne n'.2 m']
theorem two_len {zs : List Str} {x y : Str} (hx : x ∈ zs) (hy : y ∈ zs) (n : x ≠ y) : 2 ≤ zs.length := by
  match zs, hx, hy with
  | [a], hx, hy => exact absurd ((List.mem_singleton.mp hx).trans (List.mem_singleton.mp hy).symm) n
  | a :: b :: r, _, _ => simp
def twoL : List Str := ["zzzzzzzz", "yyyyyyyy"]
def roomsL (rs : List Str) : List Str := (rs ++ twoL).take 8
theorem rooms_two {rs zs : List Str} (n : rs.Nodup) (f : Firsts zs (roomsL rs)) : 2 ≤ zs.length := by
  by_cases h : rs.length ≤ 6
  · have e : roomsL rs = rs ++ twoL := List.take_of_length_le (by rw [List.length_append]; show rs.length + 2 ≤ 8; omega)
    rw [e] at f
    exact two_len ((f.mem "zzzzzzzz").mpr (List.mem_append_right _ (by simp [twoL]))) ((f.mem "yyyyyyyy").mpr (List.mem_append_right _ (by simp [twoL]))) (by decide +kernel)
  · match rs, h, n, f with
    | [], h, _, _ => exact absurd (Nat.zero_le _) h
    | [a], h, _, _ => exact absurd (by simp) h
    | a :: b :: r, _, n, f =>
      have nab : a ≠ b := fun w => (List.nodup_cons.mp n).1 (by rw [w]; exact List.mem_cons_self)
      exact two_len ((f.mem a).mpr (by unfold roomsL; simp)) ((f.mem b).mpr (by unfold roomsL; simp)) nab
theorem rooms_ok {rs : List Str} (h : ∀ y ∈ rs, okName y = true) : ∀ y ∈ roomsL rs, okName y = true := fun y hy => by
  rcases List.mem_append.mp (List.mem_of_mem_take hy) with w | w
  · exact h y w
  · have g : twoL.all okName = true := by decide +kernel
    exact List.all_eq_true.mp g y w
theorem rooms_len (rs : List Str) : (roomsL rs).length ≤ 8 := by
  unfold roomsL
  rw [List.length_take]
  exact Nat.min_le_left _ _
end SM
/-! Part O: the book's sorted lists are no list that stood ahead. -/
namespace SM
open PySem PySem.Spec PyProof.Rows L2
theorem mtop_inj {A : MA} {a b c d : Addr} (h : mtop A a b = mtop A c d) : a = c ∧ b = d := by
  by_cases w : A.tw = true
  · rw [mtop_t w, mtop_t w] at h
    injection h with h1 h
    injection h with h4 _
    injection h1 with _ h1
    injection h4 with _ h4
    injection h1 with h1
    injection h4 with h4
    exact ⟨h1, h4⟩
  · rw [mtop_f w, mtop_f w] at h
    injection h with h1 h
    injection h with _ h
    injection h with _ h
    injection h with h4 _
    injection h1 with _ h1
    injection h4 with _ h4
    injection h1 with h1
    injection h4 with h4
    exact ⟨h1, h4⟩
/-- neither of the book's two lists stands at g -/
def NoTop (H : Hp) (A : MA) (g : Addr) : Prop := ∀ a b, H A.m = some (.dK (mtop A a b)) → a ≠ g ∧ b ≠ g
theorem NoTop.at {H : Hp} {A : MA} {g a b : Addr} (h : H A.m = some (.dK (mtop A a b))) (n : a ≠ g ∧ b ≠ g) : NoTop H A g := fun c d e => by
  rw [h] at e
  have e' : mtop A a b = mtop A c d := by
    injection e with e
    injection e
  obtain ⟨rfl, rfl⟩ := mtop_inj e'
  exact n
/-- what was not the book's is not, behind H' -/
def NoTops (A : MA) (H H' : Hp) : Prop := ∀ g, H g ≠ none → NoTop H A g → NoTop H' A g
theorem NoTops.keep {A : MA} {H H' : Hp} {a b : Addr} (h : H A.m = some (.dK (mtop A a b))) (h' : H' A.m = some (.dK (mtop A a b))) : NoTops A H H' := fun g _ n => NoTop.at h' (n a b h)
theorem NoTops.r {A : MA} {H H1 H' : Hp} {a b c : Addr} (h : H A.m = some (.dK (mtop A a b))) (h' : H' A.m = some (.dK (mtop A c b))) (s : Same H H1) (n : H1 c = none) : NoTops A H H' := fun g hg k =>
  NoTop.at h' ⟨fun z => hg (s.free (by rw [← z]; exact n)), (k a b h).2⟩
theorem NoTops.s {A : MA} {H H1 H' : Hp} {a b c : Addr} (h : H A.m = some (.dK (mtop A a b))) (h' : H' A.m = some (.dK (mtop A a c))) (s : Same H H1) (n : H1 c = none) : NoTops A H H' := fun g hg k =>
  NoTop.at h' ⟨(k a b h).1, fun z => hg (s.free (by rw [← z]; exact n))⟩
/-- where the book stands, a list of no book of it may be written on -/
theorem MdAt.write {H : Hp} {A : MA} {S : LS} {g : Addr} {xs ys : List V} (h : MdAt H A S) (hg : H g = some (.lst xs)) (n : NoTop H A g) : MdAt (upd H g (.lst ys)) A S := by
  obtain ⟨⟨a, b, e1, ⟨rs, rp, rt, ra⟩, ⟨ss, sp, st, sb⟩⟩, ⟨k2, l1, l2⟩, ⟨k3, d1, d2⟩, nd⟩ := h
  obtain ⟨n1, n2⟩ := n a b e1
  have off : ∀ {c kvs}, H c = some (.dK kvs) → upd H g (.lst ys) c = some (.dK kvs) := fun {c kvs} e => by
    rw [upd_ne (ne_of e hg (by intro z; cases z))]
    exact e
  refine ⟨⟨a, b, off e1, ⟨rs, rp, rt, by rw [upd_ne n1]; exact ra⟩, ⟨ss, sp, st, by rw [upd_ne n2]; exact sb⟩⟩, ⟨k2, off l1, l2.mono fun v e ⟨t, et, ht⟩ => ⟨t, et, ?_⟩⟩, ⟨k3, off d1, d2⟩, nd⟩
  rw [upd_ne (ne_of ht hg (by intro z; cases z))]
  exact ht
theorem LayAt.write {L : Addr} {H : Hp} {A : LA} {S : LS} {g : Addr} {xs ys : List V} (h : LayAt L H A S) (hg : H g = some (.lst xs)) : LayAt L (upd H g (.lst ys)) A S := by
  obtain ⟨⟨dx, ob⟩, ⟨k1, r1, r2⟩, ⟨k2, l1, l2⟩, ⟨k3, d1, d2⟩, ⟨k4, s1, s2⟩, nd⟩ := h
  have off : ∀ {c kvs}, H c = some (.dK kvs) → upd H g (.lst ys) c = some (.dK kvs) := fun {c kvs} e => by
    rw [upd_ne (ne_of e hg (by intro z; cases z))]
    exact e
  refine ⟨⟨dx, ?_⟩, ⟨k1, off r1, r2⟩, ⟨k2, off l1, l2.mono fun v e ⟨t, et, ht⟩ => ⟨t, et, ?_⟩⟩, ⟨k3, off d1, d2⟩, ⟨k4, off s1, s2⟩, nd⟩
  · rw [upd_ne (ne_of ob hg (by intro z; cases z))]
    exact ob
  · rw [upd_ne (ne_of ht hg (by intro z; cases z))]
    exact ht
theorem Both.write {L : Addr} {H : Hp} {A : LA} {B : MA} {S : LS} {g : Addr} {xs ys : List V} (h : Both L H A B S) (hg : H g = some (.lst xs)) (n : NoTop H B g) : Both L (upd H g (.lst ys)) A B S :=
  ⟨h.lay.write hg, h.md.write hg n, h.ok, h.apart⟩
def spDo2 : Sp := fun vs H Q _ => ∃ (A : MA) (S : LS) (v : V) (D : Deed), vs = [.ref A.m, v] ∧ MdAt H A S ∧ S.Ok ∧ DeedAt H v D ∧ S.due D = none ∧ ∀ (H' : Hp), MdAt H' A (S.put D) → Keep A.ms H H' → NoTops A H H' → Q .non H'
def spStep2 (L : Addr) : Sp := fun vs H Q _ => ∃ (A : LA) (B : MA) (S : LS) (v : V) (D : Deed), vs = [.ref A.p, .ref B.m, v] ∧ Both L H A B S ∧ DeedAt H v D ∧ D.Good ∧
  ∀ (H' : Hp), Both L H' A B (S.step D) → Keep (A.ms ++ B.ms) H H' → NoTops B H H' → Q (.bl true) H'
theorem NoTops.same {A : MA} {S : LS} {H H' : Hp} (h : MdAt H A S) (s : Same H H') : NoTops A H H' := by
  obtain ⟨⟨a, b, e1, _, _⟩, _⟩ := h
  exact NoTops.keep e1 (s _ _ e1)
theorem NoTops.trans {A : MA} {H H1 H2 : Hp} (x : NoTops A H H1) (y : NoTops A H1 H2) (s : ∀ g, H g ≠ none → H1 g ≠ none) : NoTops A H H2 := fun g hg n => y g (s g hg) (x g hg n)
theorem Keep.there {ms : List Addr} {H H1 : Hp} (k : Keep ms H H1) : ∀ g, H g ≠ none → H1 g ≠ none := fun g h z => h (k.has g z)
theorem NoTops.off {A : MA} {S : LS} {ms : List Addr} {H H' : Hp} (h : MdAt H A S) (k : Keep ms H H') (n : A.m ∉ ms) : NoTops A H H' := by
  obtain ⟨⟨a, b, e1, _, _⟩, _⟩ := h
  exact NoTops.keep e1 (k.out _ _ e1 n)
end SM
namespace SM
open PySem PySem.Spec PyProof.Rows L2
/-- a deed that takes a line, a drain or a source away -/
inductive TakeOk : Deed → Prop where
  | line {n : Str} (h : okName n = true) : TakeOk (.takeLine n)
  | drain {n : Str} (h : okName n = true) : TakeOk (.takeDrain n)
  | source {n : Str} (h : okName n = true) : TakeOk (.takeSource n)
theorem TakeOk.good {D : Deed} (h : TakeOk D) : D.Good := by
  cases h with
  | line h => exact h
  | drain h => exact h
  | source h => exact h
/-- a list of such deeds -/
def TakesAt (H : Hp) (ts : List Addr) : Prop := ∀ t ∈ ts, ∃ D, H t = some (.tup (Deed.vs D)) ∧ TakeOk D
theorem TakesAt.keep {ms : List Addr} {H H' : Hp} {ts : List Addr} (h : TakesAt H ts) (k : Keep ms H H') : TakesAt H' ts := fun t ht => by
  obtain ⟨D, a, b⟩ := h t ht
  exact ⟨D, k.tup _ _ a, b⟩
theorem TakesAt.list {H : Hp} {ts : List Addr} {d : Addr} {xs ys : List V} (h : TakesAt H ts) (hd : H d = some (.lst xs)) : TakesAt (upd H d (.lst ys)) ts := fun t ht => by
  obtain ⟨D, a, b⟩ := h t ht
  exact ⟨D, by rw [upd_ne (ne_of a hd (by intro z; cases z))]; exact a, b⟩
theorem TakesAt.app {H : Hp} {ts us : List Addr} (h : TakesAt H ts) (k : TakesAt H us) : TakesAt H (ts ++ us) := fun t ht => (List.mem_append.mp ht).elim (h t) (k t)
def spOnL : Sp := fun vs H Q _ => ∃ (B : MA) (S : LS) (z : Str), vs = [.ref B.m, .str z] ∧ MdAt H B S ∧ S.Ok ∧ okName z = true ∧
  ∀ (H' : Hp) (d : Addr) (ts : List Addr), Same H H' → H d = none → H' d = some (.lst (ts.map V.ref)) → TakesAt H' ts → ts.length ≤ 90 → Q (.ref d) H'
end SM
namespace SM
open PySem PySem.Spec PyProof.Rows L2
theorem LayAt.dks {L : Addr} {H : Hp} {A : LA} {S : LS} (h : LayAt L H A S) : ∀ b ∈ A.ms, ∃ kvs, H b = some (.dK kvs) := by
  obtain ⟨_, ⟨k1, r1, _⟩, ⟨k2, l1, _⟩, ⟨k3, d1, _⟩, ⟨k4, s1, _⟩, _⟩ := h
  intro b hb
  have hb' : b = A.r ∨ b = A.l ∨ b = A.d ∨ b = A.s := by simpa [LA.ms] using hb
  rcases hb' with rfl | rfl | rfl | rfl
  · exact ⟨_, r1⟩
  · exact ⟨_, l1⟩
  · exact ⟨_, d1⟩
  · exact ⟨_, s1⟩
theorem MdAt.dks {H : Hp} {A : MA} {S : LS} (h : MdAt H A S) : ∀ b ∈ A.ms, ∃ kvs, H b = some (.dK kvs) := by
  obtain ⟨⟨a, b0, e1, _, _⟩, ⟨k2, l1, _⟩, ⟨k3, d1, _⟩, _⟩ := h
  intro b hb
  have hb' : b = A.m ∨ b = A.l ∨ b = A.d := by simpa [MA.ms] using hb
  rcases hb' with rfl | rfl | rfl
  · exact ⟨_, e1⟩
  · exact ⟨_, l1⟩
  · exact ⟨_, d1⟩
/-- a list is none of the dicts -/
theorem Both.nolist {L : Addr} {H : Hp} {A : LA} {B : MA} {S : LS} (h : Both L H A B S) {d : Addr} {xs : List V} (e : H d = some (.lst xs)) : d ∉ A.ms ++ B.ms := fun w => by
  rcases List.mem_append.mp w with w | w
  · obtain ⟨k, q⟩ := h.lay.dks d w
    rw [e] at q
    cases q
  · obtain ⟨k, q⟩ := h.md.dks d w
    rw [e] at q
    cases q
/-- a list of references is not the bag's -/
theorem Bag.norefs {H : Hp} {p q d : Addr} {ts : List Addr} (B : Bag H p q) (e : H d = some (.lst (ts.map V.ref))) : d ≠ p := fun z => by
  obtain ⟨a, b, c, ns, B⟩ := B
  rw [z, B.top] at e
  have e' : ([.int a, .int b, .int c, .ref q] : List V) = ts.map V.ref := by
    injection e with e
    injection e
  cases ts with
  | nil => simp at e'
  | cons t r =>
    rw [List.map_cons] at e'
    injection e' with h _
    cases h
/-- a list of texts is not the bag's -/
theorem Bag.nostrs {H : Hp} {p q d : Addr} {ts : List Str} (B : Bag H p q) (e : H d = some (.lst (ts.map V.str))) : d ≠ p := fun z => by
  obtain ⟨a, b, c, ns, B⟩ := B
  rw [z, B.top] at e
  have e' : ([.int a, .int b, .int c, .ref q] : List V) = ts.map V.str := by
    injection e with e
    injection e
  cases ts with
  | nil => simp at e'
  | cons t r =>
    rw [List.map_cons] at e'
    injection e' with h _
    cases h
/-- written on at g, the bag stays -/
theorem Bag.write {H : Hp} {p q g : Addr} {gs : List Str} {o : HO} (B : Bag H p q) (e : H g = some (.lst (gs.map V.str))) (n : g ≠ q) : Bag (upd H g o) p q :=
  B.keep (upd_ne (B.nostrs e).symm) (upd_ne n.symm)
theorem cut_to (xs : List V) (j : Nat) (h : j ≤ xs.length) : cutV xs none (some ((j : Nat) : Int)) = xs.take j := by
  unfold cutV
  rw [HT.sIx_none, HT.sIx_nat, List.drop_zero, Nat.sub_zero, Nat.min_eq_left h]
theorem cut_from (xs : List V) (j : Nat) (h : j ≤ xs.length) : cutV xs (some ((j : Nat) : Int)) none = xs.drop j := by
  unfold cutV
  rw [HT.sIx_none, HT.sIx_nat, Nat.min_eq_left h, List.take_of_length_le (by rw [List.length_drop]; omega)]
def spEmptiedL (L : Addr) : Sp := fun vs H Q _ => ∃ (p q : Addr) (La : LA) (B : MA) (S : LS) (z : Str), vs = [.ref p, .ref La.p, .ref B.m, .str z] ∧ Bag H p q ∧ Both L H La B S ∧ p ∉ La.ms ∧ p ∉ B.ms ∧ okName z = true ∧
  ∀ (H' : Hp) (g : Addr) (gs : List Str) (S' : LS), Both L H' La B S' → Bag H' p q → Keep (p :: (La.ms ++ B.ms)) H H' → H g = none → H' g = some (.lst (gs.map V.str)) → gs.length ≤ 90 → (∀ y ∈ gs, okName y = true) → Q (.ref g) H'
end SM
namespace SM
open PySem PySem.Spec PyProof.Rows L2
def spAgainL (L : Addr) : Sp := fun vs H Q _ => ∃ (p q g rm : Addr) (La : LA) (B : MA) (S : LS) (gs rs : List Str), vs = [.ref p, .ref La.p, .ref B.m, .ref g, .ref rm] ∧ Bag H p q ∧ Both L H La B S ∧ p ∉ La.ms ∧ p ∉ B.ms ∧ H g = some (.lst (gs.map V.str)) ∧ gs.length ≤ 90 ∧ (∀ y ∈ gs, okName y = true) ∧ NamesAt H rm rs ∧
  ∀ (H' : Hp) (S' : LS), Both L H' La B S' → Bag H' p q → Keep (p :: (La.ms ++ B.ms)) H H' → Q (.bl true) H'
end SM
/-! Part P: lists of lists that are told. -/
namespace SM
open PySem PySem.Spec PyProof.Rows L2
/-- ys is xs, sorted -/
def Srt (ys xs : List Str) : Prop := ys.Perm xs ∧ sortedS ys = true
theorem Srt.one {ys zs xs : List Str} (a : Srt ys xs) (b : Srt zs xs) : ys = zs := sorted_one a.1 b.1 a.2 b.2
/-- at gs stand the lists xss -/
abbrev Lists (H : Hp) : List Addr → List (List Str) → Prop := Paired fun g xs => H g = some (.lst (xs.map V.str))
theorem Lists.keep {ms : List Addr} {H H' : Hp} (k : Keep ms H H') : ∀ {gs : List Addr} {xss : List (List Str)}, Lists H gs xss → Lists H' gs xss
  | _, _, .nil => .nil
  | _, _, .cons h t => .cons (k.flat _ _ h (flat_strs _)) (Lists.keep k t)
theorem Lists.same {H H' : Hp} (s : Same H H') {gs : List Addr} {xss : List (List Str)} (h : Lists H gs xss) : Lists H' gs xss := h.keep (Keep.of (ms := []) s)
theorem Lists.at {H : Hp} : ∀ {gs : List Addr} {xss : List (List Str)}, Lists H gs xss → ∀ {i : Nat} {g : Addr}, gs[i]? = some g → ∃ xs, xss[i]? = some xs ∧ H g = some (.lst (xs.map V.str))
  | _, _, .nil, i, g, e => by simp at e
  | _, _, .cons h t, 0, g, e => by
    have e' := Option.some.inj (e : some _ = some g)
    rw [← e']
    exact ⟨_, rfl, h⟩
  | _, _, .cons h t, i + 1, g, e => by
    obtain ⟨xs, a, b⟩ := Lists.at t (i := i) (by simpa using e)
    exact ⟨xs, by simpa using a, b⟩
theorem Lists.app {H : Hp} : ∀ {gs hs : List Addr} {xss yss : List (List Str)}, Lists H gs xss → Lists H hs yss → Lists H (gs ++ hs) (xss ++ yss)
  | _, _, _, _, .nil, k => k
  | _, _, _, _, .cons h t, k => .cons h (Lists.app t k)
abbrev rowD (xs : List Str) : PyData := .list (xs.map PyData.str)
theorem strs_dp {K : PySem.W.Frag} {H : Hp} : ∀ xs : List Str, DpAll K H (xs.map V.str) (xs.map PyData.str)
  | [] => .nil
  | _ :: xs => .cons (.str _) (strs_dp xs)
theorem row_dp {K : PySem.W.Frag} {H : Hp} {g : Addr} {xs : List Str} (h : H g = some (.lst (xs.map V.str))) : Dp K H (.ref g) (rowD xs) := .lst (SqL.of h) (strs_dp xs)
theorem Lists.dps {K : PySem.W.Frag} {H : Hp} : ∀ {gs : List Addr} {xss : List (List Str)}, Lists H gs xss → DpAll K H (gs.map V.ref) (xss.map rowD)
  | _, _, .nil => .nil
  | _, _, .cons h t => .cons (row_dp h) (Lists.dps t)
theorem Lists.dp {K : PySem.W.Frag} {H : Hp} {gs : List Addr} {xss : List (List Str)} (h : Lists H gs xss) {d : Addr} (e : H d = some (.lst (gs.map V.ref))) : Dp K H (.ref d) (.list (xss.map rowD)) := .lst (SqL.of e) h.dps
/-- names that may be laid -/
def GoodLs (xss : List (List Str)) : Prop := ∀ xs ∈ xss, xs.length ≤ 64 ∧ ∀ x ∈ xs, okName x = true
theorem strs_lay : ∀ {xs : List Str}, (∀ x ∈ xs, okName x = true) → PyData.canLayAll0 (xs.map PyData.str) = true
  | [], _ => rfl
  | x :: xs, h => by
    have a : smallS x = true := okName_small (h x List.mem_cons_self)
    simp only [smallS, Bool.and_eq_true] at a
    simp only [List.map_cons, PyData.canLayAll0, PyData.canLay0, a.1, Bool.true_and]
    exact strs_lay fun y hy => h y (List.mem_cons_of_mem _ hy)
theorem strs_depth : ∀ xs : List Str, PyData.depthAll (xs.map PyData.str) = 0
  | [] => by simp only [List.map_nil, PyData.depthAll]
  | x :: xs => by simp only [List.map_cons, PyData.depthAll, PyData.depth, strs_depth xs, Nat.max_self]
theorem rows_lay : ∀ {xss : List (List Str)}, GoodLs xss → PyData.canLayAll0 (xss.map rowD) = true
  | [], _ => rfl
  | xs :: xss, h => by
    have a := strs_lay (h xs List.mem_cons_self).2
    simp only [List.map_cons, PyData.canLayAll0, PyData.canLay0, a, Bool.true_and]
    exact rows_lay fun y hy => h y (List.mem_cons_of_mem _ hy)
theorem rows_depth : ∀ xss : List (List Str), PyData.depthAll (xss.map rowD) ≤ 1
  | [] => by simp only [List.map_nil, PyData.depthAll]; omega
  | xs :: xss => by
    have a := rows_depth xss
    simp only [List.map_cons, PyData.depthAll, PyData.depth, strs_depth xs]
    omega
theorem rows_shaped {xss : List (List Str)} (h : GoodLs xss) : SeqAt.shaped (.list (xss.map rowD)) = true := by
  show (PyData.canLay0 (.list (xss.map rowD)) && decide (PyData.depth (.list (xss.map rowD)) ≤ 64)) = true
  have a := rows_depth xss
  rw [show PyData.canLay0 (.list (xss.map rowD)) = true by simp only [PyData.canLay0, rows_lay h], Bool.true_and]
  refine decide_eq_true ?_
  simp only [PyData.depth]
  omega
theorem rows_self {xss : List (List Str)} (h : GoodLs xss) : PyData.eqv (.list (xss.map rowD)) (.list (xss.map rowD)) = true := eqv_self _ (by simp only [PyData.canLay0, rows_lay h])
/-- .. and lists of those -/
abbrev rowsD (xss : List (List Str)) : PyData := .list (xss.map rowD)
theorem all_lay : ∀ {ts : List (List (List Str))}, (∀ xss ∈ ts, GoodLs xss) → PyData.canLayAll0 (ts.map rowsD) = true
  | [], _ => rfl
  | xss :: ts, h => by
    have a := rows_lay (h xss List.mem_cons_self)
    simp only [List.map_cons, PyData.canLayAll0, PyData.canLay0, a, Bool.true_and]
    exact all_lay fun y hy => h y (List.mem_cons_of_mem _ hy)
theorem all_depth : ∀ ts : List (List (List Str)), PyData.depthAll (ts.map rowsD) ≤ 2
  | [] => by simp only [List.map_nil, PyData.depthAll]; omega
  | xss :: ts => by
    have a := all_depth ts
    have b := rows_depth xss
    simp only [List.map_cons, PyData.depthAll, PyData.depth]
    omega
theorem all_shaped {ts : List (List (List Str))} (h : ∀ xss ∈ ts, GoodLs xss) : SeqAt.shaped (.list (ts.map rowsD)) = true := by
  show (PyData.canLay0 (.list (ts.map rowsD)) && decide (PyData.depth (.list (ts.map rowsD)) ≤ 64)) = true
  have a := all_depth ts
  rw [show PyData.canLay0 (.list (ts.map rowsD)) = true by simp only [PyData.canLay0, all_lay h], Bool.true_and]
  refine decide_eq_true ?_
  simp only [PyData.depth]
  omega
theorem all_self {ts : List (List (List Str))} (h : ∀ xss ∈ ts, GoodLs xss) : PyData.eqv (.list (ts.map rowsD)) (.list (ts.map rowsD)) = true := eqv_self _ (by simp only [PyData.canLay0, all_lay h])
/-- what _law_told tells of S -/
def TellsOf (S : LS) (xss : List (List Str)) : Prop := ∃ rs ls ds ss yss, Srt rs S.rooms ∧ Srt ls (keys S.lines) ∧ Srt ds (keys S.drains) ∧ Srt ss S.sources ∧ Paired (fun ys r => Srt ys (S.at r)) yss rs ∧ xss = rs :: ls :: ds :: ss :: yss
theorem srts_one {S : LS} : ∀ {rs : List Str} {yss zss : List (List Str)}, Paired (fun ys r => Srt ys (S.at r)) yss rs → Paired (fun ys r => Srt ys (S.at r)) zss rs → yss = zss
  | _, _, _, .nil, .nil => rfl
  | _, _, _, .cons a s, .cons b t => by rw [Srt.one a b, srts_one s t]
theorem TellsOf.one {S : LS} {xss yss : List (List Str)} (a : TellsOf S xss) (b : TellsOf S yss) : xss = yss := by
  obtain ⟨r1, l1, d1, s1, y1, a1, a2, a3, a4, a5, rfl⟩ := a
  obtain ⟨r2, l2, d2, s2, y2, b1, b2, b3, b4, b5, rfl⟩ := b
  obtain rfl := a1.one b1
  rw [a2.one b2, a3.one b3, a4.one b4, srts_one a5 b5]
theorem Srt.good {ys xs : List Str} (a : Srt ys xs) (h : ∀ x ∈ xs, okName x = true) (l : xs.length ≤ 64) : ys.length ≤ 64 ∧ ∀ y ∈ ys, okName y = true :=
  ⟨by rw [a.1.length_eq]; exact l, fun y hy => h y (a.1.mem_iff.mp hy)⟩
theorem srts_good {S : LS} (o : S.Ok) : ∀ {rs : List Str} {yss : List (List Str)}, Paired (fun ys r => Srt ys (S.at r)) yss rs → GoodLs yss
  | _, _, .nil => fun _ h => nomatch h
  | r :: _, _, .cons a s => fun xs h => by
    rcases List.mem_cons.mp h with rfl | h
    · refine a.good (fun x hx => o.lG x (at_sub hx)) ?_
      have w := at_len o r S.lines.length
      rw [List.take_length] at w
      exact Nat.le_trans w (by decide)
    · exact srts_good o s xs h
theorem TellsOf.good {S : LS} {xss : List (List Str)} (o : S.Ok) (a : TellsOf S xss) : GoodLs xss := by
  obtain ⟨rs, ls, ds, ss, yss, a1, a2, a3, a4, a5, rfl⟩ := a
  have n1 := o.rL
  have n2 : (keys S.lines).length ≤ 40 := by rw [keys, List.length_map]; exact o.lL
  have n3 : (keys S.drains).length ≤ 12 := by rw [keys, List.length_map]; exact o.dL
  have n4 := o.sL
  intro xs h
  simp only [List.mem_cons] at h
  rcases h with rfl | rfl | rfl | rfl | h
  · exact a1.good o.rG (by omega)
  · exact a2.good o.lG (by omega)
  · exact a3.good o.dG (by omega)
  · exact a4.good (fun x hx => o.rG x (o.sI x hx)) (by omega)
  · exact srts_good o a5 xs h
theorem TellsOf.len {S : LS} {xss : List (List Str)} (o : S.Ok) (a : TellsOf S xss) : xss.length ≤ 28 := by
  obtain ⟨rs, ls, ds, ss, yss, a1, a2, a3, a4, a5, rfl⟩ := a
  have e := Paired.length a5
  have n1 := o.rL
  have e1 := a1.1.length_eq
  simp only [List.length_cons]
  omega
def spToldL (L : Addr) : Sp := fun vs H Q _ => ∃ (A : LA) (B : MA) (S : LS), vs = [.ref A.p, .ref B.m] ∧ Both L H A B S ∧
  ∀ (H' : Hp) (d : Addr) (gs : List Addr) (xss : List (List Str)), Same H H' → H d = none → H' d = some (.lst (gs.map V.ref)) → Lists H' gs xss → (∀ g ∈ gs, H g = none) → TellsOf S xss → Q (.ref d) H'
/-- each at gs is a list of texts, of n at the most, short ones -/
def okW (n : Nat) (x : Str) : Prop := x.length ≤ n ∧ PyData.strOk x = true
theorem okW.up {n m : Nat} {x : Str} (h : okW n x) (l : n ≤ m) : okW m x := ⟨Nat.le_trans h.1 l, h.2⟩
def Wild (H : Hp) (n : Nat) (gs : List Addr) : Prop := ∀ g ∈ gs, ∃ xs : List Str, H g = some (.lst (xs.map V.str)) ∧ xs.length ≤ n ∧ ∀ x ∈ xs, okW n x
def spPutL : Sp := fun vs H Q _ => ∃ (p q d : Addr) (gs : List Addr), vs = [.ref p, .ref d] ∧ Bag H p q ∧ H d = some (.lst (gs.map V.ref)) ∧ Wild H 64 gs ∧ (∀ g ∈ gs, g ≠ p ∧ g ≠ q) ∧ gs.length ≤ 60 ∧
  ∀ (H' : Hp), Bag H' p q → (∀ b u, H b = some u → b ≠ p → b ∉ gs → H' b = some u) → (∀ b, H' b = none → H b = none) → Q .non H'
end SM
namespace SM
open PySem PySem.Spec PyProof.Rows L2
/-- while the told lists are written on: the bag, the list of lists, what else stood at H0 -/
structure WildAt (H0 H : Hp) (p q d : Addr) (gs : List Addr) (n : Nat) : Prop where
  bag : Bag H p q
  top : H d = some (.lst (gs.map V.ref))
  wild : Wild H n gs
  out : ∀ b u, H0 b = some u → b ≠ p → b ∉ gs → H b = some u
  has : ∀ b, H b = none → H0 b = none
theorem Wild.more {H : Hp} {n m : Nat} {gs : List Addr} (h : Wild H n gs) (l : n ≤ m) : Wild H m gs := fun g hg => by
  obtain ⟨xs, a, b, c⟩ := h g hg
  exact ⟨xs, a, Nat.le_trans b l, fun x hx => (c x hx).up l⟩
theorem WildAt.more {H0 H : Hp} {p q d : Addr} {gs : List Addr} {n m : Nat} (h : WildAt H0 H p q d gs n) (l : n ≤ m) : WildAt H0 H p q d gs m := ⟨h.bag, h.top, h.wild.more l, h.out, h.has⟩
theorem refs_strs {gs : List Addr} {xs : List Str} (e : gs.map V.ref = xs.map V.str) : gs = [] := by
  cases gs with
  | nil => rfl
  | cons g r =>
    cases xs with
    | nil => cases e
    | cons x s => 
      rw [List.map_cons, List.map_cons] at e
      injection e with a _
      cases a
theorem WildAt.put {H0 H : Hp} {p q d g : Addr} {gs : List Addr} {n m : Nat} (h : WildAt H0 H p q d gs n) (l : n ≤ m) (hg : g ∈ gs) (ne : ∀ g ∈ gs, g ≠ p ∧ g ≠ q) {ys : List Str} (hy : ys.length ≤ m) (sy : ∀ y ∈ ys, okW m y) :
    WildAt H0 (upd H g (.lst (ys.map V.str))) p q d gs m := by
  have ng := ne g hg
  have nd : d ≠ g := fun z => by
    obtain ⟨xs, a, _⟩ := h.wild g hg
    rw [← z, h.top] at a
    have e : gs.map V.ref = xs.map V.str := by
      injection a with a
      injection a
    rw [refs_strs e] at hg
    cases hg
  refine ⟨h.bag.keep (upd_ne ng.1.symm) (upd_ne ng.2.symm), (upd_ne nd).trans h.top, fun g' hg' => ?_, fun b u e n1 n2 => ?_, fun b e => ?_⟩
  · by_cases z : g' = g
    · rw [z]
      exact ⟨ys, upd_same, hy, sy⟩
    · obtain ⟨xs, a, b, c⟩ := h.wild g' hg'
      exact ⟨xs, (upd_ne z).trans a, Nat.le_trans b l, fun x hx => (c x hx).up l⟩
  · rw [upd_ne (show b ≠ g from fun z => n2 (by rw [z]; exact hg))]
    exact h.out b u e n1 n2
  · by_cases z : b = g
    · rw [z, upd_same] at e
      cases e
    · rw [upd_ne z] at e
      exact h.has b e
theorem Lists.snoc {H : Hp} {gs : List Addr} {xss : List (List Str)} (h : Lists H gs xss) {g : Addr} {xs : List Str} (e : H g = some (.lst (xs.map V.str))) : Lists H (gs ++ [g]) (xss ++ [xs]) := Paired.snoc h e
theorem okW.app {n m : Nat} {x y : Str} (a : okW n x) (b : okW m y) : okW (n + m) (x ++ y) := by
  obtain ⟨a1, a2⟩ := a
  obtain ⟨b1, b2⟩ := b
  refine ⟨?_, ?_⟩
  · show (x.cps ++ y.cps).size ≤ n + m
    have a1' : x.cps.size ≤ n := a1
    have b1' : y.cps.size ≤ m := b1
    rw [Array.size_append]
    omega
  · simp only [PyData.strOk] at a2 b2 ⊢
    show Array.all (x.cps ++ y.cps) _ = true
    rw [Array.all_append, a2, b2]
    rfl
theorem okW.name {x : Str} (h : okName x = true) : okW 8 x := by
  refine ⟨?_, ?_⟩
  · simp only [okName, Bool.and_eq_true, decide_eq_true_eq] at h
    exact h.1.2
  · have a : smallS x = true := okName_small h
    simp only [smallS, Bool.and_eq_true] at a
    exact a.1
theorem wild_shaped {xs : List Str} (h : ∀ x ∈ xs, PyData.strOk x = true) : SeqAt.shaped (rowD xs) = true := by
  have lay : ∀ {xs : List Str}, (∀ x ∈ xs, PyData.strOk x = true) → PyData.canLayAll0 (xs.map PyData.str) = true := by
    intro xs
    induction xs with
    | nil => exact fun _ => rfl
    | cons x xs ih =>
      intro h
      simp only [List.map_cons, PyData.canLayAll0, PyData.canLay0, h x List.mem_cons_self, Bool.true_and]
      exact ih fun y hy => h y (List.mem_cons_of_mem _ hy)
  show (PyData.canLay0 (rowD xs) && decide (PyData.depth (rowD xs) ≤ 64)) = true
  rw [show PyData.canLay0 (rowD xs) = true by simp only [rowD, PyData.canLay0, lay h], Bool.true_and]
  refine decide_eq_true ?_
  simp only [PyData.depth, strs_depth xs]
  omega
end SM
namespace SM
open PySem PySem.Spec PyProof.Rows L2
theorem Lists.all_ne {G : Hp} {D : Addr} {gs : List Addr} {yss : List (List Str)} (h : Lists G gs yss) (hD : G D = some (.lst (gs.map V.ref))) : ∀ g ∈ gs, g ≠ D := fun g hg z => by
  obtain ⟨i, hi⟩ := List.getElem?_of_mem hg
  obtain ⟨xs, _, e⟩ := h.at hi
  rw [z, hD] at e
  have e' : gs.map V.ref = xs.map V.str := by
    injection e with e
    injection e
  rw [refs_strs e'] at hg
  cases hg
theorem Lists.off {G : Hp} {D : Addr} {o : HO} : ∀ {gs : List Addr} {yss : List (List Str)}, Lists G gs yss → (∀ g ∈ gs, g ≠ D) → Lists (upd G D o) gs yss
  | _, _, .nil, _ => .nil
  | _, _, .cons h t, n => .cons ((upd_ne (n _ List.mem_cons_self)).trans h) (Lists.off t fun g hg => n g (List.mem_cons_of_mem _ hg))
theorem flat_list {xs : List Str} : PyData.eqv (rowD xs) (.list []) = decide (xs = []) := eqv_nil
theorem atI_last {α : Type} {xs : List α} {x : α} (h : xs[xs.length - 1]? = some x) : atI xs (-1) = some x := by
  have l := (List.getElem?_eq_some_iff.mp h).1
  unfold atI ixN
  rw [if_neg (by decide), if_pos (by omega)]
  show xs[((-1 : Int) + (xs.length : Int)).toNat]? = some x
  rw [show ((-1 : Int) + (xs.length : Int)).toNat = xs.length - 1 by omega]
  exact h
end SM
namespace SM
open PySem PySem.Spec PyProof.Rows L2
theorem WildAt.same {H0 H H1 : Hp} {p q d : Addr} {gs : List Addr} {n : Nat} (h : WildAt H0 H p q d gs n) (s : Same H H1) : WildAt H0 H1 p q d gs n :=
  ⟨h.bag.same s, s _ _ h.top, fun g hg => by
    obtain ⟨xs, a, b⟩ := h.wild g hg
    exact ⟨xs, s _ _ a, b⟩, fun b u e n1 n2 => s _ _ (h.out b u e n1 n2), fun b e => h.has b (s.free e)⟩
theorem mem_set {α : Type} {xs : List α} {i : Nat} {y z : α} (h : z ∈ xs.set i y) : z ∈ xs ∨ z = y := List.mem_or_eq_of_mem_set h
end SM
namespace SM
open PySem PySem.Spec PyProof.Rows L2
theorem newlay {H H1 : Hp} {L x dx : Addr} {La : LA} (nx : H x = none) (ndx : H dx = none) (eA : La.p = x) (kp : ∀ b u, upd (upd H dx (.own x)) x (.ins L dx []) b = some u → b ≠ x → H1 b = some u) (fresh : ∀ b ∈ La.ms, upd (upd H dx (.own x)) x (.ins L dx []) b = none) :
    Same H H1 ∧ ∀ b ∈ La.ms, H b = none := by
  have eX : Same H (upd (upd H dx (.own x)) x (.ins L dx [])) := fun b o e => by
    rw [upd_ne (ne_of_none e nx), upd_ne (ne_of_none e ndx)]
    exact e
  exact ⟨fun b o e => kp b o (eX b o e) (ne_of_none e nx), fun b hb => eX.free (fresh b hb)⟩
theorem Keep.butp {H H' : Hp} {p q : Addr} (B : Bag H p q) (B' : Bag H' p q) (o : ∀ b u, H b = some u → b ≠ p → H' b = some u) (has : ∀ b, H' b = none → H b = none) : Keep [p] H H' := by
  obtain ⟨x, y, c, ns, B⟩ := B
  have top := B.top
  refine ⟨fun b u e n => o b u e fun z => n (by rw [z]; exact List.mem_singleton_self _), fun b xs e => o b _ e (ne_of e top (by intro z; cases z)), fun b _ _ _ e => o b _ e (ne_of e top (by intro z; cases z)), fun b xs e f => o b _ e fun z => ?_, has⟩
  rw [z, top] at e
  cases e
  exact Bool.noConfusion f
/-- told and kept: a tuple of two lists of lists that are alike -/
def HeldAt (H : Hp) (hd : Addr) (ts : List Addr) (tss : List (List (List Str))) : Prop := Paired (fun t xss => ∃ s k gs ks, H t = some (.tup [.ref s, .ref k]) ∧ (H s = some (.lst (gs.map V.ref)) ∧ H k = some (.lst (ks.map V.ref)) ∧ Lists H gs xss ∧ Lists H ks xss ∧ GoodLs xss) ∧ s ≠ hd ∧ k ≠ hd ∧ (∀ g ∈ gs, g ≠ hd) ∧ (∀ g ∈ ks, g ≠ hd)) ts tss
theorem HeldAt.keep {ms : List Addr} {H H' : Hp} {hd : Addr} (k : Keep ms H H') (n : ∀ d (ts : List Addr), H d = some (.lst (ts.map V.ref)) → d ∉ ms) : ∀ {ts : List Addr} {tss : List (List (List Str))}, HeldAt H hd ts tss → HeldAt H' hd ts tss
  | _, _, .nil => .nil
  | _, _, .cons h t => by
    obtain ⟨s, e, gs, ks, a, ⟨b, c, d, f, g⟩, r⟩ := h
    exact .cons ⟨s, e, gs, ks, k.tup _ _ a, ⟨k.out _ _ b (n s gs b), k.out _ _ c (n e ks c), d.keep k, f.keep k, g⟩, r⟩ (HeldAt.keep k n t)
theorem HeldAt.write {H : Hp} {hd : Addr} {zs ys : List V} (e0 : H hd = some (.lst zs)) : ∀ {ts : List Addr} {tss : List (List (List Str))}, HeldAt H hd ts tss → HeldAt (upd H hd (.lst ys)) hd ts tss
  | _, _, .nil => .nil
  | _, _, .cons h t => by
    obtain ⟨s, e, gs, ks, a, ⟨b, c, d, f, g⟩, r1, r2, r3, r4⟩ := h
    exact .cons ⟨s, e, gs, ks, (upd_ne (ne_of a e0 (by intro z; cases z))).trans a, ⟨(upd_ne r1).trans b, (upd_ne r2).trans c, d.off r3, f.off r4, g⟩, r1, r2, r3, r4⟩ (HeldAt.write e0 t)
theorem HeldAt.good {H : Hp} {hd : Addr} : ∀ {ts : List Addr} {tss : List (List (List Str))}, HeldAt H hd ts tss → ∀ xss ∈ tss, GoodLs xss
  | _, _, .nil => fun _ h => nomatch h
  | _, _, .cons h t => fun x hx => by
    obtain ⟨s, e, gs, ks, a, ⟨b, c, d, f, g⟩, r⟩ := h
    rcases List.mem_cons.mp hx with rfl | hx
    · exact g
    · exact HeldAt.good t x hx
theorem HeldAt.at {H : Hp} {hd : Addr} : ∀ {ts : List Addr} {tss : List (List (List Str))}, HeldAt H hd ts tss → ∀ {i : Nat} {t : Addr}, ts[i]? = some t → ∃ xss s k gs ks, tss[i]? = some xss ∧ H t = some (.tup [.ref s, .ref k]) ∧ H s = some (.lst (gs.map V.ref)) ∧ H k = some (.lst (ks.map V.ref)) ∧ Lists H gs xss ∧ Lists H ks xss
  | _, _, .nil, i, t, e => by simp at e
  | _, _, .cons h r, 0, t, e => by
    have e' := Option.some.inj (e : some _ = some t)
    subst e'
    obtain ⟨s, k, gs, ks, a, ⟨b, c, d, f, g⟩, _⟩ := h
    exact ⟨_, s, k, gs, ks, rfl, a, b, c, d, f⟩
  | _, _, .cons h r, i + 1, t, e => by
    obtain ⟨xss, s, k, gs, ks, a, b⟩ := HeldAt.at r (i := i) (t := t) (by simpa using e)
    exact ⟨xss, s, k, gs, ks, by simpa using a, b⟩
theorem Lists.mapH {G G' : Hp} : ∀ {gs : List Addr} {xss : List (List Str)}, Lists G gs xss → (∀ g ∈ gs, ∀ u, G g = some u → G' g = some u) → Lists G' gs xss
  | _, _, .nil, _ => .nil
  | _, _, .cons h t, m => .cons (m _ List.mem_cons_self _ h) (Lists.mapH t fun g hg => m g (List.mem_cons_of_mem _ hg))
/-- two layouts, each with its book -/
structure Two (L : Addr) (H : Hp) (A1 : LA) (B1 : MA) (S1 : LS) (A2 : LA) (B2 : MA) (S2 : LS) : Prop where
  one : Both L H A1 B1 S1
  two : Both L H A2 B2 S2
  apart : ∀ b ∈ A1.ms ++ B1.ms, b ∉ A2.ms ++ B2.ms
theorem Two.swap {L : Addr} {H : Hp} {A1 A2 : LA} {B1 B2 : MA} {S1 S2 : LS} (h : Two L H A1 B1 S1 A2 B2 S2) : Two L H A2 B2 S2 A1 B1 S1 := ⟨h.two, h.one, fun b hb w => h.apart b w hb⟩
theorem Two.keep {L : Addr} {H H' : Hp} {A1 A2 : LA} {B1 B2 : MA} {S1 S2 : LS} {ms : List Addr} (h : Two L H A1 B1 S1 A2 B2 S2) (k : Keep ms H H') (n : ∀ b ∈ ms, ∃ xs, H b = some (.lst xs)) : Two L H' A1 B1 S1 A2 B2 S2 := by
  refine ⟨h.one.keep k fun b hb => ?_, h.two.keep k fun b hb => ?_, h.apart⟩
  · obtain ⟨xs, e⟩ := n b hb
    have q := h.one.nolist e
    exact ⟨fun w => q (List.mem_append_left _ w), fun w => q (List.mem_append_right _ w)⟩
  · obtain ⟨xs, e⟩ := n b hb
    have q := h.two.nolist e
    exact ⟨fun w => q (List.mem_append_left _ w), fun w => q (List.mem_append_right _ w)⟩
theorem Two.same {L : Addr} {H H' : Hp} {A1 A2 : LA} {B1 B2 : MA} {S1 S2 : LS} (h : Two L H A1 B1 S1 A2 B2 S2) (s : Same H H') : Two L H' A1 B1 S1 A2 B2 S2 := h.keep (ms := []) (Keep.of s) fun _ z => (nomatch z)
theorem Two.step {L : Addr} {H H' : Hp} {A1 A2 : LA} {B1 B2 : MA} {S1 S2 S1' : LS} (h : Two L H A1 B1 S1 A2 B2 S2) (b : Both L H' A1 B1 S1') (k : Keep (A1.ms ++ B1.ms) H H') : Two L H' A1 B1 S1' A2 B2 S2 :=
  ⟨b, h.two.keep k fun b hb => ⟨fun w => h.apart b hb (List.mem_append_left _ w), fun w => h.apart b hb (List.mem_append_right _ w)⟩, h.apart⟩
end SM
namespace SM
open PySem PySem.Spec PyProof.Rows L2
/-- list(xs) within a comprehension: K told -/
theorem call_list_ofK {X : Cx} {K : PySem.W.Frag} (e : X.K = K) : CallR X (.type "list") (fun xs H Q => ∃ p ys, xs = [.ref p] ∧ (SqL K H p ys ∨ SqT K H p ys) ∧ ∀ l, H l = none → Q (.ref l) (upd H l (.lst ys))) := by
  subst e
  exact call_list_of
end SM
namespace SM
open PySem PySem.Spec PyProof.Rows L2
/-! several layouts, each with its book -/
abbrev LMS := LA × MA × LS
def msOf (x : LMS) : List Addr := x.1.ms ++ x.2.1.ms
structure Fam (L : Addr) (G : Hp) (bt : Addr) (ts : List Addr) (Bs : List LMS) : Prop where
  top : G bt = some (.lst (ts.map V.ref))
  len : ts.length = Bs.length
  at_ : ∀ (i : Nat) (x : LMS), Bs[i]? = some x → ∃ t, ts[i]? = some t ∧ G t = some (.tup [.ref x.1.p, .ref x.2.1.m]) ∧ Both L G x.1 x.2.1 x.2.2
  apart : ∀ (i j : Nat) (x y : LMS), i ≠ j → Bs[i]? = some x → Bs[j]? = some y → ∀ b ∈ msOf x, b ∉ msOf y
section
variable {L : Addr} {G G' : Hp} {bt : Addr} {ts : List Addr} {Bs : List LMS} {ms : List Addr}
theorem Fam.get (h : Fam L G bt ts Bs) {i : Nat} {t : Addr} (e : ts[i]? = some t) : ∃ x, Bs[i]? = some x ∧ G t = some (.tup [.ref x.1.p, .ref x.2.1.m]) ∧ Both L G x.1 x.2.1 x.2.2 := by
  have l := (List.getElem?_eq_some_iff.mp e).1
  rw [h.len] at l
  obtain ⟨t', a, b, c⟩ := h.at_ i _ (List.getElem?_eq_getElem l)
  rw [a] at e
  cases e
  exact ⟨_, List.getElem?_eq_getElem l, b, c⟩
theorem Fam.keep (h : Fam L G bt ts Bs) (k : Keep ms G G') (n : ∀ b ∈ ms, ∃ xs, G b = some (.lst xs)) (nb : bt ∉ ms) : Fam L G' bt ts Bs := by
  refine ⟨k.out _ _ h.top nb, h.len, fun i x e => ?_, h.apart⟩
  obtain ⟨t, a, b, c⟩ := h.at_ i x e
  refine ⟨t, a, k.tup _ _ b, c.keep k fun b hb => ?_⟩
  obtain ⟨xs, e⟩ := n b hb
  have q := c.nolist e
  exact ⟨fun w => q (List.mem_append_left _ w), fun w => q (List.mem_append_right _ w)⟩
theorem Fam.same (h : Fam L G bt ts Bs) (s : Same G G') : Fam L G' bt ts Bs := h.keep (ms := []) (Keep.of s) (fun _ z => (nomatch z)) (fun z => (nomatch z))
theorem Fam.off (h : Fam L G bt ts Bs) {i : Nat} {x : LMS} (e : Bs[i]? = some x) {d : Addr} {xs : List V} (hd : G d = some (.lst xs)) : d ∉ msOf x := by
  obtain ⟨t, a, b, c⟩ := h.at_ i x e
  exact c.nolist hd
theorem Fam.step (h : Fam L G bt ts Bs) {i : Nat} {A : LA} {M : MA} {S S' : LS} (e : Bs[i]? = some (A, M, S)) (b : Both L G' A M S') (k : Keep (A.ms ++ M.ms) G G') : Fam L G' bt ts (Bs.set i (A, M, S')) := by
  have l := (List.getElem?_eq_some_iff.mp e).1
  have key : ∀ j y, (Bs.set i (A, M, S'))[j]? = some y → ∃ y0, Bs[j]? = some y0 ∧ msOf y0 = msOf y := fun j y ey => by
    rw [List.getElem?_set] at ey
    by_cases z : i = j
    · subst z
      rw [if_pos rfl, if_pos l] at ey
      cases ey
      exact ⟨_, e, rfl⟩
    · rw [if_neg z] at ey
      exact ⟨y, ey, rfl⟩
  refine ⟨k.out _ _ h.top (h.off e h.top), by rw [List.length_set]; exact h.len, fun j y ey => ?_, fun j1 j2 x y n e1 e2 => ?_⟩
  · rw [List.getElem?_set] at ey
    by_cases z : i = j
    · subst z
      rw [if_pos rfl, if_pos l] at ey
      cases ey
      obtain ⟨t, a, c, d⟩ := h.at_ i _ e
      exact ⟨t, a, k.tup _ _ c, b⟩
    · rw [if_neg z] at ey
      obtain ⟨t, a, c, d⟩ := h.at_ j y ey
      refine ⟨t, a, k.tup _ _ c, d.keep k fun b' hb => ?_⟩
      have q := h.apart i j _ y z e ey b' hb
      exact ⟨fun w => q (List.mem_append_left _ w), fun w => q (List.mem_append_right _ w)⟩
  · obtain ⟨x0, f1, g1⟩ := key j1 x e1
    obtain ⟨y0, f2, g2⟩ := key j2 y e2
    rw [← g1, ← g2]
    exact h.apart j1 j2 x0 y0 n f1 f2
end
/-- what else a law of several layouts holds -/
structure Rest (G : Hp) (p q rm dv c : Addr) (rs ds ws : List Str) : Prop where
  bag : Bag G p q
  rm : NamesAt G rm rs
  dv : NamesAt G dv ds
  ws : G c = some (.lst (ws.map V.str))
theorem Rest.keep {G G' : Hp} {p q rm dv c : Addr} {rs ds ws : List Str} {ms : List Addr} (h : Rest G p q rm dv c rs ds ws) (k : Keep ms G G') (b : Bag G' p q) : Rest G' p q rm dv c rs ds ws :=
  ⟨b, h.rm.keep k, h.dv.keep k, k.flat _ _ h.ws (flat_strs _)⟩
theorem Rest.same {G G' : Hp} {p q rm dv c : Addr} {rs ds ws : List Str} (h : Rest G p q rm dv c rs ds ws) (s : Same G G') : Rest G' p q rm dv c rs ds ws := h.keep (ms := []) (Keep.of s) (h.bag.same s)
end SM
namespace SM
open PySem PySem.Spec PyProof.Rows L2
/-- k29's own list of what was told -/
structure Helds (G : Hp) (hd : Addr) (us : List Addr) (tss : List (List (List Str))) : Prop where
  top : G hd = some (.lst (us.map V.ref))
  all : HeldAt G hd us tss
theorem Helds.keep {G G' : Hp} {hd : Addr} {us : List Addr} {tss : List (List (List Str))} {ms : List Addr} (h : Helds G hd us tss) (k : Keep ms G G') (n : ∀ d (ts : List Addr), G d = some (.lst (ts.map V.ref)) → d ∉ ms) : Helds G' hd us tss :=
  ⟨k.out _ _ h.top (n hd us h.top), h.all.keep k n⟩
theorem Helds.same {G G' : Hp} {hd : Addr} {us : List Addr} {tss : List (List (List Str))} (h : Helds G hd us tss) (s : Same G G') : Helds G' hd us tss := h.keep (ms := []) (Keep.of s) fun _ _ _ z => (nomatch z)
/-- no book's sorted list stands at g -/
def NoTopF (G : Hp) (Bs : List LMS) (g : Addr) : Prop := ∀ (i : Nat) (x : LMS), Bs[i]? = some x → NoTop G x.2.1 g
theorem NoTopF.keep {L : Addr} {G G' : Hp} {bt : Addr} {ts : List Addr} {Bs : List LMS} {ms : List Addr} {g : Addr} (h : NoTopF G Bs g) (f : Fam L G bt ts Bs) (k : Keep ms G G') (n : ∀ b ∈ ms, ∃ xs, G b = some (.lst xs)) (hg : G g ≠ none) : NoTopF G' Bs g := fun i x e => by
  obtain ⟨t, a, b, c⟩ := f.at_ i x e
  refine NoTops.off c.md k (fun w => ?_) g hg (h i x e)
  obtain ⟨xs, e⟩ := n _ w
  exact c.nolist e (List.mem_append_right _ (by simp [MA.ms]))
theorem NoTopF.step {L : Addr} {G G' : Hp} {bt : Addr} {ts : List Addr} {Bs : List LMS} {g : Addr} {i : Nat} {A : LA} {M : MA} {S S' : LS} (h : NoTopF G Bs g) (f : Fam L G bt ts Bs) (e : Bs[i]? = some (A, M, S)) (k : Keep (A.ms ++ M.ms) G G') (n : NoTops M G G') (hg : G g ≠ none) :
    NoTopF G' (Bs.set i (A, M, S')) g := fun j y ey => by
  have l := (List.getElem?_eq_some_iff.mp e).1
  rw [List.getElem?_set] at ey
  by_cases z : i = j
  · subst z
    rw [if_pos rfl, if_pos l] at ey
    cases ey
    exact n g hg (h i _ e)
  · rw [if_neg z] at ey
    obtain ⟨t, a, b, c⟩ := f.at_ j y ey
    refine NoTops.off c.md k (fun w => ?_) g hg (h j y ey)
    exact f.apart i j _ y z e ey _ w (List.mem_append_right _ (by simp [MA.ms]))
theorem Fam.write {L : Addr} {G : Hp} {bt : Addr} {ts : List Addr} {Bs : List LMS} {g : Addr} {xs ys : List V} (f : Fam L G bt ts Bs) (h : NoTopF G Bs g) (e : G g = some (.lst xs)) (nb : bt ≠ g) : Fam L (upd G g (.lst ys)) bt ts Bs := by
  refine ⟨(upd_ne nb).trans f.top, f.len, fun i x ex => ?_, f.apart⟩
  obtain ⟨t, a, b, c⟩ := f.at_ i x ex
  exact ⟨t, a, (upd_ne (ne_of b e (by intro z; cases z))).trans b, c.write e (h i x ex)⟩
theorem NoTopF.write {L : Addr} {G : Hp} {bt : Addr} {ts : List Addr} {Bs : List LMS} {g : Addr} {xs ys : List V} (h : NoTopF G Bs g) (f : Fam L G bt ts Bs) (e : G g = some (.lst xs)) : NoTopF (upd G g (.lst ys)) Bs g := fun i x ex => by
  obtain ⟨t, a, b, c⟩ := f.at_ i x ex
  obtain ⟨⟨p1, p2, e1, _, _⟩, _⟩ := id c.md
  exact NoTop.at ((upd_ne (ne_of e1 e (by intro z; cases z))).trans e1) (h i x ex p1 p2 e1)
end SM
namespace SM
open PySem PySem.Spec PyProof.Rows L2
theorem atI_refs {ts : List Addr} {v : Int} (h0 : 0 ≤ v) (h1 : v < ts.length) : ∃ t, ts[v.toNat]? = some t ∧ atI (ts.map V.ref) v = some (.ref t) := by
  have lt : v.toNat < ts.length := by omega
  refine ⟨ts[v.toNat], List.getElem?_eq_getElem lt, ?_⟩
  have e := atI_nat (xs := ts.map V.ref) (j := v.toNat) (v := .ref ts[v.toNat]) (by rw [List.getElem?_map, List.getElem?_eq_getElem lt]; rfl)
  rw [Int.toNat_of_nonneg h0] at e
  exact e
end SM
namespace SM
open PySem PySem.Spec PyProof.Rows L2
theorem NoTop.fresh {H : Hp} {A : MA} {S : LS} {g : Addr} (h : MdAt H A S) (e : H g = none) : NoTop H A g := by
  obtain ⟨⟨a, b, e1, ⟨_, _, _, ra⟩, ⟨_, _, _, sb⟩⟩, _⟩ := h
  exact NoTop.at e1 ⟨ne_of_none ra e, ne_of_none sb e⟩
theorem strs_refs {us : List Addr} {xs : List Str} (e : us.map V.ref = xs.map V.str) : xs = [] := by
  rw [refs_strs e] at e
  cases xs with
  | nil => rfl
  | cons x r => cases e
theorem Rest.write {G : Hp} {p q rm dv c hd : Addr} {rs ds ws : List Str} {us : List Addr} {o : HO} (h : Rest G p q rm dv c rs ds ws) (e : G hd = some (.lst (us.map V.ref))) (nq : hd ≠ q) (nw : ws ≠ []) : Rest (upd G hd o) p q rm dv c rs ds ws := by
  have key : ∀ {x : Addr} {xs : List Str}, G x = some (.lst (xs.map V.str)) → xs ≠ [] → x ≠ hd := fun {x xs} a n z => by
    rw [z, e] at a
    have e' : us.map V.ref = xs.map V.str := by
      injection a with a
      injection a
    exact n (strs_refs e')
  refine ⟨h.bag.keep (upd_ne (h.bag.norefs e).symm) (upd_ne nq.symm), ⟨(upd_ne (key h.rm.1 ?_)).trans h.rm.1, h.rm.2⟩, ⟨(upd_ne (key h.dv.1 ?_)).trans h.dv.1, h.dv.2⟩, (upd_ne (key h.ws nw)).trans h.ws⟩
  · exact List.length_pos_iff.mp h.rm.2.1
  · exact List.length_pos_iff.mp h.dv.2.1
theorem HeldAt.snoc {H : Hp} {hd : Addr} {ts : List Addr} {tss : List (List (List Str))} (h : HeldAt H hd ts tss) {t s k : Addr} {gs ks : List Addr} {xss : List (List Str)} (a : H t = some (.tup [.ref s, .ref k])) (b : H s = some (.lst (gs.map V.ref))) (c : H k = some (.lst (ks.map V.ref))) (d : Lists H gs xss) (e : Lists H ks xss) (g : GoodLs xss)
    (n1 : s ≠ hd) (n2 : k ≠ hd) (n3 : ∀ g ∈ gs, g ≠ hd) (n4 : ∀ g ∈ ks, g ≠ hd) : HeldAt H hd (ts ++ [t]) (tss ++ [xss]) := Paired.snoc h ⟨s, k, gs, ks, a, ⟨b, c, d, e, g⟩, n1, n2, n3, n4⟩
end SM
namespace SM
open PySem PySem.Spec PyProof.Rows L2
theorem NoTop.same {H H' : Hp} {A : MA} {S : LS} {g : Addr} (h : MdAt H A S) (n : NoTop H A g) (s : Same H H') : NoTop H' A g := by
  obtain ⟨⟨a, b, e1, _, _⟩, _⟩ := h
  exact NoTop.at (s _ _ e1) (n a b e1)
end SM
namespace SM
open PySem PySem.Spec PyProof.Rows L2
def RowsAt (G : Hp) (ss : List Addr) (tss : List (List (List Str))) : Prop := Paired (fun s xss => ∃ gs, G s = some (.lst (gs.map V.ref)) ∧ Lists G gs xss) ss tss
theorem RowsAt.same {G G' : Hp} (s : Same G G') : ∀ {ss : List Addr} {tss : List (List (List Str))}, RowsAt G ss tss → RowsAt G' ss tss
  | _, _, .nil => .nil
  | _, _, .cons h t => by
    obtain ⟨gs, a, b⟩ := h
    exact .cons ⟨gs, s _ _ a, b.same s⟩ (RowsAt.same s t)
theorem RowsAt.snoc {G : Hp} {ss : List Addr} {tss : List (List (List Str))} (h : RowsAt G ss tss) {s : Addr} {gs : List Addr} {xss : List (List Str)} (a : G s = some (.lst (gs.map V.ref))) (b : Lists G gs xss) : RowsAt G (ss ++ [s]) (tss ++ [xss]) := Paired.snoc h ⟨gs, a, b⟩
theorem RowsAt.dps {K : PySem.W.Frag} {G : Hp} : ∀ {ss : List Addr} {tss : List (List (List Str))}, RowsAt G ss tss → DpAll K G (ss.map V.ref) (tss.map rowsD)
  | _, _, .nil => .nil
  | _, _, .cons h t => by
    obtain ⟨gs, a, b⟩ := h
    exact .cons (b.dp a) (RowsAt.dps t)
end SM
/-! Part Q: copies of a layout and of its book. -/
namespace SM
open PySem PySem.Spec PyProof.Rows L2
def rDUpd : V → List V → Hp → VK → Prop := fun x vs H Q => ∃ a b kvs more, x = .ref a ∧ vs = [.ref b] ∧ a ≠ b ∧ H a = some (.dK kvs) ∧ H b = some (.dK more) ∧ kvs.length + more.length ≤ sizeLine ∧ Q .non (upd H a (.dK (mergeK kvs more)))
theorem mt_dupdate {X : Cx} : MtR X "dict.update" rDUpd := by
  intro pins s σ H x vs v us Q I rx rxs h
  obtain ⟨a, b, kvs, more, rfl, rfl, ne, ha, hb, hz, q⟩ := h
  cases rx
  obtain ⟨u, rfl, ru⟩ := rxs.one
  cases ru
  obtain ⟨za, loa, va, rela, da⟩ := dk_of I.hok ha
  obtain ⟨zb, lob, vb, relb, db⟩ := dk_of I.hok hb
  refine call_meetsIn PySem.F.slot_dict_update da.typeIs PySem.F.entry_dict_update (PySem.F.args_dict_update_2 _ _) (meets_dict_update (mixKind X.prog X.w) a b ne lob) ⟨va, vb, da, db, by rw [← rela.length, ← relb.length]; exact hz, fun h' dd' _ hs => ?_⟩
  have he : ∃ q, h'.get? a = some q := let ⟨q, _, _, hq, _⟩ := dd'; ⟨q, hq⟩
  exact ⟨.non, _, d_write (t' := s.toks) I (by rw [ha]; exact True.intro) hs he (dk_new (Nat.le_trans (length_mergeK more kvs) hz) loa (KV.merge relb rela) dd'), rfl, q⟩
theorem putF_here {f : Str} {v x : V} {r : List (Str × V)} : putF f v ((f, x) :: r) = (f, v) :: r := by
  show (if f = f then (f, v) :: r else _) = _
  rw [if_pos rfl]
theorem putF_r (A : LA) (d : Addr) : putF "_rooms" (.ref d) (lfl A) = lfl { A with r := d } := putF_here
theorem putF_l (A : LA) (d : Addr) : putF "_lines" (.ref d) (lfl A) = lfl { A with l := d } := by
  unfold lfl
  rw [putF_skip kRL, putF_here]
theorem putF_d (A : LA) (d : Addr) : putF "_drains" (.ref d) (lfl A) = lfl { A with d := d } := by
  unfold lfl
  rw [putF_skip kRD, putF_skip kLD, putF_here]
theorem putF_s (A : LA) (d : Addr) : putF "_sources" (.ref d) (lfl A) = lfl { A with s := d } := by
  unfold lfl
  rw [putF_skip kRS, putF_skip kLS, putF_skip kDS, putF_here]
section
variable {L : Addr} {H : Hp} {A : LA} {S : LS} {d dx : Addr} {kvs : List (Key × V)}
theorem offp {o : HO} {b : Addr} {k : List (Key × V)} (ob : H A.p = some (.ins L dx (lfl A))) (e : H b = some (.dK k)) : upd H A.p o b = some (.dK k) := by
  rw [upd_ne (ne_of e ob (by intro z; cases z))]
  exact e
theorem offt {o : HO} {v : V} {e : LineV} (ob : H A.p = some (.ins L dx (lfl A))) (h : LineG H v e) : LineG (upd H A.p o) v e := by
  obtain ⟨t, a, b⟩ := h
  exact ⟨t, a, by rw [upd_ne (ne_of b ob (by intro z; cases z))]; exact b⟩
theorem LayAt.newR (h : LayAt L H A S) (ob0 : H A.p = some (.ins L dx (lfl A))) {xs : List Str} (hd : H d = some (.dK kvs)) (k : Kr TrueG kvs (uT xs)) (n : d ∉ A.ms) : LayAt L (upd H A.p (.ins L dx (lfl { A with r := d }))) { A with r := d } { S with rooms := xs } := by
  obtain ⟨_, ⟨k1, r1, r2⟩, ⟨k2, l1, l2⟩, ⟨k3, d1, d2⟩, ⟨k4, s1, s2⟩, nd⟩ := h
  simp only [LA.ms, List.mem_cons, List.not_mem_nil, or_false, not_or, List.nodup_cons] at n nd
  refine ⟨⟨dx, upd_same⟩, ⟨kvs, offp ob0 hd, k⟩, ⟨k2, offp ob0 l1, l2.mono fun v e g => offt ob0 g⟩, ⟨k3, offp ob0 d1, d2⟩, ⟨k4, offp ob0 s1, s2⟩, ?_⟩
  simp only [LA.ms, List.mem_cons, List.not_mem_nil, or_false, not_or, List.nodup_cons]
  exact ⟨⟨n.2.1, n.2.2.1, n.2.2.2⟩, nd.2⟩
theorem LayAt.newL (h : LayAt L H A S) (ob0 : H A.p = some (.ins L dx (lfl A))) {xs : List (Str × LineV)} (hd : H d = some (.dK kvs)) (k : Kr (LineG H) kvs xs) (n : d ∉ A.ms) : LayAt L (upd H A.p (.ins L dx (lfl { A with l := d }))) { A with l := d } { S with lines := xs } := by
  obtain ⟨_, ⟨k1, r1, r2⟩, ⟨k2, l1, l2⟩, ⟨k3, d1, d2⟩, ⟨k4, s1, s2⟩, nd⟩ := h
  simp only [LA.ms, List.mem_cons, List.not_mem_nil, or_false, not_or, List.nodup_cons] at n nd
  refine ⟨⟨dx, upd_same⟩, ⟨k1, offp ob0 r1, r2⟩, ⟨kvs, offp ob0 hd, k.mono fun v e g => offt ob0 g⟩, ⟨k3, offp ob0 d1, d2⟩, ⟨k4, offp ob0 s1, s2⟩, ?_⟩
  simp only [LA.ms, List.mem_cons, List.not_mem_nil, or_false, not_or, List.nodup_cons]
  exact ⟨⟨fun w => n.1 w.symm, nd.1.2.1, nd.1.2.2⟩, ⟨n.2.2.1, n.2.2.2⟩, nd.2.2⟩
theorem LayAt.newD (h : LayAt L H A S) (ob0 : H A.p = some (.ins L dx (lfl A))) {xs : List (Str × Str)} (hd : H d = some (.dK kvs)) (k : Kr StrG kvs xs) (n : d ∉ A.ms) : LayAt L (upd H A.p (.ins L dx (lfl { A with d := d }))) { A with d := d } { S with drains := xs } := by
  obtain ⟨_, ⟨k1, r1, r2⟩, ⟨k2, l1, l2⟩, ⟨k3, d1, d2⟩, ⟨k4, s1, s2⟩, nd⟩ := h
  simp only [LA.ms, List.mem_cons, List.not_mem_nil, or_false, not_or, List.nodup_cons] at n nd
  refine ⟨⟨dx, upd_same⟩, ⟨k1, offp ob0 r1, r2⟩, ⟨k2, offp ob0 l1, l2.mono fun v e g => offt ob0 g⟩, ⟨kvs, offp ob0 hd, k⟩, ⟨k4, offp ob0 s1, s2⟩, ?_⟩
  simp only [LA.ms, List.mem_cons, List.not_mem_nil, or_false, not_or, List.nodup_cons]
  exact ⟨⟨nd.1.1, fun w => n.1 w.symm, nd.1.2.2⟩, ⟨fun w => n.2.1 w.symm, nd.2.1.2⟩, n.2.2.2, nd.2.2.2⟩
theorem LayAt.newS (h : LayAt L H A S) (ob0 : H A.p = some (.ins L dx (lfl A))) {xs : List Str} (hd : H d = some (.dK kvs)) (k : Kr TrueG kvs (uT xs)) (n : d ∉ A.ms) : LayAt L (upd H A.p (.ins L dx (lfl { A with s := d }))) { A with s := d } { S with sources := xs } := by
  obtain ⟨_, ⟨k1, r1, r2⟩, ⟨k2, l1, l2⟩, ⟨k3, d1, d2⟩, ⟨k4, s1, s2⟩, nd⟩ := h
  simp only [LA.ms, List.mem_cons, List.not_mem_nil, or_false, not_or, List.nodup_cons] at n nd
  refine ⟨⟨dx, upd_same⟩, ⟨k1, offp ob0 r1, r2⟩, ⟨k2, offp ob0 l1, l2.mono fun v e g => offt ob0 g⟩, ⟨k3, offp ob0 d1, d2⟩, ⟨kvs, offp ob0 hd, k⟩, ?_⟩
  simp only [LA.ms, List.mem_cons, List.not_mem_nil, or_false, not_or, List.nodup_cons]
  exact ⟨⟨nd.1.1, nd.1.2.1, fun w => n.1 w.symm⟩, ⟨nd.2.1.1, fun w => n.2.1 w.symm⟩, fun w => n.2.2.1 w.symm, nd.2.2.2⟩
end
/-- copied() -/
def spCopied (L : Addr) : Sp := fun vs H Q _ => ∃ (A : LA) (S : LS), vs = [.ref A.p] ∧ LayAt L H A S ∧ S.Ok ∧ ∀ (A' : LA) (H' : Hp), LayAt L H' A' S → Same H H' → (∀ b ∈ A'.ms, H b = none) → Q (.ref A'.p) H'
/-- _law_twin(m) -/
def spTwinL : Sp := fun vs H Q _ => ∃ (B : MA) (S : LS), vs = [.ref B.m] ∧ MdAt H B S ∧ S.Ok ∧ ∀ (B' : MA) (H' : Hp), MdAt H' B' S → Same H H' → (∀ b ∈ B'.ms, H b = none) → Q (.ref B'.m) H'
end SM
namespace SM
open PySem PySem.Spec PyProof.Rows L2
def tw1 (a b : Addr) : List (Key × V) := [(Sum.inr "rooms", .ref a), (Sum.inr "sources", .ref b)]
def tw2 (l d : Addr) : List (Key × V) := [(Sum.inr "lines", .ref l), (Sum.inr "drains", .ref d)]
theorem tw1_merge (a b : Addr) : mergeK [] (tw1 a b) = tw1 a b := by
  have n0 : valV ([] : List (Key × V)) (Sum.inr "rooms") = none := rfl
  have n1 : valV ([(Sum.inr "rooms", .ref a)] : List (Key × V)) (Sum.inr "sources") = none := by rw [valV_neg kq3]; rfl
  show putK (putK ([] : List (Key × V)) (Sum.inr "rooms") (.ref a)) (Sum.inr "sources") (.ref b) = _
  rw [putK_new _ n0]
  show putK ([(Sum.inr "rooms", .ref a)] : List (Key × V)) (Sum.inr "sources") (.ref b) = _
  rw [putK_new _ n1]
  rfl
theorem tw2_merge (l d : Addr) : mergeK [] (tw2 l d) = tw2 l d := by
  have n0 : valV ([] : List (Key × V)) (Sum.inr "lines") = none := rfl
  have n1 : valV ([(Sum.inr "lines", .ref l)] : List (Key × V)) (Sum.inr "drains") = none := by rw [valV_neg kq4]; rfl
  show putK (putK ([] : List (Key × V)) (Sum.inr "lines") (.ref l)) (Sum.inr "drains") (.ref d) = _
  rw [putK_new _ n0]
  show putK ([(Sum.inr "lines", .ref l)] : List (Key × V)) (Sum.inr "drains") (.ref d) = _
  rw [putK_new _ n1]
  rfl
theorem tw_merge (m l d a b : Addr) : mergeK (tw1 a b) (tw2 l d) = mtop ⟨m, l, d, true⟩ a b := by
  rw [mtop_t (A := ⟨m, l, d, true⟩) rfl]
  have n2 : valV ([(Sum.inr "rooms", .ref a), (Sum.inr "sources", .ref b)] : List (Key × V)) (Sum.inr "lines") = none := by rw [valV_neg kq1, valV_neg (Ne.symm kq5)]; rfl
  have n3 : valV ([(Sum.inr "rooms", .ref a), (Sum.inr "sources", .ref b), (Sum.inr "lines", .ref l)] : List (Key × V)) (Sum.inr "drains") = none := by rw [valV_neg kq2, valV_neg (Ne.symm kq6), valV_neg kq4]; rfl
  show putK (putK ([(Sum.inr "rooms", .ref a), (Sum.inr "sources", .ref b)] : List (Key × V)) (Sum.inr "lines") (.ref l)) (Sum.inr "drains") (.ref d) = _
  rw [putK_new _ n2]
  show putK ([(Sum.inr "rooms", .ref a), (Sum.inr "sources", .ref b), (Sum.inr "lines", .ref l)] : List (Key × V)) (Sum.inr "drains") (.ref d) = _
  rw [putK_new _ n3]
  rfl
end SM
namespace SM
open PySem PySem.Spec PyProof.Rows L2
/-- one more layout with its book -/
theorem Fam.snoc {L : Addr} {G G1 : Hp} {bt : Addr} {ts : List Addr} {Bs : List LMS} (f : Fam L G bt ts Bs) (s : Same G G1) {x : LMS} (hB : Both L G1 x.1 x.2.1 x.2.2) (fr : ∀ b ∈ msOf x, G b = none) {t : Addr} (ht : G1 t = some (.tup [.ref x.1.p, .ref x.2.1.m])) (ne : ts ≠ []) :
    Fam L (upd G1 bt (.lst ((ts ++ [t]).map V.ref))) bt (ts ++ [t]) (Bs ++ [x]) ∧ Keep [bt] G1 (upd G1 bt (.lst ((ts ++ [t]).map V.ref))) := by
  have f1 := f.same s
  have k : Keep [bt] G1 (upd G1 bt (.lst ((ts ++ [t]).map V.ref))) := Keep.at f1.top (by simp) (fun _ z => by cases z) (fun _ _ _ z => by cases z) fun xs z => by
    cases z
    cases ts with
    | nil => exact absurd rfl ne
    | cons a r => rfl
  have offB : ∀ {y : LMS}, Both L G1 y.1 y.2.1 y.2.2 → ∀ b ∈ [bt], b ∉ y.1.ms ∧ b ∉ y.2.1.ms := fun {y} c b hb => by
    rw [List.mem_singleton.mp hb]
    have q := c.nolist f1.top
    exact ⟨fun w => q (List.mem_append_left _ w), fun w => q (List.mem_append_right _ w)⟩
  refine ⟨⟨upd_same, by rw [List.length_append, List.length_append, f.len]; rfl, fun i y e => ?_, fun i j y z n e1 e2 => ?_⟩, k⟩
  · by_cases l : i < Bs.length
    · rw [List.getElem?_append_left l] at e
      obtain ⟨t', a, b, c⟩ := f1.at_ i y e
      exact ⟨t', by rw [List.getElem?_append_left (by rw [f.len]; exact l)]; exact a, k.tup _ _ b, c.keep k (offB c)⟩
    · have e' := e
      rw [List.getElem?_append_right (by omega)] at e'
      have z : i - Bs.length = 0 := by
        have := (List.getElem?_eq_some_iff.mp e').1
        simpa using this
      rw [z] at e'
      cases e'
      refine ⟨t, ?_, k.tup _ _ ht, hB.keep k (offB hB)⟩
      rw [List.getElem?_append_right (by rw [f.len]; omega), f.len, z]
      rfl
  · have there : ∀ {y : LMS}, (∃ t, ts[0]? = t) → Both L G y.1 y.2.1 y.2.2 → ∀ b ∈ msOf y, G b ≠ none := fun {y} _ c b hb z => by
      rcases List.mem_append.mp hb with w | w
      · obtain ⟨kk, q⟩ := c.lay.dks b w
        rw [q] at z
        cases z
      · obtain ⟨kk, q⟩ := c.md.dks b w
        rw [q] at z
        cases z
    have last : ∀ {i : Nat} {y : LMS}, (Bs ++ [x])[i]? = some y → ¬ i < Bs.length → y = x ∧ i = Bs.length := fun {i y} e l => by
      have e' := e
      rw [List.getElem?_append_right (by omega)] at e'
      have z : i - Bs.length = 0 := by
        have := (List.getElem?_eq_some_iff.mp e').1
        simpa using this
      rw [z] at e'
      cases e'
      exact ⟨rfl, by omega⟩
    by_cases l1 : i < Bs.length
    · have e1' := e1
      rw [List.getElem?_append_left l1] at e1'
      obtain ⟨t1, _, _, c1⟩ := f.at_ i y e1'
      by_cases l2 : j < Bs.length
      · have e2' := e2
        rw [List.getElem?_append_left l2] at e2'
        exact f.apart i j y z n e1' e2'
      · obtain ⟨rfl, _⟩ := last e2 l2
        exact fun b hb w => there ⟨_, rfl⟩ c1 b hb (fr b w)
    · obtain ⟨rfl, i1⟩ := last e1 l1
      by_cases l2 : j < Bs.length
      · have e2' := e2
        rw [List.getElem?_append_left l2] at e2'
        obtain ⟨t2, _, _, c2⟩ := f.at_ j z e2'
        exact fun b hb w => there ⟨_, rfl⟩ c2 b w (fr b hb)
      · obtain ⟨_, i2⟩ := last e2 l2
        omega
theorem Rest.kept {G G' : Hp} {p q rm dv c : Addr} {rs ds ws : List Str} {ms : List Addr} (h : Rest G p q rm dv c rs ds ws) (k : Keep ms G G') (n : p ∉ ms) : Rest G' p q rm dv c rs ds ws := h.keep k (h.bag.kept k n)
theorem both_twin {L : Addr} {H1 H2 : Hp} {A : LA} {M : MA} {S : LS} (hL : LayAt L H1 A S) (s : Same H1 H2) (hM : MdAt H2 M S) (o : S.Ok) (f : ∀ b ∈ M.ms, H1 b = none) : Both L H2 A M S :=
  ⟨hL.same s, hM, o, fun b hb w => by
    obtain ⟨kk, q⟩ := hL.dks b hb
    rw [f b w] at q
    cases q⟩
end SM
/-! Part R: wrong arguments. -/
namespace SM
open PySem PySem.Spec PyProof.Rows L2
theorem log2_30 {m : Int} (h0 : 0 < m) (h1 : m < 1073741824) : m.natAbs.log2 < 9000 := Nat.lt_of_lt_of_le (PySem.Flt.log2_lt_of (k := 30) (by decide) (by omega)) (by decide)
def spTakeW : Sp := fun vs H Q _ => ∃ (p q : Addr) (m : Int), vs = [.ref p, .int m] ∧ Bag H p q ∧ 0 < m ∧ m.natAbs.log2 < 9000 ∧
  ∀ (v : Int) (H' : Hp), 0 ≤ v → v < m → Bag H' p q → But p H H' → Q (.int v) H'
/-- what is of a type stays so -/
def TyK (K : PySem.W.Frag) (H H' : Hp) : Prop := ∀ x t, TyX K H x t → TyX K H' x t
theorem TyK.of {K : PySem.W.Frag} {H H' : Hp} (s : Same H H') : TyK K H H' := fun _ _ h => tyX_same h s
theorem TyK.trans {K : PySem.W.Frag} {H H1 H2 : Hp} (a : TyK K H H1) (b : TyK K H1 H2) : TyK K H H2 := fun x t h => b x t (a x t h)
theorem TyK.lst {K : PySem.W.Frag} {H H' : Hp} {d : Addr} {xs ys : List V} (h : H d = some (.lst xs)) (h' : H' d = some (.lst ys)) (o : ∀ b, b ≠ d → H' b = H b) : TyK K H H' := by
  have off : ∀ {a : Addr} {u : HO}, H a = some u → (∀ zs, u ≠ .lst zs) → H' a = some u := fun {a u} e n => by
    rw [o a fun z => by rw [z, h] at e; exact n xs (Option.some.inj e).symm]
    exact e
  intro x t ty
  cases ty with
  | base b =>
    refine .base ?_
    cases b with
    | non => exact .non
    | bl b => exact .bl b
    | int i => exact .int i
    | str z => exact .str z
    | flt z => exact .flt z
    | @lst a zs e =>
      by_cases z : a = d
      · rw [z]
        exact .lst h'
      · exact .lst ((o a z).trans e)
    | frz e => exact .frz (off e fun _ z => by cases z)
    | tup e => exact .tup (off e fun _ z => by cases z)
    | dK e => exact .dK (off e fun _ z => by cases z)
    | dT e => exact .dT (off e fun _ z => by cases z)
    | ins e c1 c2 c3 c4 c5 => exact .ins (off e fun _ z => by cases z) c1 c2 c3 c4 c5
  | byt b => exact .byt b
  | set e => exact .set (off e fun _ z => by cases z)
  | kList a b => exact .kList a b
  | kTuple a b => exact .kTuple a b
  | kDict a b => exact .kDict a b
  | fTuple e => exact .fTuple (off e fun _ z => by cases z)
  | fDict e => exact .fDict (off e fun _ z => by cases z)
theorem TyK.bag {K : PySem.W.Frag} {H H' : Hp} {p q : Addr} (B : Bag H p q) (B' : Bag H' p q) (o : But p H H') : TyK K H H' := by
  obtain ⟨_, _, _, _, B⟩ := B
  obtain ⟨_, _, _, _, B'⟩ := B'
  exact TyK.lst B.top B'.top o
theorem NameQ.tyk {K : PySem.W.Frag} {H H' : Hp} {x : V} {b : Bool} (h : NameQ K H x b) (e : TyK K H H') : NameQ K H' x b := by
  rcases h with h | ⟨h, t, ty, q⟩
  · exact .inl h
  · exact .inr ⟨h, t, e _ _ ty, q⟩
theorem CostQ.tyk {K : PySem.W.Frag} {H H' : Hp} {x : V} {b : Bool} (h : CostQ K H x b) (e : TyK K H H') : CostQ K H' x b := by
  rcases h with h | ⟨h, t, i, j, ty, q⟩
  · exact .inl h
  · exact .inr ⟨h, t, i, j, e _ _ ty, q⟩
/-! no names, no costs -/
section
variable {K : PySem.W.Frag} {H : Hp}
theorem noName_str {z : Str} (h : okName z = false) (l : z.cps.size ≤ 100) : NameQ K H (.str z) false := .inl ⟨z, rfl, Nat.le_trans l (by decide), h.symm⟩
theorem noName_int (i : Int) : NameQ K H (.int i) false := .inr ⟨rfl, _, .base (.int i), kit_ty (by decide +kernel)⟩
theorem noName_bl (b : Bool) : NameQ K H (.bl b) false := .inr ⟨rfl, _, .base (.bl b), kit_ty (by decide +kernel)⟩
theorem noName_non : NameQ K H .non false := .inr ⟨rfl, _, .base .non, kit_ty (by decide +kernel)⟩
theorem noName_lst {a : Addr} {xs : List V} (e : H a = some (.lst xs)) : NameQ K H (.ref a) false := .inr ⟨rfl, _, .base (.lst e), kit_ty (by decide +kernel)⟩
theorem noName_tup {a : Addr} {xs : List V} (e : H a = some (.tup xs)) : NameQ K H (.ref a) false := .inr ⟨rfl, _, .base (.tup e), kit_ty (by decide +kernel)⟩
theorem noName_dK {a : Addr} {xs : List (Key × V)} (e : H a = some (.dK xs)) : NameQ K H (.ref a) false := .inr ⟨rfl, _, .base (.dK e), kit_ty (by decide +kernel)⟩
theorem noCost_int {i : Int} (h : okCost i = false) : CostQ K H (.int i) false := .inl ⟨i, rfl, h.symm⟩
theorem noCost_bl (b : Bool) : CostQ K H (.bl b) false := .inr ⟨rfl, _, true, true, .base (.bl b), kit_ty (by decide +kernel), kit_ty (by decide +kernel), rfl⟩
theorem noCost_non : CostQ K H .non false := .inr ⟨rfl, _, false, false, .base .non, kit_ty (by decide +kernel), kit_ty (by decide +kernel), rfl⟩
theorem noCost_str (z : Str) : CostQ K H (.str z) false := .inr ⟨rfl, _, false, false, .base (.str z), kit_ty (by decide +kernel), kit_ty (by decide +kernel), rfl⟩
theorem noCost_lst {a : Addr} {xs : List V} (e : H a = some (.lst xs)) : CostQ K H (.ref a) false := .inr ⟨rfl, _, false, false, .base (.lst e), kit_ty (by decide +kernel), kit_ty (by decide +kernel), rfl⟩
theorem noCost_tup {a : Addr} {xs : List V} (e : H a = some (.tup xs)) : CostQ K H (.ref a) false := .inr ⟨rfl, _, false, false, .base (.tup e), kit_ty (by decide +kernel), kit_ty (by decide +kernel), rfl⟩
theorem noCost_dK {a : Addr} {xs : List (Key × V)} (e : H a = some (.dK xs)) : CostQ K H (.ref a) false := .inr ⟨rfl, _, false, false, .base (.dK e), kit_ty (by decide +kernel), kit_ty (by decide +kernel), rfl⟩
end
def spBadName (K : PySem.W.Frag) : Sp := fun vs H Q _ => ∃ (p q : Addr), vs = [.ref p] ∧ Bag H p q ∧ ∀ (v : V) (H' : Hp), NameQ K H' v false → Bag H' p q → Keep [p] H H' → TyK K H H' → Q v H'
def spBadCost (K : PySem.W.Frag) : Sp := fun vs H Q _ => ∃ (p q : Addr), vs = [.ref p] ∧ Bag H p q ∧ ∀ (v : V) (H' : Hp), CostQ K H' v false → Bag H' p q → Keep [p] H H' → TyK K H H' → Q v H'
/-- words of one name -/
def W1s : List Str := ["add_room", "add_source", "take_room", "take_line", "take_drain", "take_source"]
def W3s : List Str := ["line", "drain", "lines_at"]
/-- a deed, or a question -/
def DoorV (xs : List V) : Prop := (∃ D : Deed, D.Good ∧ xs = D.vs) ∨ ∃ (w z : Str), w ∈ W3s ∧ okName z = true ∧ xs = [.str w, .str z]
def spAnyDoor : Sp := fun vs H Q _ => ∃ (p q a b : Addr) (rs ds : List Str), vs = [.ref p, .ref a, .ref b] ∧ Bag H p q ∧ NamesAt H a rs ∧ NamesAt H b ds ∧ ∀ (t : Addr) (xs : List V) (H' : Hp), DoorV xs → H' t = some (.tup xs) → Bag H' p q → Keep [p] H H' → Q (.ref t) H'
/-- a deed or a question with a first wrong argument at at_ -/
inductive Spo (K : PySem.W.Frag) (H : Hp) : List V → Nat → Prop where
  | one {w : Str} {x : V} (hw : w ∈ W1s ∨ w ∈ W3s) (n : NameQ K H x false) : Spo K H [.str w, x] 0
  | dr {x y : V} {b c : Bool} {j : Nat} (n : NameQ K H x b) (m : NameQ K H y c) (h : (b = false ∧ j = 0) ∨ (b = true ∧ c = false ∧ j = 1)) : Spo K H [.str "add_drain", x, y] j
  | ln {x y z u : V} {b1 b2 b3 b4 : Bool} {j : Nat} (n1 : NameQ K H x b1) (n2 : NameQ K H y b2) (n3 : NameQ K H z b3) (n4 : CostQ K H u b4)
      (h : (b1 = false ∧ j = 0) ∨ (b1 = true ∧ b2 = false ∧ j = 1) ∨ (b1 = true ∧ b2 = true ∧ (b3 = false ∨ z = y) ∧ j = 2) ∨ (b1 = true ∧ b2 = true ∧ b3 = true ∧ z ≠ y ∧ b4 = false ∧ j = 3)) : Spo K H [.str "add_line", x, y, z, u] j
theorem Spo.tyk {K : PySem.W.Frag} {H H' : Hp} {xs : List V} {j : Nat} (h : Spo K H xs j) (e : TyK K H H') : Spo K H' xs j := by
  cases h with
  | one hw n => exact .one hw (n.tyk e)
  | dr n m h => exact .dr (n.tyk e) (m.tyk e) h
  | ln a b c d h => exact .ln (a.tyk e) (b.tyk e) (c.tyk e) (d.tyk e) h
def spSpoilt (K : PySem.W.Frag) : Sp := fun vs H Q _ => ∃ (p q t : Addr) (xs : List V), vs = [.ref p, .ref t] ∧ Bag H p q ∧ DoorV xs ∧ H t = some (.tup xs) ∧
  ∀ (r t' : Addr) (ys : List V) (j : Nat) (H' : Hp), Spo K H' ys j → H' t' = some (.tup ys) → H' r = some (.tup [.ref t', .int (j : Int)]) → j ≤ 3 → Bag H' p q → Keep [p] H H' → Q (.ref r) H'
/-- _law_call of a wrong deed -/
def spCallW (K : PySem.W.Frag) (C : Nat → Addr) (L : Addr) : Sp := fun vs H Q E => ∃ (A : LA) (S : LS) (t : Addr) (xs : List V) (j : Nat), vs = [.ref A.p, .ref t] ∧ LayAt L H A S ∧ S.Ok ∧ H t = some (.tup xs) ∧ Spo K H xs j ∧ (∀ w x, xs = [.str w, x] → w ∈ W1s) ∧ Ref C 0 (.int (j : Int)) H E
def spClassW (C : Nat → Addr) : Addr → Value → Option Addr → Sp := fun a c d vs H Q _ => ∃ (i : Int) (dd : Addr), c = .ref (C 0) ∧ d = some dd ∧ H dd = some (.xd [("at", .int i)]) ∧ vs = [.ref a] ∧
  ∀ (H' : Hp) (t : Addr), Same H H' → H' t = some (.tup [.str "Wrong", .int i]) → Q (.ref t) H'
def spAskedW (K : PySem.W.Frag) (L : Addr) : Sp := fun vs H Q _ => ∃ (A : LA) (S : LS) (t : Addr) (xs : List V) (j : Nat), vs = [.ref A.p, .ref t] ∧ LayAt L H A S ∧ S.Ok ∧ H t = some (.tup xs) ∧ Spo K H xs j ∧
  ∀ (H' : Hp) (t1 t2 : Addr), Same H H' → H' t1 = some (.tup [.str "refused", .ref t2]) → H' t2 = some (.tup [.str "Wrong", .int (j : Int)]) → Q (.ref t1) H'
end SM
namespace SM
open PySem PySem.Spec PyProof.Rows L2
/-! a deed while it is spoilt -/
def BadAt (K : PySem.W.Frag) (H : Hp) (ws : List Nat) (ys : List V) (j : Nat) (v : V) : Prop := (j = 3 ∧ CostQ K H v false) ∨ (j ≠ 3 ∧ NameQ K H v false) ∨ (j = 2 ∧ 1 ∉ ws ∧ ys[2]? = some v)
structure SpSt (K : PySem.W.Frag) (H : Hp) (xs0 : List V) (n first i : Nat) (ys : List V) (ws : List Nat) : Prop where
  len : ys.length = n + 1
  hd : ys[0]? = xs0[0]?
  good : ∀ j, j < n → j ∉ ws → ys[j + 1]? = xs0[j + 1]?
  bad : ∀ j, j ∈ ws → j < i ∧ ∃ v, ys[j + 1]? = some v ∧ BadAt K H ws ys j v
  up : ws.Pairwise (· < ·)
  fst : first < i → first ∈ ws
theorem BadAt.tyk {K : PySem.W.Frag} {H H' : Hp} {ws : List Nat} {ys : List V} {j : Nat} {v : V} (h : BadAt K H ws ys j v) (e : TyK K H H') : BadAt K H' ws ys j v := by
  rcases h with ⟨a, b⟩ | ⟨a, b⟩ | h
  · exact .inl ⟨a, b.tyk e⟩
  · exact .inr (.inl ⟨a, b.tyk e⟩)
  · exact .inr (.inr h)
theorem SpSt.tyk {K : PySem.W.Frag} {H H' : Hp} {xs0 : List V} {n first i : Nat} {ys : List V} {ws : List Nat} (h : SpSt K H xs0 n first i ys ws) (e : TyK K H H') : SpSt K H' xs0 n first i ys ws :=
  { len := h.len, hd := h.hd, good := h.good, up := h.up, fst := h.fst
    bad := fun j hj => by
      obtain ⟨a, v, b, c⟩ := h.bad j hj
      exact ⟨a, v, b, c.tyk e⟩ }
theorem SpSt.skip {K : PySem.W.Frag} {H : Hp} {xs0 : List V} {n first i : Nat} {ys : List V} {ws : List Nat} (h : SpSt K H xs0 n first i ys ws) (ne : i ≠ first) : SpSt K H xs0 n first (i + 1) ys ws :=
  { len := h.len, hd := h.hd, good := h.good, up := h.up, fst := fun l => h.fst (by omega)
    bad := fun j hj => by
      obtain ⟨a, v, b, c⟩ := h.bad j hj
      exact ⟨by omega, v, b, c⟩ }
theorem SpSt.put {K : PySem.W.Frag} {H : Hp} {xs0 : List V} {n first i : Nat} {ys : List V} {ws : List Nat} (h : SpSt K H xs0 n first i ys ws) (hi : i < n) {v : V} (b : (i = 3 ∧ CostQ K H v false) ∨ (i ≠ 3 ∧ NameQ K H v false) ∨ (i = 2 ∧ 1 ∉ ws ∧ ys[2]? = some v)) :
    SpSt K H xs0 n first (i + 1) (ys.set (i + 1) v) (ws ++ [i]) := by
  have lt : i + 1 < ys.length := by rw [h.len]; omega
  refine ⟨by rw [List.length_set]; exact h.len, ?_, fun j hj nj => ?_, fun j hj => ?_, ?_, fun l => ?_⟩
  · rw [List.getElem?_set_ne (by omega)]
    exact h.hd
  · have n1 : j ≠ i := fun z => nj (by simp [z])
    have n2 : j ∉ ws := fun z => nj (by simp [z])
    rw [List.getElem?_set_ne (by omega)]
    exact h.good j hj n2
  · rcases List.mem_append.mp hj with hj | hj
    · obtain ⟨a, u, c, d⟩ := h.bad j hj
      refine ⟨by omega, u, by rw [List.getElem?_set_ne (by omega)]; exact c, ?_⟩
      rcases d with d | d | ⟨d1, d2, d3⟩
      · exact .inl d
      · exact .inr (.inl d)
      · refine .inr (.inr ⟨d1, fun z => ?_, by rw [List.getElem?_set_ne (by omega)]; exact d3⟩)
        rcases List.mem_append.mp z with z | z
        · exact d2 z
        · have := List.mem_singleton.mp z
          omega
    · rw [List.mem_singleton.mp hj]
      refine ⟨by omega, v, by rw [List.getElem?_set_self lt], ?_⟩
      rcases b with b | b | ⟨b1, b2, b3⟩
      · exact .inl b
      · exact .inr (.inl b)
      · refine .inr (.inr ⟨b1, fun z => ?_, by rw [List.getElem?_set_ne (by omega)]; exact b3⟩)
        rcases List.mem_append.mp z with z | z
        · exact b2 z
        · have := List.mem_singleton.mp z
          omega
  · refine List.pairwise_append.mpr ⟨h.up, List.pairwise_singleton _ _, fun a ha b hb => ?_⟩
    rw [List.mem_singleton.mp hb]
    exact (h.bad a ha).1
  · by_cases z : first < i
    · exact List.mem_append_left _ (h.fst z)
    · have : first = i := by omega
      rw [this]
      simp
theorem SpSt.start {K : PySem.W.Frag} {H : Hp} {xs0 : List V} {n first : Nat} (l : xs0.length = n + 1) : SpSt K H xs0 n first 0 xs0 [] :=
  { len := l, hd := rfl, good := fun _ _ _ => rfl, bad := fun _ h => (nomatch h), up := List.Pairwise.nil, fst := fun h => absurd h (Nat.not_lt_zero _) }
theorem door_len {xs : List V} (h : DoorV xs) : xs.length = 2 ∨ xs.length = 3 ∨ xs.length = 5 := by
  rcases h with ⟨D, g, rfl⟩ | ⟨w, z, _, _, rfl⟩
  · cases D <;> simp [Deed.vs]
  · exact .inl rfl
theorem spo_one {K : PySem.W.Frag} {H : Hp} {w z : Str} {first : Nat} {ys : List V} {ws : List Nat} {j : Nat} (hw : w ∈ W1s ∨ w ∈ W3s) (h : SpSt K H [.str w, .str z] 1 first 1 ys ws) (hj : j ∈ ws) : Spo K H ys j := by
  obtain ⟨a, v, b, c⟩ := h.bad j hj
  have j0 : j = 0 := by omega
  subst j0
  have l := h.len
  match ys, l, b, h.hd with
  | [y0, y1], _, b, e0 =>
    have e0' : y0 = .str w := by simpa using e0
    have e1 : y1 = v := by simpa using b
    subst e0' e1
    rcases c with ⟨c, _⟩ | ⟨_, c⟩ | ⟨c, _⟩
    · omega
    · exact .one hw c
    · omega
theorem min_at {ws : List Nat} {j : Nat} (h : ws[0]? = some j) (up : ws.Pairwise (· < ·)) : j ∈ ws ∧ ∀ k, k < j → k ∉ ws := by
  match ws, h, up with
  | a :: r, h, up =>
    have e : a = j := by simpa using h
    subst e
    refine ⟨List.mem_cons_self, fun k hk hm => ?_⟩
    rcases List.mem_cons.mp hm with z | z
    · omega
    · have := (List.pairwise_cons.mp up).1 k z
      omega
theorem spo_dr {K : PySem.W.Frag} {H : Hp} {x r : Str} {first : Nat} {ys : List V} {ws : List Nat} {j : Nat} (gx : okName x = true) (gr : okName r = true) (h : SpSt K H [.str "add_drain", .str x, .str r] 2 first 2 ys ws) (hj : ws[0]? = some j) : Spo K H ys j := by
  obtain ⟨mj, mn⟩ := min_at hj h.up
  have l := h.len
  have bj := (h.bad j mj).1
  match ys, l, h with
  | [y0, y1, y2], _, h =>
    have e0 : y0 = .str "add_drain" := by simpa using h.hd
    subst e0
    have q0 : ∃ b, NameQ K H y1 b ∧ (0 ∈ ws → b = false) ∧ (0 ∉ ws → b = true) := by
      by_cases z : 0 ∈ ws
      · obtain ⟨_, v, b, c⟩ := h.bad 0 z
        have e1 : y1 = v := by simpa using b
        subst e1
        rcases c with ⟨c, _⟩ | ⟨_, c⟩ | ⟨c, _⟩
        · omega
        · exact ⟨false, c, fun _ => rfl, fun w => absurd z w⟩
        · omega
      · have e1 : y1 = .str x := by simpa using h.good 0 (by decide) z
        subst e1
        exact ⟨true, NameQ.of gx, fun w => absurd w z, fun _ => rfl⟩
    have q1 : ∃ b, NameQ K H y2 b ∧ (1 ∈ ws → b = false) := by
      by_cases z : 1 ∈ ws
      · obtain ⟨_, v, b, c⟩ := h.bad 1 z
        have e1 : y2 = v := by simpa using b
        subst e1
        rcases c with ⟨c, _⟩ | ⟨_, c⟩ | ⟨c, _⟩
        · omega
        · exact ⟨false, c, fun _ => rfl⟩
        · omega
      · have e1 : y2 = .str r := by simpa using h.good 1 (by decide) z
        subst e1
        exact ⟨true, NameQ.of gr, fun w => absurd w z⟩
    obtain ⟨b, nb, b1, b2⟩ := q0
    obtain ⟨c, nc, c1⟩ := q1
    refine .dr nb nc ?_
    have : j = 0 ∨ j = 1 := by omega
    rcases this with rfl | rfl
    · exact .inl ⟨b1 mj, rfl⟩
    · exact .inr ⟨b2 (mn 0 (by decide)), c1 mj, rfl⟩
theorem spo_ln {K : PySem.W.Frag} {H : Hp} {x a b : Str} {c : Int} {first : Nat} {ys : List V} {ws : List Nat} {j : Nat} (g : (Deed.addLine x a b c).Good) (h : SpSt K H [.str "add_line", .str x, .str a, .str b, .int c] 4 first 4 ys ws) (hj : ws[0]? = some j) : Spo K H ys j := by
  obtain ⟨mj, mn⟩ := min_at hj h.up
  have l := h.len
  have bj := (h.bad j mj).1
  match ys, l, h with
  | [y0, y1, y2, y3, y4], _, h =>
    have e0 : y0 = .str "add_line" := by simpa using h.hd
    subst e0
    have q0 : ∃ b, NameQ K H y1 b ∧ (0 ∈ ws → b = false) ∧ (0 ∉ ws → b = true) := by
      by_cases z : 0 ∈ ws
      · obtain ⟨_, v, b, c⟩ := h.bad 0 z
        have e1 : y1 = v := by simpa using b
        subst e1
        rcases c with ⟨c, _⟩ | ⟨_, c⟩ | ⟨c, _⟩
        · omega
        · exact ⟨false, c, fun _ => rfl, fun w => absurd z w⟩
        · omega
      · have e1 : y1 = .str x := by simpa using h.good 0 (by decide) z
        subst e1
        exact ⟨true, NameQ.of g.1, fun w => absurd w z, fun _ => rfl⟩
    have q1 : ∃ b, NameQ K H y2 b ∧ (1 ∈ ws → b = false) ∧ (1 ∉ ws → b = true ∧ y2 = .str a) := by
      by_cases z : 1 ∈ ws
      · obtain ⟨_, v, b, c⟩ := h.bad 1 z
        have e1 : y2 = v := by simpa using b
        subst e1
        rcases c with ⟨c, _⟩ | ⟨_, c⟩ | ⟨c, _⟩
        · omega
        · exact ⟨false, c, fun _ => rfl, fun w => absurd z w⟩
        · omega
      · have e1 : y2 = .str a := by simpa using h.good 1 (by decide) z
        subst e1
        exact ⟨true, NameQ.of g.2.1, fun w => absurd w z, fun _ => ⟨rfl, rfl⟩⟩
    have q2 : ∃ t, NameQ K H y3 t ∧ (2 ∈ ws → t = false ∨ y3 = y2) ∧ (2 ∉ ws → t = true ∧ y3 = .str b) := by
      by_cases z : 2 ∈ ws
      · obtain ⟨_, v, u, c⟩ := h.bad 2 z
        have e1 : y3 = v := by simpa using u
        subst e1
        rcases c with ⟨c, _⟩ | ⟨_, c⟩ | ⟨_, c1, c2⟩
        · omega
        · exact ⟨false, c, fun _ => .inl rfl, fun w => absurd z w⟩
        · have e2 : y2 = y3 := by simpa using c2
          have e3 : y2 = .str a := by simpa using h.good 1 (by decide) c1
          exact ⟨true, by rw [← e2, e3]; exact NameQ.of g.2.1, fun _ => .inr e2.symm, fun w => absurd z w⟩
      · have e1 : y3 = .str b := by simpa using h.good 2 (by decide) z
        subst e1
        exact ⟨true, NameQ.of g.2.2.1, fun w => absurd w z, fun _ => ⟨rfl, rfl⟩⟩
    have q3 : ∃ b, CostQ K H y4 b ∧ (3 ∈ ws → b = false) := by
      by_cases z : 3 ∈ ws
      · obtain ⟨_, v, b, c⟩ := h.bad 3 z
        have e1 : y4 = v := by simpa using b
        subst e1
        rcases c with ⟨_, c⟩ | ⟨c, _⟩ | ⟨c, _⟩
        · exact ⟨false, c, fun _ => rfl⟩
        · omega
        · omega
      · have e1 : y4 = .int c := by simpa using h.good 3 (by decide) z
        subst e1
        exact ⟨true, .inl ⟨c, rfl, g.2.2.2.2.symm⟩, fun w => absurd w z⟩
    obtain ⟨b0, n0, p0, r0⟩ := q0
    obtain ⟨b1, n1, p1, r1⟩ := q1
    obtain ⟨b2, n2, p2, r2⟩ := q2
    obtain ⟨b3, n3, p3⟩ := q3
    refine .ln n0 n1 n2 n3 ?_
    have : j = 0 ∨ j = 1 ∨ j = 2 ∨ j = 3 := by omega
    rcases this with rfl | rfl | rfl | rfl
    · exact .inl ⟨p0 mj, rfl⟩
    · exact .inr (.inl ⟨r0 (mn 0 (by decide)), p1 mj, rfl⟩)
    · exact .inr (.inr (.inl ⟨r0 (mn 0 (by decide)), (r1 (mn 1 (by decide))).1, p2 mj, rfl⟩))
    · refine .inr (.inr (.inr ⟨r0 (mn 0 (by decide)), (r1 (mn 1 (by decide))).1, (r2 (mn 2 (by decide))).1, fun e => ?_, p3 mj, rfl⟩))
      rw [(r1 (mn 1 (by decide))).2, (r2 (mn 2 (by decide))).2] at e
      injection e with e
      exact g.2.2.2.1 e.symm
theorem SpSt.done {K : PySem.W.Frag} {H : Hp} {xs0 : List V} {n first : Nat} {ys : List V} {ws : List Nat} (d : DoorV xs0) (l : xs0.length = n + 1) (h : SpSt K H xs0 n first n ys ws) (f : first < n) : ∃ j, ws[0]? = some j ∧ Spo K H ys j ∧ j ≤ 3 := by
  have ne : 0 < ws.length := List.length_pos_of_mem (h.fst f)
  refine ⟨ws[0], List.getElem?_eq_getElem ne, ?_⟩
  have e : ws[0]? = some ws[0] := List.getElem?_eq_getElem ne
  have m : ws[0] ∈ ws := List.getElem_mem _
  have bj := (h.bad _ m).1
  generalize ws[0] = j at e m bj
  have one : ∀ {w z : Str}, (w ∈ W1s ∨ w ∈ W3s) → xs0 = [.str w, .str z] → Spo K H ys j ∧ j ≤ 3 := fun {w z} hw e0 => by
    subst e0
    have n1 : n = 1 := by simp at l; omega
    subst n1
    exact ⟨spo_one hw h m, by omega⟩
  rcases d with ⟨D, g, rfl⟩ | ⟨w, z, hw, _, rfl⟩
  · cases D with
    | addRoom x => exact one (.inl (by decide +kernel)) rfl
    | addLine x a b c =>
      have n1 : n = 4 := by simp [Deed.vs] at l; omega
      subst n1
      exact ⟨spo_ln g h e, by omega⟩
    | addDrain x r =>
      have n1 : n = 2 := by simp [Deed.vs] at l; omega
      subst n1
      exact ⟨spo_dr g.1 g.2 h e, by omega⟩
    | addSource x => exact one (.inl (by decide +kernel)) rfl
    | takeRoom x => exact one (.inl (by decide +kernel)) rfl
    | takeLine x => exact one (.inl (by decide +kernel)) rfl
    | takeDrain x => exact one (.inl (by decide +kernel)) rfl
    | takeSource x => exact one (.inl (by decide +kernel)) rfl
  · exact one (.inr hw) rfl
abbrev wI (j : Nat) : V := .int (0 + (j : Int))
theorem inV_ints (i : Int) : ∀ ws : List Nat, inV (.int i) (ws.map wI) = decide (∃ w ∈ ws, (0 + (w : Int)) = i)
  | [] => by simp [inV]
  | x :: xs => by
    have ih := inV_ints i xs
    unfold inV at ih ⊢
    rw [List.map_cons, List.any_cons, ih]
    show (decide (0 + (x : Int) = i) || decide (∃ w ∈ xs, (0 + (w : Int)) = i)) = _
    rw [← Bool.decide_or]
    refine decide_eq_decide.mpr ⟨fun h => ?_, fun ⟨w, hw, e⟩ => ?_⟩
    · rcases h with h | ⟨w, hw, e⟩
      · exact ⟨x, List.mem_cons_self, h⟩
      · exact ⟨w, List.mem_cons_of_mem _ hw, e⟩
    · rcases List.mem_cons.mp hw with rfl | hw
      · exact .inl e
      · exact .inr ⟨w, hw, e⟩
end SM
namespace SM
open PySem PySem.Spec PyProof.Rows L2
theorem ix_at {n j : Nat} (h : j < n) : ixN n ((j : Nat) : Int) = some j := by
  unfold ixN
  rw [if_pos (Int.natCast_nonneg j), if_pos (by omega), Int.toNat_natCast]
theorem flat_wI (ws : List Nat) : (ws.map wI).all flatV = true := by
  rw [List.all_map]
  exact List.all_eq_true.mpr fun _ _ => rfl
theorem Bag.tupne {H : Hp} {p q t : Addr} {xs : List V} (B : Bag H p q) (h : H t = some (.tup xs)) : t ≠ p := by
  obtain ⟨_, _, _, _, B⟩ := B
  exact ne_of h B.top (by intro z; cases z)
end SM
namespace SM
open PySem PySem.Spec PyProof.Rows L2
theorem NameQ.no {K : PySem.W.Frag} {H : Hp} {z : Str} (h : NameQ K H (.str z) false) (g : okName z = true) : False := by
  rcases h with ⟨z', e, _, q⟩ | ⟨_, t, ty, q⟩
  · injection e with e
    rw [← e, g] at q
    cases q
  · have y : PySem.W.kitOne K (.type "str") (.type "str") = some true := kit_ty (by decide +kernel)
    cases ty with
    | base b =>
      cases b
      rw [y] at q
      cases q
theorem CostQ.no {K : PySem.W.Frag} {H : Hp} {i : Int} (h : CostQ K H (.int i) false) (g : okCost i = true) : False := by
  rcases h with ⟨i', e, q⟩ | ⟨_, t, a, b, ty, q1, q2, q3⟩
  · injection e with e
    rw [← e, g] at q
    cases q
  · have y1 : PySem.W.kitOne K (.type "int") (.type "int") = some true := kit_ty (by decide +kernel)
    have y2 : PySem.W.kitOne K (.type "int") (.type "bool") = some false := kit_ty (by decide +kernel)
    cases ty with
    | base b =>
      cases b
      rw [y1] at q1
      rw [y2] at q2
      cases q1
      cases q2
      cases q3
end SM
namespace SM
open PySem PySem.Spec PyProof.Rows L2
/-- the body of a try that asks wrongly -/
def tAskW (K : PySem.W.Frag) (C : Nat → Addr) (L : Addr) (W : WX) : TS := fun D σ H => ∃ (La : LA) (S : LS) (t : Addr) (xs : List V) (j : Nat), σ = [some (.ref La.p), some (.ref t), some .non, none] ∧ LayAt L H La S ∧ S.Ok ∧ H t = some (.tup xs) ∧ Spo K H xs j ∧ Ref C 0 (.int (j : Int)) H (WE W σ)
end SM
namespace SM
open PySem PySem.Spec PyProof.Rows L2
def wrongD (j : Nat) : PyData := .tuple [.str "refused", .tuple [.str "Wrong", .int (j : Int)]]
theorem wrong_fine {j : Nat} (h : j ≤ 3) : Fine (wrongD j) := by
  have i := Sm.tup (SmAll.cons (sm_str (z := "Wrong") (by decide +kernel)) (.cons (sm_int (i := (j : Int)) (by omega) (by omega)) .nil))
  exact (Sm.tup (.cons ((sm_str (z := "refused") (by decide +kernel)).mono (k' := 1) (w' := 34) (by decide) (by decide)) (.cons (i.mono (k' := 1) (w' := 34) (by decide) (Nat.le_refl _)) .nil))).fine (by decide) (show 2 * (34 + 1) ≤ 100000 by decide)
end SM
/-! Part S: many names. -/
namespace SM
open PySem PySem.Spec PyProof.Rows L2
abbrev codesOf (z : Str) : List Nat := z.cps.toList
theorem codes_app (x y : Str) : codesOf (x ++ y) = codesOf x ++ codesOf y := by
  show (x.cps ++ y.cps).toList = _
  rw [Array.toList_append]
theorem codes_join (cs : List Nat) : codesOf (Txt.join "" (cs.map fun c => (⟨#[c]⟩ : Str))) = cs := by
  show (Txt.join "" (cs.map fun c => (⟨#[c]⟩ : Str))).cps.toList = cs
  rw [TL.join_eq]
  have t := TL.tl_join "" (cs.map fun c => (⟨#[c]⟩ : Str))
  have e0 : TL.tl "" = [] := by decide +kernel
  rw [e0, List.map_map] at t
  exact t.trans (joinL_single cs)
theorem codes_len (z : Str) : (codesOf z).length = z.length := Array.length_toList
theorem codes_to (z : Str) (j : Nat) (h : j ≤ z.length) : codesOf (cutS z none (some ((j : Nat) : Int))) = (codesOf z).take j := by
  unfold cutS
  rw [HT.sIx_none, HT.sIx_nat, Nat.min_eq_left h, List.drop_zero, Nat.sub_zero]
theorem codes_from (z : Str) (j : Nat) (h : j ≤ z.length) : codesOf (cutS z (some ((j : Nat) : Int)) none) = (codesOf z).drop j := by
  unfold cutS
  rw [HT.sIx_none, HT.sIx_nat, Nat.min_eq_left h]
  show (List.take (z.length - j) (List.drop j z.cps.toList)).toArray.toList = _
  rw [List.take_of_length_le (by rw [List.length_drop, ← codes_len]; exact Nat.le_refl _)]
theorem okName_codes {z : Str} (h1 : 1 ≤ (codesOf z).length) (h8 : (codesOf z).length ≤ 8) (h : ∀ c ∈ codesOf z, okSign c = true) : okName z = true :=
  okName_iff.mpr ⟨by rw [codes_len] at h1; exact h1, by rw [codes_len] at h8; exact h8, h⟩
theorem letters_codes : codesOf lettersL = (List.range 26).map (97 + ·) := by decide +kernel
theorem letter_at {v : Int} (h0 : 0 ≤ v) (h1 : v < 26) : atI lettersL.cps.toList v = some (97 + v.toNat) := by
  have e := atI_nat (xs := lettersL.cps.toList) (j := v.toNat) (v := 97 + v.toNat) (by
    have q := letters_codes
    rw [show lettersL.cps.toList = codesOf lettersL from rfl, q, List.getElem?_map, List.getElem?_range (by omega)]
    rfl)
  rw [Int.toNat_of_nonneg h0] at e
  exact e
/-- the k-th code of a turn -/
def codeK (turn k : Nat) : List Nat := if k ≤ 25 then [97 + (7 * k + turn) % 26] else [97 + (7 * k + turn) % 26, 97 + k / 26]
theorem codeK_ok {turn k : Nat} (h : k < 60) : ∀ c ∈ codeK turn k, okSign c = true := fun c hc => by
  unfold codeK at hc
  refine okSign_iff.mpr ?_
  split at hc
  · have := List.mem_singleton.mp hc
    omega
  · simp only [List.mem_cons, List.not_mem_nil, or_false] at hc
    omega
theorem codeK_len (turn k : Nat) : 1 ≤ (codeK turn k).length ∧ (codeK turn k).length ≤ 2 := by
  unfold codeK
  split <;> simp
theorem codeK_inj {turn j k : Nat} (hj : j < 26) (hk : k < 26) (e : codeK turn j = codeK turn k) : j = k := by
  unfold codeK at e
  rw [if_pos (by omega), if_pos (by omega)] at e
  have e1 : 97 + (7 * j + turn) % 26 = 97 + (7 * k + turn) % 26 := by
    injection e
  omega
/-- so far -/
structure ManyAt (pre post : List Nat) (turn i : Nat) (ys : List Str) : Prop where
  len : ys.length = i
  cd : ∀ j, j < i → ∃ y, ys[j]? = some y ∧ codesOf y = pre ++ codeK turn j ++ post
theorem ManyAt.nil (pre post : List Nat) (turn : Nat) : ManyAt pre post turn 0 [] := ⟨rfl, fun _ h => absurd h (Nat.not_lt_zero _)⟩
theorem ManyAt.snoc {pre post : List Nat} {turn i : Nat} {ys : List Str} (h : ManyAt pre post turn i ys) {y : Str} (e : codesOf y = pre ++ codeK turn i ++ post) : ManyAt pre post turn (i + 1) (ys ++ [y]) := by
  refine ⟨by rw [List.length_append, h.len]; rfl, fun j hj => ?_⟩
  by_cases z : j < i
  · obtain ⟨x, a, b⟩ := h.cd j z
    exact ⟨x, by rw [List.getElem?_append_left (by rw [h.len]; exact z)]; exact a, b⟩
  · have : j = i := by omega
    subst this
    refine ⟨y, ?_, e⟩
    rw [List.getElem?_append_right (by rw [h.len]; exact Nat.le_refl _), h.len, Nat.sub_self]
    rfl
theorem ManyAt.names {pre post : List Nat} {turn i : Nat} {ys : List Str} (h : ManyAt pre post turn i ys) (hi : i ≤ 60) (l : (pre ++ post).length ≤ 6) (o : ∀ c ∈ pre ++ post, okSign c = true) : ∀ y ∈ ys, okName y = true := fun y hy => by
  obtain ⟨j, hj⟩ := List.getElem?_of_mem hy
  have lt := (List.getElem?_eq_some_iff.mp hj).1
  rw [h.len] at lt
  obtain ⟨x, a, b⟩ := h.cd j lt
  rw [hj] at a
  cases a
  have cl := codeK_len turn j
  rw [List.length_append] at l
  refine okName_codes ?_ ?_ fun c hc => ?_
  · rw [b, List.length_append, List.length_append]
    omega
  · rw [b, List.length_append, List.length_append]
    omega
  · rw [b] at hc
    rcases List.mem_append.mp hc with hc | hc
    · rcases List.mem_append.mp hc with hc | hc
      · exact o c (List.mem_append_left _ hc)
      · exact codeK_ok (by omega) c hc
    · exact o c (List.mem_append_right _ hc)
theorem ManyAt.nodup {pre post : List Nat} {turn i : Nat} {ys : List Str} (h : ManyAt pre post turn i ys) (hi : i ≤ 26) : ys.Nodup := by
  rw [List.nodup_iff_pairwise_ne]
  rw [List.pairwise_iff_getElem]
  intro j k hj hk lt e
  rw [h.len] at hj hk
  obtain ⟨x, a, b⟩ := h.cd j hj
  obtain ⟨y, c, d⟩ := h.cd k hk
  have ex : ys[j] = x := Option.some.inj ((List.getElem?_eq_getElem (by rw [h.len]; exact hj)).symm.trans a)
  have ey : ys[k] = y := Option.some.inj ((List.getElem?_eq_getElem (by rw [h.len]; exact hk)).symm.trans c)
  rw [ex, ey] at e
  rw [e, d] at b
  have q : codeK turn k = codeK turn j := List.append_cancel_left (List.append_cancel_right b)
  have := codeK_inj (by omega) (by omega) q
  omega
/-- many names at a -/
structure Many (H : Hp) (a : Addr) (ys : List Str) (n : Nat) : Prop where
  at_ : H a = some (.lst (ys.map V.str))
  len : ys.length = n
  ok : ∀ y ∈ ys, okName y = true
  nd : n ≤ 26 → ys.Nodup
theorem Many.keep {ms : List Addr} {H H' : Hp} {a : Addr} {ys : List Str} {n : Nat} (h : Many H a ys n) (k : Keep ms H H') : Many H' a ys n := ⟨k.flat _ _ h.at_ (flat_strs _), h.len, h.ok, h.nd⟩
theorem Many.same {H H' : Hp} {a : Addr} {ys : List Str} {n : Nat} (h : Many H a ys n) (s : Same H H') : Many H' a ys n := h.keep (ms := []) (Keep.of s)
/-- the name at a place -/
theorem Many.get {H : Hp} {a : Addr} {ys : List Str} {n : Nat} (h : Many H a ys n) {v : Int} (h0 : 0 ≤ v) (h1 : v < n) : ∃ z, ys[v.toNat]? = some z ∧ atI (ys.map V.str) v = some (.str z) ∧ okName z = true := by
  have lt : v.toNat < ys.length := by rw [h.len]; omega
  refine ⟨ys[v.toNat], List.getElem?_eq_getElem lt, ?_, h.ok _ (List.getElem_mem _)⟩
  have e := atI_nat (xs := ys.map V.str) (j := v.toNat) (v := .str ys[v.toNat]) (by rw [List.getElem?_map, List.getElem?_eq_getElem lt]; rfl)
  rw [Int.toNat_of_nonneg h0] at e
  exact e
theorem Many.ne {H : Hp} {a : Addr} {ys : List Str} {n : Nat} (h : Many H a ys n) (l : n ≤ 26) {i j : Nat} {x y : Str} (ex : ys[i]? = some x) (ey : ys[j]? = some y) (ne : i ≠ j) : x ≠ y := fun e => by
  have nd := h.nd l
  have li := (List.getElem?_eq_some_iff.mp ex).1
  have lj := (List.getElem?_eq_some_iff.mp ey).1
  have q1 : ys[i] = x := (List.getElem?_eq_some_iff.mp ex).2
  have q2 : ys[j] = y := (List.getElem?_eq_some_iff.mp ey).2
  have pw := List.pairwise_iff_getElem.mp nd
  rcases Nat.lt_or_gt_of_ne ne with l1 | l1
  · exact pw i j li lj l1 (by rw [q1, q2, e])
  · exact pw j i lj li l1 (by rw [q1, q2, e])
def spManyL : Sp := fun vs H Q _ => ∃ (p q : Addr) (n : Nat), vs = [.ref p, .int (n : Int)] ∧ Bag H p q ∧ n ≤ 60 ∧ ∀ (a : Addr) (ys : List Str) (H' : Hp), Many H' a ys n → Bag H' p q → Keep [p] H H' → Q (.ref a) H'
/-- deeds at ts -/
def DeedsAt (H : Hp) (ts : List Addr) : Prop := ∀ t ∈ ts, ∃ D : Deed, D.Good ∧ H t = some (.tup D.vs)
theorem DeedsAt.keep {ms : List Addr} {H H' : Hp} {ts : List Addr} (h : DeedsAt H ts) (k : Keep ms H H') : DeedsAt H' ts := fun t ht => by
  obtain ⟨D, g, e⟩ := h t ht
  exact ⟨D, g, k.tup _ _ e⟩
theorem DeedsAt.list {H : Hp} {ts : List Addr} {d : Addr} {xs ys : List V} (h : DeedsAt H ts) (hd : H d = some (.lst xs)) : DeedsAt (upd H d (.lst ys)) ts := fun t ht => by
  obtain ⟨D, g, e⟩ := h t ht
  exact ⟨D, g, by rw [upd_ne (ne_of e hd (by intro z; cases z))]; exact e⟩
theorem DeedsAt.snoc {H : Hp} {ts : List Addr} {t : Addr} {D : Deed} (h : DeedsAt H ts) (g : D.Good) (e : H t = some (.tup D.vs)) : DeedsAt H (ts ++ [t]) := fun x hx => by
  rcases List.mem_append.mp hx with hx | hx
  · exact h x hx
  · rw [List.mem_singleton.mp hx]
    exact ⟨D, g, e⟩
def spFullL : Sp := fun vs H Q _ => ∃ (p q a b : Addr) (rs ds : List Str), vs = [.ref p, .ref a, .ref b] ∧ Bag H p q ∧ Many H a rs 26 ∧ Many H b ds 55 ∧
  ∀ (d : Addr) (ts : List Addr) (H' : Hp), H' d = some (.lst (ts.map V.ref)) → DeedsAt H' ts → ts.length ≤ 100 → Bag H' p q → Keep [p] H H' → Q (.ref d) H'
def spMoreL : Sp := fun vs H Q _ => ∃ (p q a b : Addr) (B : MA) (S : LS) (rs ds : List Str), vs = [.ref p, .ref B.m, .ref a, .ref b] ∧ Bag H p q ∧ MdAt H B S ∧ S.Ok ∧ p ∉ B.ms ∧ Many H a rs 26 ∧ Many H b ds 55 ∧
  ∀ (D : Deed) (v : V) (H' : Hp), D.Good → DeedAt H' v D → Bag H' p q → Keep [p] H H' → Q v H'
def spSayW (K : PySem.W.Frag) (C : Nat → Addr) (L : Addr) : Sp := fun vs H Q _ => ∃ (A : LA) (S : LS) (t : Addr) (xs : List V) (j : Nat), vs = [.ref A.p, .ref t] ∧ LayAt L H A S ∧ S.Ok ∧ H t = some (.tup xs) ∧ Spo K H xs j ∧ (∀ w x, xs = [.str w, x] → w ∈ W1s) ∧
  ∀ (H' : Hp) (t1 t2 : Addr), Same H H' → H' t1 = some (.tup [.str "refused", .ref t2]) → H' t2 = some (.tup [.str "Wrong", .int (j : Int)]) → Q (.ref t1) H'
def spWrongL (L : Addr) : Sp := fun vs H Q _ => ∃ (p q a b : Addr) (A : LA) (S : LS) (rs ds : List Str), vs = [.ref p, .ref A.p, .ref a, .ref b] ∧ Bag H p q ∧ LayAt L H A S ∧ S.Ok ∧ p ∉ A.ms ∧ Many H a rs 26 ∧ Many H b ds 55 ∧
  ∀ (H' : Hp), Bag H' p q → Keep [p] H H' → Q (.bl true) H'
end SM
namespace SM
open PySem PySem.Spec PyProof.Rows L2
/-- the law's list of deeds while it is made -/
structure FullAt (H0 G : Hp) (p q a b g : Addr) (rs ds : List Str) (n : Nat) (ts : List Addr) : Prop where
  top : G g = some (.lst (ts.map V.ref))
  all : DeedsAt G ts
  len : ts.length ≤ n
  bag : Bag G p q
  kp : Keep [p] H0 G
  rm : Many G a rs 26
  dv : Many G b ds 55
theorem FullAt.bagd {H0 G G' : Hp} {p q a b g : Addr} {rs ds : List Str} {n : Nat} {ts : List Addr} (h : FullAt H0 G p q a b g rs ds n ts) (B : Bag G' p q) (but : But p G G') : FullAt H0 G' p q a b g rs ds n ts := by
  have k : Keep [p] G G' := Keep.bag h.bag B but (by simp)
  exact ⟨(but g (h.bag.norefs h.top)).trans h.top, h.all.keep k, h.len, B, h.kp.trans k, h.rm.keep k, h.dv.keep k⟩
theorem FullAt.same {H0 G G' : Hp} {p q a b g : Addr} {rs ds : List Str} {n : Nat} {ts : List Addr} (h : FullAt H0 G p q a b g rs ds n ts) (s : Same G G') : FullAt H0 G' p q a b g rs ds n ts :=
  ⟨s _ _ h.top, h.all.keep (ms := []) (Keep.of s), h.len, h.bag.same s, h.kp.trans (Keep.of s), h.rm.same s, h.dv.same s⟩
theorem FullAt.snoc {H0 G : Hp} {p q a b g : Addr} {rs ds : List Str} {n : Nat} {ts : List Addr} (h : FullAt H0 G p q a b g rs ds n ts) (hg : H0 g = none) (ngq : g ≠ q) (r0 : rs ≠ []) (d0 : ds ≠ []) {t : Addr} {D : Deed} (gd : D.Good) (ht : G t = some (.tup D.vs)) :
    FullAt H0 (upd G g (.lst (ts.map V.ref ++ [.ref t]))) p q a b g rs ds (n + 1) (ts ++ [t]) := by
  have key : ∀ {x : Addr} {xs : List Str}, G x = some (.lst (xs.map V.str)) → xs ≠ [] → x ≠ g := fun {x xs} e n z => by
    rw [z, h.top] at e
    have e' : ts.map V.ref = xs.map V.str := by
      injection e with e
      injection e
    exact n (strs_refs e')
  have ngp := h.bag.norefs h.top
  refine ⟨by rw [upd_same, List.map_append]; rfl, (h.all.snoc gd ht).list h.top, by rw [List.length_append]; exact Nat.add_le_add_right h.len 1, h.bag.keep (upd_ne (Ne.symm ngp)) (upd_ne (Ne.symm ngq)), h.kp.over hg, ⟨(upd_ne (key h.rm.at_ r0)).trans h.rm.at_, h.rm.len, h.rm.ok, h.rm.nd⟩, ⟨(upd_ne (key h.dv.at_ d0)).trans h.dv.at_, h.dv.len, h.dv.ok, h.dv.nd⟩⟩
theorem FullAt.more {H0 G : Hp} {p q a b g : Addr} {rs ds : List Str} {n m : Nat} {ts : List Addr} (h : FullAt H0 G p q a b g rs ds n ts) (l : n ≤ m) : FullAt H0 G p q a b g rs ds m ts :=
  ⟨h.top, h.all, Nat.le_trans h.len l, h.bag, h.kp, h.rm, h.dv⟩
end SM
namespace SM
open PySem PySem.Spec PyProof.Rows L2
structure RestM (G : Hp) (p q a b : Addr) (rs ds : List Str) : Prop where
  bag : Bag G p q
  rm : Many G a rs 26
  dv : Many G b ds 55
theorem RestM.keep {G G' : Hp} {p q a b : Addr} {rs ds : List Str} {ms : List Addr} (h : RestM G p q a b rs ds) (k : Keep ms G G') (B : Bag G' p q) : RestM G' p q a b rs ds := ⟨B, h.rm.keep k, h.dv.keep k⟩
theorem RestM.same {G G' : Hp} {p q a b : Addr} {rs ds : List Str} (h : RestM G p q a b rs ds) (s : Same G G') : RestM G' p q a b rs ds := h.keep (ms := []) (Keep.of s) (h.bag.same s)
theorem RestM.kept {G G' : Hp} {p q a b : Addr} {rs ds : List Str} {ms : List Addr} (h : RestM G p q a b rs ds) (k : Keep ms G G') (n : p ∉ ms) : RestM G' p q a b rs ds := h.keep k (h.bag.kept k n)
theorem atI_back {ts : List Addr} {v : Int} (h0 : 0 ≤ v) (h1 : v < ts.length) : ∃ t, ts[ts.length - 1 - v.toNat]? = some t ∧ atI (ts.map V.ref) (-1 - v) = some (.ref t) := by
  have lt : ts.length - 1 - v.toNat < ts.length := by omega
  refine ⟨ts[ts.length - 1 - v.toNat], List.getElem?_eq_getElem lt, ?_⟩
  unfold atI ixN
  rw [if_neg (by omega), List.length_map, if_pos (by omega)]
  show (ts.map V.ref)[((-1 - v) + (ts.length : Int)).toNat]? = _
  rw [show ((-1 - v) + (ts.length : Int)).toNat = ts.length - 1 - v.toNat by omega, List.getElem?_map, List.getElem?_eq_getElem lt]
  rfl
theorem noFalse : ∀ n : Nat, inV (.bl false) (List.replicate n (V.bl true)) = false
  | 0 => rfl
  | n + 1 => by
    have ih := noFalse n
    unfold inV at ih ⊢
    rw [List.replicate_succ, List.any_cons, ih]
    rfl
theorem flat_bls (n : Nat) : (List.replicate n (V.bl true)).all flatV = true := by
  rw [List.all_eq_true]
  intro x hx
  rw [List.eq_of_mem_replicate hx]
  rfl
end SM
/-! Part T: the set of a list of texts, no two alike. -/
namespace SM
open PySem PySem.Spec PyProof.Rows
section
variable {prog : Program} {w : World} {A : Around} {E : Value → Shared → Prop} {s : Shared}
/-- the set has just the texts zs -/
abbrev TextSet (prog : Program) (w : World) (h : Heap) (a : Addr) (zs : List Str) : Prop := h.SetOf (PySem.strKind prog w) a (fun k => decide (k ∈ zs)) zs.length
theorem TextSet.off {h h' : Heap} {a : Addr} {zs : List Str} (x : TextSet prog w h a zs) (k : ∀ o, h.get? a = some o → h'.get? a = some o) : TextSet prog w h' a zs :=
  let ⟨o, es, ep, tb, e, r⟩ := x
  ⟨o, es, ep, tb, k o e, r⟩
/-- one text more -/
theorem addText {a : Addr} {zs : List Str} {z : Str} {t : Tok} {Q : Bool → Shared → Prop} (x : TextSet prog w s.heap a zs) (new : z ∉ zs) (room : zs.length + 1 < scanBound)
    (h : ∀ b h', Heap.SameBut a s.heap h' → TextSet prog w h' a (zs ++ [z]) → Q b { s with heap := h', toks := s.toks + 1 }) :
    wpAny (model prog w) A (holding [Value.str z t] (setAdd a (.str z t))) Q E s :=
  wpAny_holding (wpAny_holding (wpAny_bind (wpAny_pyHash_str
    (wpAny_setAddHashed_of (knd := PySem.strKind prog w) (k := z) (s := { s with toks := s.toks + 1 }) (strKind_is _ _ _ _) rfl x room fun h' sb y => h _ h' sb (SetOf_congr y (fun k => by
        rw [← Bool.decide_or]
        exact decide_eq_decide.mpr (by rw [List.mem_append, List.mem_singleton])) (by
        rw [decide_eq_false new, List.length_append]
        rfl))))))
variable {R : Result → Shared → Prop} {I : Addr} {fp wr : List Addr} {G : Array GenState → Array GenState → Prop} {n : Nat} {P : Nat → Value → Prop} {St : Nat → Shared → Prop}
/-- the loop behind set(xs): what is left, after what was met -/
theorem textsLoop (W : WalksS prog w A.in1 I fp wr G n P St) {b : Addr} (out : b ∉ fp) {all : List Str} (nd : all.Nodup) (ln : all.length = n) (room : n + 1 < scanBound) (hv : ∀ i v, P i v → ∃ z t, all[i]? = some z ∧ v = .str z t) :
    ∀ (left met : List Str), all = met ++ left → ∀ s : Shared, St met.length s → TextSet prog w s.heap b met →
      (∀ s', Moved (b :: wr) G s s' → TextSet prog w s'.heap b all → R (.ok (.ret .none)) s') →
      codeAny (model prog w) A (.builtin "set.update.loop" ⟨[.ref b, .ref I], []⟩) R s
  | [], met, e, s, st, x, k => by
    rw [List.append_nil] at e
    subst e
    rw [ln] at st
    refine codeAny_builtin F.entry_set_update_loop (by
      rw [Around.under_plainId F.plain_set_update_loop]
      exact wpAny_bind (W.done s _ _ st fun s' mv => wpAny_pure (k s' (mv.mono fun c hc => .tail _ hc) (x.off fun o => mv.heap b o fun z => out (W.sub b z)))))
  | z :: left, met, e, s, st, x, k => by
    have at_ : all[met.length]? = some z := by
      rw [e, List.getElem?_append_right (Nat.le_refl _), Nat.sub_self]
      rfl
    have lt : met.length < n := by
      rw [← ln]
      exact (List.getElem?_eq_some_iff.mp at_).1
    have new : z ∉ met := fun m => by
      rw [e] at nd
      exact (List.nodup_append.mp nd).2.2 z m z List.mem_cons_self rfl
    have e2 : all = (met ++ [z]) ++ left := by
      rw [e, List.append_assoc]
      rfl
    refine codeAny_builtin F.entry_set_update_loop (by
      rw [Around.under_plainId F.plain_set_update_loop]
      refine wpAny_bind (W.item met.length s _ _ lt st fun v s1 pv st1 mv => ?_)
      obtain ⟨z', t, ez, rfl⟩ := hv _ v pv
      rw [at_] at ez
      cases ez
      have x1 := x.off fun o => mv.heap b o fun c => out (W.sub b c)
      refine wpAny_bind (addText x1 new (by omega) fun _ h' sb x2 => ?_)
      have st2 := W.frame _ s1 h' (s1.toks + 1) st1 (Nat.le_succ _) fun c hc o eo => (sb.2 c fun q => out (q ▸ hc)).trans eo
      refine wpAny_pure ⟨plainId_quiet F.plain_set_update_loop _, textsLoop W out nd ln room hv left (met ++ [z]) e2 _ (by rw [List.length_append]; exact st2) x2 fun s3 mv3 x3 => k s3 ?_ x3⟩
      refine Moved.trans W.gtrans ((mv.mono fun c hc => .tail _ hc).then_heap (Nat.le_succ _) fun c o hc eo => ?_) mv3
      exact (sb.2 c fun q => hc (q ▸ .head _)).trans eo)
end
end SM
namespace SM
open PySem PySem.Spec PyProof.Rows
section
variable {prog : Program} {w : World} {A : Around} {E : Value → Shared → Prop} {s : Shared}
/-- a set with nothing in it -/
abbrev bareSet (led : Bool) : Obj := { cls := .type "set", dict := none, data := .set #[] 0 (.fresh 0 0 led) }
theorem texts_len : ∀ {us : List Value} {zs : List Str}, StrsAre us zs → zs.length = us.length
  | _, _, .nil => rfl
  | _, _, .cons _ _ r => congrArg (· + 1) (texts_len r)
theorem texts_get : ∀ {us : List Value} {zs : List Str}, StrsAre us zs → ∀ {i : Nat} {v : Value}, us[i]? = some v → ∃ z t, zs[i]? = some z ∧ v = .str z t
  | _, _, .nil, _, _, e => nomatch e
  | _, _, .cons z t _, 0, _, e => ⟨z, t, rfl, (Option.some.inj e).symm⟩
  | _, _, .cons _ _ r, i + 1, _, e => texts_get r (i := i) e
/-- set.__init__ over a list of texts -/
theorem fillTexts {l : Addr} {items : Array Value} {all : List Str} (calm : A.handled = none) (led : Bool) (hl : s.heap.IsList l items) (hi : StrsAre items.toList all) (nd : all.Nodup) (room : all.length + 1 < scanBound) {R : Result → Shared → Prop}
    (k : ∀ h' tk, TextSet prog w h' s.heap.objs.size all → (∀ b o, s.heap.get? b = some o → h'.get? b = some o) → R (.ok (.ret .none)) { s with heap := h', toks := tk }) :
    codeAny (model prog w) A (.call (.builtin "set.__init__") ⟨[.ref s.heap.objs.size, .ref l], []⟩) R { s with heap := s.heap.push (bareSet led) } := by
  have top : (s.heap.push (bareSet led)).get? s.heap.objs.size = some (bareSet led) := Heap.get?_push_size _ rfl
  have ty : Shared.TypeIs { s with heap := s.heap.push (bareSet led) } (.ref s.heap.objs.size) "set" := ⟨_, top, rfl⟩
  have ll : l < s.heap.objs.size := let ⟨_, e, _⟩ := hl; Heap.lt_size e
  have hl1 := hl.push (bareSet led)
  obtain ⟨ol, hol, hcl, nl, hdl⟩ := id hl1
  obtain ⟨oc, od, oa, os'⟩ := ol
  simp only at hcl hdl
  subst hcl
  subst hdl
  refine codeAny_call_builtin PySem.F.called_set.init.plain PySem.F.entry_set_init (check_set_init_1 ty ?_)
  have a1 := PySem.F.sub_list_set
  have a2 := PySem.F.sub_list_frozenset
  have a3 : (Value.type "list" == Value.type "dict") = false := by decide
  unfold Builtin.«set.__init__» noKeywords Builtin.Frozenset.updateFrom
  generalize it : pyIter = iter
  wp_walk
  subst it
  refine wpAny_pyIter_list hl1 (wpAny_bind (wpAny_runValue ?_))
  have big : s.heap.objs.size < (s.heap.push (bareSet led)).objs.size := by
    rw [Heap.size_push]
    exact Nat.lt_succ_self _
  have far : l ≠ (s.heap.push (bareSet led)).objs.size := Nat.ne_of_lt (Nat.lt_trans ll big)
  have W := (Walks.list (prog := prog) (w := w) (A := A.in1.in1) (by simp [calm]) _ l far items).toS
  refine textsLoop W (b := s.heap.objs.size) (fun m => ?_) nd ?_ ?_ (fun i v pv => ?_) all [] rfl _ ⟨⟨_, Heap.get?_push_size _ rfl, rfl, rfl⟩, hl1.push _⟩ ?_ fun s' mv x => ?_
  · rcases List.mem_cons.mp m with e | m
    · exact absurd e (Nat.ne_of_lt big)
    · exact absurd (List.mem_singleton.mp m) (Nat.ne_of_gt ll)
  · rw [texts_len hi, Array.length_toList]
  · rw [texts_len hi, Array.length_toList] at room
    exact room
  · exact texts_get hi (by rw [Array.getElem?_toList]; exact pv)
  · have e := Heap.get?_push_of_some { cls := .type "list_iterator", data := .fields #[.ref l, .int 0 0] } top
    exact SetOf_congr ((setObjOf_fresh (knd := PySem.strKind prog w) led).setOf e (by decide)) (fun k => (decide_eq_false (fun m => nomatch m)).symm) rfl
  · obtain ⟨h', g', d', tk, o'⟩ := s'
    obtain rfl : g' = s.gens := mv.gens
    obtain rfl : d' = s.drawn := mv.drawn
    obtain rfl : o' = s.os := mv.os
    refine wpAny_pure (wpAny_pure (k h' tk x fun b o e => mv.heap b o (fun m => ?_) (Heap.get?_push_of_some _ (Heap.get?_push_of_some _ e))))
    have lt := Heap.lt_size e
    rcases List.mem_cons.mp m with q | m
    · exact Nat.ne_of_lt lt q
    · exact Nat.ne_of_lt (Nat.lt_trans lt big) (List.mem_singleton.mp m)
end
end SM
namespace SM
open PySem PySem.Spec PyProof.Rows
section
variable {prog : Program} {w : World} {A : Around} {E : Value → Shared → Prop} {s : Shared}
/-- set(xs), xs a list of texts, no two alike -/
theorem setTexts {l : Addr} {items : Array Value} {all : List Str} {Q : Value → Shared → Prop} (calm : A.handled = none) (hl : s.heap.IsList l items) (hi : StrsAre items.toList all) (nd : all.Nodup) (room : all.length + 1 < scanBound)
    (k : ∀ h' tk, TextSet prog w h' s.heap.objs.size all → (∀ b o, s.heap.get? b = some o → h'.get? b = some o) → Q (.ref s.heap.objs.size) { s with heap := h', toks := tk }) :
    wpAny (model prog w) A (call (.type "set") [.ref l]) Q E s := by
  obtain ⟨c, tl, p1⟩ := PySem.F.called_set.mro
  have p2 := PySem.F.called_set.made
  have p3 := PySem.F.called_set.sub
  have p4 := PySem.F.called_set.notType
  have p5 := PySem.F.called_set.canCreate
  have p6 := PySem.F.typeCall_set_1 (.ref l)
  have p7 := PySem.F.called_set.init.lookup
  refine wpAny_call (codeAny_of_tree (wpAny_pure ⟨Code.quiet_builtin _ (by decide +kernel), codeAny_builtin PySem.F.entry_type_call (by
    rw [Around.under_plain (weight_type_call_type "set" [.ref l] []) rfl]
    repeat (any_goals (first | assumption | wp_step))
    refine codeAny_mono (code_set_new_1 (.ref l) (E := E) (Q₁ := fun o u => ∃ led, o = .ref s.heap.objs.size ∧ u = { s with heap := s.heap.push (bareSet led) }) fun led => ⟨led, rfl, rfl⟩) fun r u hr => ?_
    match r, hr with
    | .error _, hr => exact hr
    | .ok (.ret _), ⟨led, e1, e2⟩ =>
      subst e1 e2
      have ty : Shared.TypeIs { s with heap := s.heap.push (bareSet led) } (.ref s.heap.objs.size) "set" := ⟨_, Heap.get?_push_size _ rfl, rfl⟩
      have p8 := PySem.F.called_set.init.bind (.ref s.heap.objs.size)
      repeat (any_goals (first | assumption | wp_step))
      refine fillTexts (by simp [calm]) led hl hi nd room fun h' tk x old => ?_
      repeat (any_goals (first | assumption | wp_step))
      exact k h' tk x old
    | .ok .next, hr => exact hr.elim
    | .ok .brk, hr => exact hr.elim
    | .ok .cont, hr => exact hr.elim)⟩))
end
end SM
/-! Part U: len(set(names)), no two alike; what is joined by lines. -/
namespace SM
open PySem PySem.Spec PyProof.Rows L2
section
variable {X : Cx}
/-- len(set(xs)), xs a list of texts, no two alike -/
def tLenSetN (K : PySem.W.Frag) (ta : TE) : TE := fun σ H Q => ta σ H fun x H1 => ∃ l, ∃ xs : List Str, x = .ref l ∧ SqL K H1 l (xs.map V.str) ∧ xs.Nodup ∧ xs.length + 1 < scanBound ∧ Q (.int xs.length) H1
theorem pe_lenSetN {a : Expr} {ta : TE} {p p2 q pos : Pos} (hc : X.calm = true) (hg : Gl X "len") (hm : X.mg "len" = none) (hg2 : Gl X "set") (hm2 : X.mg "set" = none) (ha : PE X a ta)
    (na : starEach [a] X.env = (false, eval a X.env) :: starEach [] X.env := by rfl) : PE X (.Call (.Name "len" p) [.Call (.Name "set" p2) [a] [] q] [] pos) (tLenSetN X.K ta) := by
  refine ⟨fun pins s σ H Q I h => Call_ (ld_blt I hg hm boot_len ?_)⟩
  refine PyProof.Rows.callWith_builtin1 (PyProof.Rows.args_cons ?_ rfl) rfl rfl
  refine Call_ (ld_blt I hg2 hm2 boot_set (PyProof.Rows.callWith_type1 (PyProof.Rows.args_cons (thn (ha.run pins s σ H _ I h) fun v s1 ⟨x, H1, I1, r1, q1⟩ => PyProof.Rows.args_nil ?_) na) na rfl))
  obtain ⟨l, xs, rfl, hq, nd, room, q1⟩ := q1
  cases r1
  obtain ⟨its, r, pl, hz⟩ := I1.list hq
  refine setTexts (I1.ok.hd hc) pl.isList (strsAre_of r) nd room fun h' tk hS old => PyProof.Rows.args_nil ?_
  obtain ⟨o, es, ep, t, ho, hex, hd, _, _, _, hf, hn⟩ := hS
  have I2 : Inv X pins σ H1 { s1 with heap := h', toks := tk } := I1.kept old
  exact call_len_set ho hex hd hf (by
    rw [List.length_map] at hz
    have : sizeLine < 9223372036854775808 := by decide +kernel
    rw [hn]
    omega) ⟨.int xs.length, H1, I2.tok _, ⟨_, by rw [hn]⟩, q1⟩
end
end SM
namespace SM
open PySem PySem.Spec PyProof.Rows L2
section
variable {J : It} {n : Nat} {G : Hp → Prop} {Y : Nat → Hp → V → Hp → Prop}
/-- a dict's comprehension over what is walked -/
theorem dc_it (w : Walk J n G Y) {g : TG} {tt : TT} {tk tv : TE} {vs : List Nat} {σ : L2.St} {H1 : Hp} {D : Addr} {Qd : Hp → Prop} (Pv : Nat → Hp → Prop) (h0 : Pv 0 (upd H1 D (.dK []))) (hG : ∀ i H, i ≤ n → Pv i H → G H)
    (hs : ∀ i x H H', i < n → Pv i H → Y i H x H' → g x (wipe σ vs) H' fun σ2 H2 => wipe σ2 vs = wipe σ vs ∧ tt σ2 H2 fun b H3 =>
      if b = true then tk σ2 H3 fun y H4 => tv σ2 H4 fun z H5 => ∃ kvs k, y = kV k ∧ H5 D = some (.dK kvs) ∧ kvs.length < sizeLine ∧ Pv (i + 1) (upd H5 D (.dK (putK kvs k z))) else Pv (i + 1) H3) (hd : ∀ H, Pv n H → Qd H) :
    ∃ W : Nat → Nat → Hp → Prop, (∃ m, W 0 m (upd H1 D (.dK []))) ∧ ∀ i m H, W i m H →
      (J.stop i H ∧ Qd H) ∨ (J.go i H ∧ ∃ Nx : Hp → Prop, (∀ H', Nx H' → ∃ m', m' < m ∧ W (i + 1) m' H') ∧ ∀ x H', J.yld i H x H' → g x (wipe σ vs) H' fun σ2 H2 => wipe σ2 vs = wipe σ vs ∧ tt σ2 H2 fun b H3 =>
        if b = true then tk σ2 H3 fun y H4 => tv σ2 H4 fun z H5 => ∃ kvs k, y = kV k ∧ H5 D = some (.dK kvs) ∧ kvs.length < sizeLine ∧ Nx (upd H5 D (.dK (putK kvs k z))) else Nx H3) := by
  refine ⟨fun i m H => m + i = n ∧ Pv i H, ⟨n, rfl, h0⟩, ?_⟩
  rintro i m H ⟨hm, p⟩
  rcases Nat.lt_or_ge i n with lt | ge
  · exact .inr ⟨w.goes i H lt (hG i H (Nat.le_of_lt lt) p), Pv (i + 1), fun H' p' => ⟨m - 1, by omega, by omega, p'⟩, fun x H' y => hs i x H H' lt p (w.yields i H x H' lt (hG i H (Nat.le_of_lt lt) p) y)⟩
  · obtain rfl : i = n := by omega
    exact .inl ⟨w.stops H (hG i H (Nat.le_refl _) p), hd H p⟩
end
/-! ### what is joined -/
/-- what a room's lead along a line is: the line and the room beyond -/
def lead (S : LS) (shut : List Str) (r l : Str) : Option (Str × Str) := (look S.lines l).bind fun e => if l ∈ shut then none else if e.1 = r then some (l, e.2.1) else if e.2.1 = r then some (l, e.1) else none
def leadsTo (S : LS) (shut ls : List Str) (r : Str) : List (Str × Str) := ls.filterMap (lead S shut r)
/-- rooms reached from xs by leads f -/
inductive Rch (f : Str → List (Str × Str)) (xs : List Str) : Str → Prop where
  | base {z : Str} : z ∈ xs → Rch f xs z
  | step {z : Str} {p : Str × Str} : Rch f xs z → p ∈ f z → Rch f xs p.2
theorem Rch.closed {f : Str → List (Str × Str)} {xs fs : List Str} (a : ∀ x ∈ xs, x ∈ fs) (c : ∀ z ∈ fs, ∀ p ∈ f z, p.2 ∈ fs) {z : Str} (h : Rch f xs z) : z ∈ fs := by
  induction h with
  | base m => exact a _ m
  | step _ m ih => exact c _ ih _ m
theorem Srt.same {ys zs xs ws : List Str} (a : Srt ys xs) (b : Srt zs ws) (n : xs.Nodup) (m : ws.Nodup) (e : ∀ z, z ∈ xs ↔ z ∈ ws) : ys = zs :=
  a.one ⟨b.1.trans ((List.perm_ext_iff_of_nodup m n).mpr fun z => (e z).symm), b.2⟩
/-- two rooms at one open line -/
def Beside (S : LS) (shut : List Str) (a b : Str) : Prop := ∃ e ∈ S.lines, e.1 ∉ shut ∧ ((e.2.1 = a ∧ e.2.2.1 = b) ∨ (e.2.2.1 = a ∧ e.2.1 = b))
theorem look_iff {α : Type} {tab : List (Str × α)} (n : (keys tab).Nodup) {k : Str} {a : α} : look tab k = some a ↔ (k, a) ∈ tab := by
  induction tab with
  | nil => exact ⟨(fun e => by cases e), (fun m => by cases m)⟩
  | cons p r ih =>
    have n' : (keys r).Nodup ∧ p.1 ∉ keys r := by
      have z : (p.1 :: keys r).Nodup := n
      exact ⟨(List.nodup_cons.mp z).2, (List.nodup_cons.mp z).1⟩
    by_cases e : p.1 = k
    · rw [look_pos e]
      constructor
      · intro q
        cases q
        cases e
        exact .head _
      · intro m
        rcases List.mem_cons.mp m with q | q
        · rw [← q]
        · exact absurd (List.mem_map_of_mem (f := (·.1)) q) (by rw [← e]; exact n'.2)
    · rw [look_neg e, ih n'.1]
      constructor
      · exact fun m => .tail _ m
      · intro m
        rcases List.mem_cons.mp m with q | q
        · exact absurd (by rw [← q]) e
        · exact q
theorem mem_leads {S : LS} (o : S.Ok) {shut ls : List Str} (al : ∀ l ∈ keys S.lines, l ∈ ls) {a b : Str} : (∃ l, (l, b) ∈ leadsTo S shut ls a) ↔ Beside S shut a b := by
  constructor
  · rintro ⟨l, m⟩
    obtain ⟨l', hl, e⟩ := List.mem_filterMap.mp m
    unfold lead at e
    cases hk : look S.lines l' with
    | none => rw [hk] at e; cases e
    | some q =>
      rw [hk] at e
      have e : (if l' ∈ shut then none else if q.1 = a then some (l', q.2.1) else if q.2.1 = a then some (l', q.1) else none) = some (l, b) := e
      have mm := (look_iff o.lN).mp hk
      by_cases h1 : l' ∈ shut
      · rw [if_pos h1] at e; cases e
      rw [if_neg h1] at e
      by_cases h2 : q.1 = a
      · rw [if_pos h2] at e
        cases e
        exact ⟨_, mm, h1, .inl ⟨h2, rfl⟩⟩
      rw [if_neg h2] at e
      by_cases h3 : q.2.1 = a
      · rw [if_pos h3] at e
        cases e
        exact ⟨_, mm, h1, .inr ⟨h3, rfl⟩⟩
      rw [if_neg h3] at e
      cases e
  · rintro ⟨e, m, h1, h2⟩
    refine ⟨e.1, List.mem_filterMap.mpr ⟨e.1, al _ (List.mem_map_of_mem m), ?_⟩⟩
    unfold lead
    rw [(look_iff o.lN).mpr (show (e.1, e.2) ∈ S.lines from m)]
    show (if e.1 ∈ shut then none else if e.2.1 = a then some (e.1, e.2.2.1) else if e.2.2.1 = a then some (e.1, e.2.1) else none) = some (e.1, b)
    rw [if_neg h1]
    rcases h2 with ⟨h3, h4⟩ | ⟨h3, h4⟩
    · rw [if_pos h3, h4]
    · have ne : ¬ e.2.1 = a := fun z => (o.lI e m).2.2.1 (z.trans h3.symm)
      rw [if_neg ne, if_pos h3, h4]
theorem leadsTo_snoc {S : LS} {shut ls : List Str} {l r : Str} : leadsTo S shut (ls ++ [l]) r = leadsTo S shut ls r ++ (lead S shut r l).toList := by
  unfold leadsTo
  rw [List.filterMap_append]
  cases h : lead S shut r l <;> simp [h]
theorem leadsTo_len {S : LS} {shut ls : List Str} {r : Str} : (leadsTo S shut ls r).length ≤ ls.length := List.length_filterMap_le _ _
/-- a key once more -/
def addS (fs : List Str) (k : Str) : List Str := if k ∈ fs then fs else fs ++ [k]
theorem mem_addS {fs : List Str} {k z : Str} : z ∈ addS fs k ↔ z ∈ fs ∨ z = k := by
  unfold addS
  by_cases h : k ∈ fs
  · rw [if_pos h]
    exact ⟨.inl, fun x => x.elim id fun e => e ▸ h⟩
  · rw [if_neg h]
    simp
theorem addS_nodup {fs : List Str} {k : Str} (n : fs.Nodup) : (addS fs k).Nodup := by
  unfold addS
  by_cases h : k ∈ fs
  · rw [if_pos h]
    exact n
  · rw [if_neg h]
    exact List.nodup_append.mpr ⟨n, by simp, fun a ha b hb e => h (by rw [← List.mem_singleton.mp hb, ← e]; exact ha)⟩
theorem Kr.hold {k : Str} : ∀ {kvs : List (Key × V)} {fs : List Str}, Kr TrueG kvs (uT fs) → Kr TrueG (kvs.map fun kv => if kv.1 = Sum.inr k then (kv.1, V.bl true) else kv) (uT fs)
  | _, [], .nil => .nil
  | p :: ps, f :: fs, .cons h t => by
    refine .cons ?_ (Kr.hold t)
    show (if p.1 = Sum.inr k then (p.1, V.bl true) else p).1 = Sum.inr f ∧ (if p.1 = Sum.inr k then (p.1, V.bl true) else p).2 = .bl true
    by_cases e : p.1 = Sum.inr k
    · rw [if_pos e]
      exact ⟨h.1, rfl⟩
    · rw [if_neg e]
      exact h
theorem Kr.add {k : Str} {kvs : List (Key × V)} {fs : List Str} (h : Kr TrueG kvs (uT fs)) : Kr TrueG (putK kvs (Sum.inr k) (.bl true)) (uT (addS fs k)) := by
  unfold addS
  by_cases m : k ∈ fs
  · rw [if_pos m]
    unfold putK
    rw [valV_any, h.has, uT_look, decide_eq_true m, if_pos rfl]
    exact h.hold
  · rw [if_neg m, ← uT_snoc]
    exact h.put (uT_none.mpr m) rfl
theorem Kr.uT_names {kvs : List (Key × V)} {fs : List Str} (h : Kr TrueG kvs (uT fs)) : kvs.map (·.1) = fs.map Sum.inr := by
  rw [h.names, keys_uT]
theorem Kr.uT_keys {kvs : List (Key × V)} {fs : List Str} (h : Kr TrueG kvs (uT fs)) : (kvs.map fun kv => kV kv.1) = fs.map V.str := by
  have e := h.uT_names
  rw [show (kvs.map fun kv => kV kv.1) = (kvs.map (·.1)).map kV by rw [List.map_map]; rfl, e, List.map_map]
  rfl
/-- a list of pairs -/
def PairsAt (H : Hp) (g : Addr) (ps : List (Str × Str)) : Prop := ∃ ts : List Addr, H g = some (.lst (ts.map V.ref)) ∧ Paired (fun t (p : Str × Str) => H t = some (.tup [.str p.1, .str p.2])) ts ps
/-- the leads of the rooms rs -/
def LeadsAt (H : Hp) (a : Addr) (rs : List Str) (f : Str → List (Str × Str)) : Prop := ∃ g : Str → Addr, H a = some (.dK (rs.map fun r => (Sum.inr r, V.ref (g r)))) ∧ (∀ r ∈ rs, ∀ s ∈ rs, g r = g s → r = s) ∧ (∀ r ∈ rs, PairsAt H (g r) (f r))
theorem Paired.mono {α β : Type} {R R' : α → β → Prop} (i : ∀ a b, R a b → R' a b) : ∀ {xs : List α} {ys : List β}, Paired R xs ys → Paired R' xs ys
  | _, _, .nil => .nil
  | _, _, .cons h t => .cons (i _ _ h) (Paired.mono i t)
theorem PairsAt.same {H H' : Hp} {g : Addr} {ps : List (Str × Str)} (h : PairsAt H g ps) (s : Same H H') : PairsAt H' g ps :=
  let ⟨ts, a, b⟩ := h
  ⟨ts, s _ _ a, Paired.mono (fun _ _ e => s _ _ e) b⟩
theorem LeadsAt.same {H H' : Hp} {a : Addr} {rs : List Str} {f : Str → List (Str × Str)} (h : LeadsAt H a rs f) (s : Same H H') : LeadsAt H' a rs f :=
  let ⟨g, x, y, z⟩ := h
  ⟨g, s _ _ x, y, fun r m => (z r m).same s⟩
theorem valV_map {g : Str → V} : ∀ {rs : List Str} {r : Str}, r ∈ rs → valV (rs.map fun r => ((Sum.inr r : Key), g r)) (Sum.inr r) = some (g r)
  | s :: rs, r, m => by
    by_cases e : s = r
    · subst e
      rw [List.map_cons, valV_pos rfl]
    · rw [List.map_cons, valV_neg fun z => e (Sum.inr.inj z)]
      rcases List.mem_cons.mp m with q | q
      · exact absurd q.symm e
      · exact valV_map q
/-- a pair more, at one room -/
theorem LeadsAt.push {H : Hp} {a : Addr} {rs : List Str} {f : Str → List (Str × Str)} {g : Str → Addr} (x : H a = some (.dK (rs.map fun r => (Sum.inr r, V.ref (g r))))) (y : ∀ r ∈ rs, ∀ s ∈ rs, g r = g s → r = s) (z : ∀ r ∈ rs, PairsAt H (g r) (f r))
    {r : Str} (m : r ∈ rs) {ts : List V} (e : H (g r) = some (.lst ts)) {t : Addr} {p : Str × Str} (ht : H t = some (.tup [.str p.1, .str p.2])) : 
    (upd H (g r) (.lst (ts ++ [.ref t]))) a = some (.dK (rs.map fun r => (Sum.inr r, V.ref (g r)))) ∧ (∀ s ∈ rs, PairsAt (upd H (g r) (.lst (ts ++ [.ref t]))) (g s) (if s = r then f s ++ [p] else f s)) := by
  have na : a ≠ g r := fun w => by rw [w, e] at x; cases x
  refine ⟨(upd_ne na).trans x, fun s ms => ?_⟩
  obtain ⟨us, h1, h2⟩ := z s ms
  have keep : ∀ b (xs : List V), H b = some (.tup xs) → (upd H (g r) (.lst (ts ++ [.ref t]))) b = some (.tup xs) := fun b xs h => (upd_ne fun w => by rw [w, e] at h; cases h).trans h
  by_cases q : s = r
  · subst q
    rw [if_pos rfl]
    rw [h1] at e
    cases e
    refine ⟨us ++ [t], ?_, ?_⟩
    · rw [upd_same, List.map_append]
      rfl
    · exact Paired.snoc (Paired.mono (fun _ _ h => keep _ _ h) h2) (keep _ _ ht)
  · rw [if_neg q]
    have ne : g s ≠ g r := fun w => q (y s ms r m w)
    exact ⟨us, (upd_ne ne).trans h1, Paired.mono (fun _ _ h => keep _ _ h) h2⟩
end SM
/-! Part Y: what is promised of the defs that reach; only of good arguments. -/
namespace SM
open PySem PySem.Spec PyProof.Rows L2
section
variable (L : Addr)
def swOf (S : LS) : List Str := keys (S.lines.filter fun e => decide (0 < e.2.2.2))
def spAreNamesG : Sp := fun vs H Q _ => ∃ (l : Addr) (xs : List Str), vs = [.ref l] ∧ H l = some (.lst (xs.map V.str)) ∧ xs.Nodup ∧ xs.length ≤ 60 ∧ (∀ x ∈ xs, okName x = true) ∧ ∀ H', Same H H' → Q (.bl true) H'
def spStretchG : Sp := fun vs H Q _ => ∃ (l : Addr) (xs : List Str), vs = [.ref l] ∧ H l = some (.lst (xs.map V.str)) ∧ xs.Nodup ∧ 1 ≤ xs.length ∧ xs.length ≤ 24 ∧ (∀ x ∈ xs, okName x = true) ∧ ∀ H', Same H H' → Q (.bl true) H'
def spSwitchesIn : Sp := fun vs H Q _ => ∃ (A : LA) (S : LS), vs = [.ref A.p] ∧ LayAt L H A S ∧ S.Ok ∧ ∀ (H' : Hp) (p : Addr) (ys : List Str), Srt ys (swOf S) → Same H H' → H p = none → H' p = some (.lst (ys.map V.str)) → Q (.ref p) H'
def spBesideG : Sp := fun vs H Q _ => ∃ (a b : Addr) (xs ys : List Str), vs = [.ref a, .ref b] ∧ H a = some (.lst (xs.map V.str)) ∧ H b = some (.lst (ys.map V.str)) ∧ (∀ x ∈ xs, x ∈ ys) ∧ ∀ H', Same H H' → Q .non H'
def spHasG (f : LS → List Str) : Sp := fun vs H Q _ => ∃ (A : LA) (S : LS) (a : Addr) (xs : List Str), vs = [.ref A.p, .ref a] ∧ LayAt L H A S ∧ S.Ok ∧ H a = some (.lst (xs.map V.str)) ∧ (∀ x ∈ xs, x ∈ f S) ∧ ∀ H', Same H H' → Q .non H'
def spLeadsOf : Sp := fun vs H Q _ => ∃ (A : LA) (S : LS) (a : Addr) (sh : List Str), vs = [.ref A.p, .ref a] ∧ LayAt L H A S ∧ S.Ok ∧ H a = some (.lst (sh.map V.str)) ∧
  ∀ (H' : Hp) (p : Addr) (rs ls : List Str), Srt rs S.rooms → Srt ls (keys S.lines) → Same H H' → H p = none → LeadsAt H' p rs (leadsTo S sh ls) → Q (.ref p) H'
def spReached : Sp := fun vs H Q _ => ∃ (a b : Addr) (rs xs : List Str) (f : Str → List (Str × Str)), vs = [.ref a, .ref b] ∧ LeadsAt H a rs f ∧ H b = some (.lst (xs.map V.str)) ∧ xs.Nodup ∧ (∀ x ∈ xs, x ∈ rs) ∧ rs.length ≤ 24 ∧ (∀ r ∈ rs, ∀ p ∈ f r, p.2 ∈ rs) ∧
  ∀ (H' : Hp) (p : Addr) (zs ys : List Str), zs.Nodup → (∀ z, z ∈ zs ↔ Rch f xs z) → Srt ys zs → Same H H' → H p = none → H' p = some (.lst (ys.map V.str)) → Q (.ref p) H'
structure Asks (H : Hp) (A : LA) (S : LS) (a b : Addr) (sh xs : List Str) : Prop where
  lay : LayAt L H A S
  ok : S.Ok
  ha : H a = some (.lst (sh.map V.str))
  hb : H b = some (.lst (xs.map V.str))
  na : sh.Nodup
  nb : xs.Nodup
  la : sh.length ≤ 60
  lb : 1 ≤ xs.length
  sa : ∀ x ∈ sh, x ∈ swOf S
  sb : ∀ x ∈ xs, x ∈ S.rooms
def spCheckG : Sp := fun vs H Q _ => ∃ (A : LA) (S : LS) (a b : Addr) (sh xs : List Str), vs = [.ref A.p, .ref a, .ref b] ∧ Asks L H A S a b sh xs ∧ ∀ H', Same H H' → Q .non H'
def spSideOf : Sp := fun vs H Q _ => ∃ (A : LA) (S : LS) (a b : Addr) (sh xs : List Str), vs = [.ref A.p, .ref a, .ref b] ∧ Asks L H A S a b sh xs ∧
  ∀ (H' : Hp) (p : Addr) (ls zs ys : List Str), Srt ls (keys S.lines) → zs.Nodup → (∀ z, z ∈ zs ↔ Rch (leadsTo S sh ls) xs z) → Srt ys zs → Same H H' → H p = none → H' p = some (.lst (ys.map V.str)) → Q (.ref p) H'
theorem nodup_len {α : Type} [DecidableEq α] : ∀ {xs ys : List α}, xs.Nodup → (∀ x ∈ xs, x ∈ ys) → xs.length ≤ ys.length
  | [], _, _, _ => Nat.zero_le _
  | x :: t, ys, n, s => by
    obtain ⟨n1, n2⟩ := List.nodup_cons.mp n
    have m := s x (.head _)
    have ih := nodup_len (ys := ys.erase x) n2 fun y hy => (List.mem_erase_of_ne fun e : y = x => n1 (by rw [← e]; exact hy)).mpr (s y (.tail _ hy))
    rw [List.length_erase_of_mem m] at ih
    have := List.length_pos_of_mem m
    rw [List.length_cons]
    omega
theorem Asks.same {H H' : Hp} {A : LA} {S : LS} {a b : Addr} {sh xs : List Str} (h : Asks L H A S a b sh xs) (s : Same H H') : Asks L H' A S a b sh xs :=
  ⟨h.lay.same s, h.ok, s _ _ h.ha, s _ _ h.hb, h.na, h.nb, h.la, h.lb, h.sa, h.sb⟩
theorem swOf_sub {S : LS} {x : Str} (h : x ∈ swOf S) : x ∈ keys S.lines := by
  obtain ⟨e, m, rfl⟩ := List.mem_map.mp h
  exact List.mem_map_of_mem (List.mem_filter.mp m).1
end
end SM
namespace SM
open PySem PySem.Spec PyProof.Rows L2
theorem scan60 {α : Type} {xs : List α} (h : xs.length ≤ 60) : xs.length + 1 < scanBound := Nat.lt_of_le_of_lt (Nat.succ_le_succ h) (by decide +kernel)
end SM
namespace SM
open PySem PySem.Spec PyProof.Rows L2
theorem ix_tupK {X : Cx} {K : PySem.W.Frag} (h : X.K = K) : IxR X (rIxT K) := by
  subst h
  exact ix_tup
end SM
namespace SM
open PySem PySem.Spec PyProof.Rows L2
theorem look_mem' {α : Type} {tab : List (Str × α)} {k : Str} {a : α} (e : look tab k = some a) : (k, a) ∈ tab := look_mem e
theorem sw_iff {S : LS} (o : S.Ok) {z : Str} {e : LineV} (el : look S.lines z = some e) : z ∈ swOf S ↔ 0 < e.2.2 := by
  constructor
  · intro h
    obtain ⟨q, m, rfl⟩ := List.mem_map.mp h
    obtain ⟨m1, m2⟩ := List.mem_filter.mp m
    have w := (look_iff o.lN).mpr (show (q.1, q.2) ∈ S.lines from m1)
    rw [el] at w
    cases w
    exact of_decide_eq_true m2
  · intro h
    exact List.mem_map.mpr ⟨(z, e), List.mem_filter.mpr ⟨(look_iff o.lN).mp el, decide_eq_true h⟩, rfl⟩
theorem sw_nodup {S : LS} (o : S.Ok) : (swOf S).Nodup := (List.filter_sublist.map _).nodup o.lN
theorem rising_of : ∀ {l : List Str} {p : Str}, (p :: l).Pairwise leS → risingS p l = true
  | [], _, _ => rfl
  | x :: r, p, h => by
    obtain ⟨h1, h2⟩ := List.pairwise_cons.mp h
    show (!ltCps x.cps.toList p.cps.toList && risingS x r) = true
    rw [rising_of h2, show ltCps x.cps.toList p.cps.toList = false from h1 x (.head _)]
    rfl
theorem risingS_sub : ∀ {l : List Str}, l.Pairwise leS → sortedS l = true
  | [], _ => rfl
  | _ :: _, h => rising_of h
theorem sw_srt {S : LS} (o : S.Ok) {ls : List Str} (h : Srt ls (keys S.lines)) : Srt (ls.filter fun l => decide (l ∈ swOf S)) (swOf S) := by
  have nl : ls.Nodup := h.1.nodup_iff.mpr o.lN
  refine ⟨(List.perm_ext_iff_of_nodup (nl.filter _) (sw_nodup o)).mpr fun z => ?_, risingS_sub ((sorted_pw h.2).filter _)⟩
  rw [List.mem_filter]
  constructor
  · exact fun q => of_decide_eq_true q.2
  · exact fun q => ⟨h.1.mem_iff.mpr (swOf_sub q), decide_eq_true q⟩
end SM
namespace SM
open PySem PySem.Spec PyProof.Rows L2
theorem valV_none {g : Str → V} : ∀ {rs : List Str} {r : Str}, r ∉ rs → valV (rs.map fun r => ((Sum.inr r : Key), g r)) (Sum.inr r) = none
  | [], _, _ => rfl
  | s :: rs, r, m => by
    rw [List.map_cons, valV_neg fun z => m (by rw [← Sum.inr.inj z]; exact .head _)]
    exact valV_none fun w => m (.tail _ w)
end SM
namespace SM
open PySem PySem.Spec PyProof.Rows L2
section
variable {X : Cx}
/-- y = {k: v for ..}, y a name that no comprehension reads -/
theorem ps_setDc {i : Nat} {y : Str} {py : Pos} {kx vx tg iter : Expr} {ifs : List Expr} {scope : Scope} {own : List (Str × Nat)} {pos spos : Pos} {wi : TI} {g : TG} {tt : TT} {tk tv : TE} (hc : X.calm = true) (hN : X.N.Nodup) (hy : X.N[i]? = some y) (hyl : X.env.scope.names.lookup y = some .local)
    (hsw : swapsWith (.DictComp kx vx [⟨tg, iter, ifs, 0⟩] scope pos) (some (.Name y py)) spos.line X.env = pure true) (hi : PI X tg iter wi) (ok : BlkOk X.N X.env.scope scope own)
    (hg : ∀ (s : Shared) (H : Hp) (C : Addr) (cl : List (Str × Addr)) (fp : List Addr), PG (X.blk s H scope (compEnvC scope cl C X.env) fp) tg g) (ht : ∀ (s : Shared) (H : Hp) (C : Addr) (cl : List (Str × Addr)) (fp : List Addr), PTs (X.blk s H scope (compEnvC scope cl C X.env) fp) ifs tt)
    (hk : ∀ (s : Shared) (H : Hp) (C : Addr) (cl : List (Str × Addr)) (fp : List Addr), PE (X.blk s H scope (compEnvC scope cl C X.env) fp) kx tk)
    (he : ∀ (s : Shared) (H : Hp) (C : Addr) (cl : List (Str × Addr)) (fp : List Addr), PE (X.blk s H scope (compEnvC scope cl C X.env) fp) vx tv) (hs : ∀ x, foldedSetIterable iter X.env x = pure x := by intro _; rfl) :
    PS X (.Assign [.Name y py] (.DictComp kx vx [⟨tg, iter, ifs, 0⟩] scope pos) spos) (tAsg (tDc wi g tt tk tv (own.map (·.2))) (gName i)) := by
  refine ⟨fun pins s σ H D I h => ?_⟩
  rw [exec_Assign_Name_used _ _ _ _ hsw]
  refine wpAny_bind (wpAny_standAt (wpAny_bind ?_))
  show wpAny _ X.A (do let _ ← comprehension (.DictComp kx vx [⟨tg, iter, ifs, 0⟩] scope pos) scope X.env (firstIterPos [⟨tg, iter, ifs, 0⟩] pos) newDict false (eval iter X.env) (some (assign (.Name y py) X.env))) _ _ s
  have h : tDc wi g tt tk tv (own.map (·.2)) σ H (fun x H1 => gName i x σ H1 D.nx) := h
  refine wpAny_bind (thn (dc_core (Qf := fun _ s' => SP X pins D .next s') hc hN I hi ok hg ht hk he hs h fun L C s' m H' I' q hn f => ?_) fun _ s' hq => wpAny_pure (wpAny_pure hq))
  obtain ⟨f0, f1, f2, f3, f4, f5⟩ := f
  show wpAny _ _ (assign (.Name y py) X.env (.ref L)) _ _ _
  refine wpAny_assign_Name (store_ok2 (v := V.ref L) I' hN hy (.inl hyl) rfl (fun s2 I2 ⟨a, sb, ha⟩ => ⟨m, hn.sameBut sb ?_, fun h3 sb3 => ⟨_, H', I2.turned (t' := s2.toks) (fun b o hb e => (sb3.2 b hb).trans e) f0 f1 f3 f4 f5, q⟩⟩) (.inr hyl))
  rcases ha with z | z
  · rw [z]
    exact f1
  · exact fun e => f4 y a z e.symm
theorem swD_true {kx vx : Expr} {gs : List Comprehension} {scope : Scope} {pos py : Pos} {y : Str} {l : Nat} {env : Env} (hk : env.scope.kind = .function) (hy : env.scope.names.lookup y = some .local) (hl : (py.line == pos.line) = true)
    (ha : (scope.names.any fun (n, k) => n == y && (k == .local || k == .cell)) = false) : swapsWith (.DictComp kx vx gs scope pos) (some (.Name y py)) l env = pure true := by
  have ky : env.kindOf y = some .local := hy
  have hb : env.blockKind = .function := by unfold Env.blockKind; rw [hk]; rfl
  unfold swapsWith
  simp only [hb, ky, ha, Expr.pos, hl]
  rfl
end
end SM
namespace SM
open PySem
theorem lead_shut {S : LS} {sh : List Str} {r l : Str} (h : l ∈ sh) : lead S sh r l = none := by
  unfold lead
  cases look S.lines l with
  | none => rfl
  | some e => exact if_pos h
theorem lead_one {S : LS} {sh : List Str} {l : Str} {e : LineV} (el : look S.lines l = some e) (h : l ∉ sh) : lead S sh e.1 l = some (l, e.2.1) := by
  unfold lead
  rw [el]
  show (if l ∈ sh then none else if e.1 = e.1 then some (l, e.2.1) else _) = _
  rw [if_neg h, if_pos rfl]
theorem lead_other {S : LS} {sh : List Str} {l : Str} {e : LineV} (el : look S.lines l = some e) (h : l ∉ sh) (ne : e.1 ≠ e.2.1) : lead S sh e.2.1 l = some (l, e.1) := by
  unfold lead
  rw [el]
  show (if l ∈ sh then none else if e.1 = e.2.1 then some (l, e.2.1) else if e.2.1 = e.2.1 then some (l, e.1) else none) = _
  rw [if_neg h, if_neg ne, if_pos rfl]
theorem lead_off {S : LS} {sh : List Str} {r l : Str} {e : LineV} (el : look S.lines l = some e) (h1 : e.1 ≠ r) (h2 : e.2.1 ≠ r) : lead S sh r l = none := by
  unfold lead
  rw [el]
  show (if l ∈ sh then none else if e.1 = r then some (l, e.2.1) else if e.2.1 = r then some (l, e.1) else none) = _
  by_cases h : l ∈ sh
  · rw [if_pos h]
  · rw [if_neg h, if_neg h1, if_neg h2]
end SM
namespace SM
open PySem
theorem Paired.at {α β : Type} {R : α → β → Prop} : ∀ {xs : List α} {ys : List β}, Paired R xs ys → ∀ {i : Nat} {x : α}, xs[i]? = some x → ∃ y, ys[i]? = some y ∧ R x y
  | _, _, .nil, _, _, e => nomatch e
  | _, _, .cons h _, 0, _, e => ⟨_, rfl, by cases e; exact h⟩
  | _, _, .cons _ t, i + 1, _, e => Paired.at t (i := i) e
end SM
namespace SM
open PySem
theorem kit_self {K : PySem.W.Frag} {L : Addr} : PySem.W.kitOne K (.ref L) (.ref L) = some true := if_pos (beq_self_eq_true (Value.ref L))
end SM
/-! Part Z: what the reach laws draw. -/
namespace SM
open PySem PySem.Spec PyProof.Rows L2
theorem cutV_take (xs : List V) (i : Nat) : cutV xs none (some (i : Int)) = xs.take i := by
  unfold cutV
  rw [HT.sIx_none, HT.sIx_nat, List.drop_zero, Nat.sub_zero]
  rcases Nat.le_total i xs.length with h | h
  · rw [Nat.min_eq_left h]
  · rw [Nat.min_eq_right h, List.take_length, List.take_of_length_le h]
theorem cutV_drop (xs : List V) (i : Nat) : cutV xs (some (i : Int)) none = xs.drop i := by
  unfold cutV
  rw [HT.sIx_none, HT.sIx_nat]
  rcases Nat.le_total i xs.length with h | h
  · rw [Nat.min_eq_left h, List.take_of_length_le (by rw [List.length_drop]; exact Nat.le_refl _)]
  · rw [Nat.min_eq_right h, List.drop_of_length_le h, List.drop_of_length_le (Nat.le_refl _), List.take_nil]
def spNamesD : Sp := fun vs H Q _ => ∃ (p q : Addr) (n : Int), vs = [.ref p, .int n] ∧ Bag H p q ∧ 0 ≤ n ∧ n ≤ 110 ∧
  ∀ (a : Addr) (ys : List Str) (H' : Hp), H' a = some (.lst (ys.map V.str)) → ys.Nodup → ys.length ≤ n.toNat → (0 < n → 0 < ys.length) → (∀ y ∈ ys, okName y = true) → Bag H' p q → Keep [p] H H' → H a = none → Q (.ref a) H'
/-- two places below n -/
def spEndsL : Sp := fun vs H Q _ => ∃ (p q : Addr) (w n i : Int), vs = [.ref p, .int w, .int n, .int i] ∧ Bag H p q ∧ 0 < n ∧ n ≤ 24 ∧ 0 ≤ i ∧ i ≤ 1000 ∧
  ∀ (t : Addr) (a b : Int) (H' : Hp), H' t = some (.tup [.int a, .int b]) → 0 ≤ a → a < n → 0 ≤ b → b < n → Bag H' p q → Keep [p] H H' → Q (.ref t) H'
end SM
namespace SM
open PySem PySem.Spec PyProof.Rows L2
def spLinesR : Sp := fun vs H Q _ => ∃ (p q a b : Addr) (rs ns : List Str), vs = [.ref p, .ref a, .ref b] ∧ Bag H p q ∧ H a = some (.lst (rs.map V.str)) ∧ H b = some (.lst (ns.map V.str)) ∧ rs.Nodup ∧ 0 < rs.length ∧ rs.length ≤ 24 ∧ ns.Nodup ∧ ns.length ≤ 40 ∧
  ∀ (D : Addr) (H' : Hp) (kvs : List (Key × V)) (ls : List (Str × LineV)), H' D = some (.dK kvs) → Kr (LineG H') kvs ls → (keys ls).Nodup → (∀ x ∈ keys ls, x ∈ ns) → ls.length ≤ ns.length →
    (∀ e ∈ ls, e.2.1 ∈ rs ∧ e.2.2.1 ∈ rs ∧ e.2.1 ≠ e.2.2.1 ∧ okCost e.2.2.2 = true) → Bag H' p q → Keep [p] H H' → H D = none → Q (.ref D) H'
theorem atI_strs {rs : List Str} {v : Int} (h0 : 0 ≤ v) (h1 : v < rs.length) : ∃ z, rs[v.toNat]? = some z ∧ atI (rs.map V.str) v = some (.str z) := by
  have lt : v.toNat < rs.length := by omega
  refine ⟨rs[v.toNat], List.getElem?_eq_getElem lt, ?_⟩
  have e := atI_nat (xs := rs.map V.str) (j := v.toNat) (v := .str rs[v.toNat]) (by rw [List.getElem?_map, List.getElem?_eq_getElem lt]; rfl)
  rw [Int.toNat_of_nonneg h0] at e
  exact e
end SM
namespace SM
open PySem PySem.Spec PyProof.Rows L2
theorem Bag.nd {H : Hp} {p q D : Addr} {kvs : List (Key × V)} (B : Bag H p q) (h : H D = some (.dK kvs)) : p ≠ D ∧ q ≠ D := by
  obtain ⟨a, b, c, ns, B⟩ := B
  exact ⟨ne_of B.top h (by intro w; cases w), ne_of B.low h (by intro w; cases w)⟩
theorem Kr.line {G G' : Hp} {kvs : List (Key × V)} {ls : List (Str × LineV)} {ms : List Addr} (h : Kr (LineG G) kvs ls) (k : Keep ms G G') : Kr (LineG G') kvs ls := h.mono fun _ _ ⟨t, e, ht⟩ => ⟨t, e, k.tup _ _ ht⟩
end SM
namespace SM
open PySem PySem.Spec PyProof.Rows L2
theorem call_len_seqK {X : Cx} {K : PySem.W.Frag} (h : X.K = K) : CallR X (.builtin "len") (fun xs H Q => ∃ p ys, xs = [.ref p] ∧ (SqL K H p ys ∨ SqT K H p ys) ∧ Q (.int ys.length) H) := by
  subst h
  exact call_len_seq
theorem mergeK_new : ∀ {more kvs : List (Key × V)}, (more.map (·.1)).Nodup → (∀ p ∈ more, valV kvs p.1 = none) → mergeK kvs more = kvs ++ more
  | [], kvs, _, _ => (List.append_nil kvs).symm
  | x :: r, kvs, n, h => by
    obtain ⟨n1, n2⟩ := List.nodup_cons.mp n
    show mergeK (putK kvs x.1 x.2) r = kvs ++ x :: r
    rw [putK_new _ (h x (.head _)), mergeK_new n2 fun p m => ?_]
    · rw [List.append_assoc]
      rfl
    · have ne : x.1 ≠ p.1 := fun w => n1 (by show x.1 ∈ r.map (·.1); rw [w]; exact List.mem_map_of_mem m)
      have q := h p (.tail _ m)
      unfold valV at q ⊢
      rw [List.find?_append]
      cases e : kvs.find? (fun kv => decide (kv.1 = p.1)) with
      | none => simp [ne]
      | some v =>
        rw [e] at q
        cases q
/-- a world: what is to be laid -/
structure WAt (H : Hp) (m l d a b : Addr) (S : LS) : Prop where
  top : H m = some (.dK (mtop ⟨m, l, d, false⟩ a b))
  rm : H a = some (.lst (S.rooms.map V.str))
  ln : ∃ kvs, H l = some (.dK kvs) ∧ Kr (LineG H) kvs S.lines
  dr : ∃ kvs, H d = some (.dK kvs) ∧ Kr StrG kvs S.drains
  sc : H b = some (.lst (S.sources.map V.str))
  ok : S.Ok
  ne : 0 < S.rooms.length
  ap : ∀ x ∈ keys S.lines, x ∉ keys S.drains
  mne : m ≠ d ∧ m ≠ l
def spWorld : Sp := fun vs H Q _ => ∃ (p q : Addr), vs = [.ref p] ∧ Bag H p q ∧ ∀ (m l d a b : Addr) (S : LS) (H' : Hp), WAt H' m l d a b S → Bag H' p q → Keep [p] H H' → Q (.ref m) H'
theorem pickM {v : Int} (h0 : 0 ≤ v) (h1 : v < 4) : ∃ y t : Int, atI [V.int 1, V.int 2, V.int 8, V.int 24] v = some (.int y) ∧ atI [V.int 3, V.int 6, V.int 10, V.int 1] v = some (.int t) ∧ 1 ≤ y ∧ 1 ≤ t ∧ t ≤ 10 ∧ y + t ≤ 25 := by
  obtain rfl | rfl | rfl | rfl : v = 0 ∨ v = 1 ∨ v = 2 ∨ v = 3 := by omega
  · exact ⟨1, 3, rfl, rfl, by decide⟩
  · exact ⟨2, 6, rfl, rfl, by decide⟩
  · exact ⟨8, 10, rfl, rfl, by decide⟩
  · exact ⟨24, 1, rfl, rfl, by decide⟩
theorem pickC {v : Int} (h0 : 0 ≤ v) (h1 : v < 4) : ∃ y : Int, atI [V.int 1, V.int 2, V.int 3, V.int 40] v = some (.int y) ∧ 1 ≤ y ∧ y ≤ 40 := by
  obtain rfl | rfl | rfl | rfl : v = 0 ∨ v = 1 ∨ v = 2 ∨ v = 3 := by omega
  · exact ⟨1, rfl, by decide⟩
  · exact ⟨2, rfl, by decide⟩
  · exact ⟨3, rfl, by decide⟩
  · exact ⟨40, rfl, by decide⟩
theorem pickW {v : Int} (h0 : 0 ≤ v) (h1 : v < 4) : ∃ n : Nat, atI [V.int 0, V.int 2, V.int 5, V.int 12] v = some (.int (n : Int)) ∧ n ≤ 12 := by
  obtain rfl | rfl | rfl | rfl : v = 0 ∨ v = 1 ∨ v = 2 ∨ v = 3 := by omega
  · exact ⟨0, rfl, by decide⟩
  · exact ⟨2, rfl, by decide⟩
  · exact ⟨5, rfl, by decide⟩
  · exact ⟨12, rfl, by decide⟩
theorem pickS {v : Int} (h0 : 0 ≤ v) (h1 : v < 4) : ∃ y : Int, atI [V.int 1, V.int 3, V.int 6, V.int 40] v = some (.int y) ∧ 1 ≤ y ∧ y ≤ 40 := by
  obtain rfl | rfl | rfl | rfl : v = 0 ∨ v = 1 ∨ v = 2 ∨ v = 3 := by omega
  · exact ⟨1, rfl, by decide⟩
  · exact ⟨3, rfl, by decide⟩
  · exact ⟨6, rfl, by decide⟩
  · exact ⟨40, rfl, by decide⟩
end SM
namespace SM
open PySem PySem.Spec PyProof.Rows L2
theorem nodup_inr {ds : List (Str × Str)} (n : (keys ds).Nodup) : (ds.map ((fun kv => kv.1) ∘ fun d => ((Sum.inr d.1 : Key), V.str d.2))).Nodup := by
  rw [show (ds.map ((fun kv => kv.1) ∘ fun d => ((Sum.inr d.1 : Key), V.str d.2))) = (keys ds).map Sum.inr by rw [keys, List.map_map]; rfl]
  exact n.map _ fun _ _ h w => h (Sum.inr.inj w)
theorem dict_pairs {K : PySem.W.Frag} {H : Hp} : ∀ {ts : List Addr} {ds : List (Str × Str)}, Paired (fun t (d : Str × Str) => H t = some (.tup [.str d.1, .str d.2])) ts ds → Paired (fun p kv => SqT K H p [kV kv.1, kv.2]) ts (ds.map fun d => ((Sum.inr d.1 : Key), V.str d.2))
  | _, _, .nil => .nil
  | _, _, .cons h t => .cons (SqT.of h) (dict_pairs t)
end SM
namespace SM
open PySem PySem.Spec PyProof.Rows L2
theorem drains_kr : ∀ {ds : List (Str × Str)}, Kr StrG (ds.map fun d => ((Sum.inr d.1 : Key), V.str d.2)) ds
  | [] => .nil
  | _ :: _ => .cons ⟨rfl, rfl⟩ drains_kr
end SM
namespace SM
open PySem PySem.Spec PyProof.Rows L2
theorem Keep.unlock {ms : List Addr} {H G : Hp} {d : Addr} {kvs : List (Key × V)} {od : Obj} (h : H d = some (.dK kvs)) (k : Keep ms (upd H d (.frz od (.dK kvs))) G) (n : d ∉ ms) : Keep ms H (upd G d (.dK kvs)) := by
  have up : ∀ b u, H b = some u → b ≠ d → (upd H d (.frz od (.dK kvs))) b = some u := fun b u e ne => (upd_ne ne).trans e
  refine ⟨fun b u e nb => ?_, fun b xs e => ?_, fun b c x f e => ?_, fun b xs e f => ?_, fun b e => ?_⟩
  · by_cases z : b = d
    · subst z
      rw [upd_same, ← h]
      exact e
    · exact (upd_ne z).trans (k.out b u (up b u e z) nb)
  · have z : b ≠ d := ne_of e h (by intro w; cases w)
    exact (upd_ne z).trans (k.tup b xs (up b _ e z))
  · have z : b ≠ d := ne_of e h (by intro w; cases w)
    exact (upd_ne z).trans (k.ins b c x f (up b _ e z))
  · have z : b ≠ d := ne_of e h (by intro w; cases w)
    exact (upd_ne z).trans (k.flat b xs (up b _ e z) f)
  · by_cases z : b = d
    · rw [z, upd_same] at e
      cases e
    · rw [upd_ne z] at e
      have q := k.has b e
      rw [upd_ne z] at q
      exact q
theorem Keep.lifted {ms : List Addr} {H H1 G : Hp} (s : Same H H1) (f : ∀ b ∈ ms, H b = none) (k : Keep ms H1 G) : Same H G := fun b u e => k.out b u (s b u e) fun m => by
  rw [f b m] at e
  cases e
def spLaid (L : Addr) : Sp := fun vs H Q _ => ∃ (m l d a b : Addr) (S : LS), vs = [.ref m] ∧ WAt H m l d a b S ∧ ∀ (A : LA) (H' : Hp), LayAt L H' A S → Same H H' → (∀ x ∈ A.ms, H x = none) → Q (.ref A.p) H'
theorem WAt.same {H H' : Hp} {m l d a b : Addr} {S : LS} (h : WAt H m l d a b S) (s : Same H H') : WAt H' m l d a b S :=
  ⟨s _ _ h.top, s _ _ h.rm, (let ⟨k, x, y⟩ := h.ln; ⟨k, s _ _ x, y.mono fun _ _ ⟨t, e, w⟩ => ⟨t, e, s _ _ w⟩⟩), (let ⟨k, x, y⟩ := h.dr; ⟨k, s _ _ x, y⟩), s _ _ h.sc, h.ok, h.ne, h.ap, h.mne⟩
end SM
namespace SM
theorem okNew : (⟨[], [], [], []⟩ : LS).Ok := LS.new_ok
end SM
/-! Part Z2: switches, some of them, a stretch. -/
namespace SM
open PySem PySem.Spec PyProof.Rows L2
def spSwitchesL : Sp := fun vs H Q _ => ∃ (m l d a b : Addr) (S : LS), vs = [.ref m] ∧ WAt H m l d a b S ∧ ∀ (r : Addr) (H' : Hp), Same H H' → H r = none → H' r = some (.lst ((swOf S).map V.str)) → Q (.ref r) H'
def spSomeL : Sp := fun vs H Q _ => ∃ (p q a : Addr) (xs : List Str), vs = [.ref p, .ref a] ∧ Bag H p q ∧ H a = some (.lst (xs.map V.str)) ∧ xs.Nodup ∧ xs.length ≤ 64 ∧
  ∀ (r : Addr) (ys : List Str) (H' : Hp), H' r = some (.lst (ys.map V.str)) → ys.Nodup → (∀ y ∈ ys, y ∈ xs) → Bag H' p q → Keep [p] H H' → Q (.ref r) H'
def spStretchL : Sp := fun vs H Q _ => ∃ (p q m l d a b : Addr) (S : LS), vs = [.ref p, .ref m] ∧ Bag H p q ∧ WAt H m l d a b S ∧
  ∀ (r : Addr) (ys : List Str) (H' : Hp), H' r = some (.lst (ys.map V.str)) → ys.Nodup → 1 ≤ ys.length → (∀ y ∈ ys, y ∈ S.rooms) → Bag H' p q → Keep [p] H H' → Q (.ref r) H'
theorem pickZ {v : Int} (h0 : 0 ≤ v) (h1 : v < 4) : ∃ y : Int, atI [V.int 1, V.int 2, V.int 3, V.int 60] v = some (.int y) ∧ 1 ≤ y ∧ y ≤ 60 := by
  obtain rfl | rfl | rfl | rfl : v = 0 ∨ v = 1 ∨ v = 2 ∨ v = 3 := by omega
  · exact ⟨1, rfl, by decide⟩
  · exact ⟨2, rfl, by decide⟩
  · exact ⟨3, rfl, by decide⟩
  · exact ⟨60, rfl, by decide⟩
end SM
namespace SM
open PySem PySem.Spec PyProof.Rows L2
theorem WAt.keep {H H' : Hp} {m l d a b p q : Addr} {S : LS} (h : WAt H m l d a b S) (B : Bag H p q) (k : Keep [p] H H') : WAt H' m l d a b S :=
  ⟨k.out _ _ h.top (by simpa using (B.nd h.top).1.symm), k.flat _ _ h.rm (flat_strs _), (let ⟨kv, x, y⟩ := h.ln; ⟨kv, k.out _ _ x (by simpa using (B.nd x).1.symm), y.line k⟩), (let ⟨kv, x, y⟩ := h.dr; ⟨kv, k.out _ _ x (by simpa using (B.nd x).1.symm), y⟩), k.flat _ _ h.sc (flat_strs _), h.ok, h.ne, h.ap, h.mne⟩
end SM
/-! Part Z3: what is joined, by the law's own way. -/
namespace SM
open PySem PySem.Spec PyProof.Rows L2
inductive RchB (S : LS) (sh xs : List Str) : Str → Prop where
  | base {z : Str} : z ∈ xs → RchB S sh xs z
  | step {a b : Str} : RchB S sh xs a → Beside S sh a b → RchB S sh xs b
theorem RchB.closed {S : LS} {sh xs fs : List Str} (a : ∀ x ∈ xs, x ∈ fs) (c : ∀ z ∈ fs, ∀ b, Beside S sh z b → b ∈ fs) {z : Str} (h : RchB S sh xs z) : z ∈ fs := by
  induction h with
  | base m => exact a _ m
  | step _ m ih => exact c _ ih _ m
theorem rch_same {S : LS} (o : S.Ok) {sh ls xs : List Str} (al : ∀ l ∈ keys S.lines, l ∈ ls) {z : Str} : Rch (leadsTo S sh ls) xs z ↔ RchB S sh xs z := by
  constructor
  · intro h
    induction h with
    | base m => exact .base m
    | step _ m ih => exact .step ih ((mem_leads o al).mp ⟨_, m⟩)
  · intro h
    induction h with
    | base m => exact .base m
    | step _ m ih =>
      obtain ⟨l, w⟩ := (mem_leads o al).mpr m
      exact .step ih w
def spJoinedL : Sp := fun vs H Q _ => ∃ (m l d a b s r : Addr) (S : LS) (sh xs : List Str), vs = [.ref m, .ref s, .ref r] ∧ WAt H m l d a b S ∧ H s = some (.lst (sh.map V.str)) ∧ H r = some (.lst (xs.map V.str)) ∧ xs.Nodup ∧ (∀ x ∈ xs, x ∈ S.rooms) ∧
  ∀ (D : Addr) (H' : Hp) (kvs : List (Key × V)) (fs : List Str), H' D = some (.dK kvs) → Kr TrueG kvs (uT fs) → fs.Nodup → (∀ z ∈ fs, z ∈ S.rooms) → (∀ z, z ∈ fs ↔ RchB S sh xs z) → Same H H' → H D = none → Q (.ref D) H'
theorem true_kr : ∀ {xs : List Str}, Kr TrueG (xs.map fun z => ((Sum.inr z : Key), V.bl true)) (uT xs)
  | [] => .nil
  | _ :: _ => .cons ⟨rfl, rfl⟩ true_kr
theorem true_pairs {K : PySem.W.Frag} {H : Hp} : ∀ {ts : List Addr} {xs : List Str}, Paired (fun t z => H t = some (.tup [.str z, .bl true])) ts xs → Paired (fun p kv => SqT K H p [kV kv.1, kv.2]) ts (xs.map fun z => ((Sum.inr z : Key), V.bl true))
  | _, _, .nil => .nil
  | _, _, .cons h t => .cons (SqT.of h) (true_pairs t)
theorem nodup_true {xs : List Str} (n : xs.Nodup) : ((xs.map fun z => ((Sum.inr z : Key), V.bl true)).map (·.1)).Nodup := by
  rw [List.map_map]
  exact n.map _ fun _ _ h w => h (Sum.inr.inj w)
end SM
/-! Part Z4: live rooms and borders. -/
namespace SM
open PySem PySem.Spec PyProof.Rows L2
section
variable (L : Addr)
def spCheckShut : Sp := fun vs H Q _ => ∃ (A : LA) (S : LS) (a : Addr) (sh : List Str), vs = [.ref A.p, .ref a] ∧ LayAt L H A S ∧ S.Ok ∧ H a = some (.lst (sh.map V.str)) ∧ sh.Nodup ∧ (∀ x ∈ sh, x ∈ swOf S) ∧ ∀ H', Same H H' → Q .non H'
def spLive : Sp := fun vs H Q _ => ∃ (A : LA) (S : LS) (a : Addr) (sh : List Str), vs = [.ref A.p, .ref a] ∧ LayAt L H A S ∧ S.Ok ∧ H a = some (.lst (sh.map V.str)) ∧ sh.Nodup ∧ (∀ x ∈ sh, x ∈ swOf S) ∧
  ∀ (H' : Hp) (p : Addr) (ls zs ys : List Str), Srt ls (keys S.lines) → zs.Nodup → (∀ z, z ∈ zs ↔ Rch (leadsTo S sh ls) S.sources z) → Srt ys zs → Same H H' → H p = none → H' p = some (.lst (ys.map V.str)) → Q (.ref p) H'
/-- just one of the line's ends is among xs -/
def edgeB (S : LS) (xs : List Str) (l : Str) : Bool := match look S.lines l with
  | some e => !decide (V.bl (decide (e.1 ∈ xs)) = V.bl (decide (e.2.1 ∈ xs)))
  | none => false
def spBorder : Sp := fun vs H Q _ => ∃ (A : LA) (S : LS) (a : Addr) (xs : List Str), vs = [.ref A.p, .ref a] ∧ LayAt L H A S ∧ S.Ok ∧ H a = some (.lst (xs.map V.str)) ∧ xs.Nodup ∧ (∀ x ∈ xs, x ∈ S.rooms) ∧
  ∀ (H' : Hp) (p : Addr) (ls : List Str), Srt ls (keys S.lines) → Same H H' → H p = none → H' p = some (.lst ((ls.filter (edgeB S xs)).map V.str)) → Q (.ref p) H'
end
theorem edge_eq {S : LS} {xs : List Str} {l : Str} {e : LineV} (el : look S.lines l = some e) : edgeB S xs l = !decide (V.bl (decide (e.1 ∈ xs)) = V.bl (decide (e.2.1 ∈ xs))) := by
  unfold edgeB
  rw [el]
theorem Rch.mono {f : Str → List (Str × Str)} {xs ys : List Str} (s : ∀ x ∈ xs, x ∈ ys) {z : Str} (h : Rch f xs z) : Rch f ys z := by
  induction h with
  | base m => exact .base (s _ m)
  | step _ m ih => exact .step ih m
end SM
/-! Part Z5: edges, by the law's own way. -/
namespace SM
open PySem PySem.Spec PyProof.Rows L2
def spEdge : Sp := fun vs H Q _ => ∃ (m l d a b r : Addr) (S : LS) (xs : List Str), vs = [.ref m, .ref r] ∧ WAt H m l d a b S ∧ H r = some (.lst (xs.map V.str)) ∧ xs.length ≤ 64 ∧
  ∀ (H' : Hp) (p : Addr) (ls : List Str), Srt ls (keys S.lines) → Same H H' → H p = none → H' p = some (.lst ((ls.filter (edgeB S xs)).map V.str)) → Q (.ref p) H'
theorem rows_fine3 {xss : List (List Str)} (h : ∀ xs ∈ xss, xs.length ≤ 40 ∧ ∀ x ∈ xs, okName x = true) (l : xss.length ≤ 3) : Fine (rowsD xss) :=
  (Sm.lst (SmAll.map (k := 1) (w := 680) rowD fun xs hx => (names_sm (h xs hx).2).mono (Nat.le_refl _) (by have := (h xs hx).1; omega))).fine (by decide) (by rw [List.length_map]; omega)
theorem edge_len {S : LS} {xs : List Str} {l : Str} {e : LineV} (el : look S.lines l = some e) : edgeB S xs l = decide (([e.1, e.2.1].filter fun z => decide (z ∈ xs)).length = 1) := by
  rw [edge_eq el]
  by_cases h1 : e.1 ∈ xs <;> by_cases h2 : e.2.1 ∈ xs <;> simp [h1, h2]
theorem edge_shut {S : LS} (o : S.Ok) {sh fs : List Str} (c : ∀ z ∈ fs, ∀ b, Beside S sh z b → b ∈ fs) {l : Str} (h : edgeB S fs l = true) : l ∈ sh := by
  cases el : look S.lines l with
  | none =>
    unfold edgeB at h
    rw [el] at h
    cases h
  | some e =>
    rw [edge_eq el] at h
    refine Classical.byContradiction fun n => ?_
    have me := (look_iff o.lN).mp el
    have iff : e.1 ∈ fs ↔ e.2.1 ∈ fs := ⟨fun w => c _ w _ ⟨_, me, n, .inl ⟨rfl, rfl⟩⟩, fun w => c _ w _ ⟨_, me, n, .inr ⟨rfl, rfl⟩⟩⟩
    rw [decide_eq_decide.mpr iff, decide_eq_true rfl] at h
    cases h
theorem edge_same {S : LS} {xs ys : List Str} (e : ∀ z, z ∈ xs ↔ z ∈ ys) : edgeB S xs = edgeB S ys := by
  funext l
  cases el : look S.lines l with
  | none =>
    unfold edgeB
    rw [el]
  | some q => rw [edge_eq el, edge_eq el, decide_eq_decide.mpr (e q.1), decide_eq_decide.mpr (e q.2.1)]
theorem edge_other {S : LS} (o : S.Ok) {xs ys : List Str} (e : ∀ z, z ∈ ys ↔ (z ∈ S.rooms ∧ z ∉ xs)) : edgeB S ys = edgeB S xs := by
  funext l
  cases el : look S.lines l with
  | none =>
    unfold edgeB
    rw [el]
  | some q =>
    obtain ⟨i1, i2, _⟩ := o.lI _ ((look_iff o.lN).mp el)
    rw [edge_eq el, edge_eq el]
    have h1 : q.1 ∈ ys ↔ q.1 ∉ xs := (e q.1).trans ⟨fun w => w.2, fun w => ⟨i1, w⟩⟩
    have h2 : q.2.1 ∈ ys ↔ q.2.1 ∉ xs := (e q.2.1).trans ⟨fun w => w.2, fun w => ⟨i2, w⟩⟩
    by_cases a : q.1 ∈ xs <;> by_cases b : q.2.1 ∈ xs <;> simp [h1, h2, a, b]
end SM
/-! Part W: parts, what is wet when all has settled, what spills. -/
namespace SM
open PySem PySem.Spec PyProof.Rows L2
theorem Beside.symm {S : LS} {sh : List Str} {a b : Str} (h : Beside S sh a b) : Beside S sh b a := by
  obtain ⟨e, m, n, h⟩ := h
  exact ⟨e, m, n, h.elim (fun w => .inr ⟨w.2, w.1⟩) fun w => .inl ⟨w.2, w.1⟩⟩
theorem RchB.join {S : LS} {sh xs : List Str} {a b : Str} (h : RchB S sh xs a) (k : RchB S sh [a] b) : RchB S sh xs b := by
  induction k with
  | base m => rw [List.mem_singleton.mp m]; exact h
  | step _ m ih => exact .step ih m
theorem RchB.refl {S : LS} {sh : List Str} {a : Str} : RchB S sh [a] a := .base (.head _)
theorem RchB.symm {S : LS} {sh : List Str} {a b : Str} (h : RchB S sh [a] b) : RchB S sh [b] a := by
  induction h with
  | base m => rw [List.mem_singleton.mp m]; exact .refl
  | step _ m ih => exact RchB.join (.step .refl m.symm) ih
theorem RchB.from {S : LS} {sh xs : List Str} {z : Str} (h : RchB S sh xs z) : ∃ x ∈ xs, RchB S sh [x] z := by
  induction h with
  | base m => exact ⟨_, m, .refl⟩
  | step _ m ih =>
    obtain ⟨x, mx, k⟩ := ih
    exact ⟨x, mx, .step k m⟩
theorem RchB.to {S : LS} {sh xs : List Str} {x z : Str} (m : x ∈ xs) (h : RchB S sh [x] z) : RchB S sh xs z := RchB.join (.base m) h
theorem RchB.rooms {S : LS} (o : S.Ok) {sh xs : List Str} (s : ∀ x ∈ xs, x ∈ S.rooms) {z : Str} (h : RchB S sh xs z) : z ∈ S.rooms := by
  refine RchB.closed s (fun a _ b hb => ?_) h
  obtain ⟨e, me, _, hb⟩ := hb
  obtain ⟨i1, i2, _⟩ := o.lI e me
  rcases hb with ⟨_, w⟩ | ⟨_, w⟩
  · rw [← w]
    exact i2
  · rw [← w]
    exact i1
open Classical in
/-- the rooms of rs that are joined with r -/
noncomputable def clsOf (S : LS) (sh rs : List Str) (r : Str) : List Str := rs.filter fun z => decide (RchB S sh [r] z)
noncomputable def isF (S : LS) (sh rs : List Str) (r : Str) : Bool := decide ((clsOf S sh rs r).head? = some r)
noncomputable def partsOf (S : LS) (sh rs : List Str) : List (List Str) := (rs.filter (isF S sh rs)).map (clsOf S sh rs)
section
variable {S : LS} {sh rs : List Str}
theorem mem_cls {r z : Str} : z ∈ clsOf S sh rs r ↔ z ∈ rs ∧ RchB S sh [r] z := by
  unfold clsOf
  rw [List.mem_filter]
  simp
theorem cls_same {a b : Str} (h : RchB S sh [a] b) : clsOf S sh rs a = clsOf S sh rs b := by
  unfold clsOf
  refine List.filter_congr fun z _ => ?_
  have e : RchB S sh [a] z ↔ RchB S sh [b] z := ⟨fun w => RchB.join h.symm w, fun w => RchB.join h w⟩
  simp [e]
theorem cls_nodup (n : rs.Nodup) {r : Str} : (clsOf S sh rs r).Nodup := n.filter _
theorem cls_sorted (h : sortedS rs = true) {r : Str} : sortedS (clsOf S sh rs r) = true := risingS_sub ((sorted_pw h).filter _)
/-- what is told sorted of the rooms that are joined with r is this -/
theorem cls_one (o : S.Ok) (h : Srt rs S.rooms) {r : Str} (mr : r ∈ S.rooms) {ys zs : List Str} (sy : Srt ys zs) (nz : zs.Nodup) (iff : ∀ z, z ∈ zs ↔ RchB S sh [r] z) : ys = clsOf S sh rs r := by
  have n : rs.Nodup := h.1.nodup_iff.mpr o.rN
  refine Srt.same sy ⟨List.Perm.refl _, cls_sorted h.2⟩ nz (cls_nodup n) fun z => (iff z).trans ?_
  rw [mem_cls]
  exact ⟨fun w => ⟨h.1.mem_iff.mpr (RchB.rooms o (by simpa using mr) w), w⟩, fun w => w.2⟩
theorem first_iff (n : rs.Nodup) {i : Nat} {r : Str} (e : rs[i]? = some r) : isF S sh rs r = true ↔ ∀ w ∈ rs.take i, ¬ RchB S sh [w] r := by
  have hi := (List.getElem?_eq_some_iff.mp e).1
  have e1 : rs = rs.take i ++ r :: rs.drop (i + 1) := by
    have := List.drop_eq_getElem_cons hi
    rw [(List.getElem?_eq_some_iff.mp e).2] at this
    rw [← this, List.take_append_drop]
  have e2 : clsOf S sh rs r = clsOf S sh (rs.take i) r ++ clsOf S sh (r :: rs.drop (i + 1)) r := by
    unfold clsOf
    rw [← List.filter_append, ← e1]
  have e3 : clsOf S sh (r :: rs.drop (i + 1)) r = r :: clsOf S sh (rs.drop (i + 1)) r := by
    unfold clsOf
    rw [List.filter_cons, if_pos (by simpa using RchB.refl)]
  unfold isF
  rw [decide_eq_true_iff, e2, e3]
  constructor
  · intro h w mw hw
    have mc : w ∈ clsOf S sh (rs.take i) r := mem_cls.mpr ⟨mw, hw.symm⟩
    cases hc : clsOf S sh (rs.take i) r with
    | nil => rw [hc] at mc; cases mc
    | cons x t =>
      rw [hc] at h
      have ex : x = r := Option.some.inj h
      have mx : x ∈ rs.take i := (mem_cls (r := r)).mp (by rw [hc]; exact .head _) |>.1
      rw [ex] at mx
      rw [e1] at n
      exact (List.nodup_append.mp n).2.2 r mx r (.head _) rfl
  · intro h
    have : clsOf S sh (rs.take i) r = [] := by
      refine List.eq_nil_iff_forall_not_mem.mpr fun w mw => ?_
      obtain ⟨m, k⟩ := mem_cls.mp mw
      exact h w m k.symm
    rw [this]
    rfl
/-- a room's own part -/
theorem part_of (n : rs.Nodup) {z : Str} (mz : z ∈ rs) : clsOf S sh rs z ∈ partsOf S sh rs := by
  have mc : z ∈ clsOf S sh rs z := mem_cls.mpr ⟨mz, .refl⟩
  cases hc : clsOf S sh rs z with
  | nil => rw [hc] at mc; cases mc
  | cons h t =>
    obtain ⟨m, k⟩ := (mem_cls (r := z)).mp (by rw [hc]; exact .head _ : h ∈ clsOf S sh rs z)
    have e : clsOf S sh rs h = h :: t := by rw [← cls_same k, hc]
    refine List.mem_map.mpr ⟨h, List.mem_filter.mpr ⟨m, ?_⟩, e⟩
    unfold isF
    rw [e]
    exact decide_eq_true rfl
theorem part_is {p : List Str} (h : p ∈ partsOf S sh rs) : ∃ r, r ∈ rs ∧ p = clsOf S sh rs r ∧ p.head? = some r := by
  obtain ⟨r, mr, rfl⟩ := List.mem_map.mp h
  obtain ⟨m, f⟩ := List.mem_filter.mp mr
  unfold isF at f
  exact ⟨r, m, rfl, of_decide_eq_true f⟩
theorem part_own {p : List Str} (h : p ∈ partsOf S sh rs) {z : Str} (mz : z ∈ p) : p = clsOf S sh rs z := by
  obtain ⟨r, m, rfl, _⟩ := part_is h
  exact cls_same (mem_cls.mp mz).2
theorem parts_nodup (n : rs.Nodup) : (partsOf S sh rs).flatten.Nodup := by
  refine List.pairwise_flatten.mpr ⟨fun p m => ?_, ?_⟩
  · obtain ⟨r, _, rfl, _⟩ := part_is m
    exact cls_nodup n
  · unfold partsOf
    rw [List.pairwise_map]
    refine (n.filter _).imp_of_mem fun {a b} ha hb ne => ?_
    intro z za z2 zb ez
    subst ez
    have fa := (List.mem_filter.mp ha).2
    have fb := (List.mem_filter.mp hb).2
    unfold isF at fa fb
    have e : clsOf S sh rs a = clsOf S sh rs b := by rw [cls_same (mem_cls.mp za).2, cls_same (mem_cls.mp zb).2]
    have ha' := of_decide_eq_true fa
    have hb' := of_decide_eq_true fb
    rw [e, hb'] at ha'
    exact ne (Option.some.inj ha').symm
theorem parts_mem (n : rs.Nodup) {z : Str} : z ∈ (partsOf S sh rs).flatten ↔ z ∈ rs := by
  rw [List.mem_flatten]
  constructor
  · rintro ⟨p, mp, mz⟩
    obtain ⟨r, _, rfl, _⟩ := part_is mp
    exact (mem_cls.mp mz).1
  · exact fun m => ⟨_, part_of n m, mem_cls.mpr ⟨m, .refl⟩⟩
theorem parts_len : (partsOf S sh rs).length ≤ rs.length := by
  unfold partsOf
  rw [List.length_map]
  exact List.length_filter_le _ _
theorem parts_heads (h : sortedS rs = true) : (partsOf S sh rs).map (fun p => p.head?) = (rs.filter (isF S sh rs)).map some ∧ sortedS (rs.filter (isF S sh rs)) = true := by
  refine ⟨?_, risingS_sub ((sorted_pw h).filter _)⟩
  unfold partsOf
  rw [List.map_map]
  refine List.map_congr_left fun r m => ?_
  have f := (List.mem_filter.mp m).2
  unfold isF at f
  exact of_decide_eq_true f
end
/-! ### what is wet -/
def meetB (xs ys : List Str) : Bool := xs.any fun z => decide (z ∈ ys)
def wetB (src dr we p : List Str) : Bool := if meetB p src = true then true else if meetB p dr = true then false else meetB p we
theorem meet_iff {xs ys : List Str} : meetB xs ys = true ↔ ∃ z ∈ xs, z ∈ ys := by
  unfold meetB
  rw [List.any_eq_true]
  exact ⟨fun ⟨z, a, b⟩ => ⟨z, a, of_decide_eq_true b⟩, fun ⟨z, a, b⟩ => ⟨z, a, decide_eq_true b⟩⟩
theorem meet_same {xs ys zs : List Str} (e : ∀ z, z ∈ ys ↔ z ∈ zs) : meetB xs ys = meetB xs zs := by
  rw [Bool.eq_iff_iff, meet_iff, meet_iff]
  exact ⟨fun ⟨z, a, b⟩ => ⟨z, a, (e z).mp b⟩, fun ⟨z, a, b⟩ => ⟨z, a, (e z).mpr b⟩⟩
theorem wet_same {s1 s2 d1 d2 w1 w2 p : List Str} (a : ∀ z, z ∈ s1 ↔ z ∈ s2) (b : ∀ z, z ∈ d1 ↔ z ∈ d2) (c : ∀ z, z ∈ w1 ↔ z ∈ w2) : wetB s1 d1 w1 p = wetB s2 d2 w2 p := by
  unfold wetB
  rw [meet_same a, meet_same b, meet_same c]
def roomOf (S : LS) (d : Str) : Str := (look S.drains d).getD ""
noncomputable def settledOf (S : LS) (sh op we rs : List Str) : List Str := ((partsOf S sh rs).filter (wetB S.sources (op.map (roomOf S)) we)).flatten
theorem settled_nodup {S : LS} {sh op we rs : List Str} (n : rs.Nodup) : (settledOf S sh op we rs).Nodup := by
  obtain ⟨a, b⟩ := List.pairwise_flatten.mp (parts_nodup (S := S) (sh := sh) n)
  exact List.pairwise_flatten.mpr ⟨fun l m => a l (List.mem_filter.mp m).1, b.filter _⟩
theorem settled_mem {S : LS} {sh op we rs : List Str} (n : rs.Nodup) {z : Str} : z ∈ settledOf S sh op we rs ↔ z ∈ rs ∧ wetB S.sources (op.map (roomOf S)) we (clsOf S sh rs z) = true := by
  unfold settledOf
  rw [List.mem_flatten]
  constructor
  · rintro ⟨p, mp, mz⟩
    obtain ⟨m, w⟩ := List.mem_filter.mp mp
    rw [part_own m mz] at w mz
    exact ⟨(mem_cls.mp mz).1, w⟩
  · rintro ⟨m, w⟩
    exact ⟨_, List.mem_filter.mpr ⟨part_of n m, w⟩, mem_cls.mpr ⟨m, .refl⟩⟩
open Classical in
noncomputable def spillOf (S : LS) (sh op : List Str) : List Str := op.filter fun d => decide (RchB S sh S.sources (roomOf S d))
/-- what spills is wet, of the open drains -/
theorem spill_wet {S : LS} (o : S.Ok) {sh op we rs : List Str} (sr : Srt rs S.rooms) {d : Str} (md : d ∈ op) (dk : roomOf S d ∈ S.rooms) : (roomOf S d ∈ settledOf S sh op we rs) ↔ d ∈ spillOf S sh op := by
  have n : rs.Nodup := sr.1.nodup_iff.mpr o.rN
  have mr := sr.1.mem_iff.mpr dk
  rw [settled_mem n]
  unfold spillOf
  rw [List.mem_filter]
  have hd : meetB (clsOf S sh rs (roomOf S d)) (op.map (roomOf S)) = true := meet_iff.mpr ⟨roomOf S d, mem_cls.mpr ⟨mr, .refl⟩, List.mem_map_of_mem md⟩
  unfold wetB
  rw [hd]
  have k : meetB (clsOf S sh rs (roomOf S d)) S.sources = true ↔ RchB S sh S.sources (roomOf S d) := by
    rw [meet_iff]
    constructor
    · rintro ⟨z, a, b⟩
      exact .to b (mem_cls.mp a).2.symm
    · intro h
      obtain ⟨x, mx, kx⟩ := h.from
      exact ⟨x, mem_cls.mpr ⟨sr.1.mem_iff.mpr (o.sI x mx), kx.symm⟩, mx⟩
  constructor
  · rintro ⟨_, w⟩
    refine ⟨md, ?_⟩
    by_cases c : meetB (clsOf S sh rs (roomOf S d)) S.sources = true
    · simpa using k.mp c
    · rw [if_neg c] at w
      cases w
  · rintro ⟨_, w⟩
    exact ⟨mr, by rw [if_pos (k.mpr (by simpa using w))]⟩
section
variable (L : Addr)
def spPartsOf : Sp := fun vs H Q _ => ∃ (A : LA) (S : LS) (a : Addr) (sh : List Str), vs = [.ref A.p, .ref a] ∧ LayAt L H A S ∧ S.Ok ∧ H a = some (.lst (sh.map V.str)) ∧ sh.Nodup ∧ (∀ x ∈ sh, x ∈ swOf S) ∧
  ∀ (H' : Hp) (p : Addr) (rs : List Str) (gs : List Addr), Srt rs S.rooms → Same H H' → H p = none → H' p = some (.lst (gs.map V.ref)) → Lists H' gs (partsOf S sh rs) → Q (.ref p) H'
def spMeet : Sp := fun vs H Q _ => ∃ (a b : Addr) (xs ys : List Str), vs = [.ref a, .ref b] ∧ H a = some (.lst (xs.map V.str)) ∧ H b = some (.lst (ys.map V.str)) ∧ xs.length ≤ 900 ∧ ∀ H', Same H H' → Q (.bl (meetB xs ys)) H'
def spIsWet : Sp := fun vs H Q _ => ∃ (p a b c : Addr) (xs s d w : List Str), vs = [.ref p, .ref a, .ref b, .ref c] ∧ H p = some (.lst (xs.map V.str)) ∧ H a = some (.lst (s.map V.str)) ∧ H b = some (.lst (d.map V.str)) ∧ H c = some (.lst (w.map V.str)) ∧ xs.length ≤ 900 ∧ ∀ H', Same H H' → Q (.bl (wetB s d w xs)) H'
structure Asks3 (H : Hp) (A : LA) (S : LS) (a b : Addr) (sh op : List Str) : Prop where
  lay : LayAt L H A S
  ok : S.Ok
  ha : H a = some (.lst (sh.map V.str))
  hb : H b = some (.lst (op.map V.str))
  na : sh.Nodup
  nb : op.Nodup
  sa : ∀ x ∈ sh, x ∈ swOf S
  sb : ∀ x ∈ op, x ∈ keys S.drains
theorem Asks3.same {H H' : Hp} {A : LA} {S : LS} {a b : Addr} {sh op : List Str} (h : Asks3 L H A S a b sh op) (s : Same H H') : Asks3 L H' A S a b sh op :=
  ⟨h.lay.same s, h.ok, s _ _ h.ha, s _ _ h.hb, h.na, h.nb, h.sa, h.sb⟩
theorem Asks3.la {H : Hp} {A : LA} {S : LS} {a b : Addr} {sh op : List Str} (h : Asks3 L H A S a b sh op) : sh.length ≤ 40 := by
  have := nodup_len h.na fun x m => swOf_sub (h.sa x m)
  have h2 : (keys S.lines).length ≤ 40 := by rw [keys, List.length_map]; exact h.ok.lL
  omega
theorem Asks3.lb {H : Hp} {A : LA} {S : LS} {a b : Addr} {sh op : List Str} (h : Asks3 L H A S a b sh op) : op.length ≤ 12 := by
  have := nodup_len h.nb h.sb
  have h2 : (keys S.drains).length ≤ 12 := by rw [keys, List.length_map]; exact h.ok.dL
  omega
def spSettled : Sp := fun vs H Q _ => ∃ (A : LA) (S : LS) (a b c : Addr) (sh op we : List Str), vs = [.ref A.p, .ref a, .ref b, .ref c] ∧ Asks3 L H A S a b sh op ∧ H c = some (.lst (we.map V.str)) ∧ we.Nodup ∧ (∀ x ∈ we, x ∈ S.rooms) ∧
  ∀ (H' : Hp) (p : Addr) (rs ys : List Str), Srt rs S.rooms → Srt ys (settledOf S sh op we rs) → Same H H' → H p = none → H' p = some (.lst (ys.map V.str)) → Q (.ref p) H'
def spSpilling : Sp := fun vs H Q _ => ∃ (A : LA) (S : LS) (a b : Addr) (sh op : List Str), vs = [.ref A.p, .ref a, .ref b] ∧ Asks3 L H A S a b sh op ∧
  ∀ (H' : Hp) (p : Addr) (ys : List Str), Srt ys (spillOf S sh op) → Same H H' → H p = none → H' p = some (.lst (ys.map V.str)) → Q (.ref p) H'
end
def spPartsL : Sp := fun vs H Q _ => ∃ (m l d a b s : Addr) (S : LS) (sh : List Str), vs = [.ref m, .ref s] ∧ WAt H m l d a b S ∧ H s = some (.lst (sh.map V.str)) ∧
  ∀ (H' : Hp) (p : Addr) (rs : List Str) (gs : List Addr), Srt rs S.rooms → Same H H' → H p = none → H' p = some (.lst (gs.map V.ref)) → Lists H' gs (partsOf S sh rs) → Q (.ref p) H'
def spSettledL : Sp := fun vs H Q _ => ∃ (m l d a b s o w : Addr) (S : LS) (sh op we : List Str), vs = [.ref m, .ref s, .ref o, .ref w] ∧ WAt H m l d a b S ∧ H s = some (.lst (sh.map V.str)) ∧ H o = some (.lst (op.map V.str)) ∧ H w = some (.lst (we.map V.str)) ∧ (∀ x ∈ op, x ∈ keys S.drains) ∧ op.length ≤ 64 ∧
  ∀ (H' : Hp) (p : Addr) (rs ys : List Str), Srt rs S.rooms → Srt ys (settledOf S sh op we rs) → Same H H' → H p = none → H' p = some (.lst (ys.map V.str)) → Q (.ref p) H'
theorem uT_app (xs ys : List Str) : uT (xs ++ ys) = uT xs ++ uT ys := List.map_append
theorem Kr.app {α : Type} {G : V → α → Prop} : ∀ {k1 k2 : List (Key × V)} {t1 t2 : List (Str × α)}, Kr G k1 t1 → Kr G k2 t2 → Kr G (k1 ++ k2) (t1 ++ t2)
  | _, _, _, _, .nil, k => k
  | _, _, _, _, .cons h t, k => .cons h (Kr.app t k)
/-- one dict of names, and another one put behind it -/
theorem merge_names {k1 k2 : List (Key × V)} {xs ys : List Str} (h : Kr TrueG k1 (uT xs)) (k : Kr TrueG k2 (uT ys)) (n : ys.Nodup) (d : ∀ y ∈ ys, y ∉ xs) : mergeK k1 k2 = k1 ++ k2 ∧ Kr TrueG (k1 ++ k2) (uT (xs ++ ys)) := by
  refine ⟨mergeK_new ?_ ?_, ?_⟩
  · rw [k.uT_names]
    exact n.map _ fun _ _ h w => h (Sum.inr.inj w)
  · intro p m
    have mp : p.1 ∈ k2.map (·.1) := List.mem_map_of_mem m
    rw [k.uT_names] at mp
    obtain ⟨y, my, e⟩ := List.mem_map.mp mp
    rw [← e]
    exact h.no (uT_none.mpr (d y my))
  · rw [uT_app]
    exact h.app k
/-! ### a walk over a list, of any body -/
theorem lw_list {K : PySem.W.Frag} {a : Addr} {xs : List V} {B : V → Hp → (Hp → Prop) → Prop} {H0 : Hp} {Qd : Hp → Prop} (Pv : Nat → Hp → Prop) (h0 : Pv 0 H0) (hl : ∀ i H, i ≤ xs.length → Pv i H → SqL K H a xs)
    (hs : ∀ i x H, xs[i]? = some x → Pv i H → B x H (Pv (i + 1))) (hd : ∀ H, Pv xs.length H → Qd H) :
    ∃ W : Nat → Nat → Hp → Prop, (∃ m, W 0 m H0) ∧ ∀ i m H, W i m H →
      ((Itl K a).stop i H ∧ Qd H) ∨ ((Itl K a).go i H ∧ ∃ Nx : Hp → Prop, (∀ H', Nx H' → ∃ m', m' < m ∧ W (i + 1) m' H') ∧ ∀ x H', (Itl K a).yld i H x H' → B x H' Nx) := by
  refine ⟨fun i m H => m = xs.length - i ∧ i ≤ xs.length ∧ Pv i H, ⟨xs.length, by simp, Nat.zero_le _, h0⟩, ?_⟩
  rintro i m H ⟨rfl, hi, p⟩
  have q := hl i H hi p
  by_cases hlt : i < xs.length
  · refine .inr ⟨⟨xs, xs[i], q, by simp [hlt]⟩, Pv (i + 1), fun H' p' => ⟨xs.length - (i + 1), by omega, rfl, hlt, p'⟩, fun x H' y => ?_⟩
    obtain ⟨e, y⟩ := y
    subst e
    exact hs i x _ (y xs q) p
  · have e : i = xs.length := by omega
    subst e
    exact .inl ⟨⟨xs, q, Nat.le_refl _⟩, hd H p⟩
theorem pi_listK {X : Cx} {K : PySem.W.Frag} {tg l : Expr} {tl : TE} (e : X.K = K) (hl : PE X l tl) : PI X tg l (iList K tl) := by
  subst e
  exact pi_list hl
theorem call_isiK {X : Cx} {K : PySem.W.Frag} (e : X.K = K) : CallR X (.builtin "isinstance") (rIsi K) := by
  subst e
  exact call_isi
theorem op_neDK {X : Cx} {K : PySem.W.Frag} (e : X.K = K) (hu : X.A.units + 64 < cLine) : OpR X (compareOp .NotEq) (rNeD K) := by
  subst e
  exact op_neD hu
theorem op_eqDK {X : Cx} {K : PySem.W.Frag} (e : X.K = K) (hu : X.A.units + 64 < cLine) : OpR X (compareOp .Eq) (rEqD K) := by
  subst e
  exact op_eqD hu
theorem names_self {ys : List Str} (h : ∀ y ∈ ys, okName y = true) : PyData.eqv (.list (ys.map PyData.str)) (.list (ys.map PyData.str)) = true := eqv_self _ (names_sm h).lay
theorem atI_head {r : Str} {t : List Str} : atI ((r :: t).map V.str) 0 = some (.str r) := by
  obtain ⟨z, ez, az⟩ := atI_strs (rs := r :: t) (v := 0) (Int.le_refl _) (by rw [List.length_cons]; omega)
  cases ez
  exact az
theorem cut_head {r : Str} {t : List Str} : cutV ((r :: t).map V.str) none (some 1) = [V.str r] := (cutV_take _ 1).trans rfl
theorem rows_nil5 : Fine (rowsD [[], [], [], [], []]) :=
  (Sm.lst (SmAll.map (k := 1) (w := 17) rowD fun xs hx => by
    have e : xs = [] := by simpa using hx
    rw [e]
    exact (names_sm (ys := []) (fun y h => by cases h)).mono (Nat.le_refl _) (by decide))).fine (by decide) (by decide)
theorem srt_nil {ys : List Str} (h : Srt ys []) : ys = [] := List.Perm.eq_nil h.1
theorem Rch.none {f : Str → List (Str × Str)} {z : Str} (h : Rch f [] z) : False := by
  induction h with
  | base m => cases m
  | step _ _ ih => exact ih
end SM
/-! Part W3: every second item; ways. -/
namespace SM
open PySem PySem.Spec PyProof.Rows L2
/-- every second item, from the first on -/
def evens {α : Type} : List α → List α
  | [] => []
  | [x] => [x]
  | x :: _ :: t => x :: evens t
theorem evens_map {α β : Type} (f : α → β) : ∀ xs : List α, evens (xs.map f) = (evens xs).map f
  | [] => rfl
  | [_] => rfl
  | _ :: _ :: t => by
    show f _ :: evens (t.map f) = f _ :: (evens t).map f
    rw [evens_map f t]
theorem evens_len {α : Type} : ∀ xs : List α, (evens xs).length = (xs.length + 1) / 2
  | [] => by simp [evens]
  | [_] => by simp [evens]
  | _ :: _ :: t => by
    show (evens t).length + 1 = _
    rw [evens_len t, List.length_cons, List.length_cons]
    omega
theorem pick2 {α : Type} : ∀ xs : List α, ((List.range ((xs.length + 1) / 2)).map (2 * ·)).filterMap (xs[·]?) = evens xs
  | [] => by simp [evens]
  | [_] => by simp [evens]
  | x :: y :: t => by
    have e : ((x :: y :: t).length + 1) / 2 = (t.length + 1) / 2 + 1 := by
      rw [List.length_cons, List.length_cons]
      omega
    rw [e, List.range_succ_eq_map, List.map_cons, List.filterMap_cons]
    show x :: _ = x :: evens t
    rw [← pick2 t, List.map_map, List.filterMap_map, List.filterMap_map]
    congr 2
theorem vals_evens : ∀ {xs : List V} {us : List Value}, Vals xs us → Vals (evens xs) (evens us)
  | _, _, .nil => .nil
  | _, _, .cons h .nil => .cons h .nil
  | _, _, .cons h (.cons _ t) => .cons h (vals_evens t)
theorem vals_drop1 : ∀ {xs : List V} {us : List Value}, Vals xs us → Vals (xs.drop 1) (us.drop 1)
  | _, _, .nil => .nil
  | _, _, .cons _ t => t
theorem slice2 (its : List Value) : slicePick its.toArray none none (some 2) = (evens its).toArray := by
  unfold slicePick
  have e : sliceRange (sliceBounds none none (some 2) its.toArray.size).1 (sliceBounds none none (some 2) its.toArray.size).2.1 (sliceBounds none none (some 2) its.toArray.size).2.2 = (List.range ((its.length + 1) / 2)).map (2 * ·) := by
    simp only [sliceBounds, sliceRange, Option.getD_some, List.size_toArray, show (2 : Int) > 0 by decide, if_true]
    by_cases h : its = []
    · subst h
      rfl
    · have hp : 0 < its.length := List.length_pos_iff.mpr h
      rw [if_pos (by omega)]
      have c : (((its.length : Int) - 0 + 2 - 1) / 2).toNat = (its.length + 1) / 2 := by omega
      rw [c]
      refine List.map_congr_left fun k _ => ?_
      omega
  rw [e]
  congr 1
  rw [← pick2 its]
  simp
theorem slice2b (its : List Value) : slicePick its.toArray (some 1) none (some 2) = (evens (its.drop 1)).toArray := by
  cases its with
  | nil => rfl
  | cons x t =>
    unfold slicePick
    have e : sliceRange (sliceBounds (some 1) none (some 2) (x :: t).toArray.size).1 (sliceBounds (some 1) none (some 2) (x :: t).toArray.size).2.1 (sliceBounds (some 1) none (some 2) (x :: t).toArray.size).2.2 = (List.range ((t.length + 1) / 2)).map (fun k => 2 * k + 1) := by
      simp only [sliceBounds, sliceRange, Option.getD_some, List.size_toArray, show (2 : Int) > 0 by decide, if_true, List.length_cons]
      rw [if_neg (by decide : ¬ (1 : Int) < 0)]
      have m1 : max (0 : Int) (min 1 ((t.length + 1 : Nat) : Int)) = 1 := by omega
      rw [m1]
      by_cases h : t = []
      · subst h
        rfl
      · have hp : 0 < t.length := List.length_pos_iff.mpr h
        rw [if_pos (by omega)]
        have c : ((((t.length + 1 : Nat) : Int) - 1 + 2 - 1) / 2).toNat = (t.length + 1) / 2 := by omega
        rw [c]
        refine List.map_congr_left fun k _ => ?_
        omega
    rw [e]
    show _ = (evens t).toArray
    congr 1
    rw [← pick2 t, List.filterMap_map, List.filterMap_map]
    congr 1
    funext i
    simp
/-- xs[::2], xs[1::2] -/
def tStepL (K : PySem.W.Frag) (j : Nat) (te : TE) : TE := fun σ H Q => te σ H fun x H1 => ∃ a xs, x = .ref a ∧ SqL K H1 a xs ∧ ∀ p, H1 p = none → Q (.ref p) (upd H1 p (.lst (evens (xs.drop j))))
section
variable {X : Cx} {e : Expr} {te : TE} {k k2 : Nat} {p1 p2 p3 pos : Pos}
theorem pe_stepL0 (he : PE X e te) : PE X (.Subscript e (.Slice none none (some (.Constant (.int 2) k p1)) p3) pos) (tStepL X.K 0 te) := by
  refine ⟨fun pins s σ H Q I h => ?_⟩
  refine Subscript_ (thn (he.run pins s σ H _ I h) fun v s1 ⟨x, H1, I1, r1, q1⟩ => ?_)
  obtain ⟨a, xs, ex, hx, q⟩ := q1
  subst ex
  cases r1
  have hst : PO X (some (.Constant (.int 2) k p1)) (tPart (tC (.int 2))) := po_some pe_int
  refine wpAny_Slice (thn (po_none.run pins s1 σ H1 (fun o H2 => o = none ∧ H2 = H1) I1 ⟨rfl, rfl⟩) fun vl s2 ⟨l, H2, I2, pl, el, e2⟩ => ?_)
  subst el e2
  refine thn (po_none.run pins s2 σ H2 (fun o H3 => o = none ∧ H3 = H2) I2 ⟨rfl, rfl⟩) fun vu s3 ⟨u, H3, I3, pu, eu, e3⟩ => ?_
  subst eu e3
  refine thn (hst.run pins s3 σ H3 (fun o H4 => o = some 2 ∧ H4 = H3) I3 ⟨2, rfl, rfl, rfl⟩) fun vs s4 ⟨o, H4, I4, ps, eo, e4⟩ => ?_
  subst eo e4
  have I5 : Inv X pins σ H4 { s4 with heap := s4.heap.push { cls := .type "slice", data := .fields #[vl, vu, vs] } } := I4.kept (t' := s4.toks) fun b ob q => Heap.get?_push_of_some _ q
  obtain ⟨its, r, ht, hz⟩ := I5.list hx
  have hlen := r.length
  show wpAny (model X.prog X.w) X.A (subscriptTail e (.Slice none none (some (.Constant (.int 2) k p1)) p3) (.ref a) (.ref s4.heap.objs.size)) (EP X pins σ Q) X.xe { s4 with heap := s4.heap.push { cls := .type "slice", data := .fields #[vl, vu, vs] } }
  refine tail_any (ops := [.ref a, .ref s4.heap.objs.size]) ht.isList.typeIs (PySem.slot_list_getitem.lookup) ?_ (by with_unfolding_all rfl)
  refine wpAny_getItem_list_slice ht.isList (Heap.IsSliceOf.new _ vl vu vs) pl pu ps (by decide) ?_ (by rw [List.size_toArray]; omega)
  rw [slice2]
  refine ⟨.ref _, _, I5.laid (t' := s4.toks) (o := .lst (evens xs)) (fun b ob q => Heap.get?_push_of_some _ q) (Nat.le_refl _) ?_, rfl, q _ (I5.hok.fresh (Nat.le_refl _))⟩
  exact ⟨by rw [evens_len]; omega, _, 0, vals_evens r, Heap.get?_push_size _ rfl⟩
theorem pe_stepL1 (he : PE X e te) : PE X (.Subscript e (.Slice (some (.Constant (.int 1) k2 p2)) none (some (.Constant (.int 2) k p1)) p3) pos) (tStepL X.K 1 te) := by
  refine ⟨fun pins s σ H Q I h => ?_⟩
  refine Subscript_ (thn (he.run pins s σ H _ I h) fun v s1 ⟨x, H1, I1, r1, q1⟩ => ?_)
  obtain ⟨a, xs, ex, hx, q⟩ := q1
  subst ex
  cases r1
  have hst : PO X (some (.Constant (.int 2) k p1)) (tPart (tC (.int 2))) := po_some pe_int
  have hlo : PO X (some (.Constant (.int 1) k2 p2)) (tPart (tC (.int 1))) := po_some pe_int
  refine wpAny_Slice (thn (hlo.run pins s1 σ H1 (fun o H2 => o = some 1 ∧ H2 = H1) I1 ⟨1, rfl, rfl, rfl⟩) fun vl s2 ⟨l, H2, I2, pl, el, e2⟩ => ?_)
  subst el e2
  refine thn (po_none.run pins s2 σ H2 (fun o H3 => o = none ∧ H3 = H2) I2 ⟨rfl, rfl⟩) fun vu s3 ⟨u, H3, I3, pu, eu, e3⟩ => ?_
  subst eu e3
  refine thn (hst.run pins s3 σ H3 (fun o H4 => o = some 2 ∧ H4 = H3) I3 ⟨2, rfl, rfl, rfl⟩) fun vs s4 ⟨o, H4, I4, ps, eo, e4⟩ => ?_
  subst eo e4
  have I5 : Inv X pins σ H4 { s4 with heap := s4.heap.push { cls := .type "slice", data := .fields #[vl, vu, vs] } } := I4.kept (t' := s4.toks) fun b ob q => Heap.get?_push_of_some _ q
  obtain ⟨its, r, ht, hz⟩ := I5.list hx
  have hlen := r.length
  show wpAny (model X.prog X.w) X.A (subscriptTail e (.Slice (some (.Constant (.int 1) k2 p2)) none (some (.Constant (.int 2) k p1)) p3) (.ref a) (.ref s4.heap.objs.size)) (EP X pins σ Q) X.xe { s4 with heap := s4.heap.push { cls := .type "slice", data := .fields #[vl, vu, vs] } }
  refine tail_any (ops := [.ref a, .ref s4.heap.objs.size]) ht.isList.typeIs (PySem.slot_list_getitem.lookup) ?_ (by with_unfolding_all rfl)
  refine wpAny_getItem_list_slice ht.isList (Heap.IsSliceOf.new _ vl vu vs) pl pu ps (by decide) ?_ (by rw [List.size_toArray]; omega)
  rw [slice2b]
  refine ⟨.ref _, _, I5.laid (t' := s4.toks) (o := .lst (evens (xs.drop 1))) (fun b ob q => Heap.get?_push_of_some _ q) (Nat.le_refl _) ?_, rfl, q _ (I5.hok.fresh (Nat.le_refl _))⟩
  exact ⟨by rw [evens_len, List.length_drop]; omega, _, 0, vals_evens (vals_drop1 r), Heap.get?_push_size _ rfl⟩
end
end SM
/-! Part W11: the set of any list of texts; names and layouts that are asked for, of any kind. -/
namespace SM
open PySem PySem.Spec PyProof.Rows
section
variable {prog : Program} {w : World} {A : Around} {E : Value → Shared → Prop} {s : Shared}
/-- one text more, or once more -/
theorem addAny {a : Addr} {zs : List Str} {z : Str} {t : Tok} {Q : Bool → Shared → Prop} (x : TextSet prog w s.heap a zs) (room : zs.length + 1 < scanBound)
    (h : ∀ b h', Heap.SameBut a s.heap h' → TextSet prog w h' a (if z ∈ zs then zs else zs ++ [z]) → Q b { s with heap := h', toks := s.toks + 1 }) :
    wpAny (model prog w) A (holding [Value.str z t] (setAdd a (.str z t))) Q E s := by
  refine wpAny_holding (wpAny_holding (wpAny_bind (wpAny_pyHash_str
    (wpAny_setAddHashed_of (knd := PySem.strKind prog w) (k := z) (s := { s with toks := s.toks + 1 }) (strKind_is _ _ _ _) rfl x room fun h' sb y => h _ h' sb ?_))))
  by_cases q : z ∈ zs
  · rw [if_pos q]
    refine SetOf_congr y (fun k => ?_) (by rw [decide_eq_true q]; rfl)
    rw [← Bool.decide_or]
    exact decide_eq_decide.mpr ⟨fun o => o.elim id fun e => e ▸ q, .inl⟩
  · rw [if_neg q]
    refine SetOf_congr y (fun k => ?_) (by rw [decide_eq_false q, List.length_append]; rfl)
    rw [← Bool.decide_or]
    exact decide_eq_decide.mpr (by rw [List.mem_append, List.mem_singleton])
/-- zs: what was met, each once -/
structure OnceOf (zs met : List Str) : Prop where
  nd : zs.Nodup
  mem : ∀ k, k ∈ zs ↔ k ∈ met
  len : zs.length ≤ met.length
theorem OnceOf.step {zs met : List Str} {z : Str} (o : OnceOf zs met) : OnceOf (if z ∈ zs then zs else zs ++ [z]) (met ++ [z]) := by
  by_cases q : z ∈ zs
  · rw [if_pos q]
    refine ⟨o.nd, fun k => ?_, by rw [List.length_append]; exact Nat.le_trans o.len (Nat.le_add_right _ _)⟩
    rw [List.mem_append, List.mem_singleton, ← o.mem]
    exact ⟨.inl, fun h => h.elim id fun e => e ▸ q⟩
  · rw [if_neg q]
    refine ⟨List.nodup_append.mpr ⟨o.nd, by simp, fun a ha b hb e => q (by rw [← List.mem_singleton.mp hb, ← e]; exact ha)⟩, fun k => ?_, ?_⟩
    · rw [List.mem_append, List.mem_append, List.mem_singleton, o.mem]
    · rw [List.length_append, List.length_append]
      exact Nat.succ_le_succ o.len
variable {R : Result → Shared → Prop} {I : Addr} {fp wr : List Addr} {G : Array GenState → Array GenState → Prop} {n : Nat} {P : Nat → Value → Prop} {St : Nat → Shared → Prop}
theorem textsLoopA (W : WalksS prog w A.in1 I fp wr G n P St) {b : Addr} (out : b ∉ fp) {all : List Str} (ln : all.length = n) (room : n + 1 < scanBound) (hv : ∀ i v, P i v → ∃ z t, all[i]? = some z ∧ v = .str z t) :
    ∀ (left met zs : List Str), all = met ++ left → OnceOf zs met → ∀ s : Shared, St met.length s → TextSet prog w s.heap b zs →
      (∀ s' ys, Moved (b :: wr) G s s' → OnceOf ys all → TextSet prog w s'.heap b ys → R (.ok (.ret .none)) s') →
      codeAny (model prog w) A (.builtin "set.update.loop" ⟨[.ref b, .ref I], []⟩) R s
  | [], met, zs, e, oz, s, st, x, k => by
    rw [List.append_nil] at e
    subst e
    rw [ln] at st
    refine codeAny_builtin F.entry_set_update_loop (by
      rw [Around.under_plainId F.plain_set_update_loop]
      exact wpAny_bind (W.done s _ _ st fun s' mv => wpAny_pure (k s' zs (mv.mono fun c hc => .tail _ hc) oz (x.off fun o => mv.heap b o fun z => out (W.sub b z)))))
  | z :: left, met, zs, e, oz, s, st, x, k => by
    have at_ : all[met.length]? = some z := by
      rw [e, List.getElem?_append_right (Nat.le_refl _), Nat.sub_self]
      rfl
    have lt : met.length < n := by
      rw [← ln]
      exact (List.getElem?_eq_some_iff.mp at_).1
    have e2 : all = (met ++ [z]) ++ left := by
      rw [e, List.append_assoc]
      rfl
    have zl := oz.len
    refine codeAny_builtin F.entry_set_update_loop (by
      rw [Around.under_plainId F.plain_set_update_loop]
      refine wpAny_bind (W.item met.length s _ _ lt st fun v s1 pv st1 mv => ?_)
      obtain ⟨z', t, ez, rfl⟩ := hv _ v pv
      rw [at_] at ez
      cases ez
      have x1 := x.off fun o => mv.heap b o fun c => out (W.sub b c)
      refine wpAny_bind (addAny x1 (by omega) fun _ h' sb x2 => ?_)
      have st2 := W.frame _ s1 h' (s1.toks + 1) st1 (Nat.le_succ _) fun c hc o eo => (sb.2 c fun q => out (q ▸ hc)).trans eo
      refine wpAny_pure ⟨plainId_quiet F.plain_set_update_loop _, textsLoopA W out ln room hv left (met ++ [z]) _ e2 oz.step _ (by rw [List.length_append]; exact st2) x2 fun s3 ys mv3 o3 x3 => k s3 ys ?_ o3 x3⟩
      refine Moved.trans W.gtrans ((mv.mono fun c hc => .tail _ hc).then_heap (Nat.le_succ _) fun c o hc eo => ?_) mv3
      exact (sb.2 c fun q => hc (q ▸ .head _)).trans eo)
end
section
variable {prog : Program} {w : World} {A : Around} {E : Value → Shared → Prop} {s : Shared}
theorem fillTextsA {l : Addr} {items : Array Value} {all : List Str} (calm : A.handled = none) (led : Bool) (hl : s.heap.IsList l items) (hi : StrsAre items.toList all) (room : all.length + 1 < scanBound) {R : Result → Shared → Prop}
    (k : ∀ h' tk ys, OnceOf ys all → TextSet prog w h' s.heap.objs.size ys → (∀ b o, s.heap.get? b = some o → h'.get? b = some o) → R (.ok (.ret .none)) { s with heap := h', toks := tk }) :
    codeAny (model prog w) A (.call (.builtin "set.__init__") ⟨[.ref s.heap.objs.size, .ref l], []⟩) R { s with heap := s.heap.push (bareSet led) } := by
  have top : (s.heap.push (bareSet led)).get? s.heap.objs.size = some (bareSet led) := Heap.get?_push_size _ rfl
  have ty : Shared.TypeIs { s with heap := s.heap.push (bareSet led) } (.ref s.heap.objs.size) "set" := ⟨_, top, rfl⟩
  have ll : l < s.heap.objs.size := let ⟨_, e, _⟩ := hl; Heap.lt_size e
  have hl1 := hl.push (bareSet led)
  obtain ⟨ol, hol, hcl, nl, hdl⟩ := id hl1
  obtain ⟨oc, od, oa, os'⟩ := ol
  simp only at hcl hdl
  subst hcl
  subst hdl
  refine codeAny_call_builtin PySem.F.called_set.init.plain PySem.F.entry_set_init (check_set_init_1 ty ?_)
  have a1 := PySem.F.sub_list_set
  have a2 := PySem.F.sub_list_frozenset
  have a3 : (Value.type "list" == Value.type "dict") = false := by decide
  unfold Builtin.«set.__init__» noKeywords Builtin.Frozenset.updateFrom
  generalize it : pyIter = iter
  wp_walk
  subst it
  refine wpAny_pyIter_list hl1 (wpAny_bind (wpAny_runValue ?_))
  have big : s.heap.objs.size < (s.heap.push (bareSet led)).objs.size := by
    rw [Heap.size_push]
    exact Nat.lt_succ_self _
  have far : l ≠ (s.heap.push (bareSet led)).objs.size := Nat.ne_of_lt (Nat.lt_trans ll big)
  have W := (Walks.list (prog := prog) (w := w) (A := A.in1.in1) (by simp [calm]) _ l far items).toS
  refine textsLoopA W (b := s.heap.objs.size) (fun m => ?_) ?_ ?_ (fun i v pv => ?_) all [] [] rfl ⟨List.nodup_nil, fun _ => Iff.rfl, Nat.le_refl _⟩ _ ⟨⟨_, Heap.get?_push_size _ rfl, rfl, rfl⟩, hl1.push _⟩ ?_ fun s' ys mv oy x => ?_
  · rcases List.mem_cons.mp m with e | m
    · exact absurd e (Nat.ne_of_lt big)
    · exact absurd (List.mem_singleton.mp m) (Nat.ne_of_gt ll)
  · show all.length = _
    rw [texts_len hi, Array.length_toList]
  · rw [texts_len hi, Array.length_toList] at room
    exact room
  · exact texts_get hi (by rw [Array.getElem?_toList]; exact pv)
  · have e := Heap.get?_push_of_some { cls := .type "list_iterator", data := .fields #[.ref l, .int 0 0] } top
    exact SetOf_congr ((setObjOf_fresh (knd := PySem.strKind prog w) led).setOf e (by decide)) (fun k => (decide_eq_false (fun m => nomatch m)).symm) rfl
  · obtain ⟨h', g', d', tk, o'⟩ := s'
    obtain rfl : g' = s.gens := mv.gens
    obtain rfl : d' = s.drawn := mv.drawn
    obtain rfl : o' = s.os := mv.os
    refine wpAny_pure (wpAny_pure (k h' tk ys oy x fun b o e => mv.heap b o (fun m => ?_) (Heap.get?_push_of_some _ (Heap.get?_push_of_some _ e))))
    have lt := Heap.lt_size e
    rcases List.mem_cons.mp m with q | m
    · exact Nat.ne_of_lt lt q
    · exact Nat.ne_of_lt (Nat.lt_trans lt big) (List.mem_singleton.mp m)
/-- set(xs), xs any list of texts -/
theorem setTextsA {l : Addr} {items : Array Value} {all : List Str} {Q : Value → Shared → Prop} (calm : A.handled = none) (hl : s.heap.IsList l items) (hi : StrsAre items.toList all) (room : all.length + 1 < scanBound)
    (k : ∀ h' tk ys, OnceOf ys all → TextSet prog w h' s.heap.objs.size ys → (∀ b o, s.heap.get? b = some o → h'.get? b = some o) → Q (.ref s.heap.objs.size) { s with heap := h', toks := tk }) :
    wpAny (model prog w) A (call (.type "set") [.ref l]) Q E s := by
  obtain ⟨c, tl, p1⟩ := PySem.F.called_set.mro
  have p2 := PySem.F.called_set.made
  have p3 := PySem.F.called_set.sub
  have p4 := PySem.F.called_set.notType
  have p5 := PySem.F.called_set.canCreate
  have p6 := PySem.F.typeCall_set_1 (.ref l)
  have p7 := PySem.F.called_set.init.lookup
  refine wpAny_call (codeAny_of_tree (wpAny_pure ⟨Code.quiet_builtin _ (by decide +kernel), codeAny_builtin PySem.F.entry_type_call (by
    rw [Around.under_plain (weight_type_call_type "set" [.ref l] []) rfl]
    repeat (any_goals (first | assumption | wp_step))
    refine codeAny_mono (code_set_new_1 (.ref l) (E := E) (Q₁ := fun o u => ∃ led, o = .ref s.heap.objs.size ∧ u = { s with heap := s.heap.push (bareSet led) }) fun led => ⟨led, rfl, rfl⟩) fun r u hr => ?_
    match r, hr with
    | .error _, hr => exact hr
    | .ok (.ret _), ⟨led, e1, e2⟩ =>
      subst e1 e2
      have ty : Shared.TypeIs { s with heap := s.heap.push (bareSet led) } (.ref s.heap.objs.size) "set" := ⟨_, Heap.get?_push_size _ rfl, rfl⟩
      have p8 := PySem.F.called_set.init.bind (.ref s.heap.objs.size)
      repeat (any_goals (first | assumption | wp_step))
      refine fillTextsA (by simp [calm]) led hl hi room fun h' tk ys oy x old => ?_
      repeat (any_goals (first | assumption | wp_step))
      exact k h' tk ys oy x old
    | .ok .next, hr => exact hr.elim
    | .ok .brk, hr => exact hr.elim
    | .ok .cont, hr => exact hr.elim)⟩))
end
end SM
namespace SM
open PySem PySem.Spec PyProof.Rows L2
section
variable {X : Cx}
/-- len(set(xs)), xs a list of texts -/
def tLenSetA (K : PySem.W.Frag) (ta : TE) : TE := fun σ H Q => ta σ H fun x H1 => ∃ l, ∃ xs : List Str, x = .ref l ∧ SqL K H1 l (xs.map V.str) ∧ xs.length + 1 < scanBound ∧ ∀ ys, OnceOf ys xs → Q (.int ys.length) H1
theorem pe_lenSetA {a : Expr} {ta : TE} {p p2 q pos : Pos} (hc : X.calm = true) (hg : Gl X "len") (hm : X.mg "len" = none) (hg2 : Gl X "set") (hm2 : X.mg "set" = none) (ha : PE X a ta)
    (na : starEach [a] X.env = (false, eval a X.env) :: starEach [] X.env := by rfl) : PE X (.Call (.Name "len" p) [.Call (.Name "set" p2) [a] [] q] [] pos) (tLenSetA X.K ta) := by
  refine ⟨fun pins s σ H Q I h => Call_ (ld_blt I hg hm boot_len ?_)⟩
  refine PyProof.Rows.callWith_builtin1 (PyProof.Rows.args_cons ?_ rfl) rfl rfl
  refine Call_ (ld_blt I hg2 hm2 boot_set (PyProof.Rows.callWith_type1 (PyProof.Rows.args_cons (thn (ha.run pins s σ H _ I h) fun v s1 ⟨x, H1, I1, r1, q1⟩ => PyProof.Rows.args_nil ?_) na) na rfl))
  obtain ⟨l, xs, rfl, hq, room, q1⟩ := q1
  cases r1
  obtain ⟨its, r, pl, hz⟩ := I1.list hq
  refine setTextsA (I1.ok.hd hc) pl.isList (strsAre_of r) room fun h' tk ys oy hS old => PyProof.Rows.args_nil ?_
  obtain ⟨o, es, ep, t, ho, hex, hd, _, _, _, hf, hn⟩ := hS
  have I2 : Inv X pins σ H1 { s1 with heap := h', toks := tk } := I1.kept old
  have ol := oy.len
  exact call_len_set ho hex hd hf (by
    rw [List.length_map] at hz
    have : sizeLine < 9223372036854775808 := by decide +kernel
    rw [hn]
    omega) ⟨.int ys.length, H1, I2.tok _, ⟨_, by rw [hn]⟩, q1 ys oy⟩
end
/-- once each and as many: no two alike -/
theorem OnceOf.nodup : ∀ {ys xs : List Str}, OnceOf ys xs → ys.length = xs.length → xs.Nodup := by
  intro ys xs o e
  induction xs generalizing ys with
  | nil => exact List.nodup_nil
  | cons x t ih =>
    by_cases m : x ∈ t
    · have le := nodup_len o.nd (ys := t) fun k hk => by
        rcases List.mem_cons.mp ((o.mem k).mp hk) with z | z
        · rw [z]
          exact m
        · exact z
      rw [e, List.length_cons] at le
      omega
    · have mx : x ∈ ys := (o.mem x).mpr (.head _)
      refine List.nodup_cons.mpr ⟨m, ih (ys := ys.erase x) ⟨o.nd.erase x, fun k => ?_, ?_⟩ ?_⟩
      · rw [o.nd.mem_erase_iff, o.mem, List.mem_cons]
        constructor
        · rintro ⟨a, b | b⟩
          · exact absurd b a
          · exact b
        · exact fun h => ⟨fun z => m (by rw [← z]; exact h), .inr h⟩
      · rw [List.length_erase_of_mem mx, e, List.length_cons]
        exact Nat.le_refl _
      · rw [List.length_erase_of_mem mx, e, List.length_cons]
        rfl
theorem OnceOf.self {ys xs : List Str} (o : OnceOf ys xs) (n : xs.Nodup) : ys.length = xs.length :=
  Nat.le_antisymm o.len (nodup_len n fun k hk => (o.mem k).mpr hk)
/-- is it a list of names: b -/
inductive NmsQ (K : PySem.W.Frag) (H : Hp) : V → Bool → Prop where
  | no {v : V} {t : Value} (ty : TyX K H v t) (h : PySem.W.kitOne K t (.type "list") = some false) : NmsQ K H v false
  | long {l : Addr} {xs : List V} (h : H l = some (.lst xs)) (n : 60 < xs.length) : NmsQ K H (.ref l) false
  | bad {l : Addr} {xs : List V} {bs : List Bool} (h : H l = some (.lst xs)) (n : xs.length ≤ 60) (q : Paired (NameQ K H) xs bs) (f : bs.all id = false) : NmsQ K H (.ref l) false
  | txt {l : Addr} {xs : List Str} (h : H l = some (.lst (xs.map V.str))) (n : xs.length ≤ 60) (g : ∀ x ∈ xs, okName x = true) : NmsQ K H (.ref l) (decide xs.Nodup)
def spAreNamesQ (K : PySem.W.Frag) : Sp := fun vs H Q _ => ∃ (v : V) (b : Bool), vs = [v] ∧ NmsQ K H v b ∧ ∀ H', Same H H' → Q (.bl b) H'
/-- the first of xs that is not of ys -/
def firstOut (xs ys : List Str) : Option Str := xs.find? fun x => !decide (x ∈ ys)
theorem firstOut_congr {xs ys zs : List Str} (h : ∀ x, x ∈ ys ↔ x ∈ zs) : firstOut xs ys = firstOut xs zs := by
  unfold firstOut
  congr 1
  funext x
  rw [decide_eq_decide.mpr (h x)]
theorem firstOut_take {xs ys : List Str} {i : Nat} {z : Str} (e : xs[i]? = some z) (h : ∀ x ∈ xs.take i, x ∈ ys) (n : z ∉ ys) : firstOut xs ys = some z := by
  have s : xs = xs.take i ++ z :: xs.drop (i + 1) := by
    have lt := (List.getElem?_eq_some_iff.mp e).1
    have g := (List.getElem?_eq_some_iff.mp e).2
    rw [← g, ← List.drop_eq_getElem_cons lt, List.take_append_drop]
  unfold firstOut
  rw [s, List.find?_append]
  have a : (xs.take i).find? (fun x => !decide (x ∈ ys)) = none := List.find?_eq_none.mpr fun x hx => by simp [h x hx]
  rw [a, List.find?_cons, decide_eq_false n]
  rfl
theorem firstOut_none {xs ys : List Str} (h : ∀ x ∈ xs, x ∈ ys) : firstOut xs ys = none := List.find?_eq_none.mpr fun x hx => by simp [h x hx]
def spBesideQ (C : Nat → Addr) : Sp := fun vs H Q E => ∃ (a b : Addr) (xs ys : List Str), vs = [.ref a, .ref b] ∧ H a = some (.lst (xs.map V.str)) ∧ H b = some (.lst (ys.map V.str)) ∧ (∀ z, firstOut xs ys = some z → Ref C 2 (.str z) H E) ∧ (firstOut xs ys = none → ∀ H', Same H H' → Q .non H')
def spNoSwitchQ (C : Nat → Addr) (L : Addr) : Sp := fun vs H Q E => ∃ (A : LA) (S : LS) (a : Addr) (xs : List Str), vs = [.ref A.p, .ref a] ∧ LayAt L H A S ∧ S.Ok ∧ H a = some (.lst (xs.map V.str)) ∧ (∀ z, firstOut xs (swOf S) = some z → Ref C 2 (.str z) H E) ∧ (firstOut xs (swOf S) = none → ∀ H', Same H H' → Q .non H')
def costIn (S : LS) (x : Str) : Int := ((look S.lines x).map fun e => e.2.2).getD 0
def costs (S : LS) (xs : List Str) : Int := (xs.map (costIn S)).sum
/-- what is answered of x, y: 0 Wrong, 2 Lacks, 9 told -/
inductive AskQ (K : PySem.W.Frag) (L : Addr) (H : Hp) : V → V → Nat → V → Prop where
  | lay {x y : V} {t : Value} (ty : TyX K H x t) (h : PySem.W.kitOne K t (.ref L) = some false) : AskQ K L H x y 0 (.int 0)
  | nam {A : LA} {S : LS} {y : V} (lay : LayAt L H A S) (q : NmsQ K H y false) : AskQ K L H (.ref A.p) y 0 (.int 1)
  | lacks {A : LA} {S : LS} {l : Addr} {xs : List Str} {z : Str} (lay : LayAt L H A S) (ok : S.Ok) (hl : H l = some (.lst (xs.map V.str))) (nd : xs.Nodup) (n : xs.length ≤ 60) (g : ∀ x ∈ xs, okName x = true) (f : firstOut xs (swOf S) = some z) : AskQ K L H (.ref A.p) (.ref l) 2 (.str z)
  | told {A : LA} {S : LS} {l : Addr} {xs : List Str} (lay : LayAt L H A S) (ok : S.Ok) (hl : H l = some (.lst (xs.map V.str))) (nd : xs.Nodup) (n : xs.length ≤ 60) (g : ∀ x ∈ xs, okName x = true) (f : firstOut xs (swOf S) = none) : AskQ K L H (.ref A.p) (.ref l) 9 (.int (costs S xs))
def spCostOf (K : PySem.W.Frag) (C : Nat → Addr) (L : Addr) : Sp := fun vs H Q E => ∃ (x y : V) (n : Nat) (v : V), vs = [x, y] ∧ AskQ K L H x y n v ∧ (n ≠ 9 → Ref C n v H E) ∧ (n = 9 → ∀ H', Same H H' → Q v H')
def wordQ : Nat → Str
  | 0 => "Wrong"
  | 2 => "Lacks"
  | _ => "told"
def spSaidQ (K : PySem.W.Frag) (L : Addr) : Sp := fun vs H Q _ => ∃ (x y : V) (n : Nat) (v : V), vs = [x, y] ∧ AskQ K L H x y n v ∧ ∀ (H' : Hp) (t : Addr), Same H H' → H' t = some (.tup [.str (wordQ n), v]) → Q (.ref t) H'
def spClassQ (C : Nat → Addr) : Addr → Value → Option Addr → Sp := fun a c d vs H Q _ => ∃ (n : Nat) (v : V) (dd : Addr), (n = 0 ∨ n = 2) ∧ c = .ref (C n) ∧ d = some dd ∧ H dd = some (.xd [(fldN n, v)]) ∧ vs = [.ref a] ∧
  ∀ (H' : Hp) (t : Addr), Same H H' → H' t = some (.tup [.str (wordQ n), v]) → Q (.ref t) H'
/-- a built-in's instance is no layout -/
theorem kit_own {K : PySem.W.Frag} {L : Addr} (c : Cls K L) (ty : PySem.W.typeIn K (.ref L) = some (.type "type")) {T : String} {l : List Value} (h : PySem.fastBuiltinMro T = some l) (n : l.contains (Value.ref L) = false) : PySem.W.kitOne K (.type T) (.ref L) = some false := by
  have sm : (PySem.W.clsIn K L).isSome = true := by
    have := c.hd
    unfold PySem.W.hasDictIn at this
    cases e : PySem.W.clsIn K L with
    | none => rw [e] at this; cases this
    | some _ => rfl
  show (if (Value.type T == Value.ref L) = true then some true else PySem.W.kitCls K (.type T) (.ref L)) = _
  rw [if_neg (fun z => Bool.noConfusion z)]
  show (if ((PySem.W.clsIn K L).isSome && PySem.W.typeIn K (.ref L) == some (.type "type")) = true then PySem.W.subIn K (.type T) (.ref L) else none) = _
  rw [sm, ty, if_pos (by decide)]
  show (PySem.fastBuiltinMro T).map _ = _
  rw [h]
  exact congrArg some n
end SM
/-! Part W19: sets of texts that are walked: added to, sorted. -/
namespace SM
open PySem PySem.Spec PyProof.Rows L2
open PySem.Froz (SD sObj tailTx addTx TxOk)
theorem tail_ris {ep : Nat} {es : Array (Int × Value)} {t : SetTable} {b : Bool} (r : Ris t.place.toList) : Ris (tailTx ep es t b).2.2.place.toList := by
  unfold tailTx
  split
  · exact relayAll_ris _ _ _
  · exact r
theorem tail_led {ep : Nat} {es : Array (Int × Value)} {t : SetTable} {b : Bool} : (tailTx ep es t b).2.2.led = t.led := by
  unfold tailTx
  split
  · exact relayAll_led _ _ _
  · rfl
theorem addTx_ris {h : Int} {v : Value} {D : SD} (r : Ris D.2.2.place.toList) : Ris (addTx h v D).2.2.place.toList := by
  unfold addTx
  refine tail_ris ?_
  have q := layNew_ris D.2.2 D.1 h v r
  split
  · exact q
  · exact q
theorem addTx_led {h : Int} {v : Value} {D : SD} : (addTx h v D).2.2.led = D.2.2.led := by
  unfold addTx
  rw [tail_led]
  have q := layNew_led D.2.2 D.1 h v
  split
  · exact q
  · exact q
/-- the set at a has just the texts l; it may be walked -/
structure SetX (P : Program) (w : World) (h : Heap) (a : Addr) (l : List Str) : Prop where
  ob : ∃ D : SD, h.get? a = some (sObj "set" D) ∧ TxOk P w D l ∧ Ris D.2.2.place.toList ∧ (w.params.followText "set-order" = true ∨ D.2.2.led = true)
  nd : l.Nodup
  lt : l.length < scanBound
section
variable {P : Program} {w : World} {A : Around} {E : Value → Shared → Prop} {s : Shared} {a : Addr} {l : List Str} {k : Str} {u : Tok}
theorem SetX.at {h h' : Heap} (x : SetX P w h a l) (q : ∀ o, h.get? a = some o → h'.get? a = some o) : SetX P w h' a l :=
  let ⟨D, e, r⟩ := x.ob
  ⟨⟨D, q _ e, r⟩, x.nd, x.lt⟩
theorem SetX.add_new {Q : Bool → Shared → Prop} (x : SetX P w s.heap a l) (new : k ∉ l) (room : l.length + 1 < scanBound)
    (h : ∀ h', Heap.SameBut a s.heap h' → SetX P w h' a (k :: l) → Q true { s with heap := h' }) : wpAny (model P w) A (setAddHashed a (.str k u) (hashStr w k)) Q E s := by
  obtain ⟨D, e, F, r, ld⟩ := x.ob
  refine PySem.Froz.add_x e F new room (h _ (Heap.SameBut.update _ a _) ⟨⟨_, PySem.Froz.get_upd _ e rfl, PySem.Froz.add_ok u F, addTx_ris r, ?_⟩, List.nodup_cons.mpr ⟨new, x.nd⟩, room⟩)
  rw [addTx_led]
  exact ld
theorem SetX.add_old {Q : Bool → Shared → Prop} (x : SetX P w s.heap a l) (old : k ∈ l) (h : Q false s) : wpAny (model P w) A (setAddHashed a (.str k u) (hashStr w k)) Q E s := by
  obtain ⟨⟨es, ep, t⟩, e, F, r, ld⟩ := x.ob
  have g1 : (sObj "set" (es, ep, t)).data = .set es ep t := rfl
  have g2 : es.size < scanBound := by
    have z : es.size = l.length := F.sz
    have := x.lt
    omega
  have g3 : (strKind P w).is k (.str k u) = true := PySem.Froz.is_str k u
  unfold setAddHashed setAddHashedIn
  refine wpAny_holding (wpAny_bind (wpAny_setState_of e g1 F.fit ?_))
  dsimp only
  rw [byScan_of rfl g2 F.el]
  simp only [↓reduceIte]
  unfold setAddByScan
  refine wpAny_bind (wpAny_bind (wpAny_rule (wpAny_bind (wpAny_setScan_of (knd := strKind P w) (k := k) g3 e g1 F.fit F.el ?_))))
  cases q : List.findIdx? (fun e => (strKind P w).is k e.2) es.toList with
  | none =>
    obtain ⟨y, my, iy⟩ := (F.mem k).mp old
    have := List.findIdx?_eq_none_iff.mp q y my
    rw [iy] at this
    cases this
  | some j =>
    dsimp only
    exact wpAny_pure (wpAny_pure h)
end
end SM
namespace SM
open PySem PySem.Spec PyProof.Rows L2
open PySem.Froz (SD sObj tailTx addTx TxOk)
/-- the set with one text more, or the same -/
def putX (l : List Str) (k : Str) : List Str := if k ∈ l then l else k :: l
theorem mem_putX {l : List Str} {k z : Str} : z ∈ putX l k ↔ z = k ∨ z ∈ l := by
  unfold putX
  by_cases h : k ∈ l
  · rw [if_pos h]
    exact ⟨.inr, fun o => o.elim (fun e => e ▸ h) id⟩
  · rw [if_neg h]
    exact List.mem_cons
theorem putX_len (l : List Str) (k : Str) : (putX l k).length ≤ l.length + 1 := by
  unfold putX
  by_cases h : k ∈ l
  · rw [if_pos h]
    exact Nat.le_succ _
  · rw [if_neg h]
    exact Nat.le_refl _
section
variable {P : Program} {w : World} {A : Around} {E : Value → Shared → Prop} {s : Shared} {a : Addr} {l : List Str} {k : Str} {u : Tok}
theorem SetX.add {Q : Value → Shared → Prop} (x : SetX P w s.heap a l) (room : l.length + 1 < scanBound)
    (h : ∀ h', Heap.SameBut a s.heap h' → SetX P w h' a (putX l k) → Q .none { s with heap := h', toks := s.toks + 1 }) : wpAny (model P w) A (call (.builtin "set.add") [.ref a, .str k u]) Q E s := by
  obtain ⟨D, e, _⟩ := id x.ob
  refine wpAny_call_entry F.slot_set_add ⟨_, e, rfl⟩ F.entry_set_add ?_ (F.args_set_add_2 _ _)
  unfold Builtin.«set.add» Builtin.Frozenset.oneOther
  simp only [List.isEmpty_nil, bind_assoc]
  unfold Builtin.Frozenset.addrOf setAdd
  refine wpAny_bind (wpAny_pure (wpAny_bind (wpAny_pure (wpAny_bind (wpAny_holding (wpAny_bind (wpAny_pyHash_str ?_)))))))
  have fin : ∀ (b : Bool) (h' : Heap), Heap.SameBut a s.heap h' → SetX P w h' a (putX l k) → wpAny (model P w) A.in1 (ret Value.none) (fun r s' => ∃ v, r = .done (.ret v) ∧ Q v s') E { s with heap := h', toks := s.toks + 1 } := fun _ h' sb y => wpAny_pure ⟨_, rfl, h h' sb y⟩
  by_cases m : k ∈ l
  · have e1 : putX l k = l := if_pos m
    refine SetX.add_old (s := { s with toks := s.toks + 1 }) x m ?_
    exact wpAny_pure ⟨_, rfl, h _ (Heap.SameBut.refl _ _) (by rw [e1]; exact x)⟩
  · have e1 : putX l k = k :: l := if_neg m
    refine SetX.add_new (s := { s with toks := s.toks + 1 }) x m room fun h' sb y => ?_
    exact wpAny_pure ⟨_, rfl, h h' sb (by rw [e1]; exact y)⟩
/-- a set's values are its texts, in some order -/
theorem setX_vals {D : SD} (F : TxOk P w D l) (nd : l.Nodup) {vs : List Value} (pm : vs.Perm (D.1.toList.map (·.2))) : ∃ zs : List Str, StrsAre vs zs ∧ zs.Perm l := by
  have each : ∀ v ∈ vs, ∃ z t, v = Value.str z t ∧ z ∈ l := fun v hv => by
    obtain ⟨y, my, rfl⟩ := List.mem_map.mp (pm.mem_iff.mp hv)
    obtain ⟨⟨z, hz, _⟩, _⟩ := F.el y my
    have hz' : Value.isStrOf z y.2 = true := hz
    obtain ⟨y1, y2⟩ := y
    cases y2 with
    | str z' t =>
      have ez : z' = z := by simpa [Value.isStrOf] using hz'
      subst ez
      exact ⟨z', t, rfl, (F.mem z').mpr ⟨_, my, hz⟩⟩
    | _ => simp [Value.isStrOf] at hz'
  have build : ∀ vs : List Value, (∀ v ∈ vs, ∃ z t, v = Value.str z t ∧ z ∈ l) → ∃ zs : List Str, StrsAre vs zs ∧ (∀ z ∈ zs, z ∈ l) ∧ ∀ v ∈ vs, ∃ z ∈ zs, Value.isStrOf z v = true := by
    intro vs
    induction vs with
    | nil => exact fun _ => ⟨[], .nil, (by intro z h; cases h), by intro v h; cases h⟩
    | cons v vs ih =>
      intro h
      obtain ⟨z, t, rfl, mz⟩ := h _ (.head _)
      obtain ⟨zs, a, b, c⟩ := ih fun v hv => h v (.tail _ hv)
      refine ⟨z :: zs, .cons z t a, fun y my => ?_, fun v mv => ?_⟩
      · rcases List.mem_cons.mp my with e | e
        · rw [e]
          exact mz
        · exact b y e
      · rcases List.mem_cons.mp mv with e | e
        · rw [e]
          exact ⟨z, .head _, by simp [Value.isStrOf]⟩
        · obtain ⟨y, my, iy⟩ := c v e
          exact ⟨y, .tail _ my, iy⟩
  obtain ⟨zs, st, sub, cov⟩ := build vs each
  have ln : zs.length = l.length := by
    rw [texts_len st, pm.length_eq, List.length_map, Array.length_toList]
    exact F.sz
  have cov2 : ∀ z ∈ l, z ∈ zs := fun z mz => by
    obtain ⟨y, my, iy⟩ := (F.mem z).mp mz
    obtain ⟨y', my', iy'⟩ := cov y.2 (pm.mem_iff.mpr (List.mem_map_of_mem my))
    rw [(strKind P w).inj y.2 z y' iy iy']
    exact my'
  have o : OnceOf l zs := ⟨nd, fun k => ⟨cov2 k, sub k⟩, Nat.le_of_eq ln.symm⟩
  exact ⟨zs, st, (List.perm_ext_iff_of_nodup (o.nodup ln.symm) nd).mpr fun k => ⟨sub k, cov2 k⟩⟩
/-- sorted(a set of texts), fewer than 64 -/
theorem SetX.sorted {Q : Value → Shared → Prop} (x : SetX P w s.heap a l) (calm : A.handled = none) (few : l.length < 64)
    (h : ∀ s' p (out : Array Value) (c : Nat) (ys : List Str), (∀ b o, s.heap.get? b = some o → s'.heap.get? b = some o) → s'.gens = s.gens → s'.os = s.os → s.heap.objs.size ≤ p → s'.heap.get? p = some (seqObj "list" out c) → StrsAre out.toList ys → ys.Perm l → sortedS ys = true → Q (.ref p) s') :
    wpAny (model P w) A (call (.builtin "sorted") [.ref a]) Q E s := by
  obtain ⟨D, e, F, r, ld⟩ := x.ob
  refine Calls.call_function_entry kind_sorted plain_sorted entry_sorted (args_sorted1 _) ?_
  unfold Builtin.«sorted»
  refine wpAny_bind (m := checkCount "sorted" 1 1 _) (wpAny_pure (wpAny_bind (collect_set (A := A.in1) calm ⟨_, e, rfl, rfl⟩ F.fit (by rw [F.sz]; exact x.lt) r ld fun s1 vs keep1 big1 g1 o1 pm => ?_)))
  obtain ⟨zs, st, pz⟩ := setX_vals F x.nd pm
  have vl : vs.length < 64 := by
    rw [← texts_len st, pz.length_eq]
    exact few
  refine wpAny_bind (wpAny_newList ?_ (by rw [sizeLine_eq]; omega))
  have top : (s1.heap.push (seqObj "list" vs.toArray 0)).get? s1.heap.objs.size = some (seqObj "list" vs.toArray 0) := Heap.get?_push_size _ rfl
  refine wpAny_bind (wpAny_holding (wpAny_call_entry slot_list_sort ⟨_, top, rfl⟩ entry_list_sort (list_sort_treeK strKind_oneLt top st.keysOf (fun v₁ v₂ rest q => keyKind_strs (by rw [← q]; exact st)) vl fun st' hp hs => ?_) (args_list_sort _)))
  obtain ⟨ys, y1, y2, y3⟩ := sorted_out_str st hp hs
  obtain ⟨c, hc⟩ := sortedHeap_at (vs := vs) (out := (arrOf st').map (·.2)) top
  refine ⟨_, rfl, wpAny_pure ⟨_, rfl, h _ s1.heap.objs.size _ c ys (fun b u q => ?_) g1 o1 big1 hc y1 (y2.trans pz) y3⟩⟩
  have q1 := keep1 b u q
  have lt1 := Heap.lt_size q1
  refine (sortedHeap_old (Nat.ne_of_lt lt1) (by rw [Heap.size_push]; exact Nat.lt_succ_of_lt lt1)).trans ?_
  exact Heap.get?_push_of_some _ q1
end
/-! as tracked things -/
def SetXO (P : Program) (w : World) (a : Addr) (l : List Str) : HO := .ext fun h => SetX P w h a l
theorem setXO_new {P : Program} {w : World} {H : Hp} {h : Heap} {a : Addr} {l : List Str} (x : SetX P w h a l) : ObjOk P w H h a (SetXO P w a l) := by
  obtain ⟨D, e, _⟩ := id x.ob
  exact ⟨x, ⟨_, e⟩, fun h1 h2 y q => SetX.at y q⟩
section
variable {X : Cx}
theorem setXO_get {pins : List (Addr × Obj)} {σ : L2.St} {H : Hp} {s : Shared} {a : Addr} {l : List Str} (I : Inv X pins σ H s) (ha : H a = some (SetXO X.prog X.w a l)) : SetX X.prog X.w s.heap a l := (I.hok a _ ha).1
def rSortedX (P : Program) (w : World) : List V → Hp → VK → Prop := fun vs H Q => ∃ (a : Addr) (l : List Str), vs = [V.ref a] ∧ H a = some (SetXO P w a l) ∧ l.length < 64 ∧ ∀ (ys : List Str) (p : Addr), ys.Perm l → sortedS ys = true → H p = none → Q (.ref p) (upd H p (.lst (ys.map V.str)))
theorem cr_sortedX (hc : X.calm = true) : CallR X (.builtin "sorted") (rSortedX X.prog X.w) := by
  intro pins s σ H vs us Q I r h
  obtain ⟨a, l, rfl, ha, few, q⟩ := h
  rw [Vals.ref1 r]
  refine SetX.sorted (setXO_get I ha) (I.ok.hd hc) few fun s' p out c ys keep g o big hp y1 y2 y3 => ?_
  have sz : (ys.map V.str).length ≤ sizeLine := by
    rw [List.length_map, y2.length_eq]
    exact small64 few
  have free : H p = none := I.hok.fresh big
  obtain ⟨h1, g1, d1, k1, o1⟩ := s'
  obtain rfl : o1 = s.os := o
  have I' : Inv X pins σ (upd H p (.lst (ys.map V.str))) { s with heap := h1, gens := g1, drawn := d1, toks := k1 } := I.call (ch := []) (Un.laid keep big free) (I.hok.laid keep big ⟨sz, out.toList, c, vals_of_strs y1, hp⟩) (show AllBare g1 from (show g1 = s.gens from g) ▸ I.bare) fun _ z => nomatch z
  exact ⟨.ref p, _, I', rfl, q ys p y2 y3 free⟩
end
end SM
/-! Part W21: {elt for a in xs for b in ys}, of texts. -/
namespace SM
open PySem PySem.Spec PyProof.Rows L2
/-- what a level's turn is: a value is fetched and stored, then the body, then on -/
def Level (e : Expr) (lev : Nat) (i tg : Expr) (acc : Value) (env : Env) (body : Sem Fin → Sem Fin) : Prop :=
  ∀ it, compTurn e lev it acc env = (do
    standAt i.pos
    match ← pyNext it with
    | none => pure (.done .next)
    | some v => do
      letOwnedTupleGo tg it v
      assign tg env v
      body (again (.compLoop e lev it acc env)))
abbrev two (elt t0 i0 t1 i1 : Expr) (scope : Scope) (pos : Pos) : Expr := .SetComp elt [⟨t0, i0, [], 0⟩, ⟨t1, i1, [], 0⟩] scope pos
def outerB (elt t0 i0 t1 i1 : Expr) (scope : Scope) (pos : Pos) (acc : Value) (env : Env) : Sem Fin → Sem Fin := fun k => do
  let x ← eval i1 env
  standAt i1.pos
  let y ← foldedSetIterable i1 env x
  let _ ← runOwn (.compStart (two elt t0 i0 t1 i1 scope pos) 1 (← holding [y] (pyIter y)) acc env) env
  k
def innerB (elt : Expr) (acc : Value) (env : Env) : Sem Fin → Sem Fin := fun k => do
  (do let v ← eval elt env; standAt elt.pos; let _ ← call (.builtin "set.add") [acc, v])
  k
theorem level0 (elt t0 i0 t1 i1 : Expr) (scope : Scope) (pos : Pos) (acc : Value) (env : Env) : Level (two elt t0 i0 t1 i1 scope pos) 0 i0 t0 acc env (outerB elt t0 i0 t1 i1 scope pos acc env) := fun _ => by rfl
theorem level1 (elt t0 i0 t1 i1 : Expr) (scope : Scope) (pos : Pos) (acc : Value) (env : Env) : Level (two elt t0 i0 t1 i1 scope pos) 1 i1 t1 acc env (innerB elt acc env) := fun _ => by rfl
/-- what a body promises: it comes to its end with Nx, the slots as they stand -/
def Knows (σ0 σ : L2.St) : Prop := σ0.length = σ.length ∧ ∀ (n : Nat) v, σ0[n]? = some (some v) → σ[n]? = some (some v)
def Runs (Y : Cx) (pins : List (Addr × Obj)) (σ0 σ : L2.St) (H : Hp) (body : Sem Fin → Sem Fin) (Nx : Hp → Prop) : Prop :=
  ∀ (pl : List (Addr × Obj)) (s : Shared), Inv Y (pins ++ pl) σ H s → ∀ (k : Sem Fin) (Q : Fin → Shared → Prop) (E : Value → Shared → Prop),
    (∀ s' H' σ', Knows σ0 σ' → Inv Y (pins ++ pl) σ' H' s' → Nx H' → wpAny (model Y.prog Y.w) Y.A k Q E s') → wpAny (model Y.prog Y.w) Y.A (body k) Q E s
section
variable {Y : Cx} {tg i e : Expr} {lev : Nat} {acc : Value} {body : Sem Fin → Sem Fin} {g : TG} {J : It} {fp : List Addr} {it : Addr} {tn : Nat → Heap → Prop} {pins : List (Addr × Obj)} {σ0 : L2.St} {R : Result → Shared → Prop}
/-- a loop of the block: W with its measure -/
def Rolls (Y : Cx) (J : It) (g : TG) (pins : List (Addr × Obj)) (σ0 : L2.St) (Po : (Hp → Prop) → L2.St → Hp → Prop) (R : Result → Shared → Prop) (W : Nat → Nat → Hp → Prop) : Prop :=
  ∀ j m H, W j m H → (J.stop j H ∧ ∀ s, Inv Y pins σ0 H s → R (.ok .next) s) ∨ (J.go j H ∧ ∃ Nx : Hp → Prop, (∀ H', Nx H' → ∃ m', m' < m ∧ W (j + 1) m' H') ∧
    ∀ x H', J.yld j H x H' → g x σ0 H' (Po Nx))
theorem block_loop (lv : Level e lev i tg acc Y.env body) (hu : Y.A.under (.compLoop e lev (.ref it) acc Y.env) = Y.A) (hd : (model Y.prog Y.w).den (.compLoop e lev (.ref it) acc Y.env) = (compTurn e lev (.ref it) acc Y.env).onRaise (fun x => do noteFrame x Y.env; theTreesLotGoes x)) (hc : Y.calm = true) (hx : ∀ v s, Y.xe v s → False) (T : Turn Y.prog Y.w Y.K tg J fp it tn) (pg : PG Y tg g) (st : ∀ {H' : Hp}, (∀ b ∈ fp, H' b = none) → ∀ b ∈ fp, FpOk Y pins H' b)
    (W : Nat → Nat → Hp → Prop) {Po : (Hp → Prop) → L2.St → Hp → Prop} (po : ∀ Nx σ2 H2, Po Nx σ2 H2 → Runs Y pins σ0 σ2 H2 body Nx) (rolls : Rolls Y J g pins σ0 Po R W) (m : Nat) (s : Shared) (h : ∃ j H, Inv Y pins σ0 H s ∧ tn j s.heap ∧ (∀ b ∈ fp, H b = none) ∧ W j m H) :
    codeAny (model Y.prog Y.w) Y.A (.compLoop e lev (.ref it) acc Y.env) R s := by
  refine codeAny_loop rfl (fun m s => ∃ j H, Inv Y pins σ0 H s ∧ tn j s.heap ∧ (∀ b ∈ fp, H b = none) ∧ W j m H) (fun m s hI => ?_) m h
  rw [hu, hd]
  refine wpAny_noted ?_
  rw [lv]
  obtain ⟨j, H, I, t0, n0, w0⟩ := hI
  refine wpAny_bind (wpAny_standAt (wpAny_bind ?_))
  rcases rolls j m H w0 with ⟨stop, fin⟩ | ⟨go, Nx, hN, step⟩
  · refine thnF (T.done Y rfl rfl rfl hc j pins s σ0 H (fun _ _ => False) I (st n0) t0 stop) fun r s1 ⟨hr, I1⟩ => ?_
    subst hr
    exact wpAny_pure (fin s1 I1)
  · refine thnF (T.item Y rfl rfl rfl hc j pins s σ0 H (fun _ _ => False) I (st n0) t0 go) fun r s1 ⟨u, hr, q1⟩ => ?_
    subst hr
    refine wpAny_bind (thnF q1 fun _ s2 ⟨x, H2, I2, rx, yx, t2, n2⟩ => ?_)
    have I2' := I2.pinned (st n2) (T.obj _ _ t2)
    refine wpAny_bind (wpAny_mono (pg.run _ s2 σ0 H2 x u _ I2' rx (step x H2 yx)) (fun _ s3 q3 => ?_) fun v s z => (hx v s z).elim)
    obtain ⟨σ3, H3, I3, run⟩ := q3
    refine po _ _ _ run _ s3 I3 _ _ _ fun s4 H4 σ4 ⟨ln, kp⟩ I4 nx => wpAny_pure ⟨rfl, ?_⟩
    obtain ⟨m', hm, w'⟩ := hN H4 nx
    have stay : ∀ b ∈ fp, ∀ o, s2.heap.get? b = some o → s4.heap.get? b = some o ∧ H4 b = none := fun b hb o ob =>
      let z := I4.pin (b, o) (List.mem_append_right _ (List.mem_append_right _ (mem_pinsAt hb ob)))
      ⟨z.1, z.2.1⟩
    refine ⟨m', hm, j + 1, H4, (I4.unpinned).weak ln kp, T.keep _ _ _ t2 fun b hb o ob => (stay b hb o ob).1, fun b hb => ?_, w'⟩
    obtain ⟨o, ob, _⟩ := T.obj _ _ t2 b hb
    exact (stay b hb o ob).2
end
section
variable {Y : Cx} {elt t0 i0 t1 i1 : Expr} {scope : Scope} {pos : Pos} {pins : List (Addr × Obj)} {Nx : Hp → Prop}
theorem inner_runs {te : TE} {σ0 σ2 : L2.St} {H2 : Hp} {D : Addr} (hx : ∀ v s, Y.xe v s → False) (pe : PE Y elt te) (kn : Knows σ0 σ2)
    (h : te σ2 H2 fun y H4 => ∃ (k : Str) (l : List Str), y = .str k ∧ H4 D = some (SetXO Y.prog Y.w D l) ∧ l.length + 1 < scanBound ∧ Nx (upd H4 D (SetXO Y.prog Y.w D (putX l k)))) : Runs Y pins σ0 σ2 H2 (innerB elt (.ref D) Y.env) Nx := by
  intro pl s I k Q E hk
  unfold innerB
  refine wpAny_bind (wpAny_bind (wpAny_mono (pe.run _ s σ2 H2 _ I h) (fun v s1 q => ?_) fun v s z => (hx v s z).elim))
  obtain ⟨y, H4, I4, ry, z, l, rfl, hD, room, nx⟩ := q
  obtain ⟨t, rfl⟩ := ry
  refine wpAny_bind (wpAny_standAt (wpAny_bind (SetX.add (setXO_get I4 hD) room fun h' sb new => wpAny_pure ?_)))
  have here : ∃ u, h'.get? D = some u := by
    obtain ⟨D', e, _⟩ := id new.ob
    exact ⟨_, e⟩
  exact hk _ _ σ2 kn (I4.write (e := D) (t' := s1.toks + 1) (by rw [hD]; trivial) (.inl rfl) (fun b u hb hu => (sb.2 b hb).trans hu) here (setXO_new new)) nx
end
section
variable {prog : Program} {w : World} {A : Around} {R : Result → Shared → Prop} {s : Shared} {elt t0 i0 t1 i1 : Expr} {scope : Scope} {pos : Pos} {it acc : Value} {env : Env}
theorem start1 (h0 : codeAny (model prog w) A (.compLoop (two elt t0 i0 t1 i1 scope pos) 1 it acc env) R s)
    (h : ∀ E, wpAny (model prog w) A (pyIter it) (fun it' s' => codeAny (model prog w) A (.compLoop (two elt t0 i0 t1 i1 scope pos) 1 it' acc env) R s') E s) : codeAny (model prog w) A (.compStart (two elt t0 i0 t1 i1 scope pos) 1 it acc env) R s := by
  refine codeAny_of_tree (show wpAny _ _ ((compStart (two elt t0 i0 t1 i1 scope pos) 1 it acc env).onRaise fun x => do noteFrame x env; standAt theWindowsPlace) _ _ s from wpAny_notedAt ?_)
  unfold compStart
  refine (show wpAny _ _ (ask >>= _) _ _ s from wpAny_bind (wpAny_askSetting (wpAny_ite ?_)))
  split
  · first
      | exact wpAny_bind (wpAny_pure (wpAny_pure (And.intro rfl h0))) | exact wpAny_pure (And.intro rfl h0)
  · refine wpAny_bind (wpAny_rule ?_)
    first
      | exact wpAny_bind (wpAny_standAt (wpAny_bind (wpAny_mono (h _) (fun it' s' q => wpAny_pure (And.intro rfl q)) fun _ _ x => x))) | (refine (show wpAny _ _ (standAt i1.pos >>= _) _ _ s from ?_); exact wpAny_bind (wpAny_standAt (wpAny_bind (wpAny_mono (h _) (fun it' s' q => wpAny_pure (And.intro rfl q)) fun _ _ x => x))))
end
theorem knows_wipe {σ2 σ3 : L2.St} {vs : List Nat} (e : wipe σ3 vs = wipe σ2 vs) : Knows (wipe σ2 vs) σ3 :=
  ⟨by rw [← e, wipe_length], fun n v h => (wipe_some (by rw [← e] at h; exact h)).1⟩
theorem knows_out {σ σ2 : L2.St} {vs vs1 : List Nat} (e : wipe σ2 vs = wipe σ vs) (sub : ∀ n ∈ vs1, n ∈ vs) : Knows (wipe σ vs) (wipe σ2 vs1) := by
  refine ⟨by rw [← e, wipe_length, wipe_length], fun n v h => ?_⟩
  rw [← e] at h
  obtain ⟨h1, h2⟩ := wipe_some h
  rw [wipe_out fun z => h2 (sub n z)]
  exact h1
section
variable {Y : Cx} {elt t0 i0 t1 i1 : Expr} {scope : Scope} {pos : Pos} {pins : List (Addr × Obj)}
/-- behind the second target's store -/
def PoIn (Y : Cx) (D : Addr) (te : TE) (σ2 : L2.St) (vs1 : List Nat) (Nx : Hp → Prop) (σ3 : L2.St) (H5 : Hp) : Prop :=
  wipe σ3 vs1 = wipe σ2 vs1 ∧ te σ3 H5 fun y H7 => ∃ (k : Str) (l : List Str), y = .str k ∧ H7 D = some (SetXO Y.prog Y.w D l) ∧ l.length + 1 < scanBound ∧ Nx (upd H7 D (SetXO Y.prog Y.w D (putX l k)))
/-- behind the first target's store -/
def PoOut (Y : Cx) (D : Addr) (wi1 : TI) (g1 : TG) (te : TE) (σ : L2.St) (vs vs1 : List Nat) (Nx : Hp → Prop) (σ2 : L2.St) (H2 : Hp) : Prop :=
  wipe σ2 vs = wipe σ vs ∧ wi1 σ2 H2 fun J1 H4 => ∃ W1 : Nat → Nat → Hp → Prop, (∃ m, W1 0 m H4) ∧ ∀ j m H, W1 j m H → (J1.stop j H ∧ Nx H) ∨ (J1.go j H ∧ ∃ Nx1 : Hp → Prop, (∀ H', Nx1 H' → ∃ m', m' < m ∧ W1 (j + 1) m' H') ∧ ∀ x H', J1.yld j H x H' → g1 x (wipe σ2 vs1) H' (PoIn Y D te σ2 vs1 Nx1))
theorem outer_runs {wi1 : TI} {g1 : TG} {te : TE} {σ : L2.St} {vs vs1 : List Nat} {D : Addr} (hc : Y.calm = true) (hx : ∀ v s, Y.xe v s → False) (sub : ∀ n ∈ vs1, n ∈ vs) (pi1 : PI Y t1 i1 wi1) (pg1 : PG Y t1 g1) (pe : PE Y elt te) (hs1 : ∀ x, foldedSetIterable i1 Y.env x = pure x)
    (Nx : Hp → Prop) (σ2 : L2.St) (H2 : Hp) (h : PoOut Y D wi1 g1 te σ vs vs1 Nx σ2 H2) : Runs Y pins (wipe σ vs) σ2 H2 (outerB elt t0 i0 t1 i1 scope pos (.ref D) Y.env) Nx := by
  obtain ⟨he, h⟩ := h
  intro pl s I k Q E hk
  unfold outerB
  refine wpAny_bind (wpAny_mono (pi1.run _ s σ2 H2 _ I h) (fun v s1 q1 => ?_) fun v s z => (hx v s z).elim)
  refine wpAny_bind (wpAny_standAt (wpAny_bind (wpAny_of_eq (hs1 v) (wpAny_bind (wpAny_holding (wpAny_mono q1 (fun itv s2 q2 => ?_) fun v s z => (hx v s z).elim))))))
  obtain ⟨it1, fp1, tn1, J1, H4, rfl, I4, T1, t4, f4, W1, ⟨m1, w1⟩, roll⟩ := q2
  have loop : codeAny (model Y.prog Y.w) Y.A (.compLoop (two elt t0 i0 t1 i1 scope pos) 1 (.ref it1) (.ref D) Y.env) (fun r s' => match r with
      | .ok _ => ∃ H', Inv Y (pins ++ pl) (wipe σ2 vs1) H' s' ∧ Nx H'
      | .error _ => False) s2 := by
    refine block_loop (level1 elt t0 i0 t1 i1 scope pos (.ref D) Y.env) rfl rfl hc hx T1 pg1 (fun {H'} hn b hb => ⟨hn b hb, (f4 b hb).2⟩) W1 (Po := PoIn Y D te σ2 vs1) (fun Nx1 σ3 H5 p => inner_runs hx pe (knows_wipe p.1) p.2) (fun j m H w => ?_) m1 s2 ⟨0, H4, I4.weak (wipe_length _ _) (fun n v e => (wipe_some e).1), t4, fun b hb => (f4 b hb).1, w1⟩
    rcases roll j m H w with ⟨a, b⟩ | ⟨a, Nx1, b, c⟩
    · exact .inl ⟨a, fun s' I' => ⟨H, I', b⟩⟩
    · exact .inr ⟨a, Nx1, b, c⟩
  refine wpAny_bind (wpAny_runOwn ?_)
  rw [Around.mark_none]
  refine codeAny_mono (start1 loop fun E => T1.self _ 0 _ _ _ t4 loop) fun r s' q => ?_
  cases r with
  | error v => exact q.elim
  | ok f =>
    obtain ⟨H', I', nx⟩ := q
    exact hk _ _ _ (knows_out he sub) I' nx
end
theorem setX_fresh {P : Program} {h : Heap} (w : World) : SetX P w (h.push { cls := .type "set", dict := none, data := .set #[] 0 (.fresh 0 0 (!w.params.followText "set-order")) }) h.objs.size [] := by
  refine ⟨⟨(#[], 0, .fresh 0 0 (!w.params.followText "set-order")), Heap.get?_push_size _ rfl, PySem.Froz.TxOk.nil (by rfl), List.Pairwise.nil, ?_⟩, List.nodup_nil, by decide⟩
  show _ ∨ (!w.params.followText "set-order") = true
  cases w.params.followText "set-order" with
  | false => exact .inr rfl
  | true => exact .inl rfl
section
variable {X : Cx}
/-- {elt for tg in iter for tg1 in iter1}, elt a text: D the new set -/
def tSc2 (X : Cx) (wi : TI) (g : TG) (wi1 : TI) (g1 : TG) (te : TE) (vs vs1 : List Nat) : TE := fun σ H Q => wi σ H fun J H1 => ∀ D, H1 D = none → ∃ W : Nat → Nat → Hp → Prop, (∃ m, W 0 m (upd H1 D (SetXO X.prog X.w D []))) ∧ ∀ j m H, W j m H →
  (J.stop j H ∧ Q (.ref D) H) ∨ (J.go j H ∧ ∃ Nx : Hp → Prop, (∀ H', Nx H' → ∃ m', m' < m ∧ W (j + 1) m' H') ∧ ∀ x H', J.yld j H x H' → g x (wipe σ vs) H' (PoOut X D wi1 g1 te σ vs vs1 Nx))
theorem pe_sc2 {elt tg iter tg1 iter1 : Expr} {scope : Scope} {own : List (Str × Nat)} {vs1 : List Nat} {pos : Pos} {wi wi1 : TI} {g g1 : TG} {te : TE} (hc : X.calm = true) (hN : X.N.Nodup) (hi : PI X tg iter wi) (ok : BlkOk X.N X.env.scope scope own) (hv : ∀ n ∈ vs1, n ∈ own.map (·.2))
    (hg : ∀ (s : Shared) (H : Hp) (C : Addr) (cl : List (Str × Addr)) (fp : List Addr), PG (X.blk s H scope (compEnvC scope cl C X.env) fp) tg g)
    (hi1 : ∀ (s : Shared) (H : Hp) (C : Addr) (cl : List (Str × Addr)) (fp : List Addr), PI (X.blk s H scope (compEnvC scope cl C X.env) fp) tg1 iter1 wi1)
    (hg1 : ∀ (s : Shared) (H : Hp) (C : Addr) (cl : List (Str × Addr)) (fp : List Addr), PG (X.blk s H scope (compEnvC scope cl C X.env) fp) tg1 g1)
    (he : ∀ (s : Shared) (H : Hp) (C : Addr) (cl : List (Str × Addr)) (fp : List Addr), PE (X.blk s H scope (compEnvC scope cl C X.env) fp) elt te)
    (hs : ∀ x, foldedSetIterable iter X.env x = pure x := by intro _; rfl) (hs1 : ∀ env x, foldedSetIterable iter1 env x = pure x := by intro _ _; rfl) :
    PE X (.SetComp elt [⟨tg, iter, [], 0⟩, ⟨tg1, iter1, [], 0⟩] scope pos) (tSc2 X wi g wi1 g1 te (own.map (·.2)) vs1) := by
  refine ⟨fun pins s σ H Q I h => ?_⟩
  rw [PpSet.eval_SetComp]
  have cells : ∀ y ∈ scope.names, y.2 = .free → ∃ c, X.env.cells.lookup y.1 = some c := fun y my ey => (ok.free y my ey).elim (fun z => I.ok.has _ (.inl z)) fun z => I.ok.has _ (.inr z)
  refine wpAny_comprehension_free (use := none) rfl hs (closure_ok cells) ok.kind (fun y my ey => by rw [ok.uniq y my, ey]) (thn (hi.run pins s σ H _ I h) fun v1 s1 q1 => thn q1 fun v2 s2 q2 => ?_)
  obtain ⟨it, fp, tn, J, H2, rfl, I2, T, t2, f2, q⟩ := q2
  refine PpSet.newSet_ok (newEnv_comp ?_)
  have dNone : H2 s2.heap.objs.size = none := I2.hok.fresh (Nat.le_refl _)
  obtain ⟨W, ⟨m0, w0⟩, roll⟩ := q _ dNone
  have I3 := I2.laid (t' := s2.toks) (h' := s2.heap.push { cls := .type "set", dict := none, data := .set #[] 0 (.fresh 0 0 (!X.w.params.followText "set-order")) }) (a := s2.heap.objs.size) (o := SetXO X.prog X.w s2.heap.objs.size []) (fun b o e => Heap.get?_push_of_some _ e) (Nat.le_refl _) (setXO_new (setX_fresh X.w))
  have small : ∀ b ∈ fp, b < s2.heap.objs.size := fun b mb => by
    obtain ⟨o, e, _⟩ := T.obj _ _ t2 b mb
    exact Heap.lt_size e
  generalize hD : s2.heap.objs.size = D at *
  generalize hh : s2.heap.push { cls := .type "set", dict := none, data := .set #[] 0 (.fresh 0 0 (!X.w.params.followText "set-order")) } = h3 at I3
  have keep3 : ∀ b o, s2.heap.get? b = some o → h3.get? b = some o := fun b o e => by
    rw [← hh]
    exact Heap.get?_push_of_some _ e
  have big3 : s2.heap.objs.size < h3.objs.size := by
    rw [← hh, Heap.size_push]
    exact Nat.lt_succ_self _
  have f3 : ∀ b ∈ fp, FpOk X pins (upd H2 D (SetXO X.prog X.w D [])) b ∧ b < h3.objs.size := fun b mb => by
    have lt := small b mb
    refine ⟨⟨(upd_ne (Nat.ne_of_lt lt)).trans (f2 b mb).1, (f2 b mb).2⟩, ?_⟩
    rw [hD] at big3
    exact Nat.lt_trans lt big3
  generalize hs3 : ({ s2 with heap := h3 } : Shared) = s3 at I3 ⊢
  have e3 : s3.heap = h3 := by rw [← hs3]
  rw [← e3] at f3
  have t3 : tn 0 s3.heap := T.keep _ _ _ t2 fun b _ o e => by
    rw [e3]
    exact keep3 b o e
  have I4 := block_start I3 ok hN f3
  have pgA := hg s3 (upd H2 D (SetXO X.prog X.w D [])) s3.heap.objs.size (cellsFrom (s3.heap.objs.size + 1) scope.names (cloFrom X.env.cells scope.names [])) fp
  have piB := hi1 s3 (upd H2 D (SetXO X.prog X.w D [])) s3.heap.objs.size (cellsFrom (s3.heap.objs.size + 1) scope.names (cloFrom X.env.cells scope.names [])) fp
  have pgB := hg1 s3 (upd H2 D (SetXO X.prog X.w D [])) s3.heap.objs.size (cellsFrom (s3.heap.objs.size + 1) scope.names (cloFrom X.env.cells scope.names [])) fp
  have peB := he s3 (upd H2 D (SetXO X.prog X.w D [])) s3.heap.objs.size (cellsFrom (s3.heap.objs.size + 1) scope.names (cloFrom X.env.cells scope.names [])) fp
  show codeAny _ X.A (.compStart (two elt tg iter tg1 iter1 scope pos) 0 (.ref it) (.ref D) (compEnvC scope (cellsFrom (s3.heap.objs.size + 1) scope.names (cloFrom X.env.cells scope.names [])) s3.heap.objs.size X.env)) (compPost (model X.prog X.w) X.A X.xe none (EP X pins σ Q) (.ref D) s3.heap.objs.size) _
  generalize hce : compEnvC scope (cellsFrom (s3.heap.objs.size + 1) scope.names (cloFrom X.env.cells scope.names [])) s3.heap.objs.size X.env = ce at I4 pgA piB pgB peB ⊢
  have cl : ce.locals = s3.heap.objs.size := by
    subst hce
    rfl
  have nfp : ∀ b ∈ fp, upd H2 D (SetXO X.prog X.w D []) b = none := fun b mb => (f3 b mb).1.1
  have t4 : tn 0 (pushCells (s3.heap.push { cls := .type "dict", data := .dict #[] }) scope.names) := T.keep _ _ _ t3 fun b _ o e => pushCells_keeps _ _ _ _ (Heap.get?_push_of_some _ e)
  have loop : codeAny (model X.prog X.w) X.A (.compLoop (two elt tg iter tg1 iter1 scope pos) 0 (.ref it) (.ref D) ce) (compPost (model X.prog X.w) X.A X.xe none (EP X pins σ Q) (.ref D) s3.heap.objs.size) { s3 with heap := pushCells (s3.heap.push { cls := .type "dict", data := .dict #[] }) scope.names } := by
    refine block_loop (Y := X.blk s3 (upd H2 D (SetXO X.prog X.w D [])) scope ce fp) (pins := []) (σ0 := wipe σ (own.map (·.2))) (level0 elt tg iter tg1 iter1 scope pos (.ref D) ce) rfl rfl hc (fun _ _ z => z) T pgA
      (fun {H'} hn b mb => ⟨hn b mb, (I4.ok.exf b mb).1, I4.ok.exfs b mb, .inl mb, fun x c e => (I4.ok.exf b mb).2 x c e, fun p hp => absurd (show p ∈ ([] : List (Addr × Obj)) ++ [] from hp) (by simp)⟩) W
      (Po := PoOut X D wi1 g1 te σ (own.map (fun x : Str × Nat => x.2)) vs1) (fun Nx σ2 H5 p => outer_runs (Y := X.blk s3 (upd H2 D (SetXO X.prog X.w D [])) scope ce fp) (D := D) (σ := σ) (vs := own.map (fun x : Str × Nat => x.2)) hc (fun _ _ z => z) hv piB pgB peB (hs1 ce) Nx σ2 H5 p) (fun j m H5 w5 => ?_) m0 _ ⟨0, _, I4, t4, nfp, w0⟩
    rcases roll j m H5 w5 with ⟨stop, q⟩ | ⟨go, Nx, a, b⟩
    · refine .inl ⟨stop, fun s6 I6 => ?_⟩
      have I7 : Inv X pins σ H5 s6 := I3.call' (ch := fp) I6.os I6.base I6.hok I6.bare fun b mb => let ⟨_, g1, g2, g3, g4, g5⟩ := (f3 b mb).1; ⟨g3, g1, g4, g5⟩
      have free : H5 s3.heap.objs.size = none := by
        rw [← cl]
        exact I6.free
      obtain ⟨n, hn, _⟩ := I6.loc
      have hn' : s6.heap.Ns ce.locals n := hn
      rw [cl] at hn'
      obtain ⟨c0, c1, c2, c3, c4, c5⟩ := I3.fpOk (Nat.le_refl _) free
      exact ⟨n, hn', fun h7 sb => ⟨.ref D, H5, I7.turned (t' := s6.toks) (fun b o hb e => (sb.2 b hb).trans e) c0 c1 c3 c4 c5, rfl, q⟩⟩
    · exact .inr ⟨go, Nx, a, b⟩
  exact PpSet.codeAny_compStart_set loop (T.self X.A 0 _ _ _ t4 loop)
end
end SM
/-! Part W22: rules for a board's defs. -/
namespace SM
open PySem PySem.Spec PyProof.Rows L2
/-- e.f, K told -/
theorem pe_fldK {X : Cx} {K : PySem.W.Frag} {e : Expr} {f : Str} {pos : Pos} {ta : TE} (h : X.K = K) (he : PE X e ta) (hb : attributeBase e f X.env (eval e X.env) = eval e X.env) : PE X (.Attribute e f pos) (tFld K ta f) := by
  subst h
  exact pe_fld he hb
/-- a list is walked: any step F -/
theorem roll_list {K : PySem.W.Frag} {a : Addr} {xs : List V} {H0 : Hp} {Z : Hp → Prop} {F : V → Hp → (Hp → Prop) → Prop} (Pv : Nat → Hp → Prop) (h0 : Pv 0 H0) (hl : ∀ i H, i ≤ xs.length → Pv i H → SqL K H a xs) (hs : ∀ i x H, xs[i]? = some x → Pv i H → F x H (Pv (i + 1))) (hd : ∀ H, Pv xs.length H → Z H) :
    ∃ W : Nat → Nat → Hp → Prop, (∃ m, W 0 m H0) ∧ ∀ j m H, W j m H → ((Itl K a).stop j H ∧ Z H) ∨ ((Itl K a).go j H ∧ ∃ Nx : Hp → Prop, (∀ H', Nx H' → ∃ m', m' < m ∧ W (j + 1) m' H') ∧ ∀ x H', (Itl K a).yld j H x H' → F x H' Nx) := by
  refine ⟨fun j m H => m + j = xs.length ∧ Pv j H, ⟨xs.length, rfl, h0⟩, fun j m H ⟨hm, p⟩ => ?_⟩
  have sq := hl j H (by omega) p
  cases hj : xs[j]? with
  | some y =>
    have lt := (List.getElem?_eq_some_iff.mp hj).1
    refine .inr ⟨⟨xs, y, sq, hj⟩, Pv (j + 1), fun H' p' => ⟨m - 1, by omega, by omega, p'⟩, fun x H' yl => ?_⟩
    obtain ⟨rfl, yl⟩ := yl
    exact hs j x _ (yl xs sq) p
  | none =>
    have ge := List.getElem?_eq_none_iff.mp hj
    have e : j = xs.length := by omega
    refine .inl ⟨⟨xs, sq, ge⟩, hd H (by rw [← e]; exact p)⟩
end SM
/-! Part W23: a board's state, and how it stands in the heap. -/
namespace SM
open PySem PySem.Spec PyProof.Rows L2
/-! one entry of a table changed -/
section
variable {α : Type}
def setT (tab : List (Str × α)) (k : Str) (f : α → α) : List (Str × α) := tab.map fun e => if e.1 = k then (e.1, f e.2) else e
theorem keys_setT {tab : List (Str × α)} {k : Str} {f : α → α} : keys (setT tab k f) = keys tab := by
  unfold keys setT
  rw [List.map_map]
  refine List.map_congr_left fun e _ => ?_
  show (if e.1 = k then (e.1, f e.2) else e).1 = e.1
  split <;> rfl
theorem look_setT {f : α → α} {k x : Str} : ∀ {tab : List (Str × α)}, look (setT tab k f) x = if x = k then (look tab x).map f else look tab x
  | [] => by
    show (none : Option α) = _
    split <;> rfl
  | e :: tab => by
    have ih := look_setT (f := f) (k := k) (x := x) (tab := tab)
    show look ((if e.1 = k then (e.1, f e.2) else e) :: setT tab k f) x = _
    by_cases ek : e.1 = k
    · rw [if_pos ek]
      by_cases ex : e.1 = x
      · rw [look_pos (p := (e.1, f e.2)) ex, look_pos ex, if_pos (ex.symm.trans ek)]
        rfl
      · rw [look_neg (p := (e.1, f e.2)) ex, look_neg ex, ih]
    · rw [if_neg ek]
      by_cases ex : e.1 = x
      · rw [look_pos ex, look_pos ex, if_neg fun z => ek (ex.trans z)]
      · rw [look_neg ex, look_neg ex, ih]
theorem Kr.sets {G : V → α → Prop} {f : α → α} {k : Str} (g : ∀ v a, G v a → G v (f a)) : ∀ {kvs : List (Key × V)} {tab : List (Str × α)}, Kr G kvs tab → Kr G kvs (setT tab k f)
  | _, _, .nil => .nil
  | _, q :: _, .cons h t => by
    refine Paired.cons ?_ (Kr.sets g t)
    dsimp only
    by_cases e : q.1 = k
    · rw [if_pos e]
      exact ⟨h.1, g _ _ h.2⟩
    · rw [if_neg e]
      exact h
theorem Kr.over {G : V → α → Prop} {f : α → α} {k : Str} {v : V} (g : ∀ a, G v (f a)) : ∀ {kvs : List (Key × V)} {tab : List (Str × α)}, Kr G kvs tab → Kr G (kvs.map fun kv => if kv.1 = Sum.inr k then (kv.1, v) else kv) (setT tab k f)
  | _, _, .nil => .nil
  | p :: _, q :: _, .cons h t => by
    refine Paired.cons ?_ (Kr.over g t)
    dsimp only
    by_cases e : q.1 = k
    · have e' : p.1 = Sum.inr k := h.1.trans (congrArg Sum.inr e)
      rw [if_pos e, if_pos e']
      exact ⟨h.1, g _⟩
    · have e' : ¬ p.1 = Sum.inr k := fun z => e (Sum.inr.inj (h.1.symm.trans z))
      rw [if_neg e, if_neg e']
      exact h
theorem Kr.upd {G : V → α → Prop} {f : α → α} {k : Str} {v : V} {kvs : List (Key × V)} {tab : List (Str × α)} (g : ∀ a, G v (f a)) (h : Kr G kvs tab) (m : k ∈ keys tab) : Kr G (putK kvs (Sum.inr k) v) (setT tab k f) := by
  have any : (kvs.any fun kv => decide (kv.1 = (Sum.inr k : Key))) = true := by
    rw [valV_any, h.has, look_isSome, decide_eq_true m]
  unfold putK
  rw [if_pos any]
  exact h.over g
theorem mem_setT {tab : List (Str × α)} {k : Str} {f : α → α} {e : Str × α} (h : e ∈ setT tab k f) : (e.1 ≠ k ∧ e ∈ tab) ∨ ∃ a, e = (k, f a) ∧ (k, a) ∈ tab := by
  obtain ⟨q, m, rfl⟩ := List.mem_map.mp h
  by_cases z : q.1 = k
  · rw [if_pos z]
    exact .inr ⟨q.2, by rw [z], by rw [← z]; exact m⟩
  · rw [if_neg z]
    exact .inl ⟨z, m⟩
end
/-! the state -/
structure DevV where
  st : Str
  home : Str
  stk : Bool
  hung : List Str
  adr : Addr
/-- a crew: its list, the hands -/
structure CrV where
  adr : Addr
  hs : List Str
structure BS where
  devs : List (Str × DevV)
  crews : List (Str × CrV)
def BS.new : BS := ⟨[], []⟩
structure BA where
  p : Addr
  s : Addr
  h : Addr
  k : Addr
  g : Addr
  c : Addr
def bms (B : BA) (S : BS) : List Addr := [B.s, B.h, B.k, B.g, B.c] ++ S.devs.map fun e => e.2.adr
def bfl (B : BA) : List (Str × V) := [("_stands", .ref B.s), ("_homes", .ref B.h), ("_stuck", .ref B.k), ("_hung", .ref B.g), ("_crews", .ref B.c)]
def jobsD (xs : List Str) : List (Key × V) := xs.map fun j => (Sum.inr j, .bl true)
def CrewG (H : Hp) (v : V) (c : CrV) : Prop := v = .ref c.adr ∧ H c.adr = some (.lst (c.hs.map V.str))
/-- a board stands at B, its state is S -/
structure BdAt (L : Addr) (H : Hp) (B : BA) (S : BS) : Prop where
  ob : ∃ dx, H B.p = some (.ins L dx (bfl B))
  st : ∃ kvs, H B.s = some (.dK kvs) ∧ Kr (fun v (d : DevV) => v = .str d.st) kvs S.devs
  ho : ∃ kvs, H B.h = some (.dK kvs) ∧ Kr (fun v (d : DevV) => v = .str d.home) kvs S.devs
  sk : ∃ kvs, H B.k = some (.dK kvs) ∧ Kr (fun v (d : DevV) => v = .bl d.stk) kvs S.devs
  hg : ∃ kvs, H B.g = some (.dK kvs) ∧ Kr (fun v (d : DevV) => v = .ref d.adr) kvs S.devs
  inn : ∀ e ∈ S.devs, H e.2.adr = some (.dK (jobsD e.2.hung))
  cr : ∃ kvs, H B.c = some (.dK kvs) ∧ Kr (CrewG H) kvs S.crews
  nd : (bms B S).Nodup
section
variable {L : Addr} {H H' : Hp} {B : BA} {S : BS} {ms : List Addr}
theorem CrewG.keep {v : V} {c : CrV} (h : CrewG H v c) (k : Keep ms H H') : CrewG H' v c := ⟨h.1, k.flat _ _ h.2 (flat_strs _)⟩
theorem BdAt.keep (h : BdAt L H B S) (k : Keep ms H H') (n : ∀ b ∈ ms, b ∉ bms B S) : BdAt L H' B S := by
  obtain ⟨⟨dx, ob⟩, ⟨k1, a1, b1⟩, ⟨k2, a2, b2⟩, ⟨k3, a3, b3⟩, ⟨k4, a4, b4⟩, inn, ⟨k5, a5, b5⟩, nd⟩ := h
  have off : ∀ {b u}, b ∈ bms B S → H b = some u → H' b = some u := fun {b u} hb e => k.out b u e fun z => n b z hb
  exact ⟨⟨dx, k.ins _ _ _ _ ob⟩, ⟨k1, off (by simp [bms]) a1, b1⟩, ⟨k2, off (by simp [bms]) a2, b2⟩, ⟨k3, off (by simp [bms]) a3, b3⟩, ⟨k4, off (by simp [bms]) a4, b4⟩,
    fun e me => off (List.mem_append_right _ (List.mem_map_of_mem me)) (inn e me), ⟨k5, off (by simp [bms]) a5, b5.mono fun _ _ q => q.keep k⟩, nd⟩
theorem BdAt.same (h : BdAt L H B S) (s : Same H H') : BdAt L H' B S := h.keep (ms := []) (Keep.of s) fun _ z => nomatch z
theorem BdAt.dks (h : BdAt L H B S) : ∀ b ∈ bms B S, ∃ kvs, H b = some (.dK kvs) := by
  obtain ⟨_, ⟨k1, a1, _⟩, ⟨k2, a2, _⟩, ⟨k3, a3, _⟩, ⟨k4, a4, _⟩, inn, ⟨k5, a5, _⟩, _⟩ := h
  intro b hb
  rcases List.mem_append.mp hb with hb | hb
  · have hb' : b = B.s ∨ b = B.h ∨ b = B.k ∨ b = B.g ∨ b = B.c := by simpa using hb
    rcases hb' with rfl | rfl | rfl | rfl | rfl
    · exact ⟨_, a1⟩
    · exact ⟨_, a2⟩
    · exact ⟨_, a3⟩
    · exact ⟨_, a4⟩
    · exact ⟨_, a5⟩
  · obtain ⟨e, me, rfl⟩ := List.mem_map.mp hb
    exact ⟨_, inn e me⟩
end
end SM
/-! Part W24: positions, crews. -/
namespace SM
open PySem PySem.Spec PyProof.Rows L2
def posL : List Str := ["open", "shut"]
/-- is it a position: b -/
def PosQ (K : PySem.W.Frag) (H : Hp) (x : V) (b : Bool) : Prop := (∃ z : Str, x = .str z ∧ b = decide (z ∈ posL)) ∨ (b = false ∧ ∃ t, TyX K H x t ∧ PySem.W.kitOne K t (.type "str") = some false)
def spIsPos (K : PySem.W.Frag) : Sp := fun vs H Q _ => ∃ (x : V) (b : Bool), vs = [x] ∧ PosQ K H x b ∧ Q (.bl b) H
def spCrewG : Sp := fun vs H Q _ => ∃ (l : Addr) (xs : List Str), vs = [.ref l] ∧ H l = some (.lst (xs.map V.str)) ∧ xs.Nodup ∧ 1 ≤ xs.length ∧ xs.length ≤ 6 ∧ (∀ x ∈ xs, okName x = true) ∧ ∀ H', Same H H' → Q (.bl true) H'
end SM
/-! Part W25: a board's deeds, what is due, what its methods promise. -/
namespace SM
open PySem PySem.Spec PyProof.Rows L2
/-- the hands whose tags hang on a device, but for a job's -/
def crewOf (S : BS) (j : Str) : List Str := ((look S.crews j).map (·.hs)).getD []
def handSet (S : BS) (js : List Str) : List Str := js.foldl (fun l j => (crewOf S j).foldl putX l) []
def handsOn (S : BS) (d : DevV) (but : Option Str) : List Str := handSet S (d.hung.filter fun j => decide (some j ≠ but))
inductive BDeed where
  | add (x p : Str) (a : Addr)
  | crew (j : Str) (hs : List Str) (a : Addr)
  | turn (x p : Str)
  | stick (x : Str)
  | mend (x : Str)
  | hold (x p j : Str)
  | free (x j : Str)
  | take (x : Str)
  | leave (j : Str)
inductive BRf where
  | there (x : Str)
  | lacks (x : Str)
  | tooMany (n : Int)
  | held (l : List Str)
  | stuck (x : Str)
  | inUse (x : Str)
/-- a device's move to a position -/
def moveDue (x p : Str) (d : DevV) : Option BRf := if d.st = p then none else if d.stk = true then some (.stuck x) else none
def heldDue (S : BS) (d : DevV) (but : Option Str) : Option BRf := if handsOn S d but = [] then none else some (.held (handsOn S d but))
/-- the devices on which a job's tags hang -/
def heldBy (S : BS) (j : Str) : List Str := keys (S.devs.filter fun e => decide (j ∈ e.2.hung))
def BS.due (S : BS) : BDeed → Option BRf
  | .add x _ _ => if x ∈ keys S.devs then some (.there x) else if 52 ≤ S.devs.length then some (.tooMany 52) else none
  | .crew j _ _ => if j ∈ keys S.crews then none else if 8 ≤ S.crews.length then some (.tooMany 8) else none
  | .turn x p => match look S.devs x with
    | none => some (.lacks x)
    | some d => (heldDue S d none).or (moveDue x p d)
  | .stick x => if x ∈ keys S.devs then none else some (.lacks x)
  | .mend x => if x ∈ keys S.devs then none else some (.lacks x)
  | .hold x p j => match look S.devs x with
    | none => some (.lacks x)
    | some d => if j ∉ keys S.crews then some (.lacks j) else (if d.st = p then none else heldDue S d (some j)).or (moveDue x p d)
  | .free x j => match look S.devs x with
    | none => some (.lacks x)
    | some d => if j ∉ keys S.crews then some (.lacks j) else if j ∈ d.hung ∧ d.hung.length = 1 then moveDue x d.home d else none
  | .take x => match look S.devs x with
    | none => some (.lacks x)
    | some d => heldDue S d none
  | .leave j => if j ∉ keys S.crews then some (.lacks j) else if heldBy S j = [] then none else some (.inUse j)
def BS.put (S : BS) : BDeed → BS
  | .add x p a => { S with devs := S.devs ++ [(x, ⟨p, p, false, [], a⟩)] }
  | .crew j hs a => { S with crews := if j ∈ keys S.crews then setT S.crews j fun _ => ⟨a, hs⟩ else S.crews ++ [(j, ⟨a, hs⟩)] }
  | .turn x p => { S with devs := setT S.devs x fun d => { d with st := p, home := p } }
  | .stick x => { S with devs := setT S.devs x fun d => { d with stk := true } }
  | .mend x => { S with devs := setT S.devs x fun d => { d with stk := false } }
  | .hold x p j => { S with devs := setT S.devs x fun d => { d with st := p, hung := if j ∈ d.hung then d.hung else d.hung ++ [j] } }
  | .free x j => { S with devs := setT S.devs x fun d => { d with st := if j ∈ d.hung ∧ d.hung.length = 1 then d.home else d.st, hung := d.hung.filter fun y => decide (y ≠ j) } }
  | .take x => { S with devs := del S.devs x }
  | .leave j => { S with crews := del S.crews j }
structure BS.Ok (S : BS) : Prop where
  dN : (keys S.devs).Nodup
  dL : S.devs.length ≤ 52
  cN : (keys S.crews).Nodup
  cL : S.crews.length ≤ 8
  dG : ∀ x ∈ keys S.devs, okName x = true
  cG : ∀ x ∈ keys S.crews, okName x = true
  pos : ∀ e ∈ S.devs, e.2.st ∈ posL ∧ e.2.home ∈ posL
  hN : ∀ e ∈ S.devs, e.2.hung.Nodup ∧ ∀ j ∈ e.2.hung, j ∈ keys S.crews
  crw : ∀ e ∈ S.crews, e.2.hs.Nodup ∧ 1 ≤ e.2.hs.length ∧ e.2.hs.length ≤ 6 ∧ ∀ x ∈ e.2.hs, okName x = true
/-- a refusal goes out -/
def BRefd (C : Nat → Addr) (H : Hp) (E : XK) : BRf → Prop
  | .there x => Ref C 1 (.str x) H E
  | .lacks x => Ref C 2 (.str x) H E
  | .tooMany n => Ref C 3 (.int n) H E
  | .held l => ∀ ys, Srt ys l → ∀ d a H', Same H H' → H d = none → H a = none → H' d = some (.xd [("hands", .ref a)]) → H' a = some (.lst (ys.map V.str)) → E (.ref (C 5)) (some d) H'
  | .stuck x => Ref C 6 (.str x) H E
  | .inUse x => Ref C 4 (.str x) H E
section
variable (C : Nat → Addr) (L : Addr)
def BDoes (D : BDeed) (B : BA) (S : BS) (H : Hp) (Q : VK) (E : XK) : Prop :=
  (S.due D = none → ∀ H', BdAt L H' B (S.put D) → Keep (bms B S) H H' → Q .non H') ∧ ∀ f, S.due D = some f → BRefd C H E f
def spBRef (n : Nat) (t : BS → Str → Bool) : Sp := fun vs H Q E => ∃ (B : BA) (z : Str) (S : BS), vs = [.ref B.p, .str z] ∧ BdAt L H B S ∧ (t S z = true → Ref C n (.str z) H E) ∧ (t S z = false → Q .non H)
/-- a question of a device -/
def spBAsk (K : PySem.W.Frag) (told : DevV → V → Hp → Hp → Prop) : Sp := fun vs H Q E => ∃ (B : BA) (x : V) (b : Bool) (S : BS), vs = [.ref B.p, x] ∧ BdAt L H B S ∧ S.Ok ∧ NameQ K H x b ∧ (b = false → Ref C 0 (.int 0) H E) ∧
  ∀ z, x = .str z → okName z = true → (z ∉ keys S.devs → Ref C 2 (.str z) H E) ∧ ∀ d, look S.devs z = some d → ∀ H' v, Same H H' → told d v H H' → Q v H'
def spB1 (K : PySem.W.Frag) (D : Str → BDeed) : Sp := fun vs H Q E => ∃ (B : BA) (x : V) (b : Bool) (S : BS), vs = [.ref B.p, x] ∧ BdAt L H B S ∧ S.Ok ∧ NameQ K H x b ∧ (b = false → Ref C 0 (.int 0) H E) ∧ ∀ z, x = .str z → okName z = true → BDoes C L (D z) B S H Q E
def butV : Option Str → V
  | none => .non
  | some j => .str j
def spHandsOn : Sp := fun vs H Q _ => ∃ (B : BA) (z : Str) (but : Option Str) (S : BS) (d : DevV), vs = [.ref B.p, .str z, butV but] ∧ BdAt L H B S ∧ S.Ok ∧ look S.devs z = some d ∧
  ∀ (H' : Hp) (p : Addr) (ys : List Str), Srt ys (handsOn S d but) → Same H H' → H p = none → H' p = some (.lst (ys.map V.str)) → Q (.ref p) H'
end
theorem bfl_no (B : BA) {x : Str} (h : ([("_stands" : Str), "_homes", "_stuck", "_hung", "_crews"]).contains x = false) : (bfl B).lookup x = none := by
  simp only [List.contains_cons, Bool.or_eq_false_iff, List.contains_nil] at h
  simp only [bfl, List.lookup_cons, h.1, h.2.1, h.2.2.1, h.2.2.2.1, h.2.2.2.2.1, List.lookup_nil]
theorem nB01 : (("_homes" : Str) == "_stands") = false := by decide +kernel
theorem nB02 : (("_stuck" : Str) == "_stands") = false := by decide +kernel
theorem nB12 : (("_stuck" : Str) == "_homes") = false := by decide +kernel
theorem nB03 : (("_hung" : Str) == "_stands") = false := by decide +kernel
theorem nB13 : (("_hung" : Str) == "_homes") = false := by decide +kernel
theorem nB23 : (("_hung" : Str) == "_stuck") = false := by decide +kernel
theorem nB04 : (("_crews" : Str) == "_stands") = false := by decide +kernel
theorem nB14 : (("_crews" : Str) == "_homes") = false := by decide +kernel
theorem nB24 : (("_crews" : Str) == "_stuck") = false := by decide +kernel
theorem nB34 : (("_crews" : Str) == "_hung") = false := by decide +kernel
theorem bfl_s (B : BA) : (bfl B).lookup ("_stands" : Str) = some (.ref B.s) := by simp only [bfl, List.lookup_cons, beq_self_eq_true]
theorem bfl_h (B : BA) : (bfl B).lookup ("_homes" : Str) = some (.ref B.h) := by simp only [bfl, List.lookup_cons, beq_self_eq_true, nB01]
theorem bfl_k (B : BA) : (bfl B).lookup ("_stuck" : Str) = some (.ref B.k) := by simp only [bfl, List.lookup_cons, beq_self_eq_true, nB02, nB12]
theorem bfl_g (B : BA) : (bfl B).lookup ("_hung" : Str) = some (.ref B.g) := by simp only [bfl, List.lookup_cons, beq_self_eq_true, nB03, nB13, nB23]
theorem bfl_c (B : BA) : (bfl B).lookup ("_crews" : Str) = some (.ref B.c) := by simp only [bfl, List.lookup_cons, beq_self_eq_true, nB04, nB14, nB24, nB34]
end SM
/-! Part W26: one dict of a board changed. -/
namespace SM
open PySem PySem.Spec PyProof.Rows L2
theorem adr_setT {f : DevV → DevV} (hf : ∀ d, (f d).adr = d.adr) {tab : List (Str × DevV)} {z : Str} : (setT tab z f).map (fun e => e.2.adr) = tab.map fun e => e.2.adr := by
  unfold setT
  rw [List.map_map]
  refine List.map_congr_left fun e _ => ?_
  show (if e.1 = z then (e.1, f e.2) else e).2.adr = e.2.adr
  split
  · exact hf _
  · rfl
theorem bms_setT {f : DevV → DevV} (hf : ∀ d, (f d).adr = d.adr) {B : BA} {S : BS} {z : Str} : bms B { S with devs := setT S.devs z f } = bms B S := by
  unfold bms
  rw [adr_setT hf]
theorem inn_setT {H : Hp} {f : DevV → DevV} (hf : ∀ d, (f d).adr = d.adr) (hg : ∀ d, (f d).hung = d.hung) {tab : List (Str × DevV)} {z : Str} (h : ∀ e ∈ tab, H e.2.adr = some (.dK (jobsD e.2.hung))) : ∀ e ∈ setT tab z f, H e.2.adr = some (.dK (jobsD e.2.hung)) := by
  intro e me
  rcases mem_setT me with ⟨_, m⟩ | ⟨a, rfl, m⟩
  · exact h _ m
  · show H (f a).adr = some (.dK (jobsD (f a).hung))
    rw [hf, hg]
    exact h _ m
section
variable {L : Addr} {H : Hp} {B : BA} {S : BS} {kvs : List (Key × V)} {z : Str} {f : DevV → DevV}
theorem BdAt.setK (h : BdAt L H B S) (hf : ∀ d, f d = { d with stk := (f d).stk }) (kr : Kr (fun v (d : DevV) => v = .bl d.stk) kvs (setT S.devs z f)) : BdAt L (upd H B.k (.dK kvs)) B { S with devs := setT S.devs z f } := by
  have fa : ∀ d, (f d).adr = d.adr := fun d => by rw [hf d]
  have fs : ∀ d, (f d).st = d.st := fun d => by rw [hf d]
  have fh : ∀ d, (f d).home = d.home := fun d => by rw [hf d]
  have fg : ∀ d, (f d).hung = d.hung := fun d => by rw [hf d]
  obtain ⟨⟨dx, ob⟩, ⟨q1, s1, s2⟩, ⟨q2, h1, h2⟩, ⟨q3, k1, k2⟩, ⟨q4, g1, g2⟩, inn, ⟨q5, c1, c2⟩, nd⟩ := h
  have kp : Keep [B.k] H (upd H B.k (.dK kvs)) := Keep.dput k1 (by simp)
  have nd' := nd
  simp only [bms, List.cons_append, List.nil_append, List.nodup_cons, List.mem_cons, not_or] at nd'
  obtain ⟨⟨n1, n2, n3, n4, n5⟩, ⟨n6, n7, n8, n9⟩, ⟨n10, n11, n12⟩, ⟨n13, n14⟩, n15, n16⟩ := nd'
  have off : ∀ {b u}, b ≠ B.k → H b = some u → upd H B.k (.dK kvs) b = some u := fun {b u} n e => (upd_ne n).trans e
  refine ⟨⟨dx, kp.ins _ _ _ _ ob⟩, ⟨q1, off n2 s1, s2.sets fun v a e => e.trans (by rw [fs])⟩, ⟨q2, off n6 h1, h2.sets fun v a e => e.trans (by rw [fh])⟩, ⟨kvs, upd_same, kr⟩,
    ⟨q4, off (fun w => n10 w.symm) g1, g2.sets fun v a e => e.trans (by rw [fa])⟩, ?_, ⟨q5, off (fun w => n11 w.symm) c1, c2.mono fun _ _ q => q.keep kp⟩, by rw [bms_setT fa]; exact nd⟩
  refine inn_setT fa fg fun e me => off (fun w => n12 ?_) (inn e me)
  rw [← w]
  exact List.mem_map_of_mem (f := fun e : Str × DevV => e.2.adr) me
theorem BdAt.setSt (h : BdAt L H B S) (hf : ∀ d, f d = { d with st := (f d).st }) (kr : Kr (fun v (d : DevV) => v = .str d.st) kvs (setT S.devs z f)) : BdAt L (upd H B.s (.dK kvs)) B { S with devs := setT S.devs z f } := by
  have fa : ∀ d, (f d).adr = d.adr := fun d => by rw [hf d]
  have fk : ∀ d, (f d).stk = d.stk := fun d => by rw [hf d]
  have fh : ∀ d, (f d).home = d.home := fun d => by rw [hf d]
  have fg : ∀ d, (f d).hung = d.hung := fun d => by rw [hf d]
  obtain ⟨⟨dx, ob⟩, ⟨q1, s1, s2⟩, ⟨q2, h1, h2⟩, ⟨q3, k1, k2⟩, ⟨q4, g1, g2⟩, inn, ⟨q5, c1, c2⟩, nd⟩ := h
  have kp : Keep [B.s] H (upd H B.s (.dK kvs)) := Keep.dput s1 (by simp)
  have nd' := nd
  simp only [bms, List.cons_append, List.nil_append, List.nodup_cons, List.mem_cons, not_or] at nd'
  obtain ⟨⟨n1, n2, n3, n4, n5⟩, ⟨n6, n7, n8, n9⟩, ⟨n10, n11, n12⟩, ⟨n13, n14⟩, n15, n16⟩ := nd'
  have off : ∀ {b u}, b ≠ B.s → H b = some u → upd H B.s (.dK kvs) b = some u := fun {b u} n e => (upd_ne n).trans e
  refine ⟨⟨dx, kp.ins _ _ _ _ ob⟩, ⟨kvs, upd_same, kr⟩, ⟨q2, off (fun w => n1 w.symm) h1, h2.sets fun v a e => e.trans (by rw [fh])⟩, ⟨q3, off (fun w => n2 w.symm) k1, k2.sets fun v a e => e.trans (by rw [fk])⟩,
    ⟨q4, off (fun w => n3 w.symm) g1, g2.sets fun v a e => e.trans (by rw [fa])⟩, ?_, ⟨q5, off (fun w => n4 w.symm) c1, c2.mono fun _ _ q => q.keep kp⟩, by rw [bms_setT fa]; exact nd⟩
  refine inn_setT fa fg fun e me => off (fun w => n5 ?_) (inn e me)
  rw [← w]
  exact List.mem_map_of_mem (f := fun e : Str × DevV => e.2.adr) me
theorem BdAt.setHo (h : BdAt L H B S) (hf : ∀ d, f d = { d with home := (f d).home }) (kr : Kr (fun v (d : DevV) => v = .str d.home) kvs (setT S.devs z f)) : BdAt L (upd H B.h (.dK kvs)) B { S with devs := setT S.devs z f } := by
  have fa : ∀ d, (f d).adr = d.adr := fun d => by rw [hf d]
  have fs : ∀ d, (f d).st = d.st := fun d => by rw [hf d]
  have fk : ∀ d, (f d).stk = d.stk := fun d => by rw [hf d]
  have fg : ∀ d, (f d).hung = d.hung := fun d => by rw [hf d]
  obtain ⟨⟨dx, ob⟩, ⟨q1, s1, s2⟩, ⟨q2, h1, h2⟩, ⟨q3, k1, k2⟩, ⟨q4, g1, g2⟩, inn, ⟨q5, c1, c2⟩, nd⟩ := h
  have kp : Keep [B.h] H (upd H B.h (.dK kvs)) := Keep.dput h1 (by simp)
  have nd' := nd
  simp only [bms, List.cons_append, List.nil_append, List.nodup_cons, List.mem_cons, not_or] at nd'
  obtain ⟨⟨n1, n2, n3, n4, n5⟩, ⟨n6, n7, n8, n9⟩, ⟨n10, n11, n12⟩, ⟨n13, n14⟩, n15, n16⟩ := nd'
  have off : ∀ {b u}, b ≠ B.h → H b = some u → upd H B.h (.dK kvs) b = some u := fun {b u} n e => (upd_ne n).trans e
  refine ⟨⟨dx, kp.ins _ _ _ _ ob⟩, ⟨q1, off n1 s1, s2.sets fun v a e => e.trans (by rw [fs])⟩, ⟨kvs, upd_same, kr⟩, ⟨q3, off (fun w => n6 w.symm) k1, k2.sets fun v a e => e.trans (by rw [fk])⟩,
    ⟨q4, off (fun w => n7 w.symm) g1, g2.sets fun v a e => e.trans (by rw [fa])⟩, ?_, ⟨q5, off (fun w => n8 w.symm) c1, c2.mono fun _ _ q => q.keep kp⟩, by rw [bms_setT fa]; exact nd⟩
  refine inn_setT fa fg fun e me => off (fun w => n9 ?_) (inn e me)
  rw [← w]
  exact List.mem_map_of_mem (f := fun e : Str × DevV => e.2.adr) me
end
end SM
/-! Part W27: a board's inner dict changed, a device more, a crew more or another. -/
namespace SM
open PySem PySem.Spec PyProof.Rows L2
theorem setT_setT {α : Type} {tab : List (Str × α)} {k : Str} {f g : α → α} : setT (setT tab k f) k g = setT tab k fun a => g (f a) := by
  unfold setT
  rw [List.map_map]
  refine List.map_congr_left fun e _ => ?_
  show (if (if e.1 = k then (e.1, f e.2) else e).1 = k then _ else _) = _
  by_cases h : e.1 = k
  · simp [h]
  · simp [h]
theorem look_uniq {α : Type} {tab : List (Str × α)} (n : (keys tab).Nodup) {k : Str} {a : α} (m : (k, a) ∈ tab) : look tab k = some a := by
  obtain ⟨i, e⟩ := List.mem_iff_getElem?.mp m
  exact look_at n e
theorem setT_congr {α : Type} {tab : List (Str × α)} {k : Str} {f g : α → α} (n : (keys tab).Nodup) {a : α} (el : look tab k = some a) (e : f a = g a) : setT tab k f = setT tab k g := by
  refine List.map_congr_left fun q mq => ?_
  by_cases h : q.1 = k
  · have : look tab q.1 = some q.2 := look_uniq n mq
    rw [h, el] at this
    cases this
    simp only [h, if_true, e]
  · simp only [h, if_false]
theorem setT_self {α : Type} {tab : List (Str × α)} {k : Str} {f : α → α} (n : (keys tab).Nodup) {a : α} (el : look tab k = some a) (e : f a = a) : setT tab k f = tab := by
  have z : setT tab k f = tab.map id := by
    refine List.map_congr_left fun q mq => ?_
    by_cases h : q.1 = k
    · have : look tab q.1 = some q.2 := look_uniq n mq
      rw [h, el] at this
      cases this
      simp only [h, if_true, e, id]
      rw [← h]
    · simp only [h, if_false, id]
  rw [z, List.map_id]
theorem nodup_inj {α β : Type} {f : α → β} : ∀ {l : List α}, (l.map f).Nodup → ∀ {a b : α}, a ∈ l → b ∈ l → f a = f b → a = b
  | [], _, _, _, h, _, _ => nomatch h
  | x :: t, n, a, b, ha, hb, e => by
    rw [List.map_cons, List.nodup_cons] at n
    rcases List.mem_cons.mp ha with ea | ha
    · rcases List.mem_cons.mp hb with eb | hb
      · rw [ea, eb]
      · exact absurd (by rw [← ea, e]; exact List.mem_map_of_mem hb) n.1
    · rcases List.mem_cons.mp hb with eb | hb
      · exact absurd (by rw [← eb, ← e]; exact List.mem_map_of_mem ha) n.1
      · exact nodup_inj n.2 ha hb e
theorem jobsD_put {xs : List Str} {j : Str} : putK (jobsD xs) (Sum.inr j) (.bl true) = jobsD (if j ∈ xs then xs else xs ++ [j]) := by
  unfold putK
  have any : ((jobsD xs).any fun kv => decide (kv.1 = (Sum.inr j : Key))) = decide (j ∈ xs) := by
    unfold jobsD
    rw [List.any_map]
    induction xs with
    | nil => rfl
    | cons x t ih =>
      rw [List.any_cons, ih]
      by_cases h : x = j
      · simp [h]
      · have h' : ¬ (Sum.inr x : Key) = Sum.inr j := fun z => h (Sum.inr.inj z)
        simp [h, h', Ne.symm h]
  rw [any]
  by_cases h : j ∈ xs
  · rw [if_pos (decide_eq_true h), if_pos h]
    unfold jobsD
    rw [List.map_map]
    refine List.map_congr_left fun x _ => ?_
    show (if (Sum.inr x : Key) = Sum.inr j then _ else _) = _
    split <;> rfl
  · rw [if_neg (by simp [h]), if_neg h]
    unfold jobsD
    rw [List.map_append]
    rfl
theorem jobsD_drop {xs : List Str} {j : Str} : dropK (jobsD xs) (Sum.inr j) = jobsD (xs.filter fun y => decide (y ≠ j)) := by
  unfold dropK jobsD
  rw [List.filter_map]
  congr 1
  refine List.filter_congr fun x _ => ?_
  show decide ((Sum.inr x : Key) ≠ Sum.inr j) = decide (x ≠ j)
  exact decide_eq_decide.mpr ⟨fun h z => h (by rw [z]), fun h z => h (Sum.inr.inj z)⟩
theorem jobsD_has {xs : List Str} {j : Str} : (valV (jobsD xs) (Sum.inr j)).isSome = decide (j ∈ xs) := by
  rw [← valV_any]
  unfold jobsD
  rw [List.any_map]
  induction xs with
  | nil => rfl
  | cons x t ih =>
    rw [List.any_cons, ih]
    by_cases h : x = j
    · simp [h]
    · have h' : ¬ (Sum.inr x : Key) = Sum.inr j := fun z => h (Sum.inr.inj z)
      simp [h, h', Ne.symm h]
section
variable {L : Addr} {H : Hp} {B : BA} {S : BS} {kvs : List (Key × V)} {z : Str} {f : DevV → DevV}
theorem bms_sub {S : BS} {a : Addr} (h : a ∈ [B.s, B.h, B.k, B.g, B.c]) : a ∈ bms B S := List.mem_append_left _ h
theorem bms_adr {S : BS} {e : Str × DevV} (h : e ∈ S.devs) : e.2.adr ∈ bms B S := List.mem_append_right _ (List.mem_map_of_mem (f := fun e : Str × DevV => e.2.adr) h)
theorem BdAt.apart (h : BdAt L H B S) {e : Str × DevV} (m : e ∈ S.devs) : B.s ≠ e.2.adr ∧ B.h ≠ e.2.adr ∧ B.k ≠ e.2.adr ∧ B.g ≠ e.2.adr ∧ B.c ≠ e.2.adr ∧ B.p ≠ e.2.adr := by
  have nd := h.nd
  rw [bms] at nd
  have q := (List.nodup_append.mp nd).2.2
  have me : e.2.adr ∈ S.devs.map fun e => e.2.adr := List.mem_map_of_mem (f := fun e : Str × DevV => e.2.adr) m
  obtain ⟨dx, ob⟩ := h.ob
  exact ⟨q _ (by simp) _ me, q _ (by simp) _ me, q _ (by simp) _ me, q _ (by simp) _ me, q _ (by simp) _ me, ne_of ob (h.inn _ m) (by intro z; cases z)⟩
theorem BdAt.uniq (h : BdAt L H B S) {e e' : Str × DevV} (m : e ∈ S.devs) (m' : e' ∈ S.devs) (q : e.2.adr = e'.2.adr) : e = e' := by
  have nd := h.nd
  rw [bms] at nd
  have n2 := (List.nodup_append.mp nd).2.1
  exact nodup_inj n2 m m' q
theorem BdAt.setG (h : BdAt L H B S) (kn : (keys S.devs).Nodup) {d : DevV} (el : look S.devs z = some d) (hf : ∀ d, f d = { d with hung := (f d).hung }) : BdAt L (upd H d.adr (.dK (jobsD (f d).hung))) B { S with devs := setT S.devs z f } := by
  have fa : ∀ d, (f d).adr = d.adr := fun d => by rw [hf d]
  have fs : ∀ d, (f d).st = d.st := fun d => by rw [hf d]
  have fh : ∀ d, (f d).home = d.home := fun d => by rw [hf d]
  have fk : ∀ d, (f d).stk = d.stk := fun d => by rw [hf d]
  have md := look_mem el
  obtain ⟨m1, m2, m3, m4, m5, m6⟩ := h.apart md
  have un := fun {e' : Str × DevV} (m' : e' ∈ S.devs) q => h.uniq m' md q
  obtain ⟨⟨dx, ob⟩, ⟨q1, s1, s2⟩, ⟨q2, h1, h2⟩, ⟨q3, k1, k2⟩, ⟨q4, g1, g2⟩, inn, ⟨q5, c1, c2⟩, nd⟩ := h
  have kp : Keep [d.adr] H (upd H d.adr (.dK (jobsD (f d).hung))) := Keep.dput (inn _ md) (by simp)
  refine ⟨⟨dx, kp.ins _ _ _ _ ob⟩, ⟨q1, (upd_ne m1).trans s1, s2.sets fun v a e => e.trans (by rw [fs])⟩, ⟨q2, (upd_ne m2).trans h1, h2.sets fun v a e => e.trans (by rw [fh])⟩, ⟨q3, (upd_ne m3).trans k1, k2.sets fun v a e => e.trans (by rw [fk])⟩,
    ⟨q4, (upd_ne m4).trans g1, g2.sets fun v a e => e.trans (by rw [fa])⟩, ?_, ⟨q5, (upd_ne m5).trans c1, c2.mono fun _ _ q => q.keep kp⟩, by rw [bms_setT fa]; exact nd⟩
  intro e me
  rcases mem_setT me with ⟨ne, m⟩ | ⟨a, rfl, m⟩
  · refine (upd_ne fun w => ne ?_).trans (inn e m)
    rw [un m w]
  · show upd H d.adr _ (f a).adr = some (.dK (jobsD (f a).hung))
    have ea : look S.devs z = some a := look_uniq kn m
    rw [el] at ea
    cases ea
    rw [fa]
    exact upd_same
theorem BdAt.setC (h : BdAt L H B S) {crews : List (Str × CrV)} (kr : Kr (CrewG H) kvs crews) : BdAt L (upd H B.c (.dK kvs)) B { S with crews := crews } := by
  obtain ⟨⟨dx, ob⟩, ⟨q1, s1, s2⟩, ⟨q2, h1, h2⟩, ⟨q3, k1, k2⟩, ⟨q4, g1, g2⟩, inn, ⟨q5, c1, c2⟩, nd⟩ := h
  have kp : Keep [B.c] H (upd H B.c (.dK kvs)) := Keep.dput c1 (by simp)
  have nd' := nd
  simp only [bms, List.cons_append, List.nil_append, List.nodup_cons, List.mem_cons, not_or] at nd'
  obtain ⟨⟨n1, n2, n3, n4, n5⟩, ⟨n6, n7, n8, n9⟩, ⟨n10, n11, n12⟩, ⟨n13, n14⟩, n15, n16⟩ := nd'
  have off : ∀ {b u}, b ≠ B.c → H b = some u → upd H B.c (.dK kvs) b = some u := fun {b u} n e => (upd_ne n).trans e
  refine ⟨⟨dx, kp.ins _ _ _ _ ob⟩, ⟨q1, off n4 s1, s2⟩, ⟨q2, off n8 h1, h2⟩, ⟨q3, off n11 k1, k2⟩, ⟨q4, off n13 g1, g2⟩, fun e me => off (fun w => n15 ?_) (inn e me), ⟨kvs, upd_same, kr.mono fun _ _ q => q.keep kp⟩, nd⟩
  rw [← w]
  exact List.mem_map_of_mem (f := fun e : Str × DevV => e.2.adr) me
end
end SM
namespace SM
open PySem PySem.Spec PyProof.Rows L2
section
variable {L : Addr} {H : Hp} {B : BA} {S : BS} {z : Str}
theorem bms_add {S : BS} {x : Str} {D : DevV} : bms B { S with devs := S.devs ++ [(x, D)] } = bms B S ++ [D.adr] := by
  unfold bms
  rw [List.map_append, List.append_assoc]
  rfl
theorem BdAt.addDev (h : BdAt L H B S) {ks kh kk kg : List (Key × V)} {x : Str} {D : DevV} (free : H D.adr = none) (hD : D.hung = []) (e1 : Kr (fun v (d : DevV) => v = .str d.st) ks (S.devs ++ [(x, D)])) (e2 : Kr (fun v (d : DevV) => v = .str d.home) kh (S.devs ++ [(x, D)])) (e3 : Kr (fun v (d : DevV) => v = .bl d.stk) kk (S.devs ++ [(x, D)])) (e4 : Kr (fun v (d : DevV) => v = .ref d.adr) kg (S.devs ++ [(x, D)])) :
    BdAt L (upd (upd (upd (upd (upd H B.s (.dK ks)) B.h (.dK kh)) B.k (.dK kk)) D.adr (.dK [])) B.g (.dK kg)) B { S with devs := S.devs ++ [(x, D)] } := by
  have ap := fun {e : Str × DevV} (m : e ∈ S.devs) => h.apart m
  have dk := h.dks
  obtain ⟨⟨dx, ob⟩, ⟨q1, s1, s2⟩, ⟨q2, h1, h2⟩, ⟨q3, k1, k2⟩, ⟨q4, g1, g2⟩, inn, ⟨q5, c1, c2⟩, nd⟩ := h
  have nd' := nd
  simp only [bms, List.cons_append, List.nil_append, List.nodup_cons, List.mem_cons, not_or] at nd'
  obtain ⟨⟨n1, n2, n3, n4, n5⟩, ⟨n6, n7, n8, n9⟩, ⟨n10, n11, n12⟩, ⟨n13, n14⟩, n15, n16⟩ := nd'
  have fr : ∀ {b u}, H b = some u → b ≠ D.adr := fun {b u} e => ne_of_none e free
  have off : ∀ {b u}, b ≠ B.s → b ≠ B.h → b ≠ B.k → b ≠ B.g → H b = some u → upd (upd (upd (upd (upd H B.s (.dK ks)) B.h (.dK kh)) B.k (.dK kk)) D.adr (.dK [])) B.g (.dK kg) b = some u := fun {b u} a1 a2 a3 a4 e => by
    rw [upd_ne a4, upd_ne (fr e), upd_ne a3, upd_ne a2, upd_ne a1]
    exact e
  have ndk : ∀ {b kvs}, H b = some (.dK kvs) → B.p ≠ b := fun {b kvs} e => ne_of ob e (by intro z; cases z)
  refine ⟨⟨dx, off (ndk s1) (ndk h1) (ndk k1) (ndk g1) ob⟩, ⟨ks, ?_, e1⟩, ⟨kh, ?_, e2⟩, ⟨kk, ?_, e3⟩, ⟨kg, upd_same, e4⟩, ?_, ⟨q5, off (fun w => n4 w.symm) (fun w => n8 w.symm) (fun w => n11 w.symm) (fun w => n13 w.symm) c1, c2.mono fun v cv ⟨e, q⟩ => ⟨e, ?_⟩⟩, ?_⟩
  · rw [upd_ne n3, upd_ne (fr s1), upd_ne n2, upd_ne n1, upd_same]
  · rw [upd_ne n7, upd_ne (fr h1), upd_ne n6, upd_same]
  · rw [upd_ne n10, upd_ne (fr k1), upd_same]
  · intro e me
    rcases List.mem_append.mp me with m | m
    · obtain ⟨m1, m2, m3, m4, m5, m6⟩ := ap m
      exact off m1.symm m2.symm m3.symm m4.symm (inn e m)
    · obtain rfl : e = (x, D) := by simpa using m
      show upd _ B.g _ D.adr = _
      rw [upd_ne (fr g1).symm, upd_same, hD]
      rfl
  · rw [bms_add, List.nodup_append]
    refine ⟨nd, by simp, fun b hb c hc w => ?_⟩
    obtain rfl : c = D.adr := by simpa using hc
    obtain ⟨kvs, e⟩ := dk b hb
    exact fr e w
  · have ln : ∀ {b kvs}, H b = some (.dK kvs) → cv.adr ≠ b := fun {b kvs} e => ne_of q e (by intro z; cases z)
    exact off (ln s1) (ln h1) (ln k1) (ln g1) q
end
end SM
namespace SM
open PySem PySem.Spec PyProof.Rows L2
theorem PosQ.same {K : PySem.W.Frag} {H H' : Hp} {x : V} {b : Bool} (h : PosQ K H x b) (e : Same H H') : PosQ K H' x b := by
  rcases h with h | ⟨q, t, ty, k⟩
  · exact .inl h
  · exact .inr ⟨q, t, tyX_same ty e, k⟩
theorem PosQ.yes {K : PySem.W.Frag} {H : Hp} {x : V} (h : PosQ K H x true) : ∃ z, x = .str z ∧ z ∈ posL := by
  rcases h with ⟨z, e, q⟩ | ⟨q, _⟩
  · exact ⟨z, e, of_decide_eq_true q.symm⟩
  · cases q
theorem PosQ.of {K : PySem.W.Frag} {H : Hp} {z : Str} (h : z ∈ posL) : PosQ K H (.str z) true := .inl ⟨z, rfl, (decide_eq_true h).symm⟩
theorem BRefd.along {C : Nat → Addr} {H H1 : Hp} {E : XK} {f : BRf} (h : BRefd C H E f) (s : Same H H1) : BRefd C H1 E f := by
  cases f with
  | there x => exact Ref.along h s
  | lacks x => exact Ref.along h s
  | tooMany n => exact Ref.along h s
  | held l => exact fun ys sy d a H' s1 e e' x q => h ys sy d a H' (s.trans s1) (s.free e) (s.free e') x q
  | stuck x => exact Ref.along h s
  | inUse x => exact Ref.along h s
section
variable (C : Nat → Addr) (L : Addr)
/-- a move of a device that the board has -/
def spBMove : Sp := fun vs H Q E => ∃ (B : BA) (z y : Str) (S : BS) (d : DevV), vs = [.ref B.p, .str z, .str y] ∧ BdAt L H B S ∧ S.Ok ∧ look S.devs z = some d ∧
  (∀ f, moveDue z y d = some f → BRefd C H E f) ∧ (moveDue z y d = none → ∀ H', BdAt L H' B { S with devs := setT S.devs z fun d => { d with st := y } } → Keep (bms B S) H H' → Q .non H')
def spBHeld : Sp := fun vs H Q E => ∃ (B : BA) (z : Str) (but : Option Str) (S : BS) (d : DevV), vs = [.ref B.p, .str z, butV but] ∧ BdAt L H B S ∧ S.Ok ∧ look S.devs z = some d ∧
  (∀ f, heldDue S d but = some f → BRefd C H E f) ∧ (heldDue S d but = none → ∀ H', Same H H' → Q .non H')
/-- a device and a position -/
def spBTurn (K : PySem.W.Frag) : Sp := fun vs H Q E => ∃ (B : BA) (x y : V) (b c : Bool) (S : BS), vs = [.ref B.p, x, y] ∧ BdAt L H B S ∧ S.Ok ∧ NameQ K H x b ∧ PosQ K H y c ∧ (b = false → Ref C 0 (.int 0) H E) ∧ (b = true → c = false → Ref C 0 (.int 1) H E) ∧
  ∀ z p, x = .str z → y = .str p → okName z = true → p ∈ posL → BDoes C L (.turn z p) B S H Q E
def spBAdd (K : PySem.W.Frag) : Sp := fun vs H Q E => ∃ (B : BA) (x y : V) (b c : Bool) (S : BS), vs = [.ref B.p, x, y] ∧ BdAt L H B S ∧ S.Ok ∧ NameQ K H x b ∧ PosQ K H y c ∧ (b = false → Ref C 0 (.int 0) H E) ∧ (b = true → c = false → Ref C 0 (.int 1) H E) ∧
  ∀ z p, x = .str z → y = .str p → okName z = true → p ∈ posL → (∀ f a, S.due (.add z p a) = some f → BRefd C H E f) ∧ ∀ H' a, S.due (.add z p a) = none → H a = none → BdAt L H' B (S.put (.add z p a)) → Keep (bms B S) H H' → Q .non H'
def spBHold (K : PySem.W.Frag) : Sp := fun vs H Q E => ∃ (B : BA) (x y u : V) (b c g : Bool) (S : BS), vs = [.ref B.p, x, y, u] ∧ BdAt L H B S ∧ S.Ok ∧ NameQ K H x b ∧ PosQ K H y c ∧ NameQ K H u g ∧
  (b = false → Ref C 0 (.int 0) H E) ∧ (b = true → c = false → Ref C 0 (.int 1) H E) ∧ (b = true → c = true → g = false → Ref C 0 (.int 2) H E) ∧
  ∀ z p j, x = .str z → y = .str p → u = .str j → okName z = true → p ∈ posL → okName j = true → BDoes C L (.hold z p j) B S H Q E
def spBFree (K : PySem.W.Frag) : Sp := fun vs H Q E => ∃ (B : BA) (x u : V) (b g : Bool) (S : BS), vs = [.ref B.p, x, u] ∧ BdAt L H B S ∧ S.Ok ∧ NameQ K H x b ∧ NameQ K H u g ∧
  (b = false → Ref C 0 (.int 0) H E) ∧ (b = true → g = false → Ref C 0 (.int 1) H E) ∧ ∀ z j, x = .str z → u = .str j → okName z = true → okName j = true → BDoes C L (.free z j) B S H Q E
/-- a job, a good crew -/
def spBCrew (K : PySem.W.Frag) : Sp := fun vs H Q E => ∃ (B : BA) (x : V) (l : Addr) (hs : List Str) (b : Bool) (S : BS), vs = [.ref B.p, x, .ref l] ∧ BdAt L H B S ∧ S.Ok ∧ NameQ K H x b ∧ (b = false → Ref C 0 (.int 0) H E) ∧
  H l = some (.lst (hs.map V.str)) ∧ hs.Nodup ∧ 1 ≤ hs.length ∧ hs.length ≤ 6 ∧ (∀ y ∈ hs, okName y = true) ∧ ∀ z, x = .str z → okName z = true → (∀ f a, S.due (.crew z hs a) = some f → BRefd C H E f) ∧ ∀ H' a, S.due (.crew z hs a) = none → H a = none → BdAt L H' B (S.put (.crew z hs a)) → Keep (bms B S) H H' → Q .non H'
end
end SM
namespace SM
open PySem PySem.Spec PyProof.Rows L2
theorem look_in {α : Type} {tab : List (Str × α)} {k : Str} {a : α} (el : look tab k = some a) : k ∈ keys tab := by
  by_cases w : k ∈ keys tab
  · exact w
  · rw [look_none.mpr w] at el
    cases el
end SM
namespace SM
open PySem PySem.Spec PyProof.Rows L2
theorem foldX_len : ∀ (hs l : List Str), (hs.foldl putX l).length ≤ l.length + hs.length
  | [], l => by simp
  | x :: t, l => by
    have := foldX_len t (putX l x)
    have := putX_len l x
    simp only [List.foldl_cons, List.length_cons]
    omega
theorem putX_nodup {l : List Str} {k : Str} (n : l.Nodup) : (putX l k).Nodup := by
  unfold putX
  by_cases h : k ∈ l
  · rw [if_pos h]
    exact n
  · rw [if_neg h]
    exact List.nodup_cons.mpr ⟨h, n⟩
theorem handSet_snoc {S : BS} {js : List Str} {j : Str} : handSet S (js ++ [j]) = (crewOf S j).foldl putX (handSet S js) := by
  unfold handSet
  rw [List.foldl_append]
  rfl
theorem foldX_snoc {hs l : List Str} {x : Str} : (hs ++ [x]).foldl putX l = putX (hs.foldl putX l) x := by
  rw [List.foldl_append]
  rfl
theorem crew_of {S : BS} (hS : S.Ok) {j : Str} (h : j ∈ keys S.crews) : ∃ c : CrV, look S.crews j = some c ∧ crewOf S j = c.hs ∧ c.hs.length ≤ 6 ∧ 1 ≤ c.hs.length := by
  obtain ⟨hs, e⟩ := look_some h
  have := hS.crw _ (look_mem e)
  exact ⟨hs, e, by unfold crewOf; rw [e]; rfl, this.2.2.1, this.2.1⟩
theorem handSet_len {S : BS} (hS : S.Ok) : ∀ (js : List Str), (∀ j ∈ js, j ∈ keys S.crews) → ∀ l : List Str, (js.foldl (fun l j => (crewOf S j).foldl putX l) l).length ≤ l.length + 6 * js.length
  | [], _, l => by simp
  | j :: t, h, l => by
    obtain ⟨hs, _, e, q, _⟩ := crew_of hS (h j (.head _))
    have := handSet_len hS t (fun x m => h x (.tail _ m)) ((crewOf S j).foldl putX l)
    have := foldX_len (crewOf S j) l
    have e6 : (crewOf S j).length ≤ 6 := by rw [e]; exact q
    simp only [List.foldl_cons, List.length_cons]
    omega
end SM
namespace SM
open PySem PySem.Spec PyProof.Rows L2
theorem hung_len {S : BS} (hS : S.Ok) {z : Str} {d : DevV} (el : look S.devs z = some d) : d.hung.length ≤ 8 := by
  have hh := hS.hN _ (look_mem el)
  have a1 : d.hung.length ≤ (keys S.crews).length := nodup_len hh.1 hh.2
  have h8 := hS.cL
  rw [keys, List.length_map] at a1
  omega
theorem filter_no {xs : List Str} {j : Str} (h : j ∉ xs) : (xs.filter fun y => decide (y ≠ j)) = xs :=
  List.filter_eq_self.mpr fun y m => decide_eq_true fun e => h (by rw [← e]; exact m)
end SM
namespace SM
open PySem PySem.Spec PyProof.Rows L2
theorem put_free_no {S : BS} (hS : S.Ok) {z j : Str} {d : DevV} (el : look S.devs z = some d) (mj : j ∉ d.hung) : S.put (.free z j) = S := by
  show ({ S with devs := setT S.devs z _ } : BS) = S
  rw [setT_self hS.dN el]
  show ({ d with st := if j ∈ d.hung ∧ d.hung.length = 1 then d.home else d.st, hung := d.hung.filter fun y => decide (y ≠ j) } : DevV) = d
  rw [if_neg fun h => mj h.1, filter_no mj]
theorem put_free {S : BS} (hS : S.Ok) {z j : Str} {d : DevV} (el : look S.devs z = some d) (mj : j ∈ d.hung) : S.put (.free z j) = { S with devs := setT S.devs z fun d => { d with st := if d.hung.length = 1 then d.home else d.st, hung := d.hung.filter fun y => decide (y ≠ j) } } := by
  show ({ S with devs := setT S.devs z _ } : BS) = _
  rw [setT_congr hS.dN el]
  show ({ d with st := if j ∈ d.hung ∧ d.hung.length = 1 then d.home else d.st, hung := d.hung.filter fun y => decide (y ≠ j) } : DevV) = { d with st := if d.hung.length = 1 then d.home else d.st, hung := d.hung.filter fun y => decide (y ≠ j) }
  simp only [mj, true_and]
end SM
namespace SM
open PySem PySem.Spec PyProof.Rows L2
theorem pfB2 (x y : V) : putF "_homes" y (putF "_stands" x []) = ([("_stands", x), ("_homes", y)] : List (Str × V)) := by
  rw [putF_nil, putF_skip (by decide +kernel), putF_nil]
theorem pfB3 (x y z : V) : putF "_stuck" z ([("_stands", x), ("_homes", y)] : List (Str × V)) = ([("_stands", x), ("_homes", y), ("_stuck", z)] : List (Str × V)) := by
  rw [putF_skip (by decide +kernel), putF_skip (by decide +kernel), putF_nil]
theorem pfB4 (x y z u : V) : putF "_hung" u ([("_stands", x), ("_homes", y), ("_stuck", z)] : List (Str × V)) = ([("_stands", x), ("_homes", y), ("_stuck", z), ("_hung", u)] : List (Str × V)) := by
  rw [putF_skip (by decide +kernel), putF_skip (by decide +kernel), putF_skip (by decide +kernel), putF_nil]
theorem pfB5 (x y z u v : V) : putF "_crews" v ([("_stands", x), ("_homes", y), ("_stuck", z), ("_hung", u)] : List (Str × V)) = ([("_stands", x), ("_homes", y), ("_stuck", z), ("_hung", u), ("_crews", v)] : List (Str × V)) := by
  rw [putF_skip (by decide +kernel), putF_skip (by decide +kernel), putF_skip (by decide +kernel), putF_skip (by decide +kernel), putF_nil]
/-- a field of the instance at p is set to a new dict -/
structure NewAt (L p dx : Addr) (H H' : Hp) (r : Addr) (fs : List (Str × V)) : Prop where
  at' : H' r = some (.dK [])
  ob : H' p = some (.ins L dx fs)
  up : ∀ b u, H b = some u → b ≠ p → H' b = some u
  ne : ∀ b, H' b = none → H b = none
  fresh : H r = none
  np : r ≠ p
theorem newAt {L p dx r : Addr} {H : Hp} {fs fs0 : List (Str × V)} (hp : H p = some (.ins L dx fs0)) (hr : H r = none) : NewAt L p dx H (upd (upd H r (.dK [])) p (.ins L dx fs)) r fs := by
  have n : p ≠ r := ne_of_none hp hr
  refine ⟨(upd_ne n.symm).trans upd_same, upd_same, fun b u e nb => ?_, fun b e => ?_, hr, n.symm⟩
  · rw [upd_ne nb, upd_ne (ne_of_none e hr)]
    exact e
  · by_cases z : b = p
    · rw [z, upd_same] at e
      cases e
    rw [upd_ne z] at e
    by_cases z1 : b = r
    · rw [z1, upd_same] at e
      cases e
    rw [upd_ne z1] at e
    exact e
section
variable (C : Nat → Addr) (L : Addr)
def spInitB : Sp := fun vs H Q _ => ∃ (p dx : Addr), vs = [.ref p] ∧ H p = some (.ins L dx []) ∧ ∀ (B : BA) (H' : Hp), B.p = p → BdAt L H' B BS.new → (∀ b u, H b = some u → b ≠ p → H' b = some u) → (∀ b ∈ bms B BS.new, H b = none) → (∀ b, H' b = none → H b = none) → Q .non H'
/-- the tags of a device on which none hang -/
def spBTags0 : Sp := fun vs H Q _ => ∃ (B : BA) (z : Str) (S : BS) (d : DevV), vs = [.ref B.p, .str z] ∧ BdAt L H B S ∧ S.Ok ∧ okName z = true ∧ look S.devs z = some d ∧ d.hung = [] ∧ ∀ H' p, Same H H' → H p = none → H' p = some (.lst []) → Q (.ref p) H'
end
end SM
/-! Part W28: draws of the board laws. -/
namespace SM
open PySem PySem.Spec PyProof.Rows L2
/-- a crew of the hands -/
def spCrewM : Sp := fun vs H Q _ => ∃ (p q h : Addr) (hs : List Str), vs = [.ref p, .ref h] ∧ Bag H p q ∧ H h = some (.lst (hs.map V.str)) ∧ hs.Nodup ∧ 1 ≤ hs.length ∧ hs.length ≤ 49 ∧ (∀ x ∈ hs, okName x = true) ∧
  ∀ (r : Addr) (xs : List Str) (H' : Hp), H' r = some (.lst (xs.map V.str)) → xs.Nodup → 1 ≤ xs.length → xs.length ≤ 6 → (∀ x ∈ xs, okName x = true) → Bag H' p q → Keep [p] H H' → H r = none → Q (.ref r) H'
end SM
namespace SM
open PySem PySem.Spec PyProof.Rows L2
theorem cutV_mid (xs : List V) (i m : Nat) (h : i + m ≤ xs.length) : cutV xs (some (i : Int)) (some ((i : Int) + (1 + (m : Int)))) = (xs.drop i).take (min (1 + m) (xs.length - i)) := by
  unfold cutV
  rw [show ((i : Int) + (1 + (m : Int))) = ((i + (1 + m) : Nat) : Int) by omega, HT.sIx_nat, HT.sIx_nat]
  rw [Nat.min_eq_left (show i ≤ xs.length by omega)]
  congr 1
  omega
/-- some hands in a row, around the end -/
theorem turn_cut {hs : List Str} {i m : Nat} (hi : i < hs.length) (hm : m < hs.length) (n : hs.Nodup) : ∃ xs : List Str, cutV ((hs ++ hs).map V.str) (some (i : Int)) (some ((i : Int) + (1 + (m : Int)))) = xs.map V.str ∧ xs.Nodup ∧ xs.length = m + 1 ∧ ∀ x ∈ xs, x ∈ hs := by
  refine ⟨((hs ++ hs).drop i).take (m + 1), ?_, ?_, ?_, fun x mx => ?_⟩
  · rw [cutV_mid _ _ _ (by rw [List.length_map, List.length_append]; omega), ← List.map_drop, ← List.map_take]
    congr 2
    rw [List.length_map, List.length_append]
    omega
  · have p : (hs.drop i ++ hs.take i).Nodup := by
      have : (hs.take i ++ hs.drop i).Nodup := by
        rw [List.take_append_drop]
        exact n
      exact List.perm_append_comm.nodup_iff.mp this
    have e : ((hs ++ hs).drop i).take (m + 1) = (hs.drop i ++ hs.take i).take (m + 1) := by
      rw [List.drop_append, List.take_append, List.take_append, List.length_drop]
      congr 1
      rw [show i - hs.length = 0 by omega, List.drop_zero, List.take_take]
      congr 1
      omega
    rw [e]
    exact p.sublist (List.take_sublist _ _)
  · rw [List.length_take, List.length_drop, List.length_append]
    omega
  · have := List.mem_of_mem_drop (List.mem_of_mem_take mx)
    exact (List.mem_append.mp this).elim id id
end SM
namespace SM
open PySem PySem.Spec PyProof.Rows L2
/-- names of devices, jobs and hands, drawn -/
structure Pools (H : Hp) (t a b c : Addr) (ds js hs : List Str) : Prop where
  tp : H t = some (.tup [.ref a, .ref b, .ref c])
  ha : H a = some (.lst (ds.map V.str))
  hb : H b = some (.lst (js.map V.str))
  hc : H c = some (.lst (hs.map V.str))
  da : ds.Nodup ∧ 0 < ds.length ∧ ds.length ≤ 7 ∧ ∀ x ∈ ds, okName x = true
  db : js.Nodup ∧ 0 < js.length ∧ js.length ≤ 8 ∧ ∀ x ∈ js, okName x = true
  dc : hs.Nodup ∧ 0 < hs.length ∧ hs.length ≤ 49 ∧ ∀ x ∈ hs, okName x = true
theorem Pools.keep {ms : List Addr} {H H' : Hp} {t a b c : Addr} {ds js hs : List Str} (h : Pools H t a b c ds js hs) (k : Keep ms H H') : Pools H' t a b c ds js hs :=
  ⟨k.tup _ _ h.tp, k.flat _ _ h.ha (flat_strs _), k.flat _ _ h.hb (flat_strs _), k.flat _ _ h.hc (flat_strs _), h.da, h.db, h.dc⟩
def spPoolsM : Sp := fun vs H Q _ => ∃ (p q : Addr), vs = [.ref p] ∧ Bag H p q ∧ ∀ (t a b c : Addr) (ds js hs : List Str) (H' : Hp), Pools H' t a b c ds js hs → Bag H' p q → Keep [p] H H' → Q (.ref t) H'
def plTop (pl : Addr) : List (Key × V) := [(Sum.inr "place", .ref pl)]
theorem plTop_get (pl : Addr) : valV (plTop pl) (Sum.inr ("place" : Str)) = some (.ref pl) := by simp [plTop, valV]
/-- where the devices stand, told beforehand -/
structure PlaceAt (H : Hp) (m pl : Addr) (tab : List (Str × Str)) : Prop where
  tp : H m = some (.dK (plTop pl))
  kr : ∃ kvs, H pl = some (.dK kvs) ∧ Kr StrG kvs tab
  ps : ∀ e ∈ tab, e.2 ∈ posL
theorem PlaceAt.keep {ms : List Addr} {H H' : Hp} {m pl : Addr} {tab : List (Str × Str)} (h : PlaceAt H m pl tab) (k : Keep ms H H') (n1 : m ∉ ms) (n2 : pl ∉ ms) : PlaceAt H' m pl tab := by
  obtain ⟨a, ⟨kvs, b, c⟩, d⟩ := h
  exact ⟨k.out _ _ a n1, ⟨kvs, k.out _ _ b n2, c⟩, d⟩
def spPositionM : Sp := fun vs H Q _ => ∃ (p q m pl : Addr) (z : Str) (tab : List (Str × Str)), vs = [.ref p, .ref m, .str z] ∧ Bag H p q ∧ PlaceAt H m pl tab ∧ ∀ (y : Str) (H' : Hp), y ∈ posL → Bag H' p q → Keep [p] H H' → Q (.str y) H'
def tupB : BDeed → List V
  | .turn x p => [.str "turn", .str x, .str p]
  | .hold x p j => [.str "hold", .str x, .str p, .str j]
  | .free x j => [.str "free", .str x, .str j]
  | .stick x => [.str "stick", .str x]
  | .mend x => [.str "mend", .str x]
  | .add _ _ _ => []
  | .take _ => []
  | .leave _ => []
  | .crew _ _ _ => []
def GoodB (ds js : List Str) : BDeed → Prop
  | .turn x p => x ∈ ds ∧ p ∈ posL
  | .hold x p j => x ∈ ds ∧ p ∈ posL ∧ j ∈ js
  | .free x j => x ∈ ds ∧ j ∈ js
  | .stick x => x ∈ ds
  | .mend x => x ∈ ds
  | .add _ _ _ => False
  | .take _ => False
  | .leave _ => False
  | .crew _ _ _ => False
def devB : BDeed → Str
  | .turn x _ => x
  | .hold x _ _ => x
  | .free x _ => x
  | .stick x => x
  | .mend x => x
  | .add x _ _ => x
  | .take x => x
  | .leave x => x
  | .crew x _ _ => x
def wordsB : List Str := ["hold", "hold", "hold", "hold", "turn", "turn", "free", "stick", "mend"]
theorem pickB {v : Int} (h0 : 0 ≤ v) (h1 : v < 9) : ∃ w : Str, atI (wordsB.map V.str) v = some (.str w) ∧ (w = "hold" ∨ w = "turn" ∨ w = "free" ∨ w = "stick" ∨ w = "mend") := by
  obtain rfl | rfl | rfl | rfl | rfl | rfl | rfl | rfl | rfl : v = 0 ∨ v = 1 ∨ v = 2 ∨ v = 3 ∨ v = 4 ∨ v = 5 ∨ v = 6 ∨ v = 7 ∨ v = 8 := by omega
  · exact ⟨"hold", rfl, by simp⟩
  · exact ⟨"hold", rfl, by simp⟩
  · exact ⟨"hold", rfl, by simp⟩
  · exact ⟨"hold", rfl, by simp⟩
  · exact ⟨"turn", rfl, by simp⟩
  · exact ⟨"turn", rfl, by simp⟩
  · exact ⟨"free", rfl, by simp⟩
  · exact ⟨"stick", rfl, by simp⟩
  · exact ⟨"mend", rfl, by simp⟩
theorem pickP {v : Int} (h0 : 0 ≤ v) (h1 : v < 2) : ∃ w : Str, atI [V.str "open", V.str "shut"] v = some (.str w) ∧ w ∈ posL := by
  obtain rfl | rfl : v = 0 ∨ v = 1 := by omega
  · exact ⟨"open", rfl, by simp [posL]⟩
  · exact ⟨"shut", rfl, by simp [posL]⟩
theorem pickD {xs : List Str} {v : Int} (h0 : 0 ≤ v) (h1 : v < xs.length) : ∃ z : Str, atI (xs.map V.str) v = some (.str z) ∧ z ∈ xs := by
  obtain ⟨y, my, e⟩ := atI_some (xs := xs.map V.str) h0 (by rw [List.length_map]; exact h1)
  obtain ⟨z, mz, rfl⟩ := List.mem_map.mp my
  exact ⟨z, e, mz⟩
def spDeedB : Sp := fun vs H Q _ => ∃ (p q m pl t a b c w : Addr) (tab : List (Str × Str)) (ds js hs : List Str), vs = [.ref p, .ref m, .ref t, .ref w] ∧ Bag H p q ∧ PlaceAt H m pl tab ∧ Pools H t a b c ds js hs ∧ H w = some (.lst (wordsB.map V.str)) ∧ p ≠ m ∧ p ≠ pl ∧
  ∀ (t' : Addr) (D : BDeed) (H' : Hp), H' t' = some (.tup (tupB D)) → GoodB ds js D → Bag H' p q → Keep [p] H H' → Q (.ref t') H'
theorem BRefd.of {C : Nat → Addr} {H : Hp} {E : XK} {f : BRf} (h : ∀ n, n < 7 → ∀ d H', Same H H' → H d = none → E (.ref (C n)) (some d) H') : BRefd C H E f := by
  cases f with
  | there x => exact fun d H' s n _ => h 1 (by decide) d H' s n
  | lacks x => exact fun d H' s n _ => h 2 (by decide) d H' s n
  | tooMany n => exact fun d H' s n _ => h 3 (by decide) d H' s n
  | held l => exact fun _ _ d a H' s n _ _ _ => h 5 (by decide) d H' s n
  | stuck x => exact fun d H' s n _ => h 6 (by decide) d H' s n
  | inUse x => exact fun d H' s n _ => h 4 (by decide) d H' s n
section
variable (C : Nat → Addr) (L : Addr)
def OkB (D : BDeed) : Prop := ∃ ds js, GoodB ds js D ∧ (∀ x ∈ ds, okName x = true) ∧ ∀ x ∈ js, okName x = true
def spBCallB : Sp := fun vs H Q E => ∃ (B : BA) (S : BS) (t : Addr) (D : BDeed), vs = [.ref B.p, .ref t] ∧ BdAt L H B S ∧ S.Ok ∧ H t = some (.tup (tupB D)) ∧ OkB D ∧ BDoes C L D B S H Q E
def spLetBy : Sp := fun vs H Q _ => ∃ (B : BA) (S : BS) (t : Addr) (D : BDeed), vs = [.ref B.p, .ref t] ∧ BdAt L H B S ∧ S.Ok ∧ H t = some (.tup (tupB D)) ∧ OkB D ∧
  (S.due D = none → ∀ H', BdAt L H' B (S.put D) → Keep (bms B S) H H' → Q (.str "done") H') ∧ (S.due D ≠ none → ∀ H', Same H H' → Q (.str "refused") H')
end
end SM
/-! Part W29: the board beside the notes of a law (k56). -/
namespace SM
open PySem PySem.Spec PyProof.Rows L2
theorem mem_foldX {x : Str} : ∀ {hs l : List Str}, x ∈ hs.foldl putX l ↔ x ∈ hs ∨ x ∈ l
  | [], l => by simp
  | h :: t, l => by
    rw [List.foldl_cons, mem_foldX (hs := t), mem_putX, List.mem_cons]
    constructor
    · rintro (a | a | a)
      · exact .inl (.inr a)
      · exact .inl (.inl a)
      · exact .inr a
    · rintro ((a | a) | a)
      · exact .inr (.inl a)
      · exact .inl a
      · exact .inr (.inr a)
theorem mem_handF {S : BS} {x : Str} : ∀ {js l : List Str}, x ∈ js.foldl (fun l j => (crewOf S j).foldl putX l) l ↔ (∃ j ∈ js, x ∈ crewOf S j) ∨ x ∈ l
  | [], l => by simp
  | j :: t, l => by
    rw [List.foldl_cons, mem_handF (js := t), mem_foldX]
    constructor
    · rintro (⟨y, m, a⟩ | a | a)
      · exact .inl ⟨y, .tail _ m, a⟩
      · exact .inl ⟨j, .head _, a⟩
      · exact .inr a
    · rintro (⟨y, m, a⟩ | a)
      · rcases List.mem_cons.mp m with rfl | m
        · exact .inr (.inl a)
        · exact .inl ⟨y, m, a⟩
      · exact .inr (.inr a)
theorem hands_none {S : BS} (hS : S.Ok) {z : Str} {d : DevV} (el : look S.devs z = some d) : handsOn S d none = [] ↔ d.hung = [] := by
  have e0 : (d.hung.filter fun j => decide (some j ≠ (none : Option Str))) = d.hung := List.filter_eq_self.mpr fun y _ => by simp
  unfold handsOn
  rw [e0]
  constructor
  · intro h
    cases hj : d.hung with
    | nil => rfl
    | cons j t =>
      obtain ⟨c, _, ec, _, l1⟩ := crew_of hS ((hS.hN _ (look_mem el)).2 j (by rw [hj]; exact .head _))
      have : ∃ x, x ∈ c.hs := by
        cases hc : c.hs with
        | nil => rw [hc] at l1; simp at l1
        | cons a b => exact ⟨a, .head _⟩
      obtain ⟨x, mx⟩ := this
      have : x ∈ handSet S d.hung := mem_handF.mpr (.inl ⟨j, by rw [hj]; exact .head _, by rw [ec]; exact mx⟩)
      rw [h] at this
      cases this
  · intro h
    rw [h]
    rfl
def fB : BDeed → DevV → DevV
  | .turn _ p, d => { d with st := p, home := p }
  | .hold _ p j, d => { d with st := p, hung := if j ∈ d.hung then d.hung else d.hung ++ [j] }
  | .free _ j, d => { d with st := if j ∈ d.hung ∧ d.hung.length = 1 then d.home else d.st, hung := d.hung.filter fun y => decide (y ≠ j) }
  | .stick _, d => { d with stk := true }
  | .mend _, d => { d with stk := false }
  | _, d => d
theorem put_eq {S : BS} {D : BDeed} {ds js : List Str} (g : GoodB ds js D) : S.put D = { S with devs := setT S.devs (devB D) (fB D) } := by
  cases D with
  | add => exact g.elim
  | crew => exact g.elim
  | take => exact g.elim
  | leave => exact g.elim
  | turn x p => rfl
  | hold x p j => rfl
  | free x j => rfl
  | stick x => rfl
  | mend x => rfl
theorem fB_adr (D : BDeed) (d : DevV) : (fB D d).adr = d.adr := by cases D <;> rfl
theorem bms_put {B : BA} {S : BS} {D : BDeed} {ds js : List Str} (g : GoodB ds js D) : bms B (S.put D) = bms B S := by
  rw [put_eq g]
  exact bms_setT (fB_adr D)
theorem keys_put {S : BS} {D : BDeed} {ds js : List Str} (g : GoodB ds js D) : keys (S.put D).devs = keys S.devs := by
  rw [put_eq g]
  exact keys_setT
theorem crews_put {S : BS} {D : BDeed} {ds js : List Str} (g : GoodB ds js D) : (S.put D).crews = S.crews := by rw [put_eq g]
theorem look_put {S : BS} {D : BDeed} {ds js : List Str} (g : GoodB ds js D) {z : Str} : look (S.put D).devs z = if z = devB D then (look S.devs z).map (fB D) else look S.devs z := by
  rw [put_eq g]
  exact look_setT
theorem put_ok {S : BS} (hS : S.Ok) {D : BDeed} (g : GoodB (keys S.devs) (keys S.crews) D) : (S.put D).Ok := by
  have F : ∀ d, (devB D, d) ∈ S.devs → (fB D d).st ∈ posL ∧ (fB D d).home ∈ posL ∧ (fB D d).hung.Nodup ∧ ∀ j ∈ (fB D d).hung, j ∈ keys S.crews := by
    intro d m
    obtain ⟨a1, a2⟩ := hS.pos _ m
    obtain ⟨a3, a4⟩ := hS.hN _ m
    cases D with
    | add => exact g.elim
    | crew => exact g.elim
    | take => exact g.elim
    | leave => exact g.elim
    | turn x p => exact ⟨g.2, g.2, a3, a4⟩
    | stick x => exact ⟨a1, a2, a3, a4⟩
    | mend x => exact ⟨a1, a2, a3, a4⟩
    | hold x p j =>
      refine ⟨g.2.1, a2, ?_, fun y my => ?_⟩
      · show (if j ∈ d.hung then d.hung else d.hung ++ [j]).Nodup
        split
        · exact a3
        · rename_i hj
          exact List.nodup_append.mpr ⟨a3, by simp, fun a ha b hb e => hj (by rw [← List.mem_singleton.mp hb, ← e]; exact ha)⟩
      · change y ∈ (if j ∈ d.hung then d.hung else d.hung ++ [j]) at my
        split at my
        · exact a4 y my
        · rcases List.mem_append.mp my with w | w
          · exact a4 y w
          · rw [List.mem_singleton.mp w]
            exact g.2.2
    | free x j =>
      refine ⟨?_, a2, (a3.sublist List.filter_sublist), fun y my => a4 y (List.mem_filter.mp my).1⟩
      show (if j ∈ d.hung ∧ d.hung.length = 1 then d.home else d.st) ∈ posL
      split
      · exact a2
      · exact a1
  rw [put_eq g]
  obtain ⟨b1, b2, b3, b4, b5, b6, b7, b8, b9⟩ := hS
  refine ⟨by show (keys (setT _ _ _)).Nodup; rw [keys_setT]; exact b1, by show (setT _ _ _).length ≤ 52; simpa [setT] using b2, b3, b4, by show ∀ x ∈ keys (setT _ _ _), _; rw [keys_setT]; exact b5, b6, fun e me => ?_, fun e me => ?_, b9⟩
  · rcases mem_setT me with ⟨_, m⟩ | ⟨a, rfl, m⟩
    · exact b7 e m
    · exact ⟨(F a m).1, (F a m).2.1⟩
  · rcases mem_setT me with ⟨_, m⟩ | ⟨a, rfl, m⟩
    · exact b8 e m
    · exact (F a m).2.2
/-! the notes -/
def noTop (mh ml : Addr) : List (Key × V) := [(Sum.inr "home", .ref mh), (Sum.inr "held", .ref ml)]
theorem noTop_h (mh ml : Addr) : valV (noTop mh ml) (Sum.inr ("home" : Str)) = some (.ref mh) := by simp [noTop, valV]
theorem noTop_l (mh ml : Addr) : valV (noTop mh ml) (Sum.inr ("held" : Str)) = some (.ref ml) := by
  have nn : ¬ (("home" : Str) = "held") := by decide +kernel
  have : ¬ ((Sum.inr ("home" : Str) : Key) = Sum.inr ("held" : Str)) := fun h => nn (Sum.inr.inj h)
  simp [noTop, valV, this]
structure NoteAt (H : Hp) (m mh ml : Addr) (ho he : List (Str × Str)) : Prop where
  tp : H m = some (.dK (noTop mh ml))
  h : ∃ kvs, H mh = some (.dK kvs) ∧ Kr StrG kvs ho
  l : ∃ kvs, H ml = some (.dK kvs) ∧ Kr StrG kvs he
  nd : [m, mh, ml].Nodup
theorem NoteAt.keep {ms : List Addr} {H H' : Hp} {m mh ml : Addr} {ho he : List (Str × Str)} (h : NoteAt H m mh ml ho he) (k : Keep ms H H') (n : ∀ b ∈ ms, b ∉ [m, mh, ml]) : NoteAt H' m mh ml ho he := by
  obtain ⟨a, ⟨k1, b1, b2⟩, ⟨k2, c1, c2⟩, nd⟩ := h
  have off : ∀ {b u}, b ∈ [m, mh, ml] → H b = some u → H' b = some u := fun {b u} hb e => k.out b u e fun z => n b z hb
  exact ⟨off (by simp) a, ⟨k1, off (by simp) b1, b2⟩, ⟨k2, off (by simp) c1, c2⟩, nd⟩
theorem NoteAt.setH {H : Hp} {m mh ml : Addr} {ho he : List (Str × Str)} (h : NoteAt H m mh ml ho he) {kvs : List (Key × V)} {ho' : List (Str × Str)} (k : Kr StrG kvs ho') : NoteAt (upd H mh (.dK kvs)) m mh ml ho' he := by
  obtain ⟨a, ⟨k1, b1, b2⟩, ⟨k2, c1, c2⟩, nd⟩ := h
  have nd' := nd
  simp only [List.nodup_cons, List.mem_cons, List.not_mem_nil, or_false, not_or] at nd'
  exact ⟨(upd_ne nd'.1.1).trans a, ⟨kvs, upd_same, k⟩, ⟨k2, (upd_ne fun w => nd'.2.1 w.symm).trans c1, c2⟩, nd⟩
theorem NoteAt.setL {H : Hp} {m mh ml : Addr} {ho he : List (Str × Str)} (h : NoteAt H m mh ml ho he) {kvs : List (Key × V)} {he' : List (Str × Str)} (k : Kr StrG kvs he') : NoteAt (upd H ml (.dK kvs)) m mh ml ho he' := by
  obtain ⟨a, ⟨k1, b1, b2⟩, ⟨k2, c1, c2⟩, nd⟩ := h
  have nd' := nd
  simp only [List.nodup_cons, List.mem_cons, List.not_mem_nil, or_false, not_or] at nd'
  exact ⟨(upd_ne nd'.1.2).trans a, ⟨k1, (upd_ne nd'.2.1).trans b1, b2⟩, ⟨kvs, upd_same, k⟩, nd⟩
structure Fits (S : BS) (ho he : List (Str × Str)) : Prop where
  ks : ∀ z, z ∈ keys ho ↔ z ∈ keys S.devs
  hN : (keys ho).Nodup
  eN : (keys he).Nodup
  eS : ∀ z ∈ keys he, z ∈ keys S.devs
  at' : ∀ z d, look S.devs z = some d → look ho z = some d.home ∧ (d.hung = [] → d.st = d.home) ∧ (d.hung ≠ [] → look he z = some d.st)
def hoB (D : BDeed) (ho : List (Str × Str)) : List (Str × Str) := match D with
  | .turn x p => setT ho x fun _ => p
  | _ => ho
def heB (D : BDeed) (he : List (Str × Str)) : List (Str × Str) := match D with
  | .hold x p _ => if x ∈ keys he then setT he x fun _ => p else he ++ [(x, p)]
  | _ => he
theorem look_snoc {α : Type} {tab : List (Str × α)} {k x : Str} {a : α} (n : k ∉ keys tab) : look (tab ++ [(k, a)]) x = if x = k then some a else look tab x := by
  induction tab with
  | nil =>
    by_cases h : x = k
    · rw [if_pos h, List.nil_append, look_pos h.symm]
    · rw [if_neg h, List.nil_append, look_neg fun e => h e.symm]
  | cons p t ih =>
    have n1 : p.1 ≠ k := fun e => n (by rw [← e]; exact .head _)
    have n2 : k ∉ keys t := fun e => n (.tail _ e)
    rw [List.cons_append]
    by_cases h : p.1 = x
    · rw [look_pos h, look_pos h, if_neg fun e => n1 (h.trans e)]
    · rw [look_neg h, look_neg h, ih n2]
theorem look_he {he : List (Str × Str)} {x p z : Str} : look (if x ∈ keys he then setT he x fun _ => p else he ++ [(x, p)]) z = if z = x then some p else look he z := by
  by_cases h : x ∈ keys he
  · rw [if_pos h, look_setT]
    by_cases e : z = x
    · rw [if_pos e, if_pos e, e]
      obtain ⟨a, ea⟩ := look_some h
      rw [ea]
      rfl
    · rw [if_neg e, if_neg e]
  · rw [if_neg h, look_snoc h]
theorem keys_hoB {D : BDeed} {ho : List (Str × Str)} : keys (hoB D ho) = keys ho := by
  cases D with
  | turn x p =>
    show keys (setT ho x fun _ => p) = keys ho
    exact keys_setT
  | _ => rfl
theorem keys_heB {S : BS} {D : BDeed} {he : List (Str × Str)} {js : List Str} (g : GoodB (keys S.devs) js D) (eN : (keys he).Nodup) (eS : ∀ z ∈ keys he, z ∈ keys S.devs) : (keys (heB D he)).Nodup ∧ ∀ z ∈ keys (heB D he), z ∈ keys S.devs := by
  cases D with
  | hold x p j =>
    show (keys (if x ∈ keys he then setT he x fun _ => p else he ++ [(x, p)])).Nodup ∧ ∀ z ∈ keys (if x ∈ keys he then setT he x fun _ => p else he ++ [(x, p)]), z ∈ keys S.devs
    by_cases h : x ∈ keys he
    · rw [if_pos h, keys_setT]
      exact ⟨eN, eS⟩
    · rw [if_neg h, keys_snoc]
      refine ⟨List.nodup_append.mpr ⟨eN, by simp, fun a ha b hb e => h (by rw [← List.mem_singleton.mp hb, ← e]; exact ha)⟩, fun z mz => ?_⟩
      rcases List.mem_append.mp mz with w | w
      · exact eS z w
      · rw [List.mem_singleton.mp w]
        exact g.1
  | _ => exact ⟨eN, eS⟩
theorem Fits.len {S : BS} (hS : S.Ok) {ho he : List (Str × Str)} (F : Fits S ho he) : ho.length ≤ 52 ∧ he.length ≤ 52 := by
  have a := nodup_len F.hN fun z mz => (F.ks z).mp mz
  have b := nodup_len F.eN F.eS
  have c := hS.dL
  simp only [keys, List.length_map] at a b
  omega
theorem due_turn {S : BS} (hS : S.Ok) {x p : Str} {d : DevV} (el : look S.devs x = some d) : S.due (.turn x p) = none → d.hung = [] := by
  intro h
  have : (heldDue S d none).or (moveDue x p d) = none := by simpa [BS.due, el] using h
  have h1 : heldDue S d none = none := by
    cases e : heldDue S d none with
    | none => rfl
    | some f => rw [e] at this; cases this
  refine (hands_none hS el).mp ?_
  unfold heldDue at h1
  by_cases e : handsOn S d none = []
  · exact e
  · rw [if_neg e] at h1
    cases h1
theorem fits_put {S : BS} (hS : S.Ok) {ho he : List (Str × Str)} (F : Fits S ho he) {D : BDeed} (g : GoodB (keys S.devs) (keys S.crews) D) (dn : S.due D = none) : Fits (S.put D) (hoB D ho) (heB D he) := by
  have kh := keys_heB (S := S) g F.eN F.eS
  refine ⟨fun z => ?_, by rw [keys_hoB]; exact F.hN, kh.1, by rw [keys_put g]; exact kh.2, fun z d el => ?_⟩
  · rw [keys_put g, ← F.ks z, keys_hoB]
  · rw [look_put g] at el
    by_cases e : z = devB D
    · rw [if_pos e] at el
      obtain ⟨d0, e0, rfl⟩ := Option.map_eq_some_iff.mp el
      obtain ⟨f1, f2, f3⟩ := F.at' z d0 e0
      cases D with
      | add => exact g.elim
      | crew => exact g.elim
      | take => exact g.elim
      | leave => exact g.elim
      | turn x p =>
        obtain rfl : z = x := e
        have hu := due_turn hS e0 dn
        refine ⟨?_, fun _ => rfl, fun w => absurd hu w⟩
        show look (setT ho z fun _ => p) z = some p
        rw [look_setT, if_pos rfl, f1]
        rfl
      | stick x => exact ⟨f1, f2, f3⟩
      | mend x => exact ⟨f1, f2, f3⟩
      | hold x p j =>
        obtain rfl : z = x := e
        refine ⟨f1, fun w => ?_, fun _ => ?_⟩
        · exfalso
          change (if j ∈ d0.hung then d0.hung else d0.hung ++ [j]) = [] at w
          split at w
          · rename_i hj
            rw [w] at hj
            cases hj
          · simp at w
        · show look (if z ∈ keys he then setT he z fun _ => p else he ++ [(z, p)]) z = some p
          rw [look_he, if_pos rfl]
      | free x j =>
        obtain rfl : z = x := e
        refine ⟨f1, fun w => ?_, fun w => ?_⟩
        · show (if j ∈ d0.hung ∧ d0.hung.length = 1 then d0.home else d0.st) = d0.home
          change (d0.hung.filter fun y => decide (y ≠ j)) = [] at w
          split
          · rfl
          · rename_i hn
            refine f2 ?_
            have al : ∀ y ∈ d0.hung, y = j := fun y my => by
              have := List.filter_eq_nil_iff.mp w y my
              simpa using this
            have nd := (hS.hN _ (look_mem e0)).1
            match hh : d0.hung, al, nd, hn with
            | [], _, _, _ => rfl
            | [y], al, _, hn => exact absurd ⟨by rw [al y (.head _)]; exact .head _, rfl⟩ hn
            | y :: y2 :: t, al, nd, _ =>
              have a1 := al y (.head _)
              have a2 := al y2 (.tail _ (.head _))
              exact absurd (by rw [a1, a2]; exact .head _) (List.nodup_cons.mp nd).1
        · change (d0.hung.filter fun y => decide (y ≠ j)) ≠ [] at w
          have hne : d0.hung ≠ [] := fun e => w (by rw [e]; rfl)
          show look he z = some (if j ∈ d0.hung ∧ d0.hung.length = 1 then d0.home else d0.st)
          rw [if_neg, f3 hne]
          rintro ⟨mj, l1⟩
          refine w (List.filter_eq_nil_iff.mpr fun y my => ?_)
          match hh : d0.hung, l1, mj, my with
          | [a], _, mj, my =>
            have q1 : j = a := by simpa using mj
            have q2 : y = a := by simpa using my
            simp [q1, q2]
    · rw [if_neg e] at el
      obtain ⟨f1, f2, f3⟩ := F.at' z d el
      refine ⟨?_, f2, fun w => ?_⟩
      · cases D with
        | turn x p =>
          show look (setT ho x fun _ => p) z = _
          rw [look_setT, if_neg (show ¬ z = x from e)]
          exact f1
        | _ => exact f1
      · cases D with
        | hold x p j =>
          show look (if x ∈ keys he then setT he x fun _ => p else he ++ [(x, p)]) z = _
          rw [look_he, if_neg (show ¬ z = x from e)]
          exact f3 w
        | _ => exact f3 w
/-- the board, the notes -/
structure Wb (L : Addr) (H : Hp) (B : BA) (S : BS) (m mh ml : Addr) (ho he : List (Str × Str)) : Prop where
  bd : BdAt L H B S
  ok : S.Ok
  no : NoteAt H m mh ml ho he
  ft : Fits S ho he
  ap : ∀ b ∈ [m, mh, ml], b ∉ bms B S
theorem Wb.keep {L : Addr} {H H' : Hp} {B : BA} {S : BS} {m mh ml : Addr} {ho he : List (Str × Str)} {ms : List Addr} (h : Wb L H B S m mh ml ho he) (k : Keep ms H H') (n1 : ∀ b ∈ ms, b ∉ bms B S) (n2 : ∀ b ∈ ms, b ∉ [m, mh, ml]) : Wb L H' B S m mh ml ho he :=
  ⟨h.bd.keep k n1, h.ok, h.no.keep k n2, h.ft, h.ap⟩
theorem Wb.same {L : Addr} {H H' : Hp} {B : BA} {S : BS} {m mh ml : Addr} {ho he : List (Str × Str)} (h : Wb L H B S m mh ml ho he) (s : Same H H') : Wb L H' B S m mh ml ho he := h.keep (ms := []) (Keep.of s) (fun _ z => nomatch z) (fun _ z => nomatch z)
section
variable (L : Addr)
def spStands : Sp := fun vs H Q _ => ∃ (B : BA) (S : BS) (m mh ml : Addr) (ho he : List (Str × Str)), vs = [.ref B.p, .ref m] ∧ Wb L H B S m mh ml ho he ∧ ∀ H', Same H H' → Q (.bl true) H'
def spNoted : Sp := fun vs H Q _ => ∃ (B : BA) (S : BS) (m mh ml t : Addr) (ho he : List (Str × Str)) (D : BDeed), vs = [.ref B.p, .ref m, .ref t] ∧ Wb L H B S m mh ml ho he ∧ H t = some (.tup (tupB D)) ∧ GoodB (keys S.devs) (keys S.crews) D ∧
  ∀ (S' : BS) (ho' he' : List (Str × Str)) (H' : Hp), S' = (if (S.due D).isNone = true then S.put D else S) → Wb L H' B S' m mh ml ho' he' → Keep (mh :: ml :: bms B S) H H' → Q (.bl true) H'
def spOff : Sp := fun vs H Q _ => ∃ (p q : Addr) (B : BA) (S : BS) (m mh ml : Addr) (ho he : List (Str × Str)) (z j : Str) (d : DevV), vs = [.ref p, .ref B.p, .ref m, .str z, .str j] ∧ Bag H p q ∧ Wb L H B S m mh ml ho he ∧ look S.devs z = some d ∧ j ∈ d.hung ∧
  ∀ (S' : BS) (ho' he' : List (Str × Str)) (d' : DevV) (H' : Hp), bms B S' = bms B S → keys S'.devs = keys S.devs → S'.crews = S.crews → (∀ x, x ≠ z → look S'.devs x = look S.devs x) → look S'.devs z = some d' → d'.hung = (d.hung.filter fun y => decide (y ≠ j)) →
    Wb L H' B S' m mh ml ho' he' → Bag H' p q → Keep (p :: mh :: ml :: bms B S) H H' → Q (.bl true) H'
end
end SM
namespace SM
open PySem PySem.Spec PyProof.Rows L2
def wordB : BDeed → Str
  | .turn _ _ => "turn"
  | .hold _ _ _ => "hold"
  | .free _ _ => "free"
  | .stick _ => "stick"
  | .mend _ => "mend"
  | _ => ""
theorem tupB_0 {ds js : List Str} {D : BDeed} (g : GoodB ds js D) : atI (tupB D) 0 = some (.str (wordB D)) := by
  cases D with
  | add => exact g.elim
  | crew => exact g.elim
  | take => exact g.elim
  | leave => exact g.elim
  | _ => rfl
theorem tupB_1 {ds js : List Str} {D : BDeed} (g : GoodB ds js D) : atI (tupB D) 1 = some (.str (devB D)) := by
  cases D with
  | add => exact g.elim
  | crew => exact g.elim
  | take => exact g.elim
  | leave => exact g.elim
  | _ => rfl
theorem dev_in {ds js : List Str} {D : BDeed} (g : GoodB ds js D) : devB D ∈ ds := by
  cases D with
  | add => exact g.elim
  | crew => exact g.elim
  | take => exact g.elim
  | leave => exact g.elim
  | turn x p => exact g.1
  | hold x p j => exact g.1
  | free x j => exact g.1
  | stick x => exact g
  | mend x => exact g
end SM
namespace SM
open PySem PySem.Spec PyProof.Rows L2
theorem word_turn {D : BDeed} (h : wordB D = "turn") : ∃ x p, D = .turn x p := by
  cases D with
  | turn x p => exact ⟨x, p, rfl⟩
  | hold => exact absurd (show ("hold" : Str) = "turn" from h) (by decide +kernel)
  | free => exact absurd (show ("free" : Str) = "turn" from h) (by decide +kernel)
  | stick => exact absurd (show ("stick" : Str) = "turn" from h) (by decide +kernel)
  | mend => exact absurd (show ("mend" : Str) = "turn" from h) (by decide +kernel)
  | add => exact absurd (show ("" : Str) = "turn" from h) (by decide +kernel)
  | crew => exact absurd (show ("" : Str) = "turn" from h) (by decide +kernel)
  | take => exact absurd (show ("" : Str) = "turn" from h) (by decide +kernel)
  | leave => exact absurd (show ("" : Str) = "turn" from h) (by decide +kernel)
theorem word_hold {D : BDeed} (h : wordB D = "hold") : ∃ x p j, D = .hold x p j := by
  cases D with
  | hold x p j => exact ⟨x, p, j, rfl⟩
  | turn => exact absurd (show ("turn" : Str) = "hold" from h) (by decide +kernel)
  | free => exact absurd (show ("free" : Str) = "hold" from h) (by decide +kernel)
  | stick => exact absurd (show ("stick" : Str) = "hold" from h) (by decide +kernel)
  | mend => exact absurd (show ("mend" : Str) = "hold" from h) (by decide +kernel)
  | add => exact absurd (show ("" : Str) = "hold" from h) (by decide +kernel)
  | crew => exact absurd (show ("" : Str) = "hold" from h) (by decide +kernel)
  | take => exact absurd (show ("" : Str) = "hold" from h) (by decide +kernel)
  | leave => exact absurd (show ("" : Str) = "hold" from h) (by decide +kernel)
end SM
namespace SM
open PySem PySem.Spec PyProof.Rows L2
theorem Wb.bag {L : Addr} {H : Hp} {B : BA} {S : BS} {m mh ml : Addr} {ho he : List (Str × Str)} {p q : Addr} (W : Wb L H B S m mh ml ho he) (Bg : Bag H p q) : ∀ b ∈ m :: mh :: ml :: bms B S, p ≠ b := by
  intro b hb
  obtain ⟨tp, ⟨k1, h1, _⟩, ⟨k2, l1, _⟩, _⟩ := W.no
  rcases List.mem_cons.mp hb with rfl | hb
  · exact (Bg.nd tp).1
  rcases List.mem_cons.mp hb with rfl | hb
  · exact (Bg.nd h1).1
  rcases List.mem_cons.mp hb with rfl | hb
  · exact (Bg.nd l1).1
  · obtain ⟨kvs, e⟩ := W.bd.dks b hb
    exact (Bg.nd e).1
theorem Wb.drawn {L : Addr} {H H' : Hp} {B : BA} {S : BS} {m mh ml : Addr} {ho he : List (Str × Str)} {p q : Addr} (W : Wb L H B S m mh ml ho he) (Bg : Bag H p q) (k : Keep [p] H H') : Wb L H' B S m mh ml ho he := by
  have n := W.bag Bg
  refine W.keep k (fun b hb w => ?_) fun b hb w => ?_
  · rw [List.mem_singleton.mp hb] at w
    exact n p (.tail _ (.tail _ (.tail _ w))) rfl
  · rw [List.mem_singleton.mp hb] at w
    have : p ∈ m :: mh :: ml :: bms B S := by
      have w' : p = m ∨ p = mh ∨ p = ml := by simpa using w
      rcases w' with e | e | e
      · rw [e]; exact .head _
      · rw [e]; exact .tail _ (.head _)
      · rw [e]; exact .tail _ (.tail _ (.head _))
    exact n p this rfl
end SM
namespace SM
open PySem PySem.Spec PyProof.Rows L2
structure At1 (B : BA) (S S' : BS) (z : Str) : Prop where
  ms : bms B S' = bms B S
  ks : keys S'.devs = keys S.devs
  cr : S'.crews = S.crews
  el : ∀ x, x ≠ z → look S'.devs x = look S.devs x
theorem At1.refl {B : BA} {S : BS} {z : Str} : At1 B S S z := ⟨rfl, rfl, rfl, fun _ _ => rfl⟩
theorem At1.trans {B : BA} {S S1 S2 : BS} {z : Str} (a : At1 B S S1 z) (b : At1 B S1 S2 z) : At1 B S S2 z := ⟨b.ms.trans a.ms, b.ks.trans a.ks, b.cr.trans a.cr, fun x h => (b.el x h).trans (a.el x h)⟩
theorem At1.put {B : BA} {S : BS} {D : BDeed} {ds js : List Str} (g : GoodB ds js D) : At1 B S (S.put D) (devB D) :=
  ⟨bms_put g, keys_put g, crews_put g, fun x h => by rw [look_put g, if_neg h]⟩
theorem free_goes {S : BS} {z j : Str} {d : DevV} (el : look S.devs z = some d) (jc : j ∈ keys S.crews) (hk : d.stk = false) : S.due (.free z j) = none := by
  show (match look S.devs z with
    | none => some (BRf.lacks z)
    | some d => if j ∉ keys S.crews then some (.lacks j) else if j ∈ d.hung ∧ d.hung.length = 1 then moveDue z d.home d else none) = none
  rw [el]
  dsimp only
  rw [if_neg (by simpa using jc)]
  split
  · unfold moveDue
    rw [hk]
    simp
  · rfl
end SM
namespace SM
open PySem PySem.Spec PyProof.Rows L2
theorem look_put_at {S : BS} {D : BDeed} {ds js : List Str} (g : GoodB ds js D) {z : Str} {d : DevV} (e : devB D = z) (el : look S.devs z = some d) : look (S.put D).devs z = some (fB D d) := by
  rw [look_put g, if_pos e.symm, el]
  rfl
end SM
/-! Part W30: a board filled; a list by its side that is taken from (k56). -/
namespace SM
open PySem PySem.Spec PyProof.Rows L2
theorem Kr.monoMem {α : Type} {G G' : V → α → Prop} : ∀ {kvs : List (Key × V)} {tab : List (Str × α)}, Kr G kvs tab → (∀ k v a, (k, a) ∈ tab → G v a → G' v a) → Kr G' kvs tab
  | _, _, .nil, _ => .nil
  | _, q :: _, .cons h t, i => .cons ⟨h.1, i q.1 _ _ (.head _) h.2⟩ (Kr.monoMem t fun k v a m => i k v a (.tail _ m))
section
variable {L : Addr} {H : Hp} {B : BA} {S : BS} {g : Addr} {xs ys : List V}
theorem BdAt.flip (h : BdAt L H B S) (e : H g = some (.lst xs)) (n : ∀ c ∈ S.crews, c.2.adr ≠ g) : BdAt L (upd H g (.lst ys)) B S := by
  obtain ⟨⟨dx, ob⟩, ⟨q1, s1, s2⟩, ⟨q2, h1, h2⟩, ⟨q3, k1, k2⟩, ⟨q4, g1, g2⟩, inn, ⟨q5, c1, c2⟩, nd⟩ := h
  have off : ∀ {b u}, (∀ zs, u ≠ .lst zs) → H b = some u → upd H g (.lst ys) b = some u := fun {b u} n e' => (upd_ne (ne_of e' e (n _))).trans e'
  have dk : ∀ {b kvs}, H b = some (.dK kvs) → upd H g (.lst ys) b = some (.dK kvs) := fun {b kvs} e' => off (fun _ w => by cases w) e'
  refine ⟨⟨dx, off (fun _ w => by cases w) ob⟩, ⟨q1, dk s1, s2⟩, ⟨q2, dk h1, h2⟩, ⟨q3, dk k1, k2⟩, ⟨q4, dk g1, g2⟩, fun e me => dk (inn e me), ⟨q5, dk c1, ?_⟩, nd⟩
  exact Kr.monoMem c2 fun k v a m q => ⟨q.1, (upd_ne (n (k, a) m)).trans q.2⟩
theorem NoteAt.flip {m mh ml : Addr} {ho he : List (Str × Str)} (h : NoteAt H m mh ml ho he) (e : H g = some (.lst xs)) : NoteAt (upd H g (.lst ys)) m mh ml ho he := by
  obtain ⟨a, ⟨k1, b1, b2⟩, ⟨k2, c1, c2⟩, nd⟩ := h
  have dk : ∀ {b kvs}, H b = some (.dK kvs) → upd H g (.lst ys) b = some (.dK kvs) := fun {b kvs} e' => (upd_ne (ne_of e' e (by intro w; cases w))).trans e'
  exact ⟨dk a, ⟨k1, dk b1, b2⟩, ⟨k2, dk c1, c2⟩, nd⟩
theorem Wb.flip {m mh ml : Addr} {ho he : List (Str × Str)} (W : Wb L H B S m mh ml ho he) (e : H g = some (.lst xs)) (n : ∀ c ∈ S.crews, c.2.adr ≠ g) : Wb L (upd H g (.lst ys)) B S m mh ml ho he :=
  ⟨W.bd.flip e n, W.ok, W.no.flip e, W.ft, W.ap⟩
/-- the crews' lists stand somewhere -/
theorem BdAt.crewAt (h : BdAt L H B S) {c : Str × CrV} (m : c ∈ S.crews) : ∃ zs, H c.2.adr = some (.lst zs) := by
  obtain ⟨q5, c1, c2⟩ := h.cr
  obtain ⟨i, ei⟩ := List.mem_iff_getElem?.mp m
  have : ∃ p, q5[i]? = some p := by
    have ln := c2.len
    have lt := (List.getElem?_eq_some_iff.mp ei).1
    exact ⟨q5[i]'(by omega), List.getElem?_eq_getElem _⟩
  obtain ⟨p, ep⟩ := this
  obtain ⟨q, eq, _, g⟩ := Kr.at c2 ep
  rw [ei] at eq
  cases eq
  exact ⟨_, g.2⟩
end
theorem Fits.devs {S S' : BS} {ho he : List (Str × Str)} (F : Fits S ho he) (e : S'.devs = S.devs) : Fits S' ho he := by
  obtain ⟨a, b, c, d, f⟩ := F
  exact ⟨by rw [e]; exact a, b, c, by rw [e]; exact d, by rw [e]; exact f⟩
structure Ph1 (S : BS) (ho : List (Str × Str)) (ds : List Str) : Prop where
  ks : keys S.devs = ds
  eq : ho = S.devs.map fun e => (e.1, e.2.home)
  hg : ∀ e ∈ S.devs, e.2.hung = [] ∧ e.2.st = e.2.home
theorem Ph1.add {S : BS} {ho : List (Str × Str)} {ds : List Str} (P : Ph1 S ho ds) {z y : Str} {a : Addr} : Ph1 (S.put (.add z y a)) (ho ++ [(z, y)]) (ds ++ [z]) := by
  obtain ⟨ks, eq, hg⟩ := P
  refine ⟨?_, ?_, fun e me => ?_⟩
  · show keys (S.devs ++ [(z, _)]) = _
    rw [keys_snoc, ks]
  · show _ = (S.devs ++ [(z, _)]).map _
    rw [List.map_append, eq]
    rfl
  · rcases List.mem_append.mp me with m | m
    · exact hg e m
    · rw [List.mem_singleton.mp m]
      exact ⟨rfl, rfl⟩
theorem Ph1.keys {S : BS} {ho : List (Str × Str)} {ds : List Str} (P : Ph1 S ho ds) : SM.keys ho = ds := by
  rw [P.eq, ← P.ks]
  simp [SM.keys, Function.comp_def]
theorem look_homes {z : Str} : ∀ {tab : List (Str × DevV)}, look (tab.map fun e => (e.1, e.2.home)) z = (look tab z).map (·.home)
  | [] => rfl
  | p :: t => by
    by_cases h : p.1 = z
    · rw [List.map_cons, look_pos (p := (p.1, p.2.home)) h, look_pos h]
      rfl
    · rw [List.map_cons, look_neg (p := (p.1, p.2.home)) h, look_neg h, look_homes]
theorem Ph1.fits {S : BS} {ho : List (Str × Str)} {ds : List Str} (P : Ph1 S ho ds) (n : ds.Nodup) : Fits S ho [] := by
  refine ⟨fun z => by rw [P.keys, P.ks], by rw [P.keys]; exact n, List.nodup_nil, (fun z h => nomatch h), fun z d el => ⟨?_, fun _ => (P.hg _ (look_mem el)).2, fun w => absurd (P.hg _ (look_mem el)).1 w⟩⟩
  rw [P.eq, look_homes, el]
  rfl
theorem add_ok {S : BS} (hS : S.Ok) {z y : Str} {a : Addr} (n : z ∉ keys S.devs) (l : S.devs.length < 52) (gz : okName z = true) (py : y ∈ posL) : (S.put (.add z y a)).Ok := by
  obtain ⟨b1, b2, b3, b4, b5, b6, b7, b8, b9⟩ := hS
  refine ⟨?_, ?_, b3, b4, ?_, b6, ?_, ?_, b9⟩
  · show (keys (S.devs ++ [(z, _)])).Nodup
    rw [keys_snoc]
    exact List.nodup_append.mpr ⟨b1, by simp, fun a ha b hb e => n (by rw [← List.mem_singleton.mp hb, ← e]; exact ha)⟩
  · show (S.devs ++ [(z, _)]).length ≤ 52
    rw [List.length_append, List.length_singleton]
    omega
  · show ∀ x ∈ keys (S.devs ++ [(z, _)]), okName x = true
    rw [keys_snoc]
    intro x mx
    rcases List.mem_append.mp mx with w | w
    · exact b5 x w
    · rw [List.mem_singleton.mp w]
      exact gz
  · intro e me
    rcases List.mem_append.mp me with w | w
    · exact b7 e w
    · rw [List.mem_singleton.mp w]
      exact ⟨py, py⟩
  · intro e me
    rcases List.mem_append.mp me with w | w
    · exact b8 e w
    · rw [List.mem_singleton.mp w]
      exact ⟨List.nodup_nil, fun j h => nomatch h⟩
theorem put_crew_new {S : BS} {j : Str} {hs : List Str} {a : Addr} (n : j ∉ keys S.crews) : S.put (.crew j hs a) = { S with crews := S.crews ++ [(j, ⟨a, hs⟩)] } := by
  show ({ S with crews := if j ∈ keys S.crews then setT S.crews j fun _ => ⟨a, hs⟩ else S.crews ++ [(j, ⟨a, hs⟩)] } : BS) = _
  rw [if_neg n]
theorem crew_ok {S : BS} (hS : S.Ok) {j : Str} {hs : List Str} {a : Addr} (n : j ∉ keys S.crews) (l : S.crews.length < 8) (gj : okName j = true) (h1 : hs.Nodup) (h2 : 1 ≤ hs.length) (h3 : hs.length ≤ 6) (h4 : ∀ x ∈ hs, okName x = true) : ({ S with crews := S.crews ++ [(j, ⟨a, hs⟩)] } : BS).Ok := by
  obtain ⟨b1, b2, b3, b4, b5, b6, b7, b8, b9⟩ := hS
  refine ⟨b1, b2, ?_, ?_, b5, ?_, b7, fun e me => ⟨(b8 e me).1, fun x mx => ?_⟩, ?_⟩
  · show (keys (S.crews ++ [(j, _)])).Nodup
    rw [keys_snoc]
    exact List.nodup_append.mpr ⟨b3, by simp, fun a ha b hb e => n (by rw [← List.mem_singleton.mp hb, ← e]; exact ha)⟩
  · show (S.crews ++ [(j, _)]).length ≤ 8
    rw [List.length_append, List.length_singleton]
    omega
  · show ∀ x ∈ keys (S.crews ++ [(j, _)]), okName x = true
    rw [keys_snoc]
    intro x mx
    rcases List.mem_append.mp mx with w | w
    · exact b6 x w
    · rw [List.mem_singleton.mp w]
      exact gj
  · show x ∈ keys (S.crews ++ [(j, _)])
    rw [keys_snoc]
    exact List.mem_append_left _ ((b8 e me).2 x mx)
  · intro e me
    rcases List.mem_append.mp me with w | w
    · exact b9 e w
    · rw [List.mem_singleton.mp w]
      exact ⟨h1, h2, h3, h4⟩
theorem new_ok : BS.new.Ok := ⟨List.nodup_nil, by decide, List.nodup_nil, by decide, (fun x h => nomatch h), (fun x h => nomatch h), (fun x h => nomatch h), (fun x h => nomatch h), fun x h => nomatch h⟩
/-- where the devices stand: of known names -/
structure PlaceIn (H : Hp) (m pl : Addr) (tab : List (Str × Str)) (ds : List Str) : Prop extends PlaceAt H m pl tab where
  kN : (keys tab).Nodup
  kS : ∀ z ∈ keys tab, z ∈ ds
theorem PlaceIn.keep {ms : List Addr} {H H' : Hp} {m pl : Addr} {tab : List (Str × Str)} {ds : List Str} (h : PlaceIn H m pl tab ds) (k : Keep ms H H') (n1 : m ∉ ms) (n2 : pl ∉ ms) : PlaceIn H' m pl tab ds := ⟨h.toPlaceAt.keep k n1 n2, h.kN, h.kS⟩
theorem PlaceIn.put {H : Hp} {m pl : Addr} {tab : List (Str × Str)} {ds : List Str} (h : PlaceIn H m pl tab ds) {kvs : List (Key × V)} (e : H pl = some (.dK kvs)) (kr : Kr StrG kvs tab) {z y : Str} (mz : z ∈ ds) (my : y ∈ posL) (ne : m ≠ pl) :
    ∃ tab', PlaceIn (upd H pl (.dK (putK kvs (Sum.inr z) (.str y)))) m pl tab' ds := by
  by_cases hz : z ∈ keys tab
  · refine ⟨setT tab z fun _ => y, ⟨(upd_ne ne).trans h.tp, ⟨_, upd_same, kr.upd (f := fun _ => y) (v := .str y) (fun _ => rfl) hz⟩, fun e me => ?_⟩, by rw [keys_setT]; exact h.kN, by rw [keys_setT]; exact h.kS⟩
    rcases mem_setT me with ⟨_, m⟩ | ⟨a, rfl, _⟩
    · exact h.ps e m
    · exact my
  · refine ⟨tab ++ [(z, y)], ⟨(upd_ne ne).trans h.tp, ⟨_, upd_same, kr.put (look_none.mpr hz) rfl⟩, fun e me => ?_⟩, ?_, ?_⟩
    · rcases List.mem_append.mp me with w | w
      · exact h.ps e w
      · rw [List.mem_singleton.mp w]
        exact my
    · rw [keys_snoc]
      exact List.nodup_append.mpr ⟨h.kN, by simp, fun a ha b hb e => hz (by rw [← List.mem_singleton.mp hb, ← e]; exact ha)⟩
    · rw [keys_snoc]
      intro x mx
      rcases List.mem_append.mp mx with w | w
      · exact h.kS x w
      · rw [List.mem_singleton.mp w]
        exact mz
end SM
namespace SM
open PySem PySem.Spec PyProof.Rows L2
theorem noTop_merge (mh ml : Addr) : mergeK [] (noTop mh ml) = noTop mh ml := by
  have nn : ¬ (("home" : Str) = "held") := by decide +kernel
  have h1 : ¬ ((Sum.inr ("home" : Str) : Key) = Sum.inr ("held" : Str)) := fun h => nn (Sum.inr.inj h)
  have n1 : valV ([(Sum.inr ("home" : Str), .ref mh)] : List (Key × V)) (Sum.inr ("held" : Str)) = none := by rw [valV_neg h1]; rfl
  show putK (putK ([] : List (Key × V)) (Sum.inr ("home" : Str)) (.ref mh)) (Sum.inr ("held" : Str)) (.ref ml) = _
  rw [show putK ([] : List (Key × V)) (Sum.inr ("home" : Str)) (.ref mh) = [(Sum.inr ("home" : Str), .ref mh)] from rfl, putK_new _ n1]
  rfl
theorem plTop_merge (pl : Addr) : mergeK [] (plTop pl) = plTop pl := by
  show putK ([] : List (Key × V)) (Sum.inr ("place" : Str)) (.ref pl) = _
  rw [putK_new _ rfl]
  rfl
/-- the notes, new -/
theorem note_new {H : Hp} {m mh ml : Addr} (hm : H m = none) (hh : upd H m (.dK []) mh = none) (hl : upd (upd H m (.dK [])) mh (.dK []) ml = none) :
    NoteAt (upd (upd (upd (upd H m (.dK [])) mh (.dK [])) ml (.dK [])) m (.dK (noTop mh ml))) m mh ml [] [] ∧ Same H (upd (upd (upd (upd H m (.dK [])) mh (.dK [])) ml (.dK [])) m (.dK (noTop mh ml))) ∧ H mh = none ∧ H ml = none := by
  have a1 : m ≠ mh := ne_of_none upd_same hh
  have a3 : mh ≠ ml := ne_of_none upd_same hl
  have a2 : m ≠ ml := ne_of_none ((upd_ne a1).trans upd_same) hl
  refine ⟨⟨upd_same, ⟨[], ?_, .nil⟩, ⟨[], ?_, .nil⟩, by simp [a1, a2, a3]⟩, fun b u e => ?_, ?_, ?_⟩
  · rw [upd_ne a1.symm, upd_ne a3, upd_same]
  · rw [upd_ne a2.symm, upd_same]
  · have s := (Same.newp (o := .dK []) hm).trans ((Same.newp (o := .dK []) hh).trans (Same.newp (o := .dK []) hl))
    rw [upd_ne (ne_of_none e hm)]
    exact s b u e
  · rw [upd_ne a1.symm] at hh
    exact hh
  · rw [upd_ne a3.symm, upd_ne a2.symm] at hl
    exact hl
theorem place_new {H : Hp} {m pl : Addr} {ds : List Str} (hm : H m = none) (hh : upd H m (.dK []) pl = none) :
    PlaceIn (upd (upd (upd H m (.dK [])) pl (.dK [])) m (.dK (plTop pl))) m pl [] ds ∧ Same H (upd (upd (upd H m (.dK [])) pl (.dK [])) m (.dK (plTop pl))) ∧ H pl = none ∧ m ≠ pl := by
  have a1 : m ≠ pl := ne_of_none upd_same hh
  refine ⟨⟨⟨upd_same, ⟨[], (upd_ne a1.symm).trans upd_same, .nil⟩, fun e h => nomatch h⟩, List.nodup_nil, fun e h => nomatch h⟩, fun b u e => ?_, ?_, a1⟩
  · have s := (Same.newp (o := .dK []) hm).trans (Same.newp (o := .dK []) hh)
    rw [upd_ne (ne_of_none e hm)]
    exact s b u e
  · rw [upd_ne a1.symm] at hh
    exact hh
end SM
namespace SM
open PySem PySem.Spec PyProof.Rows L2
/-- what the law holds beside the board -/
structure SideB (H : Hp) (B : BA) (S : BS) (m mh ml pm pl t a b c p q : Addr) (tab : List (Str × Str)) (ds js hs : List Str) : Prop where
  ap : ∀ b ∈ [m, mh, ml], b ∉ bms B S
  pc : PlaceIn H pm pl tab ds
  np : pm ≠ pl
  ap2 : ∀ b ∈ [pm, pl], b ∉ bms B S ∧ b ∉ [m, mh, ml]
  po : Pools H t a b c ds js hs
  bg : Bag H p q
theorem SideB.keep {H H' : Hp} {B : BA} {S S' : BS} {m mh ml pm pl t a b c p q : Addr} {tab : List (Str × Str)} {ds js hs : List Str} {ms : List Addr} (h : SideB H B S m mh ml pm pl t a b c p q tab ds js hs) (k : Keep ms H H') (n1 : ∀ x ∈ ms, x ∈ bms B S ∨ x ∈ [m, mh, ml]) (np : p ∉ ms) (e : ∀ x ∈ bms B S', x ∈ bms B S ∨ H x = none) (hn : ∀ b ∈ [m, mh, ml], H b ≠ none) : SideB H' B S' m mh ml pm pl t a b c p q tab ds js hs := by
  obtain ⟨ap, pc, np', ap2, po, bg⟩ := h
  have out : ∀ x ∈ [pm, pl], x ∉ ms := fun x hx w => by
    obtain ⟨o1, o2⟩ := ap2 x hx
    exact (n1 x w).elim o1 o2
  have hpc : H pm ≠ none ∧ H pl ≠ none := by
    obtain ⟨⟨u, ⟨_, v, _⟩, _⟩, _, _⟩ := pc
    exact ⟨fun w => (by rw [u] at w; cases w), fun w => (by rw [v] at w; cases w)⟩
  refine ⟨fun b hb w => ?_, pc.keep k (out _ (by simp)) (out _ (by simp)), np', fun b hb => ⟨fun w => ?_, (ap2 b hb).2⟩, po.keep k, bg.kept k np⟩
  · exact (e b w).elim (ap b hb) (hn b hb)
  · refine (e b w).elim (ap2 b hb).1 fun z => ?_
    have hb' : b = pm ∨ b = pl := by simpa using hb
    rcases hb' with rfl | rfl
    · exact hpc.1 z
    · exact hpc.2 z
theorem SideB.draw {H H' : Hp} {B : BA} {S : BS} {m mh ml pm pl t a b c p q : Addr} {tab : List (Str × Str)} {ds js hs : List Str} (h : SideB H B S m mh ml pm pl t a b c p q tab ds js hs) (k : Keep [p] H H') (bg : Bag H' p q) : SideB H' B S m mh ml pm pl t a b c p q tab ds js hs := by
  obtain ⟨ap, pc, np', ap2, po, bg0⟩ := h
  have d := pc
  obtain ⟨⟨u, ⟨_, v, _⟩, _⟩, _, _⟩ := d
  exact ⟨ap, pc.keep k (by simpa using (bg0.nd u).1.symm) (by simpa using (bg0.nd v).1.symm), np', ap2, po.keep k, bg⟩
theorem NoteAt.there {H : Hp} {m mh ml : Addr} {ho he : List (Str × Str)} (h : NoteAt H m mh ml ho he) : ∀ b ∈ [m, mh, ml], H b ≠ none := by
  obtain ⟨a, ⟨_, e1, _⟩, ⟨_, e2, _⟩, _⟩ := h
  intro b hb
  have hb' : b = m ∨ b = mh ∨ b = ml := by simpa using hb
  rcases hb' with rfl | rfl | rfl
  · exact fun w => (by rw [a] at w; cases w)
  · exact fun w => (by rw [e1] at w; cases w)
  · exact fun w => (by rw [e2] at w; cases w)
theorem NoteAt.pbag {H : Hp} {m mh ml p q : Addr} {ho he : List (Str × Str)} (h : NoteAt H m mh ml ho he) (B : Bag H p q) : p ∉ [m, mh, ml] := by
  obtain ⟨a, ⟨_, e1, _⟩, ⟨_, e2, _⟩, _⟩ := h
  intro w
  have w' : p = m ∨ p = mh ∨ p = ml := by simpa using w
  rcases w' with e | e | e
  · exact (B.nd a).1 e
  · exact (B.nd e1).1 e
  · exact (B.nd e2).1 e
theorem BdAt.pbag {L : Addr} {H : Hp} {B : BA} {S : BS} {p q : Addr} (h : BdAt L H B S) (Bg : Bag H p q) : p ∉ bms B S := fun w => by
  obtain ⟨kvs, e⟩ := h.dks _ w
  exact (Bg.nd e).1 rfl
/-- the first loop: the devices are added -/
structure Inv1 (L : Addr) (H : Hp) (B : BA) (m mh ml pm pl t a b c p q : Addr) (ds js hs : List Str) (i : Nat) (S : BS) (ho : List (Str × Str)) : Prop where
  bd : BdAt L H B S
  ok : S.Ok
  no : NoteAt H m mh ml ho []
  ph : Ph1 S ho (ds.take i)
  cr : S.crews = []
  be : SideB H B S m mh ml pm pl t a b c p q [] ds js hs
end SM
namespace SM
open PySem PySem.Spec PyProof.Rows L2
theorem SideB.same {H H' : Hp} {B : BA} {S : BS} {m mh ml pm pl t a b c p q : Addr} {tab : List (Str × Str)} {ds js hs : List Str} (h : SideB H B S m mh ml pm pl t a b c p q tab ds js hs) (s : Same H H') : SideB H' B S m mh ml pm pl t a b c p q tab ds js hs :=
  ⟨h.ap, h.pc.keep (Keep.of (ms := []) s) (fun z => nomatch z) (fun z => nomatch z), h.np, h.ap2, h.po.keep (Keep.of (ms := []) s), h.bg.same s⟩
theorem SideB.state {H : Hp} {B : BA} {S S' : BS} {m mh ml pm pl t a b c p q : Addr} {tab : List (Str × Str)} {ds js hs : List Str} (h : SideB H B S m mh ml pm pl t a b c p q tab ds js hs) (e : bms B S' = bms B S) : SideB H B S' m mh ml pm pl t a b c p q tab ds js hs :=
  ⟨by rw [e]; exact h.ap, h.pc, h.np, by rw [e]; exact h.ap2, h.po, h.bg⟩
theorem SideB.place {H : Hp} {B : BA} {S : BS} {m mh ml pm pl t a b c p q : Addr} {tab : List (Str × Str)} {ds js hs : List Str} (h : SideB H B S m mh ml pm pl t a b c p q tab ds js hs) {kvs : List (Key × V)} (e : H pl = some (.dK kvs)) (kr : Kr StrG kvs tab) {z y : Str} (mz : z ∈ ds) (my : y ∈ posL) :
    ∃ tab', SideB (upd H pl (.dK (putK kvs (Sum.inr z) (.str y)))) B S m mh ml pm pl t a b c p q tab' ds js hs := by
  obtain ⟨tab', pc⟩ := h.pc.put e kr mz my h.np
  have k : Keep [pl] H (upd H pl (.dK (putK kvs (Sum.inr z) (.str y)))) := Keep.dput e (by simp)
  exact ⟨tab', h.ap, pc, h.np, h.ap2, h.po.keep k, h.bg.kept k (by simpa using (h.bg.nd e).1)⟩
theorem SideB.after {L : Addr} {H H' : Hp} {B : BA} {S S' : BS} {m mh ml pm pl t a b c p q : Addr} {ho he : List (Str × Str)} {tab : List (Str × Str)} {ds js hs : List Str} (h : SideB H B S m mh ml pm pl t a b c p q tab ds js hs) (W : Wb L H B S m mh ml ho he) (k : Keep (mh :: ml :: bms B S) H H') (e : bms B S' = bms B S) : SideB H' B S' m mh ml pm pl t a b c p q tab ds js hs := by
  refine h.keep k (fun x hx => ?_) (fun w => ?_) (fun x hx => .inl (by rw [← e]; exact hx)) W.no.there
  · rcases List.mem_cons.mp hx with rfl | hx
    · exact .inr (by simp)
    rcases List.mem_cons.mp hx with rfl | hx
    · exact .inr (by simp)
    · exact .inl hx
  · exact W.bag h.bg p (.tail _ w) rfl
end SM
namespace SM
open PySem PySem.Spec PyProof.Rows L2
theorem SideB.flip {H : Hp} {B : BA} {S : BS} {m mh ml pm pl t a b c p q g : Addr} {tab : List (Str × Str)} {ds js hs : List Str} {xs ys : List V} (h : SideB H B S m mh ml pm pl t a b c p q tab ds js hs) (e : H g = some (.lst xs)) (n : ∀ x ∈ [a, b, c, p, q], x ≠ g) : SideB (upd H g (.lst ys)) B S m mh ml pm pl t a b c p q tab ds js hs := by
  obtain ⟨ap, ⟨⟨u1, ⟨kv, u2, u3⟩, u4⟩, u5, u6⟩, np', ap2, ⟨tp, ha, hb, hc, da, db, dc⟩, bg⟩ := h
  have dk : ∀ {b kvs}, H b = some (.dK kvs) → upd H g (.lst ys) b = some (.dK kvs) := fun {b kvs} e' => (upd_ne (ne_of e' e (by intro w; cases w))).trans e'
  exact ⟨ap, ⟨⟨dk u1, ⟨kv, dk u2, u3⟩, u4⟩, u5, u6⟩, np', ap2, ⟨(upd_ne (ne_of tp e (by intro w; cases w))).trans tp, (upd_ne (n a (by simp))).trans ha, (upd_ne (n b (by simp))).trans hb, (upd_ne (n c (by simp))).trans hc, da, db, dc⟩,
    bg.keep (upd_ne (n p (by simp))) (upd_ne (n q (by simp)))⟩
theorem map_eraseIdx {α β : Type} (f : α → β) : ∀ (l : List α) (i : Nat), (l.map f).eraseIdx i = (l.eraseIdx i).map f
  | [], _ => by simp
  | x :: t, 0 => rfl
  | x :: t, i + 1 => by
    show f x :: (t.map f).eraseIdx i = f x :: (t.eraseIdx i).map f
    rw [map_eraseIdx f t i]
theorem perm_erase {α : Type} : ∀ {l : List α} {i : Nat} {x : α}, l[i]? = some x → l.Perm (x :: l.eraseIdx i)
  | [], _, _, h => by simp at h
  | y :: t, 0, x, h => by
    have : y = x := by simpa using h
    rw [this]
    exact List.Perm.refl _
  | y :: t, i + 1, x, h => by
    have := perm_erase (l := t) (i := i) (x := x) (by simpa using h)
    exact (this.cons y).trans (List.Perm.swap _ _ _)
theorem perm_drop {rest hung : List Str} {i : Nat} {j : Str} (e : rest[i]? = some j) (p : rest.Perm hung) (n : hung.Nodup) : (rest.eraseIdx i).Perm (hung.filter fun y => decide (y ≠ j)) := by
  have q := perm_erase e
  have n2 : (j :: rest.eraseIdx i).Nodup := (q.symm.trans p).nodup_iff.mpr n
  have q2 : ((j :: rest.eraseIdx i).filter fun y => decide (y ≠ j)).Perm (hung.filter fun y => decide (y ≠ j)) := (q.symm.trans p).filter _
  have e1 : ((j :: rest.eraseIdx i).filter fun y => decide (y ≠ j)) = rest.eraseIdx i := by
    rw [List.filter_cons, if_neg (by simp)]
    exact filter_no (List.nodup_cons.mp n2).1
  rw [e1] at q2
  exact q2
end SM
/-! Part W31: sorted of a list of pairs of texts. -/
namespace SM
open PySem PySem.Spec PyProof.Rows L2
def encP (p : Str × Str) : PyData := .tuple [.str p.1, .str p.2]
def sortP (ps : List (Str × Str)) : List (Str × Str) := ps.mergeSort (PySem.W.dataLe false encP)
abbrev TupsAt (H : Hp) : List Addr → List (Str × Str) → Prop := Paired fun t p => H t = some (.tup [.str p.1, .str p.2])
def rSortedP (K : PySem.W.Frag) : List V → Hp → VK → Prop := fun vs H Q => ∃ (a : Addr) (ts : List Addr) (ps : List (Str × Str)), vs = [V.ref a] ∧ SqL K H a (ts.map V.ref) ∧ TupsAt H ts ps ∧ ps.length < 64 ∧
  ∀ (p : Addr) (ts' : List Addr), H p = none → TupsAt H ts' (sortP ps) → Q (.ref p) (upd H p (.lst (ts'.map V.ref)))
theorem each_tups {H : Hp} : ∀ {ts : List Addr} {ps : List (Str × Str)} {vs : List Value}, TupsAt H ts ps → Vals (ts.map V.ref) vs → PySem.W.EachIs (fun (v : Value) (p : Str × Str) => ∃ t, v = .ref t ∧ H t = some (.tup [.str p.1, .str p.2])) vs ps
  | _, _, _, .nil, .nil => .nil
  | _, _, _, .cons h t, .cons r rs => .cons ⟨_, r, h⟩ (each_tups t rs)
theorem tups_each {H : Hp} : ∀ {vs : List Value} {ps : List (Str × Str)}, PySem.W.EachIs (fun (v : Value) (p : Str × Str) => ∃ t, v = .ref t ∧ H t = some (.tup [.str p.1, .str p.2])) vs ps → ∃ ts : List Addr, TupsAt H ts ps ∧ Vals (ts.map V.ref) vs
  | _, _, .nil => ⟨[], .nil, .nil⟩
  | _, _, .cons ⟨t, e, h⟩ q => by
    obtain ⟨ts, a, b⟩ := tups_each q
    exact ⟨t :: ts, .cons h a, .cons e b⟩
theorem cr_sortedP {X : Cx} (hu : X.A.units + 64 < cLine) : CallR X (.builtin "sorted") (rSortedP X.K) := by
  intro pins s σ H vs us Q I r h
  obtain ⟨a, ts, ps, rfl, hs, tp, h64, q⟩ := h
  obtain ⟨its, rv, hl, _⟩ := I.list hs
  rw [Vals.ref1 r]
  have e := each_tups tp rv
  have er : PySem.W.EachIs (fun v b => ∃ as, Reads s.heap v (encP b) as) its ps := e.mono fun v b ⟨t, ev, ht⟩ => by
    subst ev
    exact Dp.reads I _ _ _ (.tup (SqT.of ht) (.cons (.str _) (.cons (.str _) .nil))) rfl
  refine PySem.W.sorted_data (enc := encP) hl.isList e er (PySem.W.AllAlike.of fun _ _ => by simp [encP, PySem.W.alike, PySem.W.alikeAll]) (PySem.W.Sortable.tuples fun _ => ⟨_, _, rfl⟩) (small64 h64) (fun b _ => ?_) fun out ln eo => ?_
  · have hd : (encP b).depth = 1 := by simp [encP, PyData.depth, PyData.depthAll]
    omega
  · obtain ⟨ts', t1, t2⟩ := tups_each eo
    obtain ⟨ep, he'⟩ := PyProof.Rows.sortedAll_at s.heap its out.toArray
    have hlen : (ts'.map V.ref).length ≤ sizeLine := by
      have := t2.length
      rw [this, ln]
      exact small64 h64
    exact ⟨.ref _, upd H (s.heap.objs.size + 1) (.lst (ts'.map V.ref)), I.laid (t' := s.toks) (fun _ _ => PyProof.Rows.sortedAll_old) (Nat.le_succ _) ⟨hlen, out, ep, t2, he'⟩, rfl, q _ ts' (I.hok.fresh (Nat.le_succ _)) t1⟩
end SM
/-! Part W32: a device taken away; the board's further questions. -/
namespace SM
open PySem PySem.Spec PyProof.Rows L2
/-- a frozen dict's keys are walked: any step F -/
theorem roll_keys {d : Addr} {o : Obj} {kvs : List (Key × V)} {H0 : Hp} {Z : Hp → Prop} {F : V → Hp → (Hp → Prop) → Prop} (Pv : Nat → Hp → Prop) (h0 : Pv 0 H0) (hl : ∀ i H, i ≤ kvs.length → Pv i H → H d = some (.frz o (.dK kvs))) (hs : ∀ i k v H, kvs[i]? = some (k, v) → Pv i H → F (kV k) H (Pv (i + 1))) (hd : ∀ H, Pv kvs.length H → Z H) :
    ∃ W : Nat → Nat → Hp → Prop, (∃ m, W 0 m H0) ∧ ∀ j m H, W j m H → ((Itk d o kvs).stop j H ∧ Z H) ∨ ((Itk d o kvs).go j H ∧ ∃ Nx : Hp → Prop, (∀ H', Nx H' → ∃ m', m' < m ∧ W (j + 1) m' H') ∧ ∀ x H', (Itk d o kvs).yld j H x H' → F x H' Nx) := by
  refine ⟨fun j m H => m + j = kvs.length ∧ Pv j H, ⟨kvs.length, rfl, h0⟩, fun j m H ⟨hm, p⟩ => ?_⟩
  have sq := hl j H (by omega) p
  by_cases lt : j < kvs.length
  · refine .inr ⟨⟨sq, lt⟩, Pv (j + 1), fun H' p' => ⟨m - 1, by omega, by omega, p'⟩, fun x H' yl => ?_⟩
    obtain ⟨rfl, k, v, e, rfl⟩ := yl
    exact hs j k v _ e p
  · have e : j = kvs.length := by omega
    refine .inl ⟨⟨sq, by omega⟩, hd H (by rw [← e]; exact p)⟩
section
variable {L : Addr} {H : Hp} {B : BA} {S : BS} {x : Str} {ks kh kk kg : List (Key × V)}
theorem BdAt.delDev (h : BdAt L H B S) (f1 : H B.s = some (.dK ks)) (f2 : H B.h = some (.dK kh)) (f3 : H B.k = some (.dK kk)) (f4 : H B.g = some (.dK kg)) :
    BdAt L (upd (upd (upd (upd H B.s (.dK (dropK ks (Sum.inr x)))) B.h (.dK (dropK kh (Sum.inr x)))) B.k (.dK (dropK kk (Sum.inr x)))) B.g (.dK (dropK kg (Sum.inr x)))) B { S with devs := del S.devs x } := by
  have ap := fun {e : Str × DevV} (m : e ∈ S.devs) => h.apart m
  obtain ⟨⟨dx, ob⟩, ⟨q1, s1, s2⟩, ⟨q2, h1, h2⟩, ⟨q3, k1, k2⟩, ⟨q4, g1, g2⟩, inn, ⟨q5, c1, c2⟩, nd⟩ := h
  rw [s1] at f1
  cases f1
  rw [h1] at f2
  cases f2
  rw [k1] at f3
  cases f3
  rw [g1] at f4
  cases f4
  have nd' := nd
  simp only [bms, List.cons_append, List.nil_append, List.nodup_cons, List.mem_cons, not_or] at nd'
  obtain ⟨⟨n1, n2, n3, n4, n5⟩, ⟨n6, n7, n8, n9⟩, ⟨n10, n11, n12⟩, ⟨n13, n14⟩, n15, n16⟩ := nd'
  have off : ∀ {b u}, b ≠ B.s → b ≠ B.h → b ≠ B.k → b ≠ B.g → H b = some u → upd (upd (upd (upd H B.s (.dK (dropK ks (Sum.inr x)))) B.h (.dK (dropK kh (Sum.inr x)))) B.k (.dK (dropK kk (Sum.inr x)))) B.g (.dK (dropK kg (Sum.inr x))) b = some u := fun {b u} a1 a2 a3 a4 e => by
    rw [upd_ne a4, upd_ne a3, upd_ne a2, upd_ne a1]
    exact e
  have ndk : ∀ {b kvs}, H b = some (.dK kvs) → B.p ≠ b := fun {b kvs} e => ne_of ob e (by intro z; cases z)
  refine ⟨⟨dx, off (ndk s1) (ndk h1) (ndk k1) (ndk g1) ob⟩, ⟨_, ?_, s2.drop⟩, ⟨_, ?_, h2.drop⟩, ⟨_, ?_, k2.drop⟩, ⟨_, upd_same, g2.drop⟩, ?_, ⟨q5, off (fun w => n4 w.symm) (fun w => n8 w.symm) (fun w => n11 w.symm) (fun w => n13 w.symm) c1, c2.mono fun v cv ⟨e, q⟩ => ⟨e, ?_⟩⟩, ?_⟩
  · rw [upd_ne n3, upd_ne n2, upd_ne n1, upd_same]
  · rw [upd_ne n7, upd_ne n6, upd_same]
  · rw [upd_ne n10, upd_same]
  · intro e me
    have m : e ∈ S.devs := (List.mem_filter.mp me).1
    obtain ⟨m1, m2, m3, m4, m5, m6⟩ := ap m
    exact off m1.symm m2.symm m3.symm m4.symm (inn e m)
  · refine nd.sublist ?_
    unfold bms
    exact List.Sublist.append (List.Sublist.refl _) (List.Sublist.map _ List.filter_sublist)
  · have ln : ∀ {b kvs}, H b = some (.dK kvs) → cv.adr ≠ b := fun {b kvs} e => ne_of q e (by intro z; cases z)
    exact off (ln s1) (ln h1) (ln k1) (ln g1) q
end
def tagsOf (S : BS) (d : DevV) : List (Str × Str) := d.hung.flatMap fun j => (crewOf S j).map fun h => (j, h)
/-- no name given, or one -/
def JobQ (K : PySem.W.Frag) (H : Hp) (y : V) (c : Bool) : Prop := (y = .non ∧ c = true) ∨ (y ≠ .non ∧ NameQ K H y c)
section
variable (C : Nat → Addr) (L : Addr)
def spBHeldOf : Sp := fun vs H Q _ => ∃ (B : BA) (j : Str) (S : BS), vs = [.ref B.p, .str j] ∧ BdAt L H B S ∧ S.Ok ∧ ∀ (H' : Hp) (p : Addr) (ys : List Str), Srt ys (heldBy S j) → Same H H' → H p = none → H' p = some (.lst (ys.map V.str)) → Q (.ref p) H'
def spBAll (f : BS → List Str) : Sp := fun vs H Q _ => ∃ (B : BA) (S : BS), vs = [.ref B.p] ∧ BdAt L H B S ∧ S.Ok ∧ ∀ (H' : Hp) (p : Addr) (ys : List Str), Srt ys (f S) → Same H H' → H p = none → H' p = some (.lst (ys.map V.str)) → Q (.ref p) H'
/-- a question of a job -/
def spBAskJ (K : PySem.W.Frag) (told : BS → Str → CrV → V → Hp → Hp → Prop) : Sp := fun vs H Q E => ∃ (B : BA) (x : V) (b : Bool) (S : BS), vs = [.ref B.p, x] ∧ BdAt L H B S ∧ S.Ok ∧ NameQ K H x b ∧ (b = false → Ref C 0 (.int 0) H E) ∧
  ∀ z, x = .str z → okName z = true → (z ∉ keys S.crews → Ref C 2 (.str z) H E) ∧ ∀ c, look S.crews z = some c → ∀ H' v, Same H H' → told S z c v H H' → Q v H'
def spBTags (K : PySem.W.Frag) : Sp := fun vs H Q E => ∃ (B : BA) (x : V) (b : Bool) (S : BS), vs = [.ref B.p, x] ∧ BdAt L H B S ∧ S.Ok ∧ NameQ K H x b ∧ (b = false → Ref C 0 (.int 0) H E) ∧
  ∀ z, x = .str z → okName z = true → (z ∉ keys S.devs → Ref C 2 (.str z) H E) ∧ ∀ d, look S.devs z = some d → ∀ H' p ts, Same H H' → H p = none → H' p = some (.lst (ts.map V.ref)) → TupsAt H' ts (sortP (tagsOf S d)) → Q (.ref p) H'
def spBHolders (K : PySem.W.Frag) : Sp := fun vs H Q E => ∃ (B : BA) (x y : V) (b c : Bool) (S : BS), vs = [.ref B.p, x, y] ∧ BdAt L H B S ∧ S.Ok ∧ NameQ K H x b ∧ JobQ K H y c ∧ (b = false → Ref C 0 (.int 0) H E) ∧ (b = true → c = false → Ref C 0 (.int 1) H E) ∧
  ∀ z but, x = .str z → y = butV but → okName z = true → (z ∉ keys S.devs → Ref C 2 (.str z) H E) ∧ ∀ d, look S.devs z = some d → ∀ (H' : Hp) (p : Addr) (ys : List Str), Srt ys (handsOn S d but) → Same H H' → H p = none → H' p = some (.lst (ys.map V.str)) → Q (.ref p) H'
end
end SM
namespace SM
open PySem PySem.Spec PyProof.Rows L2
theorem TupsAt.snoc {H : Hp} {t : Addr} {p : Str × Str} (h : H t = some (.tup [.str p.1, .str p.2])) : ∀ {ts : List Addr} {ps : List (Str × Str)}, TupsAt H ts ps → TupsAt H (ts ++ [t]) (ps ++ [p])
  | _, _, .nil => .cons h .nil
  | _, _, .cons a b => .cons a (TupsAt.snoc h b)
theorem TupsAt.len {H : Hp} {ts : List Addr} {ps : List (Str × Str)} (h : TupsAt H ts ps) : ts.length = ps.length := Paired.length h
theorem tagsF_len {S : BS} (hS : S.Ok) : ∀ (js : List Str), (∀ j ∈ js, j ∈ keys S.crews) → (js.flatMap fun j => (crewOf S j).map fun h => (j, h)).length ≤ 6 * js.length
  | [], _ => by simp
  | j :: t, h => by
    obtain ⟨c, _, e, q, _⟩ := crew_of hS (h j (.head _))
    have := tagsF_len hS t fun x m => h x (.tail _ m)
    have e6 : (crewOf S j).length ≤ 6 := by rw [e]; exact q
    rw [List.flatMap_cons, List.length_append, List.length_map, List.length_cons]
    omega
theorem tagsF_snoc {S : BS} {js : List Str} {j : Str} : ((js ++ [j]).flatMap fun j => (crewOf S j).map fun h => (j, h)) = (js.flatMap fun j => (crewOf S j).map fun h => (j, h)) ++ (crewOf S j).map fun h => (j, h) := by
  rw [List.flatMap_append]
  simp
end SM
/-! Part W33: set(xs), xs any list of texts, that may be sorted. -/
namespace SM
open PySem PySem.Spec PyProof.Rows
section
variable {prog : Program} {w : World} {A : Around} {E : Value → Shared → Prop} {s : Shared}
theorem code_set_newX (a : Value) {Q₁ : Value → Shared → Prop}
    (h : Q₁ (.ref s.heap.objs.size) { s with heap := s.heap.push (bareSet (!w.params.followText "set-order")) }) :
    codeAny (model prog w) A (.call (.builtin "set.__new__") ⟨[.type "set", a], []⟩) (wants Q₁ E) s := by
  refine codeAny_of_tree ?_
  show wpAny _ A.in1 (do checkBuiltinCall "set.__new__" ⟨[.type "set", a], []⟩; again (.builtin "set.__new__" ⟨[.type "set", a], []⟩)) _ _ s
  refine wpAny_bind (wpAny_of_eq (F.newCall_set_1 a) (wpAny_pure ⟨plainId_quiet F.plain_set_new _, codeAny_builtin F.entry_set_new ?_⟩))
  rw [Around.under_plainId F.plain_set_new _]
  unfold Builtin.«set.__new__» Builtin.Frozenset.newClass
  have hsub := sub_set_self
  obtain ⟨hp, g, d, tk, os⟩ := s
  dsimp only
  wp_walk
  refine wpAny_askSetting (wpAny_pure ?_)
  dsimp only
  simp only [newObj]
  refine wpAny_bind (wpAny_alloc (wpAny_pure ?_))
  exact wpAny_pure h
theorem addAnyX {a : Addr} {zs : List Str} {z : Str} {t : Tok} {Q : Bool → Shared → Prop} (x : SetX prog w s.heap a zs) (room : zs.length + 1 < scanBound)
    (h : ∀ b h', Heap.SameBut a s.heap h' → SetX prog w h' a (putX zs z) → Q b { s with heap := h', toks := s.toks + 1 }) :
    wpAny (model prog w) A (holding [Value.str z t] (setAdd a (.str z t))) Q E s := by
  refine wpAny_holding (wpAny_holding (wpAny_bind (wpAny_pyHash_str ?_)))
  by_cases m : z ∈ zs
  · have e1 : putX zs z = zs := if_pos m
    exact SetX.add_old (s := { s with toks := s.toks + 1 }) x m (h _ _ (Heap.SameBut.refl _ _) (by rw [e1]; exact x))
  · have e1 : putX zs z = z :: zs := if_neg m
    exact SetX.add_new (s := { s with toks := s.toks + 1 }) x m room fun h' sb y => h _ h' sb (by rw [e1]; exact y)
theorem OnceOf.stepX {zs met : List Str} {z : Str} (o : OnceOf zs met) : OnceOf (putX zs z) (met ++ [z]) := by
  refine ⟨putX_nodup o.nd, fun k => ?_, ?_⟩
  · rw [mem_putX, List.mem_append, List.mem_singleton, o.mem]
    exact Or.comm
  · have := putX_len zs z
    have := o.len
    rw [List.length_append, List.length_singleton]
    omega
variable {R : Result → Shared → Prop} {I : Addr} {fp wr : List Addr} {G : Array GenState → Array GenState → Prop} {n : Nat} {P : Nat → Value → Prop} {St : Nat → Shared → Prop}
theorem textsLoopX (W : WalksS prog w A.in1 I fp wr G n P St) {b : Addr} (out : b ∉ fp) {all : List Str} (ln : all.length = n) (room : n + 1 < scanBound) (hv : ∀ i v, P i v → ∃ z t, all[i]? = some z ∧ v = .str z t) :
    ∀ (left met zs : List Str), all = met ++ left → OnceOf zs met → ∀ s : Shared, St met.length s → SetX prog w s.heap b zs →
      (∀ s' ys, Moved (b :: wr) G s s' → OnceOf ys all → SetX prog w s'.heap b ys → R (.ok (.ret .none)) s') →
      codeAny (model prog w) A (.builtin "set.update.loop" ⟨[.ref b, .ref I], []⟩) R s
  | [], met, zs, e, oz, s, st, x, k => by
    rw [List.append_nil] at e
    subst e
    rw [ln] at st
    refine codeAny_builtin F.entry_set_update_loop (by
      rw [Around.under_plainId F.plain_set_update_loop]
      exact wpAny_bind (W.done s _ _ st fun s' mv => wpAny_pure (k s' zs (mv.mono fun c hc => .tail _ hc) oz (x.at fun o e => mv.heap b o (fun z => out (W.sub b z)) e))))
  | z :: left, met, zs, e, oz, s, st, x, k => by
    have at_ : all[met.length]? = some z := by
      rw [e, List.getElem?_append_right (Nat.le_refl _), Nat.sub_self]
      rfl
    have lt : met.length < n := by
      rw [← ln]
      exact (List.getElem?_eq_some_iff.mp at_).1
    have e2 : all = (met ++ [z]) ++ left := by
      rw [e, List.append_assoc]
      rfl
    have zl := oz.len
    refine codeAny_builtin F.entry_set_update_loop (by
      rw [Around.under_plainId F.plain_set_update_loop]
      refine wpAny_bind (W.item met.length s _ _ lt st fun v s1 pv st1 mv => ?_)
      obtain ⟨z', t, ez, rfl⟩ := hv _ v pv
      rw [at_] at ez
      cases ez
      have x1 := x.at fun o e => mv.heap b o (fun c => out (W.sub b c)) e
      refine wpAny_bind (addAnyX x1 (by omega) fun _ h' sb x2 => ?_)
      have st2 := W.frame _ s1 h' (s1.toks + 1) st1 (Nat.le_succ _) fun c hc o eo => (sb.2 c fun q => out (q ▸ hc)).trans eo
      refine wpAny_pure ⟨plainId_quiet F.plain_set_update_loop _, textsLoopX W out ln room hv left (met ++ [z]) _ e2 oz.stepX _ (by rw [List.length_append]; exact st2) x2 fun s3 ys mv3 o3 x3 => k s3 ys ?_ o3 x3⟩
      refine Moved.trans W.gtrans ((mv.mono fun c hc => .tail _ hc).then_heap (Nat.le_succ _) fun c o hc eo => ?_) mv3
      exact (sb.2 c fun q => hc (q ▸ .head _)).trans eo)
end
section
variable {prog : Program} {w : World} {A : Around} {E : Value → Shared → Prop} {s : Shared}
theorem fillTextsX {l : Addr} {items : Array Value} {all : List Str} (calm : A.handled = none) (hl : s.heap.IsList l items) (hi : StrsAre items.toList all) (room : all.length + 1 < scanBound) {R : Result → Shared → Prop}
    (k : ∀ h' tk ys, OnceOf ys all → SetX prog w h' s.heap.objs.size ys → (∀ b o, s.heap.get? b = some o → h'.get? b = some o) → R (.ok (.ret .none)) { s with heap := h', toks := tk }) :
    codeAny (model prog w) A (.call (.builtin "set.__init__") ⟨[.ref s.heap.objs.size, .ref l], []⟩) R { s with heap := s.heap.push (bareSet (!w.params.followText "set-order")) } := by
  generalize hled : (!w.params.followText "set-order") = led
  have top : (s.heap.push (bareSet led)).get? s.heap.objs.size = some (bareSet led) := Heap.get?_push_size _ rfl
  have ty : Shared.TypeIs { s with heap := s.heap.push (bareSet led) } (.ref s.heap.objs.size) "set" := ⟨_, top, rfl⟩
  have ll : l < s.heap.objs.size := let ⟨_, e, _⟩ := hl; Heap.lt_size e
  have hl1 := hl.push (bareSet led)
  obtain ⟨ol, hol, hcl, nl, hdl⟩ := id hl1
  obtain ⟨oc, od, oa, os'⟩ := ol
  simp only at hcl hdl
  subst hcl
  subst hdl
  refine codeAny_call_builtin PySem.F.called_set.init.plain PySem.F.entry_set_init (check_set_init_1 ty ?_)
  have a1 := PySem.F.sub_list_set
  have a2 := PySem.F.sub_list_frozenset
  have a3 : (Value.type "list" == Value.type "dict") = false := by decide
  unfold Builtin.«set.__init__» noKeywords Builtin.Frozenset.updateFrom
  generalize it : pyIter = iter
  wp_walk
  subst it
  refine wpAny_pyIter_list hl1 (wpAny_bind (wpAny_runValue ?_))
  have big : s.heap.objs.size < (s.heap.push (bareSet led)).objs.size := by
    rw [Heap.size_push]
    exact Nat.lt_succ_self _
  have far : l ≠ (s.heap.push (bareSet led)).objs.size := Nat.ne_of_lt (Nat.lt_trans ll big)
  have W := (Walks.list (prog := prog) (w := w) (A := A.in1.in1) (by simp [calm]) _ l far items).toS
  refine textsLoopX W (b := s.heap.objs.size) (fun m => ?_) ?_ ?_ (fun i v pv => ?_) all [] [] rfl ⟨List.nodup_nil, fun _ => Iff.rfl, Nat.le_refl _⟩ _ ⟨⟨_, Heap.get?_push_size _ rfl, rfl, rfl⟩, hl1.push _⟩ ?_ fun s' ys mv oy x => ?_
  · rcases List.mem_cons.mp m with e | m
    · exact absurd e (Nat.ne_of_lt big)
    · exact absurd (List.mem_singleton.mp m) (Nat.ne_of_gt ll)
  · show all.length = _
    rw [texts_len hi, Array.length_toList]
  · rw [texts_len hi, Array.length_toList] at room
    exact room
  · exact texts_get hi (by rw [Array.getElem?_toList]; exact pv)
  · have fr : SetX prog w (s.heap.push (bareSet led)) s.heap.objs.size [] := by
      rw [← hled]
      exact setX_fresh w
    exact fr.at fun o e => Heap.get?_push_of_some _ e
  · obtain ⟨h', g', d', tk, o'⟩ := s'
    obtain rfl : g' = s.gens := mv.gens
    obtain rfl : d' = s.drawn := mv.drawn
    obtain rfl : o' = s.os := mv.os
    refine wpAny_pure (wpAny_pure (k h' tk ys oy x fun b o e => mv.heap b o (fun m => ?_) (Heap.get?_push_of_some _ (Heap.get?_push_of_some _ e))))
    have lt := Heap.lt_size e
    rcases List.mem_cons.mp m with q | m
    · exact Nat.ne_of_lt lt q
    · exact Nat.ne_of_lt (Nat.lt_trans lt big) (List.mem_singleton.mp m)
theorem setTextsX {l : Addr} {items : Array Value} {all : List Str} {Q : Value → Shared → Prop} (calm : A.handled = none) (hl : s.heap.IsList l items) (hi : StrsAre items.toList all) (room : all.length + 1 < scanBound)
    (k : ∀ h' tk ys, OnceOf ys all → SetX prog w h' s.heap.objs.size ys → (∀ b o, s.heap.get? b = some o → h'.get? b = some o) → Q (.ref s.heap.objs.size) { s with heap := h', toks := tk }) :
    wpAny (model prog w) A (call (.type "set") [.ref l]) Q E s := by
  obtain ⟨c, tl, p1⟩ := PySem.F.called_set.mro
  have p2 := PySem.F.called_set.made
  have p3 := PySem.F.called_set.sub
  have p4 := PySem.F.called_set.notType
  have p5 := PySem.F.called_set.canCreate
  have p6 := PySem.F.typeCall_set_1 (.ref l)
  have p7 := PySem.F.called_set.init.lookup
  refine wpAny_call (codeAny_of_tree (wpAny_pure ⟨Code.quiet_builtin _ (by decide +kernel), codeAny_builtin PySem.F.entry_type_call (by
    rw [Around.under_plain (weight_type_call_type "set" [.ref l] []) rfl]
    repeat (any_goals (first | assumption | wp_step))
    refine codeAny_mono (code_set_newX (.ref l) (E := E) (Q₁ := fun o u => o = .ref s.heap.objs.size ∧ u = { s with heap := s.heap.push (bareSet (!w.params.followText "set-order")) }) ⟨rfl, rfl⟩) fun r u hr => ?_
    match r, hr with
    | .error _, hr => exact hr
    | .ok (.ret _), ⟨e1, e2⟩ =>
      subst e1 e2
      have ty : Shared.TypeIs { s with heap := s.heap.push (bareSet (!w.params.followText "set-order")) } (.ref s.heap.objs.size) "set" := ⟨_, Heap.get?_push_size _ rfl, rfl⟩
      have p8 := PySem.F.called_set.init.bind (.ref s.heap.objs.size)
      repeat (any_goals (first | assumption | wp_step))
      refine fillTextsX (by simp [calm]) hl hi room fun h' tk ys oy x old => ?_
      repeat (any_goals (first | assumption | wp_step))
      exact k h' tk ys oy x old
    | .ok .next, hr => exact hr.elim
    | .ok .brk, hr => exact hr.elim
    | .ok .cont, hr => exact hr.elim)⟩))
end
end SM
namespace SM
open PySem PySem.Spec PyProof.Rows L2
section
variable {X : Cx}
def rSetX (K : PySem.W.Frag) (P : Program) (w : World) : List V → Hp → VK → Prop := fun vs H Q => ∃ (a : Addr) (xs : List Str), vs = [V.ref a] ∧ SqL K H a (xs.map V.str) ∧ xs.length + 1 < scanBound ∧ ∀ (ys : List Str) (p : Addr), OnceOf ys xs → H p = none → Q (.ref p) (upd H p (SetXO P w p ys))
theorem cr_setX (hc : X.calm = true) : CallR X (.type "set") (rSetX X.K X.prog X.w) := by
  intro pins s σ H vs us Q I r h
  obtain ⟨a, xs, rfl, hs, room, q⟩ := h
  obtain ⟨its, rv, pl, hz⟩ := I.list hs
  rw [Vals.ref1 r]
  refine setTextsX (I.ok.hd hc) pl.isList (strsAre_of rv) room fun h' tk ys oy x old => ?_
  have free : H s.heap.objs.size = none := I.hok.fresh (Nat.le_refl _)
  exact ⟨.ref _, upd H s.heap.objs.size (SetXO X.prog X.w s.heap.objs.size ys), I.laid (t' := tk) old (Nat.le_refl _) (setXO_new x), rfl, q ys _ oy free⟩
end
end SM
/-! Part W34: a law's own book of a board. -/
namespace SM
open PySem PySem.Spec PyProof.Rows L2
structure KA where
  m : Addr
  pl : Addr
  ho : Addr
  tg : Addr
  cr : Addr
def KA.ms (A : KA) : List Addr := [A.m, A.pl, A.ho, A.tg, A.cr]
def kTop (A : KA) (sk : Addr) : List (Key × V) := [(Sum.inr "place", .ref A.pl), (Sum.inr "home", .ref A.ho), (Sum.inr "stuck", .ref sk), (Sum.inr "tags", .ref A.tg), (Sum.inr "crew", .ref A.cr)]
theorem kn {a b : Str} (h : ¬ a = b) : ¬ ((Sum.inr a : Key) = Sum.inr b) := fun e => h (Sum.inr.inj e)
theorem kPH : ¬ ((Sum.inr "place" : Key) = Sum.inr ("home" : Str)) := kn (by decide +kernel)
theorem kPS : ¬ ((Sum.inr "place" : Key) = Sum.inr ("stuck" : Str)) := kn (by decide +kernel)
theorem kPT : ¬ ((Sum.inr "place" : Key) = Sum.inr ("tags" : Str)) := kn (by decide +kernel)
theorem kPC : ¬ ((Sum.inr "place" : Key) = Sum.inr ("crew" : Str)) := kn (by decide +kernel)
theorem kHS : ¬ ((Sum.inr "home" : Key) = Sum.inr ("stuck" : Str)) := kn (by decide +kernel)
theorem kHT : ¬ ((Sum.inr "home" : Key) = Sum.inr ("tags" : Str)) := kn (by decide +kernel)
theorem kHC : ¬ ((Sum.inr "home" : Key) = Sum.inr ("crew" : Str)) := kn (by decide +kernel)
theorem kST : ¬ ((Sum.inr "stuck" : Key) = Sum.inr ("tags" : Str)) := kn (by decide +kernel)
theorem kSC : ¬ ((Sum.inr "stuck" : Key) = Sum.inr ("crew" : Str)) := kn (by decide +kernel)
theorem kTC : ¬ ((Sum.inr "tags" : Key) = Sum.inr ("crew" : Str)) := kn (by decide +kernel)
theorem kTS : ¬ ((Sum.inr "tags" : Key) = Sum.inr ("stuck" : Str)) := kn (by decide +kernel)
theorem kCS : ¬ ((Sum.inr "crew" : Key) = Sum.inr ("stuck" : Str)) := kn (by decide +kernel)
theorem kTop_p (A : KA) (sk : Addr) : valV (kTop A sk) (Sum.inr ("place" : Str)) = some (.ref A.pl) := valV_pos rfl
theorem kTop_h (A : KA) (sk : Addr) : valV (kTop A sk) (Sum.inr ("home" : Str)) = some (.ref A.ho) := by unfold kTop; rw [valV_neg kPH]; exact valV_pos rfl
theorem kTop_s (A : KA) (sk : Addr) : valV (kTop A sk) (Sum.inr ("stuck" : Str)) = some (.ref sk) := by unfold kTop; rw [valV_neg kPS, valV_neg kHS]; exact valV_pos rfl
theorem kTop_t (A : KA) (sk : Addr) : valV (kTop A sk) (Sum.inr ("tags" : Str)) = some (.ref A.tg) := by unfold kTop; rw [valV_neg kPT, valV_neg kHT, valV_neg kST]; exact valV_pos rfl
theorem kTop_c (A : KA) (sk : Addr) : valV (kTop A sk) (Sum.inr ("crew" : Str)) = some (.ref A.cr) := by unfold kTop; rw [valV_neg kPC, valV_neg kHC, valV_neg kSC, valV_neg kTC]; exact valV_pos rfl
theorem kTop_put (A : KA) (sk sk' : Addr) : putK (kTop A sk) (Sum.inr ("stuck" : Str)) (.ref sk') = kTop A sk' := by
  have any : ((kTop A sk).any fun kv => decide (kv.1 = (Sum.inr ("stuck" : Str) : Key))) = true := by rw [valV_any, kTop_s]; rfl
  unfold putK
  rw [if_pos any]
  simp only [kTop, List.map_cons, List.map_nil, if_neg kPS, if_neg kHS, if_true, if_neg kTS, if_neg kCS]
/-- who is stuck -/
def StkOk (xs : List Str) (S : BS) : Prop := xs.Nodup ∧ ∀ z, z ∈ xs ↔ ∃ d, look S.devs z = some d ∧ d.stk = true
structure BkAt (H : Hp) (A : KA) (S : BS) : Prop where
  tp : ∃ (sk : Addr) (xs : List Str), H A.m = some (.dK (kTop A sk)) ∧ H sk = some (.lst (xs.map V.str)) ∧ StkOk xs S
  pl : ∃ kvs, H A.pl = some (.dK kvs) ∧ Kr (fun v (d : DevV) => v = .str d.st) kvs S.devs
  ho : ∃ kvs, H A.ho = some (.dK kvs) ∧ Kr (fun v (d : DevV) => v = .str d.home) kvs S.devs
  tg : ∃ kvs, H A.tg = some (.dK kvs) ∧ Kr (fun v (d : DevV) => ∃ (a : Addr) (ys : List Str), v = .ref a ∧ H a = some (.lst (ys.map V.str)) ∧ ys.Perm d.hung) kvs S.devs
  cr : ∃ kvs, H A.cr = some (.dK kvs) ∧ Kr (fun v (c : CrV) => ∃ a : Addr, v = .ref a ∧ H a = some (.lst (c.hs.map V.str))) kvs S.crews
  nd : A.ms.Nodup
theorem BkAt.keep {ms : List Addr} {H H' : Hp} {A : KA} {S : BS} (h : BkAt H A S) (k : Keep ms H H') (n : ∀ b ∈ ms, b ∉ A.ms) : BkAt H' A S := by
  obtain ⟨⟨sk, xs, a1, a2, a3⟩, ⟨q1, b1, b2⟩, ⟨q2, c1, c2⟩, ⟨q3, d1, d2⟩, ⟨q4, e1, e2⟩, nd⟩ := h
  have off : ∀ {b u}, b ∈ A.ms → H b = some u → H' b = some u := fun {b u} hb e => k.out b u e fun z => n b z hb
  exact ⟨⟨sk, xs, off (by simp [KA.ms]) a1, k.flat _ _ a2 (flat_strs _), a3⟩, ⟨q1, off (by simp [KA.ms]) b1, b2⟩, ⟨q2, off (by simp [KA.ms]) c1, c2⟩, ⟨q3, off (by simp [KA.ms]) d1, d2.mono fun v d ⟨a, ys, e, q, p⟩ => ⟨a, ys, e, k.flat _ _ q (flat_strs _), p⟩⟩,
    ⟨q4, off (by simp [KA.ms]) e1, e2.mono fun v c ⟨a, e, q⟩ => ⟨a, e, k.flat _ _ q (flat_strs _)⟩⟩, nd⟩
theorem BkAt.same {H H' : Hp} {A : KA} {S : BS} (h : BkAt H A S) (s : Same H H') : BkAt H' A S := h.keep (ms := []) (Keep.of s) fun _ z => nomatch z
theorem rd_same {H H' : Hp} {a : Addr} {u : HO} (h : Rd H a u) (s : Same H H') : Rd H' a u := by
  rcases h with h | ⟨o, h⟩
  · exact .inl (s _ _ h)
  · exact .inr ⟨o, s _ _ h⟩
/-- the book, its dicts of places and of crews held fast, or not -/
structure BkRd (H : Hp) (A : KA) (S : BS) : Prop where
  tp : ∃ (sk : Addr) (xs : List Str), H A.m = some (.dK (kTop A sk)) ∧ H sk = some (.lst (xs.map V.str)) ∧ StkOk xs S
  pl : ∃ kvs, Rd H A.pl (.dK kvs) ∧ Kr (fun v (d : DevV) => v = .str d.st) kvs S.devs
  ho : ∃ kvs, H A.ho = some (.dK kvs) ∧ Kr (fun v (d : DevV) => v = .str d.home) kvs S.devs
  tg : ∃ kvs, H A.tg = some (.dK kvs) ∧ Kr (fun v (d : DevV) => ∃ (a : Addr) (ys : List Str), v = .ref a ∧ H a = some (.lst (ys.map V.str)) ∧ ys.Perm d.hung) kvs S.devs
  cr : ∃ kvs, Rd H A.cr (.dK kvs) ∧ Kr (fun v (c : CrV) => ∃ a : Addr, v = .ref a ∧ H a = some (.lst (c.hs.map V.str))) kvs S.crews
  nd : A.ms.Nodup
theorem BkAt.rd {H : Hp} {A : KA} {S : BS} (h : BkAt H A S) : BkRd H A S :=
  ⟨h.tp, h.pl.elim fun q ⟨a, b⟩ => ⟨q, .inl a, b⟩, h.ho, h.tg, h.cr.elim fun q ⟨a, b⟩ => ⟨q, .inl a, b⟩, h.nd⟩
theorem BkRd.same {H H' : Hp} {A : KA} {S : BS} (h : BkRd H A S) (s : Same H H') : BkRd H' A S := by
  obtain ⟨⟨sk, xs, a1, a2, a3⟩, ⟨q1, b1, b2⟩, ⟨q2, c1, c2⟩, ⟨q3, d1, d2⟩, ⟨q4, e1, e2⟩, nd⟩ := h
  exact ⟨⟨sk, xs, s _ _ a1, s _ _ a2, a3⟩, ⟨q1, rd_same b1 s, b2⟩, ⟨q2, s _ _ c1, c2⟩, ⟨q3, s _ _ d1, d2.mono fun v d ⟨a, ys, e, q, p⟩ => ⟨a, ys, e, s _ _ q, p⟩⟩, ⟨q4, rd_same e1 s, e2.mono fun v c ⟨a, e, q⟩ => ⟨a, e, s _ _ q⟩⟩, nd⟩
theorem BkAt.dks {H : Hp} {A : KA} {S : BS} (h : BkAt H A S) : ∀ b ∈ A.ms, ∃ kvs, H b = some (.dK kvs) := by
  obtain ⟨⟨sk, xs, a1, a2, a3⟩, ⟨q1, b1, b2⟩, ⟨q2, c1, c2⟩, ⟨q3, d1, d2⟩, ⟨q4, e1, e2⟩, nd⟩ := h
  intro b hb
  have hb' : b = A.m ∨ b = A.pl ∨ b = A.ho ∨ b = A.tg ∨ b = A.cr := by simpa [KA.ms] using hb
  rcases hb' with rfl | rfl | rfl | rfl | rfl
  · exact ⟨_, a1⟩
  · exact ⟨_, b1⟩
  · exact ⟨_, c1⟩
  · exact ⟨_, d1⟩
  · exact ⟨_, e1⟩
theorem stk_len {xs : List Str} {S : BS} (hS : S.Ok) (h : StkOk xs S) : xs.length ≤ 52 := by
  have := nodup_len h.1 (ys := keys S.devs) fun z mz => by
    obtain ⟨d, e, _⟩ := (h.2 z).mp mz
    exact look_in e
  have l := hS.dL
  rw [keys, List.length_map] at this
  omega
/-! hands of many jobs -/
theorem handSet_nodup {S : BS} {js : List Str} : (handSet S js).Nodup := by
  unfold handSet
  have f : ∀ (hs l : List Str), l.Nodup → (hs.foldl putX l).Nodup := by
    intro hs
    induction hs with
    | nil => exact fun l n => n
    | cons h t ih => exact fun l n => ih _ (putX_nodup n)
  have g : ∀ (js l : List Str), l.Nodup → (js.foldl (fun l j => (crewOf S j).foldl putX l) l).Nodup := by
    intro js
    induction js with
    | nil => exact fun l n => n
    | cons j t ih => exact fun l n => ih _ (f _ _ n)
  exact g js [] List.nodup_nil
theorem mem_handSet {S : BS} {js : List Str} {x : Str} : x ∈ handSet S js ↔ ∃ j ∈ js, x ∈ crewOf S j := by
  unfold handSet
  rw [mem_handF]
  simp
theorem handSet_perm {S : BS} {js js' : List Str} (h : ∀ j, j ∈ js ↔ j ∈ js') : (handSet S js).Perm (handSet S js') :=
  (List.perm_ext_iff_of_nodup handSet_nodup handSet_nodup).mpr fun x => by
    rw [mem_handSet, mem_handSet]
    exact ⟨fun ⟨j, m, q⟩ => ⟨j, (h j).mp m, q⟩, fun ⟨j, m, q⟩ => ⟨j, (h j).mpr m, q⟩⟩
/-! what a refusal is told as -/
def DueAt (H : Hp) (v : V) : Option BRf → Prop
  | none => v = .non
  | some (.there x) => ∃ t : Addr, v = .ref t ∧ H t = some (.tup [.str "There", .str x])
  | some (.lacks x) => ∃ t : Addr, v = .ref t ∧ H t = some (.tup [.str "Lacks", .str x])
  | some (.tooMany n) => ∃ t : Addr, v = .ref t ∧ H t = some (.tup [.str "TooMany", .int n])
  | some (.held l) => ∃ (t p : Addr) (ys : List Str), v = .ref t ∧ H t = some (.tup [.str "Held", .ref p]) ∧ H p = some (.lst (ys.map V.str)) ∧ Srt ys l
  | some (.stuck x) => ∃ t : Addr, v = .ref t ∧ H t = some (.tup [.str "Stuck", .str x])
  | some (.inUse x) => ∃ t : Addr, v = .ref t ∧ H t = some (.tup [.str "InUse", .str x])
theorem DueAt.keep {ms : List Addr} {H H' : Hp} {v : V} {f : Option BRf} (h : DueAt H v f) (k : Keep ms H H') : DueAt H' v f := by
  match f, h with
  | none, h => exact h
  | some (.there x), ⟨t, e, q⟩ => exact ⟨t, e, k.tup _ _ q⟩
  | some (.lacks x), ⟨t, e, q⟩ => exact ⟨t, e, k.tup _ _ q⟩
  | some (.tooMany n), ⟨t, e, q⟩ => exact ⟨t, e, k.tup _ _ q⟩
  | some (.held l), ⟨t, p, ys, e, q, r, s⟩ => exact ⟨t, p, ys, e, k.tup _ _ q, k.flat _ _ r (flat_strs _), s⟩
  | some (.stuck x), ⟨t, e, q⟩ => exact ⟨t, e, k.tup _ _ q⟩
  | some (.inUse x), ⟨t, e, q⟩ => exact ⟨t, e, k.tup _ _ q⟩
theorem Srt.perm {ys xs zs : List Str} (h : Srt ys xs) (p : xs.Perm zs) : Srt ys zs := ⟨h.1.trans p, h.2⟩
theorem DueAt.held {H : Hp} {v : V} {l l' : List Str} (h : DueAt H v (some (.held l))) (p : l.Perm l') : DueAt H v (some (.held l')) := by
  obtain ⟨t, q, ys, e, r, s, u⟩ := h
  exact ⟨t, q, ys, e, r, s, u.perm p⟩
/-! deeds as a law writes them -/
def TupK (H : Hp) (t : Addr) : BDeed → Prop
  | .turn x p => H t = some (.tup [.str "turn", .str x, .str p])
  | .hold x p j => H t = some (.tup [.str "hold", .str x, .str p, .str j])
  | .free x j => H t = some (.tup [.str "free", .str x, .str j])
  | .stick x => H t = some (.tup [.str "stick", .str x])
  | .mend x => H t = some (.tup [.str "mend", .str x])
  | .add x p _ => H t = some (.tup [.str "add", .str x, .str p])
  | .take x => H t = some (.tup [.str "take", .str x])
  | .leave j => H t = some (.tup [.str "leave", .str j])
  | .crew j hs _ => ∃ g, H t = some (.tup [.str "crew", .str j, .ref g]) ∧ H g = some (.lst (hs.map V.str))
theorem TupK.keep {ms : List Addr} {H H' : Hp} {t : Addr} {D : BDeed} (h : TupK H t D) (k : Keep ms H H') : TupK H' t D := by
  cases D with
  | crew j hs a =>
    obtain ⟨g, e, q⟩ := h
    exact ⟨g, k.tup _ _ e, k.flat _ _ q (flat_strs _)⟩
  | turn x p => exact k.tup _ _ h
  | hold x p j => exact k.tup _ _ h
  | free x j => exact k.tup _ _ h
  | stick x => exact k.tup _ _ h
  | mend x => exact k.tup _ _ h
  | add x p a => exact k.tup _ _ h
  | take x => exact k.tup _ _ h
  | leave j => exact k.tup _ _ h
/-- of good names, positions, hands -/
def GoodK : BDeed → Prop
  | .turn x p => okName x = true ∧ p ∈ posL
  | .hold x p j => okName x = true ∧ p ∈ posL ∧ okName j = true
  | .free x j => okName x = true ∧ okName j = true
  | .stick x => okName x = true
  | .mend x => okName x = true
  | .add x p _ => okName x = true ∧ p ∈ posL
  | .take x => okName x = true
  | .leave j => okName j = true
  | .crew j hs _ => okName j = true ∧ hs.Nodup ∧ 1 ≤ hs.length ∧ hs.length ≤ 6 ∧ ∀ x ∈ hs, okName x = true
/-- where a new dict, a new list came to stand -/
def atA : BDeed → Addr → BDeed
  | .add x p _, a => .add x p a
  | .crew j hs _, a => .crew j hs a
  | D, _ => D
theorem due_at {S : BS} {D : BDeed} {a : Addr} : S.due (atA D a) = S.due D := by cases D <;> rfl
/-! promises -/
def spNewK : Sp := fun vs H Q _ => vs = [] ∧ ∀ (A : KA) (H' : Hp), BkAt H' A BS.new → Same H H' → (∀ b ∈ A.ms, H b = none) → Q (.ref A.m) H'
def spHandsK : Sp := fun vs H Q _ => ∃ (A : KA) (S : BS) (a : Addr) (js : List Str), vs = [.ref A.m, .ref a] ∧ BkRd H A S ∧ S.Ok ∧ H a = some (.lst (js.map V.str)) ∧ (∀ j ∈ js, j ∈ keys S.crews) ∧ js.length ≤ 8 ∧
  ∀ (H' : Hp) (p : Addr) (ys : List Str), Srt ys (handSet S js) → Same H H' → H' p = some (.lst (ys.map V.str)) → Q (.ref p) H'
def spHeldK : Sp := fun vs H Q _ => ∃ (A : KA) (S : BS) (a : Addr) (js : List Str), vs = [.ref A.m, .ref a] ∧ BkAt H A S ∧ S.Ok ∧ H a = some (.lst (js.map V.str)) ∧ (∀ j ∈ js, j ∈ keys S.crews) ∧ js.length ≤ 8 ∧
  ∀ (H' : Hp) (v : V), DueAt H' v (if js = [] then none else some (.held (handSet S js))) → Same H H' → Q v H'
def spDueJobK : Sp := fun vs H Q _ => ∃ (A : KA) (S : BS) (w j : Str) (D : BDeed), vs = [.ref A.m, .str w, .str j] ∧ BkAt H A S ∧ S.Ok ∧ ((w = "crew" ∧ ∃ hs a, D = .crew j hs a) ∨ (w = "leave" ∧ D = .leave j)) ∧ okName j = true ∧
  ∀ (H' : Hp) (v : V), DueAt H' v (S.due D) → Same H H' → Q v H'
def spDueMovedK : Sp := fun vs H Q _ => ∃ (A : KA) (S : BS) (x p : Str) (o : Addr) (js : List Str) (d : DevV), vs = [.ref A.m, .str x, .str p, .ref o] ∧ BkAt H A S ∧ S.Ok ∧ look S.devs x = some d ∧ okName x = true ∧ H o = some (.lst (js.map V.str)) ∧ (∀ j ∈ js, j ∈ keys S.crews) ∧ js.length ≤ 8 ∧
  ∀ (H' : Hp) (v : V), DueAt H' v (if d.st = p then none else if js = [] then (if d.stk = true then some (.stuck x) else none) else some (.held (handSet S js))) → Same H H' → Q v H'
def spDueK : Sp := fun vs H Q _ => ∃ (A : KA) (S : BS) (t : Addr) (D : BDeed), vs = [.ref A.m, .ref t] ∧ BkAt H A S ∧ S.Ok ∧ TupK H t D ∧ GoodK D ∧ ∀ (H' : Hp) (v : V), DueAt H' v (S.due D) → Same H H' → Q v H'
end SM
namespace SM
open PySem PySem.Spec PyProof.Rows L2
theorem kTop_merge (A : KA) (sk : Addr) : mergeK [] (kTop A sk) = kTop A sk := by
  have n1 : valV ([(Sum.inr "place", .ref A.pl)] : List (Key × V)) (Sum.inr ("home" : Str)) = none := by rw [valV_neg kPH]; rfl
  have n2 : valV ([(Sum.inr "place", .ref A.pl), (Sum.inr "home", .ref A.ho)] : List (Key × V)) (Sum.inr ("stuck" : Str)) = none := by rw [valV_neg kPS, valV_neg kHS]; rfl
  have n3 : valV ([(Sum.inr "place", .ref A.pl), (Sum.inr "home", .ref A.ho), (Sum.inr "stuck", .ref sk)] : List (Key × V)) (Sum.inr ("tags" : Str)) = none := by rw [valV_neg kPT, valV_neg kHT, valV_neg kST]; rfl
  have n4 : valV ([(Sum.inr "place", .ref A.pl), (Sum.inr "home", .ref A.ho), (Sum.inr "stuck", .ref sk), (Sum.inr "tags", .ref A.tg)] : List (Key × V)) (Sum.inr ("crew" : Str)) = none := by rw [valV_neg kPC, valV_neg kHC, valV_neg kSC, valV_neg kTC]; rfl
  show putK (putK (putK (putK (putK ([] : List (Key × V)) (Sum.inr "place") (.ref A.pl)) (Sum.inr "home") (.ref A.ho)) (Sum.inr "stuck") (.ref sk)) (Sum.inr "tags") (.ref A.tg)) (Sum.inr "crew") (.ref A.cr) = _
  rw [show putK ([] : List (Key × V)) (Sum.inr ("place" : Str)) (.ref A.pl) = ([(Sum.inr "place", .ref A.pl)] : List (Key × V)) from rfl, putK_new _ n1]
  simp only [List.cons_append, List.nil_append]
  rw [putK_new _ n2]
  simp only [List.cons_append, List.nil_append]
  rw [putK_new _ n3]
  simp only [List.cons_append, List.nil_append]
  rw [putK_new _ n4]
  rfl
end SM
/-! Part W35: what is due, by the book. -/
namespace SM
open PySem PySem.Spec PyProof.Rows L2
theorem handSet_nil {S : BS} (hS : S.Ok) {js : List Str} (h : ∀ j ∈ js, j ∈ keys S.crews) : handSet S js = [] ↔ js = [] := by
  constructor
  · intro e
    cases js with
    | nil => rfl
    | cons j t =>
      obtain ⟨c, _, ec, _, l1⟩ := crew_of hS (h j (.head _))
      have : ∃ x, x ∈ c.hs := by
        cases hc : c.hs with
        | nil => rw [hc] at l1; simp at l1
        | cons a b => exact ⟨a, .head _⟩
      obtain ⟨x, mx⟩ := this
      have : x ∈ handSet S (j :: t) := mem_handSet.mpr ⟨j, .head _, by rw [ec]; exact mx⟩
      rw [e] at this
      cases this
  · intro e
    rw [e]
    rfl
theorem butF {d : DevV} : (d.hung.filter fun j => decide (some j ≠ (none : Option Str))) = d.hung := List.filter_eq_self.mpr fun y _ => by simp
theorem butJ {d : DevV} {j : Str} : (d.hung.filter fun y => decide (some y ≠ some j)) = d.hung.filter fun y => decide (y ≠ j) := by
  refine List.filter_congr fun y _ => ?_
  exact decide_eq_decide.mpr ⟨fun h e => h (by rw [e]), fun h e => h (Option.some.inj e)⟩
/-- held, by the tags -/
theorem held_due {S : BS} (hS : S.Ok) {d : DevV} {but : Option Str} {js : List Str} (p : js.Perm (d.hung.filter fun j => decide (some j ≠ but))) (h : ∀ j ∈ d.hung, j ∈ keys S.crews) {H : Hp} {v : V} (hv : DueAt H v (if js = [] then none else some (.held (handSet S js)))) : DueAt H v (heldDue S d but) := by
  have hj : ∀ j ∈ d.hung.filter (fun j => decide (some j ≠ but)), j ∈ keys S.crews := fun j m => h j (List.mem_filter.mp m).1
  have e1 : handsOn S d but = [] ↔ js = [] := by
    unfold handsOn
    rw [handSet_nil hS hj]
    exact ⟨fun e => List.Perm.eq_nil (by rw [e] at p; exact p), fun e => List.Perm.eq_nil (by rw [e] at p; exact p.symm)⟩
  unfold heldDue
  by_cases he : js = []
  · rw [if_pos he] at hv
    rw [if_pos (e1.mpr he)]
    exact hv
  · rw [if_neg he] at hv
    rw [if_neg fun e => he (e1.mp e)]
    exact hv.held (handSet_perm fun j => p.mem_iff)
theorem one_hung {d : DevV} {ys : List Str} {j : Str} (p : ys.Perm d.hung) : ys = [j] ↔ j ∈ d.hung ∧ d.hung.length = 1 := by
  constructor
  · intro e
    rw [e] at p
    exact ⟨p.mem_iff.mp (.head _), p.length_eq.symm⟩
  · rintro ⟨m, l⟩
    have l2 := p.length_eq
    have m2 := p.mem_iff.mpr m
    match ys, l2, m2 with
    | [y], _, m2 => rw [List.mem_singleton.mp m2]
    | [], l2, _ => rw [l] at l2; cases l2
    | _ :: _ :: _, l2, _ => rw [l] at l2; simp at l2
end SM
namespace SM
open PySem PySem.Spec PyProof.Rows L2
theorem str_eqv2 (a b : Str) : PyData.eqv (.str a) (.str b) = decide (a = b) := by
  by_cases h : a = b
  · rw [decide_eq_true h, h]
    simp [PyData.eqv]
  · rw [decide_eq_false h]
    simp only [PyData.eqv]
    simpa using h
theorem strs_eqv : ∀ (ys zs : List Str), PyData.eqvAll (ys.map PyData.str) (zs.map PyData.str) = decide (ys = zs)
  | [], [] => by simp [PyData.eqvAll]
  | [], z :: t => by simp [PyData.eqvAll]
  | y :: t, [] => by simp [PyData.eqvAll]
  | y :: t, z :: u => by
    rw [List.map_cons, List.map_cons]
    unfold PyData.eqvAll
    rw [strs_eqv t u, str_eqv2]
    by_cases h1 : y = z <;> by_cases h2 : t = u <;> simp [h1, h2]
theorem names_eqv (ys zs : List Str) : PyData.eqv (.list (ys.map PyData.str)) (.list (zs.map PyData.str)) = decide (ys = zs) := by
  have h : PyData.eqv (.list (ys.map PyData.str)) (.list (zs.map PyData.str)) = PyData.eqvAll (ys.map PyData.str) (zs.map PyData.str) := by simp [PyData.eqv]
  rw [h, strs_eqv]
end SM
/-! Part W36: the book is written. -/
namespace SM
open PySem PySem.Spec PyProof.Rows L2
theorem StkOk.mono {xs : List Str} {S S' : BS} (h : StkOk xs S) (e : ∀ z, (∃ d, look S'.devs z = some d ∧ d.stk = true) ↔ ∃ d, look S.devs z = some d ∧ d.stk = true) : StkOk xs S' := ⟨h.1, fun z => (h.2 z).trans (e z).symm⟩
theorem stk_setT {S : BS} {x : Str} {f : DevV → DevV} (hf : ∀ d, (f d).stk = d.stk) (z : Str) : (∃ d, look (setT S.devs x f) z = some d ∧ d.stk = true) ↔ ∃ d, look S.devs z = some d ∧ d.stk = true := by
  rw [look_setT]
  by_cases e : z = x
  · rw [if_pos e]
    constructor
    · rintro ⟨d, h, k⟩
      obtain ⟨d0, e0, rfl⟩ := Option.map_eq_some_iff.mp h
      exact ⟨d0, e0, by rw [hf] at k; exact k⟩
    · rintro ⟨d, h, k⟩
      exact ⟨f d, by rw [h]; rfl, by rw [hf]; exact k⟩
  · rw [if_neg e]
theorem StkOk.stick {xs : List Str} {S : BS} {x : Str} (h : StkOk xs S) (hx : x ∈ keys S.devs) : StkOk ((xs.filter fun y => decide (y ≠ x)) ++ [x]) { S with devs := setT S.devs x fun d => { d with stk := true } } := by
  refine ⟨List.nodup_append.mpr ⟨h.1.sublist List.filter_sublist, by simp, fun a ha b hb e => ?_⟩, fun z => ?_⟩
  · have h1 := of_decide_eq_true (List.mem_filter.mp ha).2
    exact h1 (e.trans (List.mem_singleton.mp hb))
  · rw [List.mem_append, List.mem_filter, List.mem_singleton]
    show _ ↔ ∃ d, look (setT S.devs x fun d => { d with stk := true }) z = some d ∧ d.stk = true
    rw [look_setT]
    by_cases e : z = x
    · rw [if_pos e]
      obtain ⟨d, ed⟩ := look_some hx
      exact ⟨fun _ => ⟨{ d with stk := true }, by rw [e, ed]; rfl, rfl⟩, fun _ => .inr e⟩
    · rw [if_neg e, ← h.2 z]
      constructor
      · rintro (⟨a, _⟩ | a)
        · exact a
        · exact absurd a e
      · exact fun a => .inl ⟨a, decide_eq_true e⟩
theorem StkOk.mend {xs : List Str} {S : BS} {x : Str} (h : StkOk xs S) : StkOk (xs.filter fun y => decide (y ≠ x)) { S with devs := setT S.devs x fun d => { d with stk := false } } := by
  refine ⟨h.1.sublist List.filter_sublist, fun z => ?_⟩
  rw [List.mem_filter]
  show _ ↔ ∃ d, look (setT S.devs x fun d => { d with stk := false }) z = some d ∧ d.stk = true
  rw [look_setT]
  by_cases e : z = x
  · rw [if_pos e]
    constructor
    · rintro ⟨_, a⟩
      exact absurd e (of_decide_eq_true a)
    · rintro ⟨d, a, b⟩
      obtain ⟨d0, _, rfl⟩ := Option.map_eq_some_iff.mp a
      cases b
  · rw [if_neg e, ← h.2 z]
    exact ⟨fun a => a.1, fun a => ⟨a, decide_eq_true e⟩⟩
theorem look_del {α : Type} {tab : List (Str × α)} {x z : Str} : look (del tab x) z = if z = x then none else look tab z := by
  by_cases e : z = x
  · rw [if_pos e, look_none, keys_del, e]
    simp
  · rw [if_neg e]
    induction tab with
    | nil => rfl
    | cons p t ih =>
      by_cases h : p.1 = x
      · rw [show del (p :: t) x = del t x by simp [del, h], ih, look_neg fun w => e (w.symm.trans h)]
      · rw [show del (p :: t) x = p :: del t x by simp [del, h]]
        by_cases hz : p.1 = z
        · rw [look_pos hz, look_pos hz]
        · rw [look_neg hz, look_neg hz, ih]
theorem StkOk.take {xs : List Str} {S : BS} {x : Str} (h : StkOk xs S) : StkOk (xs.filter fun y => decide (y ≠ x)) { S with devs := del S.devs x } := by
  refine ⟨h.1.sublist List.filter_sublist, fun z => ?_⟩
  rw [List.mem_filter]
  show _ ↔ ∃ d, look (del S.devs x) z = some d ∧ d.stk = true
  rw [look_del]
  by_cases e : z = x
  · rw [if_pos e]
    exact ⟨fun a => absurd e (of_decide_eq_true a.2), fun ⟨d, a, _⟩ => (nomatch a)⟩
  · rw [if_neg e, ← h.2 z]
    exact ⟨fun a => a.1, fun a => ⟨a, decide_eq_true e⟩⟩
theorem StkOk.add {xs : List Str} {S : BS} {x : Str} {D : DevV} (h : StkOk xs S) (n : x ∉ keys S.devs) (hD : D.stk = false) : StkOk xs { S with devs := S.devs ++ [(x, D)] } := by
  refine h.mono fun z => ?_
  show (∃ d, look (S.devs ++ [(x, D)]) z = some d ∧ d.stk = true) ↔ _
  rw [look_snoc n]
  by_cases e : z = x
  · rw [if_pos e]
    constructor
    · rintro ⟨d, a, b⟩
      cases a
      rw [hD] at b
      cases b
    · rintro ⟨d, a, b⟩
      rw [e, look_none.mpr n] at a
      cases a
  · rw [if_neg e]
abbrev TgG (H : Hp) (v : V) (d : DevV) : Prop := ∃ (a : Addr) (ys : List Str), v = .ref a ∧ H a = some (.lst (ys.map V.str)) ∧ ys.Perm d.hung
abbrev CwG (H : Hp) (v : V) (c : CrV) : Prop := ∃ a : Addr, v = .ref a ∧ H a = some (.lst (c.hs.map V.str))
theorem TgG.keep {ms : List Addr} {H H' : Hp} {v : V} {d : DevV} (h : TgG H v d) (k : Keep ms H H') : TgG H' v d := by
  obtain ⟨a, ys, e, q, p⟩ := h
  exact ⟨a, ys, e, k.flat _ _ q (flat_strs _), p⟩
theorem CwG.keep {ms : List Addr} {H H' : Hp} {v : V} {c : CrV} (h : CwG H v c) (k : Keep ms H H') : CwG H' v c := by
  obtain ⟨a, e, q⟩ := h
  exact ⟨a, e, k.flat _ _ q (flat_strs _)⟩
section
variable {H : Hp} {A : KA} {S : BS} {kvs : List (Key × V)} {z : Str} {f : DevV → DevV}
theorem BkAt.ne (h : BkAt H A S) : A.m ≠ A.pl ∧ A.m ≠ A.ho ∧ A.m ≠ A.tg ∧ A.m ≠ A.cr ∧ A.pl ≠ A.ho ∧ A.pl ≠ A.tg ∧ A.pl ≠ A.cr ∧ A.ho ≠ A.tg ∧ A.ho ≠ A.cr ∧ A.tg ≠ A.cr := by
  have n := h.nd
  simp only [KA.ms, List.nodup_cons, List.mem_cons, List.not_mem_nil, or_false, not_or] at n
  exact ⟨n.1.1, n.1.2.1, n.1.2.2.1, n.1.2.2.2, n.2.1.1, n.2.1.2.1, n.2.1.2.2, n.2.2.1.1, n.2.2.1.2, n.2.2.2.1⟩
theorem BkAt.setCr (h : BkAt H A S) {crews : List (Str × CrV)} (kr : Kr (CwG H) kvs crews) : BkAt (upd H A.cr (.dK kvs)) A { S with crews := crews } := by
  obtain ⟨n1, n2, n3, n4, n5, n6, n7, n8, n9, n10⟩ := h.ne
  obtain ⟨⟨sk, xs, a1, a2, a3⟩, ⟨q1, b1, b2⟩, ⟨q2, c1, c2⟩, ⟨q3, d1, d2⟩, ⟨q4, e1, e2⟩, nd⟩ := h
  have kp : Keep [A.cr] H (upd H A.cr (.dK kvs)) := Keep.dput e1 (by simp)
  exact ⟨⟨sk, xs, (upd_ne n4).trans a1, kp.flat _ _ a2 (flat_strs _), a3⟩, ⟨q1, (upd_ne n7).trans b1, b2⟩, ⟨q2, (upd_ne n9).trans c1, c2⟩, ⟨q3, (upd_ne n10).trans d1, d2.mono fun v d g => TgG.keep g kp⟩, ⟨kvs, upd_same, kr.mono fun v c g => CwG.keep g kp⟩, nd⟩
theorem BkAt.setPl (h : BkAt H A S) (hf : ∀ d, f d = { d with st := (f d).st }) (kr : Kr (fun v (d : DevV) => v = .str d.st) kvs (setT S.devs z f)) : BkAt (upd H A.pl (.dK kvs)) A { S with devs := setT S.devs z f } := by
  obtain ⟨n1, n2, n3, n4, n5, n6, n7, n8, n9, n10⟩ := h.ne
  obtain ⟨⟨sk, xs, a1, a2, a3⟩, ⟨q1, b1, b2⟩, ⟨q2, c1, c2⟩, ⟨q3, d1, d2⟩, ⟨q4, e1, e2⟩, nd⟩ := h
  have kp : Keep [A.pl] H (upd H A.pl (.dK kvs)) := Keep.dput b1 (by simp)
  have fk : ∀ d, (f d).stk = d.stk := fun d => by rw [hf d]
  have fh : ∀ d, (f d).home = d.home := fun d => by rw [hf d]
  have fg : ∀ d, (f d).hung = d.hung := fun d => by rw [hf d]
  exact ⟨⟨sk, xs, (upd_ne n1).trans a1, kp.flat _ _ a2 (flat_strs _), a3.mono (stk_setT fk)⟩, ⟨kvs, upd_same, kr⟩, ⟨q2, (upd_ne n5.symm).trans c1, c2.sets fun v a e => e.trans (by rw [fh])⟩, ⟨q3, (upd_ne n6.symm).trans d1, (d2.mono fun v d g => TgG.keep g kp).sets fun v a ⟨g, ys, e, q, p⟩ => ⟨g, ys, e, q, by rw [fg]; exact p⟩⟩, ⟨q4, (upd_ne n7.symm).trans e1, e2.mono fun v c g => CwG.keep g kp⟩, nd⟩
theorem BkAt.setHo (h : BkAt H A S) (hf : ∀ d, f d = { d with home := (f d).home }) (kr : Kr (fun v (d : DevV) => v = .str d.home) kvs (setT S.devs z f)) : BkAt (upd H A.ho (.dK kvs)) A { S with devs := setT S.devs z f } := by
  obtain ⟨n1, n2, n3, n4, n5, n6, n7, n8, n9, n10⟩ := h.ne
  obtain ⟨⟨sk, xs, a1, a2, a3⟩, ⟨q1, b1, b2⟩, ⟨q2, c1, c2⟩, ⟨q3, d1, d2⟩, ⟨q4, e1, e2⟩, nd⟩ := h
  have kp : Keep [A.ho] H (upd H A.ho (.dK kvs)) := Keep.dput c1 (by simp)
  have fk : ∀ d, (f d).stk = d.stk := fun d => by rw [hf d]
  have fs : ∀ d, (f d).st = d.st := fun d => by rw [hf d]
  have fg : ∀ d, (f d).hung = d.hung := fun d => by rw [hf d]
  exact ⟨⟨sk, xs, (upd_ne n2).trans a1, kp.flat _ _ a2 (flat_strs _), a3.mono (stk_setT fk)⟩, ⟨q1, (upd_ne n5).trans b1, b2.sets fun v a e => e.trans (by rw [fs])⟩, ⟨kvs, upd_same, kr⟩, ⟨q3, (upd_ne n8.symm).trans d1, (d2.mono fun v d g => TgG.keep g kp).sets fun v a ⟨g, ys, e, q, p⟩ => ⟨g, ys, e, q, by rw [fg]; exact p⟩⟩, ⟨q4, (upd_ne n9.symm).trans e1, e2.mono fun v c g => CwG.keep g kp⟩, nd⟩
theorem BkAt.setTg (h : BkAt H A S) (hf : ∀ d, f d = { d with hung := (f d).hung }) (kr : Kr (TgG H) kvs (setT S.devs z f)) : BkAt (upd H A.tg (.dK kvs)) A { S with devs := setT S.devs z f } := by
  obtain ⟨n1, n2, n3, n4, n5, n6, n7, n8, n9, n10⟩ := h.ne
  obtain ⟨⟨sk, xs, a1, a2, a3⟩, ⟨q1, b1, b2⟩, ⟨q2, c1, c2⟩, ⟨q3, d1, d2⟩, ⟨q4, e1, e2⟩, nd⟩ := h
  have kp : Keep [A.tg] H (upd H A.tg (.dK kvs)) := Keep.dput d1 (by simp)
  have fk : ∀ d, (f d).stk = d.stk := fun d => by rw [hf d]
  have fs : ∀ d, (f d).st = d.st := fun d => by rw [hf d]
  have fh : ∀ d, (f d).home = d.home := fun d => by rw [hf d]
  exact ⟨⟨sk, xs, (upd_ne n3).trans a1, kp.flat _ _ a2 (flat_strs _), a3.mono (stk_setT fk)⟩, ⟨q1, (upd_ne n6).trans b1, b2.sets fun v a e => e.trans (by rw [fs])⟩, ⟨q2, (upd_ne n8).trans c1, c2.sets fun v a e => e.trans (by rw [fh])⟩, ⟨kvs, upd_same, kr.mono fun v d g => TgG.keep g kp⟩, ⟨q4, (upd_ne n10.symm).trans e1, e2.mono fun v c g => CwG.keep g kp⟩, nd⟩
theorem BkAt.setSk (h : BkAt H A S) {l : Addr} {xs' : List Str} (hl : H l = some (.lst (xs'.map V.str))) (hf : ∀ d, f d = { d with stk := (f d).stk }) (so : StkOk xs' { S with devs := setT S.devs z f }) : BkAt (upd H A.m (.dK (kTop A l))) A { S with devs := setT S.devs z f } := by
  obtain ⟨n1, n2, n3, n4, n5, n6, n7, n8, n9, n10⟩ := h.ne
  obtain ⟨⟨sk, xs, a1, a2, a3⟩, ⟨q1, b1, b2⟩, ⟨q2, c1, c2⟩, ⟨q3, d1, d2⟩, ⟨q4, e1, e2⟩, nd⟩ := h
  have kp : Keep [A.m] H (upd H A.m (.dK (kTop A l))) := Keep.dput a1 (by simp)
  have fs : ∀ d, (f d).st = d.st := fun d => by rw [hf d]
  have fh : ∀ d, (f d).home = d.home := fun d => by rw [hf d]
  have fg : ∀ d, (f d).hung = d.hung := fun d => by rw [hf d]
  exact ⟨⟨l, xs', upd_same, kp.flat _ _ hl (flat_strs _), so⟩, ⟨q1, (upd_ne n1.symm).trans b1, b2.sets fun v a e => e.trans (by rw [fs])⟩, ⟨q2, (upd_ne n2.symm).trans c1, c2.sets fun v a e => e.trans (by rw [fh])⟩, ⟨q3, (upd_ne n3.symm).trans d1, (d2.mono fun v d g => TgG.keep g kp).sets fun v a ⟨g, ys, e, q, p⟩ => ⟨g, ys, e, q, by rw [fg]; exact p⟩⟩, ⟨q4, (upd_ne n4.symm).trans e1, e2.mono fun v c g => CwG.keep g kp⟩, nd⟩
/-- a device more -/
theorem BkAt.addDev (h : BkAt H A S) {kp kh kt : List (Key × V)} {x : Str} {D : DevV} {l : Addr} (n : x ∉ keys S.devs) (free : H l = none) (hD : D.hung = []) (hk : D.stk = false) (f1 : Kr (fun v (d : DevV) => v = .str d.st) kp (S.devs ++ [(x, D)])) (f2 : Kr (fun v (d : DevV) => v = .str d.home) kh (S.devs ++ [(x, D)]))
    (f3 : ∃ kt0, H A.tg = some (.dK kt0) ∧ kt = kt0 ++ [(Sum.inr x, .ref l)]) : BkAt (upd (upd (upd (upd H A.pl (.dK kp)) A.ho (.dK kh)) l (.lst [])) A.tg (.dK kt)) A { S with devs := S.devs ++ [(x, D)] } := by
  obtain ⟨n1, n2, n3, n4, n5, n6, n7, n8, n9, n10⟩ := h.ne
  obtain ⟨⟨sk, xs, a1, a2, a3⟩, ⟨q1, b1, b2⟩, ⟨q2, c1, c2⟩, ⟨q3, d1, d2⟩, ⟨q4, e1, e2⟩, nd⟩ := h
  obtain ⟨kt0, f3, rfl⟩ := f3
  rw [d1] at f3
  cases f3
  have fr : ∀ {b u}, H b = some u → b ≠ l := fun {b u} e => ne_of_none e free
  have off : ∀ {b u}, b ≠ A.pl → b ≠ A.ho → b ≠ A.tg → H b = some u → upd (upd (upd (upd H A.pl (.dK kp)) A.ho (.dK kh)) l (.lst [])) A.tg (.dK (q3 ++ [(Sum.inr x, .ref l)])) b = some u := fun {b u} m1 m2 m3 e => by
    rw [upd_ne m3, upd_ne (fr e), upd_ne m2, upd_ne m1]
    exact e
  have fl : ∀ {b : Addr} {zs : List Str}, H b = some (.lst (zs.map V.str)) → upd (upd (upd (upd H A.pl (.dK kp)) A.ho (.dK kh)) l (.lst [])) A.tg (.dK (q3 ++ [(Sum.inr x, .ref l)])) b = some (.lst (zs.map V.str)) := fun {b zs} e =>
    off (ne_of e b1 (by intro w; cases w)) (ne_of e c1 (by intro w; cases w)) (ne_of e d1 (by intro w; cases w)) e
  refine ⟨⟨sk, xs, off n1 n2 n3 a1, fl a2, a3.add n hk⟩, ⟨kp, ?_, f1⟩, ⟨kh, ?_, f2⟩, ⟨_, upd_same, ?_⟩, ⟨q4, off n7.symm n9.symm n10.symm e1, e2.mono fun v c ⟨a, e, q⟩ => ⟨a, e, fl q⟩⟩, nd⟩
  · rw [upd_ne n6, upd_ne (fr b1), upd_ne n5, upd_same]
  · rw [upd_ne n8, upd_ne (fr c1), upd_same]
  · exact (d2.mono fun v d ⟨a, ys, e, q, p⟩ => ⟨a, ys, e, fl q, p⟩).snoc ⟨l, [], rfl, by rw [upd_ne (fr d1).symm, upd_same]; rfl, by rw [hD]⟩
/-- a device less -/
theorem BkAt.delDev (h : BkAt H A S) {kp kh kt : List (Key × V)} {x : Str} {l : Addr} {xs' : List Str} (f1 : H A.pl = some (.dK kp)) (f2 : H A.ho = some (.dK kh)) (f3 : H A.tg = some (.dK kt)) (hl : H l = some (.lst (xs'.map V.str))) (so : StkOk xs' { S with devs := del S.devs x }) :
    BkAt (upd (upd (upd (upd H A.pl (.dK (dropK kp (Sum.inr x)))) A.ho (.dK (dropK kh (Sum.inr x)))) A.tg (.dK (dropK kt (Sum.inr x)))) A.m (.dK (kTop A l))) A { S with devs := del S.devs x } := by
  obtain ⟨n1, n2, n3, n4, n5, n6, n7, n8, n9, n10⟩ := h.ne
  obtain ⟨⟨sk, xs, a1, a2, a3⟩, ⟨q1, b1, b2⟩, ⟨q2, c1, c2⟩, ⟨q3, d1, d2⟩, ⟨q4, e1, e2⟩, nd⟩ := h
  rw [b1] at f1
  cases f1
  rw [c1] at f2
  cases f2
  rw [d1] at f3
  cases f3
  have off : ∀ {b u}, b ≠ A.pl → b ≠ A.ho → b ≠ A.tg → b ≠ A.m → H b = some u → upd (upd (upd (upd H A.pl (.dK (dropK kp (Sum.inr x)))) A.ho (.dK (dropK kh (Sum.inr x)))) A.tg (.dK (dropK kt (Sum.inr x)))) A.m (.dK (kTop A l)) b = some u := fun {b u} m1 m2 m3 m4 e => by
    rw [upd_ne m4, upd_ne m3, upd_ne m2, upd_ne m1]
    exact e
  have fl : ∀ {b : Addr} {zs : List Str}, H b = some (.lst (zs.map V.str)) → upd (upd (upd (upd H A.pl (.dK (dropK kp (Sum.inr x)))) A.ho (.dK (dropK kh (Sum.inr x)))) A.tg (.dK (dropK kt (Sum.inr x)))) A.m (.dK (kTop A l)) b = some (.lst (zs.map V.str)) := fun {b zs} e =>
    off (ne_of e b1 (by intro w; cases w)) (ne_of e c1 (by intro w; cases w)) (ne_of e d1 (by intro w; cases w)) (ne_of e a1 (by intro w; cases w)) e
  refine ⟨⟨l, xs', upd_same, fl hl, so⟩, ⟨_, ?_, b2.drop⟩, ⟨_, ?_, c2.drop⟩, ⟨_, ?_, (d2.mono fun v d ⟨a, ys, e, q, p⟩ => ⟨a, ys, e, fl q, p⟩).drop⟩, ⟨q4, off n7.symm n9.symm n10.symm n4.symm e1, e2.mono fun v c ⟨a, e, q⟩ => ⟨a, e, fl q⟩⟩, nd⟩
  · rw [upd_ne n1.symm, upd_ne n6, upd_ne n5, upd_same]
  · rw [upd_ne n2.symm, upd_ne n8, upd_same]
  · rw [upd_ne n3.symm, upd_same]
end
def spDoK : Sp := fun vs H Q _ => ∃ (A : KA) (S : BS) (t : Addr) (D : BDeed), vs = [.ref A.m, .ref t] ∧ BkAt H A S ∧ S.Ok ∧ TupK H t D ∧ GoodK D ∧ S.due D = none ∧ ∀ H', (∀ a, BkAt H' A (S.put (atA D a))) → Keep A.ms H H' → Q .non H'
end SM
namespace SM
open PySem PySem.Spec PyProof.Rows L2
theorem hold_perm {ys hung : List Str} {j : Str} (p : ys.Perm hung) (n : hung.Nodup) : ((ys.filter fun y => decide (y ≠ j)) ++ [j]).Perm (if j ∈ hung then hung else hung ++ [j]) := by
  by_cases h : j ∈ hung
  · rw [if_pos h]
    refine (List.perm_ext_iff_of_nodup ?_ n).mpr fun z => ?_
    · exact List.nodup_append.mpr ⟨(p.nodup_iff.mpr n).sublist List.filter_sublist, by simp, fun a ha b hb e => (of_decide_eq_true (List.mem_filter.mp ha).2) (e.trans (List.mem_singleton.mp hb))⟩
    · rw [List.mem_append, List.mem_filter, List.mem_singleton, p.mem_iff]
      constructor
      · rintro (⟨a, _⟩ | a)
        · exact a
        · rw [a]
          exact h
      · intro a
        by_cases e : z = j
        · exact .inr e
        · exact .inl ⟨a, decide_eq_true e⟩
  · rw [if_neg h]
    have e : (ys.filter fun y => decide (y ≠ j)) = ys := filter_no fun m => h (p.mem_iff.mp m)
    rw [e]
    exact p.append_right _
theorem kTop_len (A : KA) (sk : Addr) : (kTop A sk).length < sizeLine := small1000 (by show 5 ≤ 1000; decide)
theorem due_dev {S : BS} {x : Str} : (S.due (.stick x) = none → x ∈ keys S.devs) ∧ (S.due (.mend x) = none → x ∈ keys S.devs) := by
  constructor
  · intro h
    by_cases w : x ∈ keys S.devs
    · exact w
    · simp [BS.due, w] at h
  · intro h
    by_cases w : x ∈ keys S.devs
    · exact w
    · simp [BS.due, w] at h
theorem due_hold {S : BS} {x p j : Str} (h : S.due (.hold x p j) = none) : ∃ d, look S.devs x = some d := by
  cases e : look S.devs x with
  | some d => exact ⟨d, rfl⟩
  | none => simp [BS.due, e] at h
theorem due_free {S : BS} {x j : Str} (h : S.due (.free x j) = none) : ∃ d, look S.devs x = some d := by
  cases e : look S.devs x with
  | some d => exact ⟨d, rfl⟩
  | none => simp [BS.due, e] at h
theorem due_turn1 {S : BS} {x p : Str} (h : S.due (.turn x p) = none) : ∃ d, look S.devs x = some d := by
  cases e : look S.devs x with
  | some d => exact ⟨d, rfl⟩
  | none => simp [BS.due, e] at h
theorem due_take {S : BS} {x : Str} (h : S.due (.take x) = none) : ∃ d, look S.devs x = some d := by
  cases e : look S.devs x with
  | some d => exact ⟨d, rfl⟩
  | none => simp [BS.due, e] at h
theorem due_add {S : BS} {x p : Str} {a : Addr} (h : S.due (.add x p a) = none) : x ∉ keys S.devs := fun w => by simp [BS.due, w] at h
theorem due_add2 {S : BS} {x p : Str} {a : Addr} (h : S.due (.add x p a) = none) : S.devs.length < 52 := by
  have n := due_add h
  by_cases w : 52 ≤ S.devs.length
  · simp [BS.due, n, w] at h
  · omega
end SM
namespace SM
open PySem PySem.Spec PyProof.Rows L2
theorem BkAt.delDev2 {H G : Hp} {A : KA} {S : BS} (h : BkAt H A S) (k : Keep A.ms H G) {kp kh kt : List (Key × V)} {x : Str} {l sk0 : Addr} {xs' : List Str} (f1 : H A.pl = some (.dK kp)) (f2 : H A.ho = some (.dK kh)) (f3 : H A.tg = some (.dK kt))
    (g1 : G A.pl = some (.dK (dropK kp (Sum.inr x)))) (g2 : G A.ho = some (.dK (dropK kh (Sum.inr x)))) (g3 : G A.tg = some (.dK (dropK kt (Sum.inr x)))) (g4 : ∀ u, H A.cr = some u → G A.cr = some u) (g5 : G A.m = some (.dK (kTop A sk0))) (hl : G l = some (.lst (xs'.map V.str))) (so : StkOk xs' { S with devs := del S.devs x }) :
    BkAt (upd G A.m (.dK (kTop A l))) A { S with devs := del S.devs x } := by
  obtain ⟨n1, n2, n3, n4, n5, n6, n7, n8, n9, n10⟩ := h.ne
  obtain ⟨⟨sk, xs, a1, a2, a3⟩, ⟨q1, b1, b2⟩, ⟨q2, c1, c2⟩, ⟨q3, d1, d2⟩, ⟨q4, e1, e2⟩, nd⟩ := h
  rw [b1] at f1
  cases f1
  rw [c1] at f2
  cases f2
  rw [d1] at f3
  cases f3
  have kp2 : Keep A.ms G (upd G A.m (.dK (kTop A l))) := Keep.dput g5 (by simp [KA.ms])
  have kk := k.trans kp2
  exact ⟨⟨l, xs', upd_same, kp2.flat _ _ hl (flat_strs _), so⟩, ⟨_, (upd_ne n1.symm).trans g1, b2.drop⟩, ⟨_, (upd_ne n2.symm).trans g2, c2.drop⟩, ⟨_, (upd_ne n3.symm).trans g3, (d2.mono fun v d g => TgG.keep g kk).drop⟩, ⟨q4, (upd_ne n4.symm).trans (g4 _ e1), e2.mono fun v c g => CwG.keep g kk⟩, nd⟩
end SM
namespace SM
open PySem PySem.Spec PyProof.Rows L2
def clsB : BRf → Nat
  | .there _ => 1
  | .lacks _ => 2
  | .tooMany _ => 3
  | .inUse _ => 4
  | .held _ => 5
  | .stuck _ => 6
theorem clsB_lt (f : BRf) : clsB f < 7 := by cases f <;> (simp only [clsB]; omega)
/-- the dict of a caught error -/
def XdAt (H : Hp) (dd : Addr) : BRf → Prop
  | .there x => H dd = some (.xd [("name", .str x)])
  | .lacks x => H dd = some (.xd [("name", .str x)])
  | .tooMany n => H dd = some (.xd [("most", .int n)])
  | .inUse x => H dd = some (.xd [("name", .str x)])
  | .stuck x => H dd = some (.xd [("name", .str x)])
  | .held l => ∃ (p : Addr) (ys : List Str), H dd = some (.xd [("hands", .ref p)]) ∧ H p = some (.lst (ys.map V.str)) ∧ Srt ys l
theorem BRefd.of2 {C : Nat → Addr} {H : Hp} {E : XK} {f : BRf} (h : ∀ d H', Same H H' → XdAt H' d f → E (.ref (C (clsB f))) (some d) H') : BRefd C H E f := by
  cases f with
  | there x => exact fun d H' s n q => h d H' s q
  | lacks x => exact fun d H' s n q => h d H' s q
  | tooMany n => exact fun d H' s n q => h d H' s q
  | held l => exact fun ys sy d a H' s n _ q r => h d H' s ⟨a, ys, q, r, sy⟩
  | stuck x => exact fun d H' s n q => h d H' s q
  | inUse x => exact fun d H' s n q => h d H' s q
/-- not a new device, no new crew: any address will do -/
def OldB : BDeed → Prop
  | .add _ _ _ => False
  | .crew _ _ _ => False
  | _ => True
theorem bms_old {B : BA} {S : BS} {D : BDeed} (o : OldB D) : ∀ b ∈ bms B (S.put D), b ∈ bms B S := by
  intro b hb
  cases D with
  | add x p a' => exact o.elim
  | crew j hs a' => exact o.elim
  | leave j => exact hb
  | take x =>
    rcases List.mem_append.mp hb with w | w
    · exact List.mem_append_left _ w
    · obtain ⟨e, me, rfl⟩ := List.mem_map.mp w
      exact bms_adr (List.mem_filter.mp me).1
  | turn x p =>
    have e : bms B { S with devs := setT S.devs x (fB (.turn x p)) } = bms B S := bms_setT (fB_adr _)
    rw [← e]
    exact hb
  | hold x p j =>
    have e : bms B { S with devs := setT S.devs x (fB (.hold x p j)) } = bms B S := bms_setT (fB_adr _)
    rw [← e]
    exact hb
  | free x j =>
    have e : bms B { S with devs := setT S.devs x (fB (.free x j)) } = bms B S := bms_setT (fB_adr _)
    rw [← e]
    exact hb
  | stick x =>
    have e : bms B { S with devs := setT S.devs x (fB (.stick x)) } = bms B S := bms_setT (fB_adr _)
    rw [← e]
    exact hb
  | mend x =>
    have e : bms B { S with devs := setT S.devs x (fB (.mend x)) } = bms B S := bms_setT (fB_adr _)
    rw [← e]
    exact hb
theorem atA_old {D : BDeed} {a : Addr} (o : OldB D) : atA D a = D := by
  cases D with
  | add => exact o.elim
  | crew => exact o.elim
  | _ => rfl
section
variable (C : Nat → Addr) (L : Addr)
def DoesK (D : BDeed) (B : BA) (S : BS) (H : Hp) (Q : VK) (E : XK) : Prop :=
  (S.due D = none → ∀ H' a, BdAt L H' B (S.put (atA D a)) → Keep (bms B S) H H' → (∀ b ∈ bms B (S.put (atA D a)), b ∈ bms B S ∨ H b = none) → Q .non H') ∧ ∀ f, S.due D = some f → BRefd C H E f
def spCallK : Sp := fun vs H Q E => ∃ (B : BA) (S : BS) (t : Addr) (D : BDeed), vs = [.ref B.p, .ref t] ∧ BdAt L H B S ∧ S.Ok ∧ TupK H t D ∧ GoodK D ∧ DoesK C L D B S H Q E
def spClassB : Addr → Value → Option Addr → Sp := fun a c d vs H Q _ => ∃ (f : BRf) (dd : Addr), c = .ref (C (clsB f)) ∧ d = some dd ∧ XdAt H dd f ∧ vs = [.ref a] ∧ ∀ H' t, Same H H' → DueAt H' (.ref t) (some f) → Q (.ref t) H'
/-- what the law says of a deed done -/
def SaidK (H : Hp) (v : V) : Option BRf → Prop
  | none => ∃ t : Addr, v = .ref t ∧ H t = some (.tup [.str "told", .non])
  | some f => ∃ (t t2 : Addr), v = .ref t ∧ H t = some (.tup [.str "refused", .ref t2]) ∧ DueAt H (.ref t2) (some f)
def spSayK : Sp := fun vs H Q _ => ∃ (B : BA) (S : BS) (t : Addr) (D : BDeed), vs = [.ref B.p, .ref t] ∧ BdAt L H B S ∧ S.Ok ∧ TupK H t D ∧ GoodK D ∧
  ∀ (v : V) (H' : Hp) (a : Addr), SaidK H' v (S.due D) → BdAt L H' B (if S.due D = none then S.put (atA D a) else S) → Keep (bms B S) H H' → (S.due D = none → ∀ b ∈ bms B (S.put (atA D a)), b ∈ bms B S ∨ H b = none) → Q v H'
end
theorem DoesK.old {C : Nat → Addr} {L : Addr} {D : BDeed} {B : BA} {S : BS} {H : Hp} {Q : VK} {E : XK} (o : OldB D) (h : DoesK C L D B S H Q E) : BDoes C L D B S H Q E :=
  ⟨fun dn H' hB k => h.1 dn H' B.p (by rw [atA_old o]; exact hB) k fun b hb => .inl (bms_old o b (by rw [atA_old o] at hb; exact hb)), h.2⟩
end SM
/-! Part W37: a step of a law over a board. -/
namespace SM
open PySem PySem.Spec PyProof.Rows L2
structure Bb (L : Addr) (H : Hp) (B : BA) (A : KA) (S : BS) : Prop where
  bd : BdAt L H B S
  ok : S.Ok
  bk : BkAt H A S
  ap : ∀ b ∈ A.ms, b ∉ bms B S
theorem Bb.same {L : Addr} {H H' : Hp} {B : BA} {A : KA} {S : BS} (h : Bb L H B A S) (s : Same H H') : Bb L H' B A S := ⟨h.bd.same s, h.ok, h.bk.same s, h.ap⟩
theorem Bb.keep {L : Addr} {H H' : Hp} {B : BA} {A : KA} {S : BS} {ms : List Addr} (h : Bb L H B A S) (k : Keep ms H H') (n1 : ∀ b ∈ ms, b ∉ bms B S) (n2 : ∀ b ∈ ms, b ∉ A.ms) : Bb L H' B A S := ⟨h.bd.keep k n1, h.ok, h.bk.keep k n2, h.ap⟩
theorem Bb.pbag {L : Addr} {H : Hp} {B : BA} {A : KA} {S : BS} {p q : Addr} (h : Bb L H B A S) (Bg : Bag H p q) : p ∉ bms B S ∧ p ∉ A.ms := by
  refine ⟨h.bd.pbag Bg, fun w => ?_⟩
  obtain ⟨kvs, e⟩ := h.bk.dks _ w
  exact (Bg.nd e).1 rfl
theorem Bb.drawn {L : Addr} {H H' : Hp} {B : BA} {A : KA} {S : BS} {p q : Addr} (h : Bb L H B A S) (Bg : Bag H p q) (k : Keep [p] H H') : Bb L H' B A S := by
  obtain ⟨a, b⟩ := h.pbag Bg
  exact h.keep k (fun x hx w => by rw [List.mem_singleton.mp hx] at w; exact a w) (fun x hx w => by rw [List.mem_singleton.mp hx] at w; exact b w)
theorem put_okK {S : BS} (hS : S.Ok) {D : BDeed} (g : GoodK D) (dn : S.due D = none) (a : Addr) : (S.put (atA D a)).Ok := by
  cases D with
  | add x p a' => exact add_ok hS (due_add dn) (due_add2 dn) g.1 g.2
  | crew j hs a' =>
    show ({ S with crews := if j ∈ keys S.crews then setT S.crews j fun _ => ⟨a, hs⟩ else S.crews ++ [(j, ⟨a, hs⟩)] } : BS).Ok
    by_cases hj : j ∈ keys S.crews
    · rw [if_pos hj]
      obtain ⟨b1, b2, b3, b4, b5, b6, b7, b8, b9⟩ := hS
      have ek : keys (setT S.crews j fun _ => (⟨a, hs⟩ : CrV)) = keys S.crews := keys_setT
      refine ⟨b1, b2, (show (keys (setT S.crews j fun _ => (⟨a, hs⟩ : CrV))).Nodup from by rw [ek]; exact b3), (show (setT S.crews j fun _ => (⟨a, hs⟩ : CrV)).length ≤ 8 from by simpa [setT] using b4), b5, (show ∀ x ∈ keys (setT S.crews j fun _ => (⟨a, hs⟩ : CrV)), okName x = true from by rw [ek]; exact b6), b7, fun e me => ⟨(b8 e me).1, fun y my => (show y ∈ keys (setT S.crews j fun _ => (⟨a, hs⟩ : CrV)) from by rw [ek]; exact (b8 e me).2 y my)⟩, fun e me => ?_⟩
      change e ∈ setT S.crews j (fun _ => (⟨a, hs⟩ : CrV)) at me
      rcases mem_setT me with ⟨_, m⟩ | ⟨c, rfl, m⟩
      · exact b9 e m
      · exact ⟨g.2.1, g.2.2.1, g.2.2.2.1, g.2.2.2.2⟩
    · rw [if_neg hj]
      refine crew_ok hS hj ?_ g.1 g.2.1 g.2.2.1 g.2.2.2.1 g.2.2.2.2
      by_cases w : 8 ≤ S.crews.length
      · simp [BS.due, hj, w] at dn
      · omega
  | take x =>
    obtain ⟨b1, b2, b3, b4, b5, b6, b7, b8, b9⟩ := hS
    have sub : ∀ e, e ∈ del S.devs x → e ∈ S.devs := fun e m => (List.mem_filter.mp m).1
    refine ⟨?_, ?_, b3, b4, fun z mz => b5 z ?_, b6, fun e me => b7 e (sub e me), fun e me => b8 e (sub e me), b9⟩
    · show (keys (del S.devs x)).Nodup
      rw [keys_del]
      exact b1.sublist List.filter_sublist
    · show (del S.devs x).length ≤ 52
      exact Nat.le_trans (List.length_filter_le _ _) b2
    · change z ∈ keys (del S.devs x) at mz
      rw [keys_del] at mz
      exact (List.mem_filter.mp mz).1
  | leave j =>
    have hb : heldBy S j = [] := by
      by_cases w : heldBy S j = []
      · exact w
      · by_cases h : j ∈ keys S.crews
        · simp [BS.due, h, w] at dn
        · simp [BS.due, h] at dn
    have no : ∀ e ∈ S.devs, j ∉ e.2.hung := fun e me w => by
      have : e.1 ∈ heldBy S j := List.mem_map_of_mem (f := fun e : Str × DevV => e.1) (List.mem_filter.mpr ⟨me, decide_eq_true w⟩)
      rw [hb] at this
      cases this
    obtain ⟨b1, b2, b3, b4, b5, b6, b7, b8, b9⟩ := hS
    refine ⟨b1, b2, ?_, ?_, b5, fun z mz => b6 z ?_, b7, fun e me => ⟨(b8 e me).1, fun y my => ?_⟩, fun e me => b9 e (List.mem_filter.mp me).1⟩
    · show (keys (del S.crews j)).Nodup
      rw [keys_del]
      exact b3.sublist List.filter_sublist
    · show (del S.crews j).length ≤ 8
      exact Nat.le_trans (List.length_filter_le _ _) b4
    · change z ∈ keys (del S.crews j) at mz
      rw [keys_del] at mz
      exact (List.mem_filter.mp mz).1
    · show y ∈ keys (del S.crews j)
      rw [keys_del]
      exact List.mem_filter.mpr ⟨(b8 e me).2 y my, decide_eq_true fun w => no e me (by rw [← w]; exact my)⟩
  | turn x p =>
    obtain ⟨d, el⟩ := due_turn1 dn
    exact put_ok hS (D := .turn x p) ⟨look_in el, g.2⟩
  | hold x p j =>
    obtain ⟨d, el⟩ := due_hold dn
    refine put_ok hS (D := .hold x p j) ⟨look_in el, g.2.1, ?_⟩
    by_cases w : j ∈ keys S.crews
    · exact w
    · simp [BS.due, el, w] at dn
  | free x j =>
    obtain ⟨d, el⟩ := due_free dn
    refine put_ok hS (D := .free x j) ⟨look_in el, ?_⟩
    by_cases w : j ∈ keys S.crews
    · exact w
    · simp [BS.due, el, w] at dn
  | stick x => exact put_ok hS (D := .stick x) (due_dev.1 dn)
  | mend x => exact put_ok hS (D := .mend x) (due_dev.2 dn)
/-! what a refusal is, as data -/
def GoodF : BRf → Prop
  | .there x => okName x = true
  | .lacks x => okName x = true
  | .tooMany n => 0 ≤ n ∧ n ≤ 99
  | .held l => (∀ y ∈ l, okName y = true) ∧ l.length ≤ 64
  | .stuck x => okName x = true
  | .inUse x => okName x = true
def dueD : BRf → List Str → PyData
  | .there x, _ => .tuple [.str "There", .str x]
  | .lacks x, _ => .tuple [.str "Lacks", .str x]
  | .tooMany n, _ => .tuple [.str "TooMany", .int n]
  | .held _, ys => .tuple [.str "Held", .list (ys.map PyData.str)]
  | .stuck x, _ => .tuple [.str "Stuck", .str x]
  | .inUse x, _ => .tuple [.str "InUse", .str x]
theorem DueAt.both {K : PySem.W.Frag} {H : Hp} {v u : V} {f : BRf} (hv : DueAt H v (some f)) (hu : DueAt H u (some f)) : ∃ ys, Dp K H v (dueD f ys) ∧ Dp K H u (dueD f ys) ∧ ∀ l, f = .held l → Srt ys l := by
  cases f with
  | there x =>
    obtain ⟨t, rfl, h⟩ := hv
    obtain ⟨t', rfl, h'⟩ := hu
    exact ⟨[], .tup (SqT.of h) (.cons (.str _) (.cons (.str _) .nil)), .tup (SqT.of h') (.cons (.str _) (.cons (.str _) .nil)), fun l e => nomatch e⟩
  | lacks x =>
    obtain ⟨t, rfl, h⟩ := hv
    obtain ⟨t', rfl, h'⟩ := hu
    exact ⟨[], .tup (SqT.of h) (.cons (.str _) (.cons (.str _) .nil)), .tup (SqT.of h') (.cons (.str _) (.cons (.str _) .nil)), fun l e => nomatch e⟩
  | stuck x =>
    obtain ⟨t, rfl, h⟩ := hv
    obtain ⟨t', rfl, h'⟩ := hu
    exact ⟨[], .tup (SqT.of h) (.cons (.str _) (.cons (.str _) .nil)), .tup (SqT.of h') (.cons (.str _) (.cons (.str _) .nil)), fun l e => nomatch e⟩
  | inUse x =>
    obtain ⟨t, rfl, h⟩ := hv
    obtain ⟨t', rfl, h'⟩ := hu
    exact ⟨[], .tup (SqT.of h) (.cons (.str _) (.cons (.str _) .nil)), .tup (SqT.of h') (.cons (.str _) (.cons (.str _) .nil)), fun l e => nomatch e⟩
  | tooMany n =>
    obtain ⟨t, rfl, h⟩ := hv
    obtain ⟨t', rfl, h'⟩ := hu
    exact ⟨[], .tup (SqT.of h) (.cons (.str _) (.cons (.int _) .nil)), .tup (SqT.of h') (.cons (.str _) (.cons (.int _) .nil)), fun l e => nomatch e⟩
  | held l =>
    obtain ⟨t, p, ys, rfl, h, hp, sy⟩ := hv
    obtain ⟨t', p', ys', rfl, h', hp', sy'⟩ := hu
    obtain rfl := sy.one sy'
    exact ⟨ys, .tup (SqT.of h) (.cons (.str _) (.cons (names_dp hp) .nil)), .tup (SqT.of h') (.cons (.str _) (.cons (names_dp hp') .nil)), fun l' e => by cases e; exact sy⟩
theorem dueD_fine {f : BRf} {ys : List Str} (g : GoodF f) (s : ∀ l, f = .held l → Srt ys l) : Fine (.tuple [.str "refused", dueD f ys]) := by
  have base : ∀ {w : Str} {d : PyData}, smallS w = true → Sm 1 1200 d → Fine (.tuple [.str "refused", .tuple [.str w, d]]) := fun {w d} hw hd => by
    have i := Sm.tup (SmAll.cons ((sm_str hw).mono (k' := 1) (w' := 1200) (by decide) (by decide)) (.cons hd .nil))
    exact (Sm.tup (.cons ((sm_str (z := "refused") (by decide +kernel)).mono (k' := 2) (w' := 2 * (1200 + 1)) (by decide) (by decide)) (.cons (i.mono (k' := 2) (w' := 2 * (1200 + 1)) (by decide) (Nat.le_refl _)) .nil))).fine (by decide) (show 2 * (2 * (1200 + 1) + 1) ≤ 100000 by decide)
  have str : ∀ {x : Str}, okName x = true → Sm 1 1200 (.str x) := fun {x} h => (sm_str (okName_small h)).mono (by decide) (by decide)
  cases f with
  | there x => exact base (by decide +kernel) (str g)
  | lacks x => exact base (by decide +kernel) (str g)
  | stuck x => exact base (by decide +kernel) (str g)
  | inUse x => exact base (by decide +kernel) (str g)
  | tooMany n => exact base (by decide +kernel) ((sm_int g.1 g.2).mono (by decide) (by decide))
  | held l =>
    have sy := s l rfl
    have gy : ∀ y ∈ ys, okName y = true := fun y my => g.1 y (sy.1.mem_iff.mp my)
    have ly : ys.length ≤ 64 := by rw [sy.1.length_eq]; exact g.2
    exact base (by decide +kernel) ((names_sm gy).mono (Nat.le_refl _) (by omega))
theorem toldK_fine : Fine (.tuple [.str "told", .none]) := (Sm.tup (.cons (sm_str (by decide +kernel)) (.cons sm_none .nil))).fine (by decide) (show 2 * (16 + 1) ≤ 100000 by decide)
theorem heldDue_good {S : BS} (hS : S.Ok) {z : Str} {d : DevV} (el : look S.devs z = some d) {but : Option Str} {f : BRf} (h : heldDue S d but = some f) : GoodF f := by
  unfold heldDue at h
  split at h
  · cases h
  · cases h
    have hj : ∀ j ∈ d.hung.filter (fun j => decide (some j ≠ but)), j ∈ keys S.crews := fun j m => (hS.hN _ (look_mem el)).2 j (List.mem_filter.mp m).1
    refine ⟨fun y my => ?_, ?_⟩
    · obtain ⟨j, mj, q⟩ := mem_handSet.mp my
      obtain ⟨c, ec, ec2, _⟩ := crew_of hS (hj j mj)
      rw [ec2] at q
      exact (hS.crw _ (look_mem ec)).2.2.2 y q
    · have q := handSet_len hS _ hj []
      have l8 := hung_len hS el
      have l9 := List.length_filter_le (fun j => decide (some j ≠ but)) d.hung
      unfold handsOn handSet
      simp only [List.length_nil] at q
      omega
theorem moveDue_good {x p : Str} {d : DevV} {f : BRf} (g : okName x = true) (h : moveDue x p d = some f) : GoodF f := by
  unfold moveDue at h
  split at h
  · cases h
  · split at h
    · cases h
      exact g
    · cases h
theorem or_some {a b : Option BRf} {f : BRf} (h : a.or b = some f) : a = some f ∨ b = some f := by
  cases a with
  | none => exact .inr h
  | some c => exact .inl h
theorem due_goodB {S : BS} (hS : S.Ok) {D : BDeed} (g : GoodK D) {f : BRf} (h : S.due D = some f) : GoodF f := by
  cases D with
  | add x p a =>
    by_cases h1 : x ∈ keys S.devs
    · simp [BS.due, h1] at h
      cases h
      exact g.1
    · by_cases h2 : 52 ≤ S.devs.length
      · simp [BS.due, h1, h2] at h
        cases h
        exact ⟨by decide, by decide⟩
      · simp [BS.due, h1, h2] at h
  | crew j hs a =>
    by_cases h1 : j ∈ keys S.crews
    · simp [BS.due, h1] at h
    · by_cases h2 : 8 ≤ S.crews.length
      · simp [BS.due, h1, h2] at h
        cases h
        exact ⟨by decide, by decide⟩
      · simp [BS.due, h1, h2] at h
  | leave j =>
    by_cases h1 : j ∈ keys S.crews
    · by_cases h2 : heldBy S j = []
      · simp [BS.due, h1, h2] at h
      · simp [BS.due, h1, h2] at h
        cases h
        exact g
    · simp [BS.due, h1] at h
      cases h
      exact g
  | stick x =>
    by_cases h1 : x ∈ keys S.devs
    · simp [BS.due, h1] at h
    · simp [BS.due, h1] at h
      cases h
      exact g
  | mend x =>
    by_cases h1 : x ∈ keys S.devs
    · simp [BS.due, h1] at h
    · simp [BS.due, h1] at h
      cases h
      exact g
  | take x =>
    change (match look S.devs x with | none => some (BRf.lacks x) | some d => heldDue S d none) = some f at h
    cases el : look S.devs x with
    | none =>
      rw [el] at h
      cases h
      exact g
    | some d =>
      rw [el] at h
      exact heldDue_good hS el h
  | turn x p =>
    change (match look S.devs x with | none => some (BRf.lacks x) | some d => (heldDue S d none).or (moveDue x p d)) = some f at h
    cases el : look S.devs x with
    | none =>
      rw [el] at h
      cases h
      exact g.1
    | some d =>
      rw [el] at h
      exact (or_some h).elim (heldDue_good hS el) (moveDue_good g.1)
  | hold x p j =>
    change (match look S.devs x with | none => some (BRf.lacks x) | some d => if j ∉ keys S.crews then some (.lacks j) else (if d.st = p then none else heldDue S d (some j)).or (moveDue x p d)) = some f at h
    cases el : look S.devs x with
    | none =>
      rw [el] at h
      cases h
      exact g.1
    | some d =>
      rw [el] at h
      dsimp only at h
      split at h
      · cases h
        exact g.2.2
      · rcases or_some h with w | w
        · split at w
          · cases w
          · exact heldDue_good hS el w
        · exact moveDue_good g.1 w
  | free x j =>
    change (match look S.devs x with | none => some (BRf.lacks x) | some d => if j ∉ keys S.crews then some (.lacks j) else if j ∈ d.hung ∧ d.hung.length = 1 then moveDue x d.home d else none) = some f at h
    cases el : look S.devs x with
    | none =>
      rw [el] at h
      cases h
      exact g.1
    | some d =>
      rw [el] at h
      dsimp only at h
      split at h
      · cases h
        exact g.2
      · split at h
        · exact moveDue_good g.1 h
        · cases h
/-- the state behind a step -/
def stepB (S : BS) (D : BDeed) (a : Addr) : BS := if S.due D = none then S.put (atA D a) else S
theorem stepB_ok {S : BS} (hS : S.Ok) {D : BDeed} (g : GoodK D) (a : Addr) : (stepB S D a).Ok := by
  unfold stepB
  split
  · rename_i h
    exact put_okK hS g h a
  · exact hS
/-- a deed's word, told of its tuple -/
def wordK : BDeed → Str
  | .turn _ _ => "turn"
  | .hold _ _ _ => "hold"
  | .free _ _ => "free"
  | .stick _ => "stick"
  | .mend _ => "mend"
  | .add _ _ _ => "add"
  | .take _ => "take"
  | .leave _ => "leave"
  | .crew _ _ _ => "crew"
theorem TupK.word {H : Hp} {t : Addr} {D : BDeed} (h : TupK H t D) : ∃ xs, H t = some (.tup xs) ∧ atI xs 0 = some (.str (wordK D)) := by
  cases D with
  | crew j hs a =>
    obtain ⟨g, e, _⟩ := h
    exact ⟨_, e, rfl⟩
  | turn x p => exact ⟨_, h, rfl⟩
  | hold x p j => exact ⟨_, h, rfl⟩
  | free x j => exact ⟨_, h, rfl⟩
  | stick x => exact ⟨_, h, rfl⟩
  | mend x => exact ⟨_, h, rfl⟩
  | add x p a => exact ⟨_, h, rfl⟩
  | take x => exact ⟨_, h, rfl⟩
  | leave j => exact ⟨_, h, rfl⟩
theorem word_crew {D : BDeed} (h : ¬ ∃ j hs a, D = .crew j hs a) : ¬ wordK D = "crew" := by
  cases D with
  | crew j hs a => exact fun _ => h ⟨j, hs, a, rfl⟩
  | turn => exact fun w => absurd (show ("turn" : Str) = "crew" from w) (by decide +kernel)
  | hold => exact fun w => absurd (show ("hold" : Str) = "crew" from w) (by decide +kernel)
  | free => exact fun w => absurd (show ("free" : Str) = "crew" from w) (by decide +kernel)
  | stick => exact fun w => absurd (show ("stick" : Str) = "crew" from w) (by decide +kernel)
  | mend => exact fun w => absurd (show ("mend" : Str) = "crew" from w) (by decide +kernel)
  | add => exact fun w => absurd (show ("add" : Str) = "crew" from w) (by decide +kernel)
  | take => exact fun w => absurd (show ("take" : Str) = "crew" from w) (by decide +kernel)
  | leave => exact fun w => absurd (show ("leave" : Str) = "crew" from w) (by decide +kernel)
section
variable (L : Addr)
def spStepK : Sp := fun vs H Q _ => ∃ (B : BA) (A : KA) (S : BS) (t : Addr) (D : BDeed), vs = [.ref B.p, .ref A.m, .ref t] ∧ Bb L H B A S ∧ TupK H t D ∧ GoodK D ∧
  ∀ (a : Addr) (H' : Hp), Bb L H' B A (stepB S D a) → Keep (bms B S ++ A.ms) H H' → (∀ b ∈ bms B (stepB S D a), b ∈ bms B S ∨ H b = none) → Q (.bl true) H'
end
end SM
/-! Part W38: what is told of a device. -/
namespace SM
open PySem PySem.Spec PyProof.Rows L2
def ltC (a b : Str) : Prop := a.cps.toList < b.cps.toList
theorem leP_iff {p q : Str × Str} : PySem.W.dataLe false encP p q = true ↔ (p.1 = q.1 ∧ (p.2 = q.2 ∨ ¬ ltC q.2 p.2)) ∨ (p.1 ≠ q.1 ∧ ¬ ltC q.1 p.1) := by
  have h : PySem.W.dataLe false encP p q = !PySem.W.dataLt (encP q) (encP p) := rfl
  have al : ∀ x y : Str, PySem.W.alike (.str x) (.str y) = true := fun x y => by simp [PySem.W.alike]
  rw [h]
  unfold encP
  rw [PySem.W.dataLt_pair (al _ _) (al _ _), str_eqv2, str_eqv2, PySem.W.dataLt_str, PySem.W.dataLt_str]
  by_cases h1 : p.1 = q.1
  · by_cases h2 : p.2 = q.2
    · simp [h1, h2]
    · have h2' : ¬ q.2 = p.2 := fun e => h2 e.symm
      simp [h1, h2, h2', ltC]
  · have h1' : ¬ q.1 = p.1 := fun e => h1 e.symm
    simp [h1, h1', ltC]
end SM
namespace SM
open PySem PySem.Spec PyProof.Rows L2
/-- nothing but dicts changes -/
def NoD (H H' : Hp) : Prop := ∀ b u, H b = some u → (∀ kvs, u ≠ .dK kvs) → H' b = some u
theorem NoD.of {H H' : Hp} (s : Same H H') : NoD H H' := fun b u e _ => s b u e
theorem NoD.trans {H H1 H2 : Hp} (a : NoD H H1) (b : NoD H1 H2) : NoD H H2 := fun x u e n => b x u (a x u e n) n
theorem NoD.dput {H : Hp} {m : Addr} {kvs kvs' : List (Key × V)} (e : H m = some (.dK kvs)) : NoD H (upd H m (.dK kvs')) := fun b u h n => by
  rw [upd_ne fun w => n kvs (by rw [w, e] at h; exact (Option.some.inj h).symm)]
  exact h
theorem NoD.sqL {K : PySem.W.Frag} {H H' : Hp} {a : Addr} {xs : List V} (n : NoD H H') (h : SqL K H a xs) : SqL K H' a xs := by
  rcases h with h | h
  · refine .inl (h.elim (fun h => .inl (n _ _ h fun _ w => by cases w)) fun ⟨o, h⟩ => .inr ⟨o, n _ _ h fun _ w => by cases w⟩)
  · exact .inr h
theorem NoD.sqT {K : PySem.W.Frag} {H H' : Hp} {a : Addr} {xs : List V} (n : NoD H H') (h : SqT K H a xs) : SqT K H' a xs := by
  rcases h with h | h
  · refine .inl (h.elim (fun h => .inl (n _ _ h fun _ w => by cases w)) fun ⟨o, h⟩ => .inr ⟨o, n _ _ h fun _ w => by cases w⟩)
  · exact .inr h
mutual
theorem Dp.noD {K : PySem.W.Frag} {H H' : Hp} (n : NoD H H') : ∀ (d : PyData) (v : V), Dp K H v d → Dp K H' v d
  | .none, _, h => by cases h; exact .non
  | .bool b, _, h => by cases h; exact .bl b
  | .int i, _, h => by cases h; exact .int i
  | .str x, _, h => by cases h; exact .str x
  | .list ds, _, h => by
    cases h with
    | lst a b => exact .lst (n.sqL a) (DpAll.noD n ds _ b)
  | .tuple ds, _, h => by
    cases h with
    | tup a b => exact .tup (n.sqT a) (DpAll.noD n ds _ b)
  | .dict _, _, h => by cases h
theorem DpAll.noD {K : PySem.W.Frag} {H H' : Hp} (n : NoD H H') : ∀ (ds : List PyData) (vs : List V), DpAll K H vs ds → DpAll K H' vs ds
  | [], _, h => by cases h; exact .nil
  | d :: ds, _, h => by
    cases h with
    | cons a b => exact .cons (Dp.noD n d _ a) (DpAll.noD n ds _ b)
end
theorem ltC_cps {a b : Str} : ltCps a.cps.toList b.cps.toList = true ↔ ltC a b := by
  unfold ltC
  generalize a.cps.toList = xs
  generalize b.cps.toList = ys
  induction xs generalizing ys with
  | nil => cases ys <;> simp [ltCps]
  | cons x t ih =>
    cases ys with
    | nil => simp [ltCps]
    | cons y u =>
      rw [List.cons_lt_cons_iff, ← ih u]
      simp [ltCps]
theorem leS_iff {a b : Str} : leS a b ↔ ¬ ltC b a := by
  rw [← ltC_cps]
  exact (Bool.not_eq_true _).symm ▸ Iff.rfl
theorem leP_anti {p q : Str × Str} (h1 : PySem.W.dataLe false encP p q = true) (h2 : PySem.W.dataLe false encP q p = true) : p = q := by
  rw [leP_iff] at h1 h2
  have e1 : p.1 = q.1 := by
    rcases h1 with ⟨e, _⟩ | ⟨n, a⟩
    · exact e
    · rcases h2 with ⟨e, _⟩ | ⟨_, b⟩
      · exact e.symm
      · exact leS_anti (leS_iff.mpr a) (leS_iff.mpr b)
  have e2 : p.2 = q.2 := by
    rcases h1 with ⟨_, e | a⟩ | ⟨n, _⟩
    · exact e
    · rcases h2 with ⟨_, e | b⟩ | ⟨n, _⟩
      · exact e.symm
      · exact leS_anti (leS_iff.mpr a) (leS_iff.mpr b)
      · exact absurd e1.symm n
    · exact absurd e1 n
  exact Prod.ext e1 e2
theorem sortP_one {ps l : List (Str × Str)} (pm : l.Perm ps) (pw : l.Pairwise fun a b => PySem.W.dataLe false encP a b = true) : sortP ps = l := by
  have T := PySem.W.sortLe_total (PyProof.Rows.listOrd PyProof.Rows.itemOrd) false fun b => PySem.W.keyToks (encP b)
  refine List.Perm.eq_of_pairwise (le := fun a b => PySem.W.dataLe false encP a b = true) (fun a b _ _ h1 h2 => leP_anti h1 h2) (List.pairwise_mergeSort T.trans (fun a b => ?_) ps) pw ((List.mergeSort_perm _ _).trans pm.symm)
  rcases T.total a b with h | h
  · rw [h]
    rfl
  · rw [h, Bool.or_true]
/-- job by job, hand by hand -/
theorem byJob_pw {f : Str → List Str} : ∀ {js : List Str}, js.Nodup → js.Pairwise leS → (∀ j ∈ js, (f j).Pairwise leS) → (js.flatMap fun j => (f j).map fun h => (j, h)).Pairwise fun a b => PySem.W.dataLe false encP a b = true
  | [], _, _, _ => List.Pairwise.nil
  | j :: t, n, s, h => by
    rw [List.flatMap_cons, List.pairwise_append]
    have n' := List.nodup_cons.mp n
    have s' := List.pairwise_cons.mp s
    refine ⟨?_, byJob_pw n'.2 s'.2 fun x m => h x (.tail _ m), fun a ha b hb => ?_⟩
    · rw [List.pairwise_map]
      refine (h j (.head _)).imp ?_
      intro x y q
      exact leP_iff.mpr (.inl ⟨rfl, .inr (leS_iff.mp q)⟩)
    · obtain ⟨x, _, rfl⟩ := List.mem_map.mp ha
      obtain ⟨j2, m2, hb2⟩ := List.mem_flatMap.mp hb
      obtain ⟨y, _, rfl⟩ := List.mem_map.mp hb2
      exact leP_iff.mpr (.inr ⟨fun e => n'.1 (by have : j = j2 := e; rw [this]; exact m2), leS_iff.mp (s'.1 j2 m2)⟩)
end SM
namespace SM
open PySem PySem.Spec PyProof.Rows L2
/-- what the n-th question of a device is told, as data -/
def ToldD (S : BS) (d : DevV) : Nat → PyData → Prop
  | 0, D => D = .list ((sortP (tagsOf S d)).map encP)
  | 1, D => ∃ ys, Srt ys (handsOn S d none) ∧ D = .list (ys.map PyData.str)
  | 2, D => ∃ ys, Srt ys d.hung ∧ D = .list (ys.map PyData.str)
  | 3, D => D = .bool d.stk
  | 4, D => D = .str d.home
  | _, D => D = .str d.st
theorem ToldD.one {S : BS} {d : DevV} {n : Nat} {D D' : PyData} (h : ToldD S d n D) (h' : ToldD S d n D') : D = D' := by
  match n, h, h' with
  | 0, h, h' => exact (show D = _ from h).trans (show D' = _ from h').symm
  | 1, ⟨ys, a, b⟩, ⟨ys', a', b'⟩ => rw [b, b', a.one a']
  | 2, ⟨ys, a, b⟩, ⟨ys', a', b'⟩ => rw [b, b', a.one a']
  | 3, h, h' => exact (show D = _ from h).trans (show D' = _ from h').symm
  | 4, h, h' => exact (show D = _ from h).trans (show D' = _ from h').symm
  | n + 5, h, h' => exact (show D = _ from h).trans (show D' = _ from h').symm
theorem sm_bool (b : Bool) : Sm 0 16 (.bool b) := by
  cases b <;> exact ⟨by simp only [PyData.canLay0], by simp only [PyData.depth]; omega, by simp only [PyData.intsShort], by simp only [PyData.showable], by simp only [PyData.weight]; decide⟩
theorem pairs_sm {ps : List (Str × Str)} (h : ∀ p ∈ ps, okName p.1 = true ∧ okName p.2 = true) (l : ps.length ≤ 64) : Sm 2 2300 (.list (ps.map encP)) := by
  have i : ∀ p ∈ ps, Sm 1 34 (encP p) := fun p m => Sm.tup (.cons (sm_str (okName_small (h p m).1)) (.cons (sm_str (okName_small (h p m).2)) .nil))
  have q := Sm.lst (SmAll.map encP i)
  rw [List.length_map] at q
  exact q.mono (Nat.le_refl _) (by omega)
theorem ToldD.sm {S : BS} (hS : S.Ok) {z : Str} {d : DevV} (el : look S.devs z = some d) {n : Nat} {D : PyData} (h : ToldD S d n D) : Sm 2 2300 D := by
  have hjh : ∀ j ∈ d.hung, j ∈ keys S.crews := (hS.hN _ (look_mem el)).2
  have ps := hS.pos _ (look_mem el)
  have sp : ∀ {p : Str}, p ∈ posL → Sm 2 2300 (.str p) := fun {p} m => (sm_str (by
    have : p = "open" ∨ p = "shut" := by simpa [posL] using m
    rcases this with rfl | rfl <;> decide +kernel)).mono (by decide) (by decide)
  have nm : ∀ {ys : List Str}, (∀ y ∈ ys, okName y = true) → ys.length ≤ 64 → Sm 2 2300 (.list (ys.map PyData.str)) := fun {ys} a b => (names_sm a).mono (by decide) (by omega)
  match n, h with
  | 0, h =>
    rw [show D = _ from h]
    refine pairs_sm (fun p m => ?_) ?_
    · have m2 : p ∈ tagsOf S d := (List.mergeSort_perm _ _).mem_iff.mp m
      obtain ⟨j, mj, mp⟩ := List.mem_flatMap.mp m2
      obtain ⟨x, mx, rfl⟩ := List.mem_map.mp mp
      obtain ⟨c, ec, ec2, _⟩ := crew_of hS (hjh j mj)
      rw [ec2] at mx
      exact ⟨hS.cG _ (hjh j mj), (hS.crw _ (look_mem ec)).2.2.2 x mx⟩
    · have e : (sortP (tagsOf S d)).length = (tagsOf S d).length := (List.mergeSort_perm _ _).length_eq
      have q := tagsF_len hS d.hung hjh
      have l8 := hung_len hS el
      rw [e]
      unfold tagsOf
      omega
  | 1, ⟨ys, a, b⟩ =>
    rw [b]
    have gd : heldDue S d none = none ∨ ∃ f, heldDue S d none = some f := by cases heldDue S d none <;> simp
    have gg : (∀ y ∈ handsOn S d none, okName y = true) ∧ (handsOn S d none).length ≤ 64 := by
      by_cases e : handsOn S d none = []
      · rw [e]
        exact ⟨(fun y m => nomatch m), by decide⟩
      · exact heldDue_good (f := .held (handsOn S d none)) hS el (by unfold heldDue; rw [if_neg e])
    exact nm (fun y m => gg.1 y (a.1.mem_iff.mp m)) (by rw [a.1.length_eq]; exact gg.2)
  | 2, ⟨ys, a, b⟩ =>
    rw [b]
    exact nm (fun y m => hS.cG _ (hjh y (a.1.mem_iff.mp m))) (by rw [a.1.length_eq]; have := hung_len hS el; omega)
  | 3, h =>
    rw [show D = _ from h]
    exact (sm_bool _).mono (by decide) (by decide)
  | 4, h =>
    rw [show D = _ from h]
    exact sp ps.2
  | n + 5, h =>
    rw [show D = _ from h]
    exact sp ps.1
theorem tups_dp {K : PySem.W.Frag} {H : Hp} : ∀ {ts : List Addr} {ps : List (Str × Str)}, TupsAt H ts ps → DpAll K H (ts.map V.ref) (ps.map encP)
  | _, _, .nil => .nil
  | _, _, .cons h t => .cons (.tup (SqT.of h) (.cons (.str _) (.cons (.str _) .nil))) (tups_dp t)
theorem byJob_perm {S : BS} {js hung : List Str} (p : js.Perm hung) {f : Str → List Str} (h : ∀ j ∈ js, (f j).Perm (crewOf S j)) : (js.flatMap fun j => (f j).map fun h => (j, h)).Perm (hung.flatMap fun j => (crewOf S j).map fun h => (j, h)) := by
  refine List.Perm.trans ?_ (p.flatMap_right _)
  induction js generalizing hung with
  | nil => exact List.Perm.refl _
  | cons j t ih =>
    rw [List.flatMap_cons, List.flatMap_cons]
    exact ((h j (.head _)).map _).append (ih (List.Perm.refl t) fun x m => h x (.tail _ m))
section
variable (C : Nat → Addr) (L : Addr) (K : PySem.W.Frag)
def spToldK : Sp := fun vs H Q _ => ∃ (B : BA) (S : BS) (z : Str) (d : DevV) (n : Nat), vs = [.ref B.p, .str z, .int (n : Int)] ∧ n < 6 ∧ BdAt L H B S ∧ S.Ok ∧ look S.devs z = some d ∧ ∀ (v : V) (H' : Hp) (D : PyData), ToldD S d n D → Dp K H' v D → Same H H' → Q v H'
def spDeviceK : Sp := fun vs H Q _ => ∃ (B : BA) (A : KA) (S : BS) (z : Str) (d : DevV) (i : Int), vs = [.ref B.p, .ref A.m, .str z, .int i] ∧ BdAt L H B S ∧ S.Ok ∧ BkRd H A S ∧ look S.devs z = some d ∧ 0 ≤ i ∧ i ≤ 100 ∧ ∀ H', Same H H' → Q (.bl true) H'
def spJobK : Sp := fun vs H Q _ => ∃ (B : BA) (A : KA) (S : BS) (j : Str) (i : Int), vs = [.ref B.p, .ref A.m, .str j, .int i] ∧ BdAt L H B S ∧ S.Ok ∧ BkRd H A S ∧ j ∈ keys S.crews ∧ 0 ≤ i ∧ i ≤ 100 ∧ ∀ H', Same H H' → Q (.bl true) H'
def spSameK : Sp := fun vs H Q _ => ∃ (B : BA) (A : KA) (S : BS) (i : Int), vs = [.ref B.p, .ref A.m, .int i] ∧ Bb L H B A S ∧ 0 ≤ i ∧ i ≤ 100 ∧ ∀ H', Same H H' → Q (.bl true) H'
end
end SM
namespace SM
open PySem PySem.Spec PyProof.Rows L2
theorem TupsAt.app {H : Hp} : ∀ {ts ts2 : List Addr} {ps ps2 : List (Str × Str)}, TupsAt H ts ps → TupsAt H ts2 ps2 → TupsAt H (ts ++ ts2) (ps ++ ps2)
  | _, _, _, _, .nil, h => h
  | _, _, _, _, .cons a t, h => .cons a (TupsAt.app t h)
end SM
/-! Part W39: what is told, and what is due, as lists. -/
namespace SM
open PySem PySem.Spec PyProof.Rows L2
theorem putK_le {κ : Type} [DecidableEq κ] (kvs : List (κ × V)) (k : κ) (v : V) : (putK kvs k v).length ≤ kvs.length + 1 := by
  unfold putK
  split
  · rw [List.length_map]
    omega
  · rw [List.length_append]
    exact Nat.le_refl _
theorem handsOn_none {S : BS} {d : DevV} {js : List Str} (p : js.Perm d.hung) : (handSet S js).Perm (handsOn S d none) := by
  unfold handsOn
  refine handSet_perm fun j => ?_
  rw [p.mem_iff, List.mem_filter]
  simp
theorem told_list {R : Nat → PyData → Prop} (one : ∀ n D D', R n D → R n D' → D = D') {Ds Es : List PyData} (l : Ds.length = Es.length) (h : ∀ (n : Nat) D, Ds[n]? = some D → R n D) (h' : ∀ (n : Nat) D, Es[n]? = some D → R n D) : Ds = Es := by
  refine List.ext_getElem? fun n => ?_
  cases e : Ds[n]? with
  | none =>
    have a := List.getElem?_eq_none_iff.mp e
    exact (List.getElem?_eq_none_iff.mpr (by omega)).symm
  | some D =>
    have a : n < Ds.length := (List.getElem?_eq_some_iff.mp e).1
    have b : Es[n]? = some Es[n] := List.getElem?_eq_getElem (by omega)
    rw [b, one n _ _ (h n D e) (h' n _ b)]
theorem sm_all {k w : Nat} : ∀ {Ds : List PyData}, (∀ D ∈ Ds, Sm k w D) → SmAll k w Ds
  | [], _ => .nil
  | _ :: t, h => .cons (h _ (.head _)) (sm_all fun D m => h D (.tail _ m))
theorem DpAll.snoc {K : PySem.W.Frag} {H : Hp} {v : V} {D : PyData} (h : Dp K H v D) : ∀ {vs : List V} {Ds : List PyData}, DpAll K H vs Ds → DpAll K H (vs ++ [v]) (Ds ++ [D])
  | _, _, .nil => .cons h .nil
  | _, _, .cons a t => .cons a (DpAll.snoc h t)
theorem toldD_fine {S : BS} (hS : S.Ok) {z : Str} {d : DevV} (el : look S.devs z = some d) {Ds : List PyData} (l : Ds.length = 6) (h : ∀ (n : Nat) D, Ds[n]? = some D → ToldD S d n D) : Fine (.list Ds) := by
  have q := Sm.lst (sm_all (Ds := Ds) fun D m => by
    obtain ⟨n, e⟩ := List.mem_iff_getElem?.mp m
    exact (h n D e).sm hS el)
  rw [l] at q
  exact q.fine (by decide) (by decide)
/-- what is due of a device -/
theorem due_list {S : BS} {d : DevV} {us js : List Str} (a : Srt us (handsOn S d none)) (b : Srt js d.hung) : ∀ (n : Nat) D, [PyData.list ((sortP (tagsOf S d)).map encP), .list (us.map PyData.str), .list (js.map PyData.str), .bool d.stk, .str d.home, .str d.st][n]? = some D → ToldD S d n D
  | 0, _, h => (Option.some.inj h).symm
  | 1, _, h => ⟨us, a, (Option.some.inj h).symm⟩
  | 2, _, h => ⟨js, b, (Option.some.inj h).symm⟩
  | 3, _, h => (Option.some.inj h).symm
  | 4, _, h => (Option.some.inj h).symm
  | 5, _, h => (Option.some.inj h).symm
  | n + 6, _, h => by simp at h
end SM
/-! Part W40: who is held by a job, and what is told of a job. -/
namespace SM
open PySem PySem.Spec PyProof.Rows L2
theorem heldBy_nodup {S : BS} (hS : S.Ok) {j : Str} : (heldBy S j).Nodup := by
  have : (heldBy S j).Sublist (keys S.devs) := (List.filter_sublist).map _
  exact hS.dN.sublist this
theorem mem_heldBy {S : BS} (hS : S.Ok) {z j : Str} {d : DevV} (el : look S.devs z = some d) : z ∈ heldBy S j ↔ j ∈ d.hung := by
  unfold heldBy
  constructor
  · intro m
    obtain ⟨e, me, rfl⟩ := List.mem_map.mp m
    have mf := List.mem_filter.mp me
    have q := look_uniq hS.dN (k := e.1) (a := e.2) mf.1
    rw [el] at q
    rw [Option.some.inj q]
    exact of_decide_eq_true mf.2
  · intro h
    exact List.mem_map_of_mem (f := fun e : Str × DevV => e.1) (List.mem_filter.mpr ⟨look_mem el, decide_eq_true h⟩)
theorem heldBy_srt {S : BS} (hS : S.Ok) {j : Str} {zs : List Str} (p : zs.Perm (keys S.devs)) (s : sortedS zs = true) : Srt (zs.filter fun z => decide (z ∈ heldBy S j)) (heldBy S j) := by
  have q := sorted_filter p s fun z => decide (z ∈ heldBy S j)
  refine ⟨q.1.trans ?_, q.2⟩
  refine (List.perm_ext_iff_of_nodup (hS.dN.sublist List.filter_sublist) (heldBy_nodup hS)).mpr fun z => ?_
  rw [List.mem_filter]
  refine ⟨fun h => of_decide_eq_true h.2, fun h => ⟨?_, decide_eq_true h⟩⟩
  obtain ⟨e, me, rfl⟩ := List.mem_map.mp h
  exact List.mem_map_of_mem (f := fun e : Str × DevV => e.1) (List.mem_filter.mp me).1
theorem heldBy_len {S : BS} (hS : S.Ok) {j : Str} : (heldBy S j).length ≤ 52 := by
  have h := List.length_filter_le (fun e : Str × DevV => decide (j ∈ e.2.hung)) S.devs
  have l := hS.dL
  unfold heldBy keys
  rw [List.length_map]
  omega
theorem heldBy_good {S : BS} (hS : S.Ok) {j z : Str} (m : z ∈ heldBy S j) : okName z = true := by
  obtain ⟨e, me, rfl⟩ := List.mem_map.mp m
  exact hS.dG _ (List.mem_map_of_mem (f := fun e : Str × DevV => e.1) (List.mem_filter.mp me).1)
theorem names_len_fine {ys : List Str} (h : ∀ y ∈ ys, okName y = true) (l : ys.length ≤ 64) : Sm 1 2300 (.list (ys.map PyData.str)) := (names_sm h).mono (by decide) (by omega)
end SM
/-! Part W41: the book under a lock. -/
namespace SM
open PySem PySem.Spec PyProof.Rows L2
theorem BkAt.lock {H : Hp} {A : KA} {S : BS} {b : Addr} {q : List (Key × V)} (h : BkAt H A S) (hb : b = A.pl ∨ b = A.cr) (e : H b = some (.dK q)) (od : Obj) : BkRd (upd H b (.frz od (.dK q))) A S := by
  obtain ⟨⟨sk, xs, a1, a2, a3⟩, ⟨q1, b1, b2⟩, ⟨q2, c1, c2⟩, ⟨q3, d1, d2⟩, ⟨q4, e1, e2⟩, nd⟩ := h
  have ls : ∀ {g xs}, H g = some (.lst xs) → upd H b (.frz od (.dK q)) g = some (.lst xs) := fun {g xs} w => (upd_ne (ne_of w e (by intro w; cases w))).trans w
  have rd : ∀ {c u}, H c = some (.dK u) → Rd (upd H b (.frz od (.dK q))) c (.dK u) := fun {c u} w => by
    by_cases hc : c = b
    · subst hc
      rw [e] at w
      rw [← Option.some.inj w]
      exact .inr ⟨od, upd_same⟩
    · exact .inl ((upd_ne hc).trans w)
  have nd' := nd
  simp only [KA.ms, List.nodup_cons, List.mem_cons, not_or] at nd'
  have nm : A.m ≠ b ∧ A.ho ≠ b ∧ A.tg ≠ b := by
    rcases hb with rfl | rfl
    · exact ⟨nd'.1.1, fun w => nd'.2.1.1 w.symm, fun w => nd'.2.1.2.1 w.symm⟩
    · exact ⟨nd'.1.2.2.2.1, nd'.2.2.1.2.1, nd'.2.2.2.1.1⟩
  exact ⟨⟨sk, xs, (upd_ne nm.1).trans a1, ls a2, a3⟩, ⟨q1, rd b1, b2⟩, ⟨q2, (upd_ne nm.2.1).trans c1, c2⟩, ⟨q3, (upd_ne nm.2.2).trans d1, d2.mono fun v d ⟨a, ys, w1, w2, w3⟩ => ⟨a, ys, w1, ls w2, w3⟩⟩,
    ⟨q4, rd e1, e2.mono fun v c ⟨a, w1, w2⟩ => ⟨a, w1, ls w2⟩⟩, nd⟩
theorem BkRd.top {H : Hp} {A : KA} {S : BS} (h : BkRd H A S) : ∃ sk, H A.m = some (.dK (kTop A sk)) := by
  obtain ⟨⟨sk, xs, a1, a2, a3⟩, _⟩ := h
  exact ⟨sk, a1⟩
theorem trues_flat (n : Nat) : (List.replicate n (V.bl true)).all flatV = true := by
  rw [List.all_eq_true]
  intro x m
  rw [List.eq_of_mem_replicate m]
  rfl
theorem trues_no (n : Nat) : (if false = true then !inV (.bl false) (List.replicate n (V.bl true)) else inV (.bl false) (List.replicate n (V.bl true))) = false := by
  show inV _ _ = false
  unfold inV
  rw [List.any_eq_false]
  intro x m
  rw [List.eq_of_mem_replicate m]
  decide
end SM
namespace SM
open PySem PySem.Spec PyProof.Rows L2
theorem eq_names {K : PySem.W.Frag} {H : Hp} {p q : Addr} {ys zs xs : List Str} {Q : VK} (a : Srt ys xs) (b : Srt zs xs) (gd : ∀ x ∈ xs, okName x = true) (l : xs.length ≤ 64) (hp : H p = some (.lst (ys.map V.str))) (hq : H q = some (.lst (zs.map V.str))) (k : Q (.bl true) H) : rEqD K (.ref p) (.ref q) H Q := by
  obtain rfl := a.one b
  have g := a.good gd l
  have f := ((names_len_fine g.2 g.1).fine (by decide) (by decide)).shaped
  refine ⟨_, _, names_dp hp, names_dp hq, f, f, ?_⟩
  rw [names_self g.2]
  exact k
end SM
/-! Part W42: deeds drawn beside a book. -/
namespace SM
open PySem PySem.Spec PyProof.Rows L2
def eight : List Str := ["hold", "free", "turn", "stick", "mend", "take", "crew", "leave", "add"]
def FromP (ds js : List Str) : BDeed → Prop
  | .turn x p => x ∈ ds ∧ p ∈ posL
  | .hold x p j => x ∈ ds ∧ p ∈ posL ∧ j ∈ js
  | .free x j => x ∈ ds ∧ j ∈ js
  | .stick x => x ∈ ds
  | .mend x => x ∈ ds
  | .add x p _ => x ∈ ds ∧ p ∈ posL
  | .take x => x ∈ ds
  | .leave j => j ∈ js
  | .crew j hs _ => j ∈ js ∧ hs.Nodup ∧ 1 ≤ hs.length ∧ hs.length ≤ 6 ∧ ∀ x ∈ hs, okName x = true
theorem FromP.good {ds js : List Str} {D : BDeed} (h : FromP ds js D) (gd : ∀ x ∈ ds, okName x = true) (gj : ∀ x ∈ js, okName x = true) : GoodK D := by
  cases D with
  | turn x p => exact ⟨gd _ h.1, h.2⟩
  | hold x p j => exact ⟨gd _ h.1, h.2.1, gj _ h.2.2⟩
  | free x j => exact ⟨gd _ h.1, gj _ h.2⟩
  | stick x => exact gd _ h
  | mend x => exact gd _ h
  | add x p a => exact ⟨gd _ h.1, h.2⟩
  | take x => exact gd _ h
  | leave j => exact gj _ h
  | crew j hs a => exact ⟨gj _ h.1, h.2⟩
theorem pickW8 {ws : List Str} {v : Int} (h : ∀ x ∈ ws, x ∈ eight) (h0 : 0 ≤ v) (h1 : v < ws.length) : ∃ w : Str, atI (ws.map V.str) v = some (.str w) ∧ w ∈ ws ∧ (w = "hold" ∨ w = "free" ∨ w = "turn" ∨ w = "stick" ∨ w = "mend" ∨ w = "take" ∨ w = "crew" ∨ w = "leave" ∨ w = "add") := by
  obtain ⟨w, e, m⟩ := pickD h0 h1
  refine ⟨w, e, m, ?_⟩
  have := h w m
  simpa [eight] using this
def spPositionK : Sp := fun vs H Q _ => ∃ (p q : Addr) (A : KA) (S : BS) (z : Str), vs = [.ref p, .ref A.m, .str z] ∧ Bag H p q ∧ BkAt H A S ∧ S.Ok ∧ ∀ (y : Str) (H' : Hp), y ∈ posL → Bag H' p q → Keep [p] H H' → Q (.str y) H'
def spDeedK : Sp := fun vs H Q _ => ∃ (p q : Addr) (A : KA) (S : BS) (t a b c w : Addr) (ds js hs ws : List Str), vs = [.ref p, .ref A.m, .ref t, .ref w] ∧ Bag H p q ∧ BkAt H A S ∧ S.Ok ∧ Pools H t a b c ds js hs ∧ H w = some (.lst (ws.map V.str)) ∧ (∀ x ∈ ws, x ∈ eight) ∧ 0 < ws.length ∧ ws.length ≤ 64 ∧
  ∀ (t' : Addr) (D : BDeed) (H' : Hp), TupK H' t' D → FromP ds js D → wordK D ∈ ws → Bag H' p q → Keep [p] H H' → Q (.ref t') H'
section
variable (L : Addr)
def spStartK : Sp := fun vs H Q _ => ∃ (p q : Addr) (B : BA) (A : KA) (t a b c : Addr) (ds js hs : List Str), vs = [.ref p, .ref B.p, .ref A.m, .ref t] ∧ Bag H p q ∧ Bb L H B A BS.new ∧ Pools H t a b c ds js hs ∧
  ∀ (S : BS) (H' : Hp), Bb L H' B A S → keys S.devs = ds → keys S.crews = js → Bag H' p q → (∃ ms, Keep ms H H') → Q (.bl true) H'
end
end SM
/-! Part W43: words of holds and frees. -/
namespace SM
open PySem PySem.Spec PyProof.Rows L2
/-- a word of these leaves the devices and the jobs that there are -/
def calm5 : List Str := ["hold", "free", "turn", "stick", "mend"]
def words52 : List Str := ["hold", "hold", "hold", "hold", "free", "free", "free", "turn", "stick", "mend", "hold", "free"]
theorem words52_eight : ∀ x ∈ words52, x ∈ eight := by
  intro x h
  simp only [words52, List.mem_cons, List.not_mem_nil, or_false] at h
  rcases h with rfl | rfl | rfl | rfl | rfl | rfl | rfl | rfl | rfl | rfl | rfl | rfl <;> simp [eight]
theorem words52_calm : ∀ x ∈ words52, x ∈ calm5 := by
  intro x h
  simp only [words52, List.mem_cons, List.not_mem_nil, or_false] at h
  rcases h with rfl | rfl | rfl | rfl | rfl | rfl | rfl | rfl | rfl | rfl | rfl | rfl <;> simp [calm5]
theorem calm_dev {ds js : List Str} {D : BDeed} (h : FromP ds js D) (w : wordK D ∈ calm5) : devB D ∈ ds := by
  cases D with
  | turn x p => exact h.1
  | hold x p j => exact h.1
  | free x j => exact h.1
  | stick x => exact h
  | mend x => exact h
  | add x p a => exact h.1
  | take x => exact h
  | leave j => exact absurd (show ("leave" : Str) ∈ calm5 from w) (by decide +kernel)
  | crew j hs a => exact absurd (show ("crew" : Str) ∈ calm5 from w) (by decide +kernel)
theorem calm_keys {S : BS} {ds js : List Str} {D : BDeed} {a : Addr} (h : FromP ds js D) (w : wordK D ∈ calm5) : keys (stepB S D a).devs = keys S.devs ∧ keys (stepB S D a).crews = keys S.crews := by
  unfold stepB
  split
  · cases D with
    | turn x p => exact ⟨by simp only [atA, BS.put, keys_setT], rfl⟩
    | hold x p j => exact ⟨by simp only [atA, BS.put, keys_setT], rfl⟩
    | free x j => exact ⟨by simp only [atA, BS.put, keys_setT], rfl⟩
    | stick x => exact ⟨by simp only [atA, BS.put, keys_setT], rfl⟩
    | mend x => exact ⟨by simp only [atA, BS.put, keys_setT], rfl⟩
    | add x p a => exact absurd (show ("add" : Str) ∈ calm5 from w) (by decide +kernel)
    | take x => exact absurd (show ("take" : Str) ∈ calm5 from w) (by decide +kernel)
    | leave j => exact absurd (show ("leave" : Str) ∈ calm5 from w) (by decide +kernel)
    | crew j hs a => exact absurd (show ("crew" : Str) ∈ calm5 from w) (by decide +kernel)
  · exact ⟨rfl, rfl⟩
theorem TupK.dev {H : Hp} {t : Addr} {D : BDeed} (h : TupK H t D) : ∃ xs, H t = some (.tup xs) ∧ atI xs 1 = some (.str (devB D)) := by
  cases D with
  | crew j hs a =>
    obtain ⟨g, e, _⟩ := h
    exact ⟨_, e, rfl⟩
  | turn x p => exact ⟨_, h, rfl⟩
  | hold x p j => exact ⟨_, h, rfl⟩
  | free x j => exact ⟨_, h, rfl⟩
  | stick x => exact ⟨_, h, rfl⟩
  | mend x => exact ⟨_, h, rfl⟩
  | add x p a => exact ⟨_, h, rfl⟩
  | take x => exact ⟨_, h, rfl⟩
  | leave j => exact ⟨_, h, rfl⟩
theorem Bb.born {L : Addr} {H H' : Hp} {B : BA} {A : KA} (hB : BdAt L H B BS.new) (hK : BkAt H' A BS.new) (s : Same H H') (n : ∀ b ∈ A.ms, H b = none) : Bb L H' B A BS.new := ⟨hB.same s, new_ok, hK, fun b hb w => by
  obtain ⟨kvs, e⟩ := hB.dks b w
  rw [n b hb] at e
  cases e⟩
end SM
/-! Part W44: deeds at what is stuck. -/
namespace SM
open PySem PySem.Spec PyProof.Rows L2
def words54 : List Str := ["hold", "hold", "hold", "turn", "stick", "mend", "stick", "take", "add"]
theorem words54_eight : ∀ x ∈ words54, x ∈ eight := by
  intro x h
  simp only [words54, List.mem_cons, List.not_mem_nil, or_false] at h
  rcases h with rfl | rfl | rfl | rfl | rfl | rfl | rfl | rfl | rfl <;> simp [eight]
def spStuckOneK : Sp := fun vs H Q _ => ∃ (p q : Addr) (A : KA) (S : BS) (t a b c : Addr) (ds js hs : List Str), vs = [.ref p, .ref A.m, .ref t] ∧ Bag H p q ∧ BkAt H A S ∧ S.Ok ∧ Pools H t a b c ds js hs ∧
  ∀ (t' : Addr) (D : BDeed) (H' : Hp), TupK H' t' D → GoodK D → ((∃ x y, D = .turn x y) ∨ (∃ x y j, D = .hold x y j) ∨ ∃ x j, D = .free x j) → Bag H' p q → Keep [p] H H' → Q (.ref t') H'
end SM
namespace SM
open PySem PySem.Spec PyProof.Rows L2
/-- what a law of the family holds all the while -/
structure StK (L : Addr) (H : Hp) (B : BA) (A : KA) (p q t a b c wl : Addr) (ds js hs ws : List Str) (S : BS) : Prop where
  W : Bb L H B A S
  bg : Bag H p q
  po : Pools H t a b c ds js hs
  hw : H wl = some (.lst (ws.map V.str))
section
variable {L : Addr} {H H' : Hp} {B : BA} {A : KA} {p q t a b c wl : Addr} {ds js hs ws : List Str} {S S' : BS}
theorem StK.draw (h : StK L H B A p q t a b c wl ds js hs ws S) (k : Keep [p] H H') (b' : Bag H' p q) : StK L H' B A p q t a b c wl ds js hs ws S :=
  ⟨h.W.drawn h.bg k, b', h.po.keep k, k.flat _ _ h.hw (flat_strs _)⟩
theorem StK.same (h : StK L H B A p q t a b c wl ds js hs ws S) (s : Same H H') : StK L H' B A p q t a b c wl ds js hs ws S :=
  ⟨h.W.same s, h.bg.same s, h.po.keep (Keep.of (ms := []) s), s _ _ h.hw⟩
theorem StK.step (h : StK L H B A p q t a b c wl ds js hs ws S) (W' : Bb L H' B A S') (k : Keep (bms B S ++ A.ms) H H') : StK L H' B A p q t a b c wl ds js hs ws S' := by
  have pb := h.W.pbag h.bg
  exact ⟨W', h.bg.kept k fun w => (List.mem_append.mp w).elim pb.1 pb.2, h.po.keep k, k.flat _ _ h.hw (flat_strs _)⟩
end
end SM
namespace SM
open PySem PySem.Spec PyProof.Rows L2
theorem DueAt.told {H : Hp} {v : V} {f : Option BRf} (h : DueAt H v f) : v = .non ∨ ∃ (t : Addr) (w : Str) (xs : List V), v = .ref t ∧ H t = some (.tup (.str w :: xs)) := by
  match f, h with
  | none, h => exact .inl h
  | some (.there x), ⟨t, e, q⟩ => exact .inr ⟨t, _, _, e, q⟩
  | some (.lacks x), ⟨t, e, q⟩ => exact .inr ⟨t, _, _, e, q⟩
  | some (.tooMany n), ⟨t, e, q⟩ => exact .inr ⟨t, _, _, e, q⟩
  | some (.held l), ⟨t, p, ys, e, q, r, s⟩ => exact .inr ⟨t, _, _, e, q⟩
  | some (.stuck x), ⟨t, e, q⟩ => exact .inr ⟨t, _, _, e, q⟩
  | some (.inUse x), ⟨t, e, q⟩ => exact .inr ⟨t, _, _, e, q⟩
end SM
namespace SM
open PySem PySem.Spec PyProof.Rows L2
theorem atI_first (x : V) (xs : List V) : atI (x :: xs) 0 = some x := by
  have h : ixN (xs.length + 1) 0 = some 0 := by
    unfold ixN
    rw [if_pos (by decide)]
    simp
  show (ixN (xs.length + 1) 0).bind (fun j => (x :: xs)[j]?) = some x
  rw [h]
  rfl
end SM
/-! Part W45: questions of a name that is not there. -/
namespace SM
open PySem PySem.Spec PyProof.Rows L2
/-- the body of a try that asks, way 0 to 7, of a name that the board lacks -/
def tMissS (C : Nat → Addr) (L : Addr) (W : WX) : TS := fun D σ H => ∃ (B : BA) (S : BS) (n : Nat) (z : Str) (u : V), σ = [some (.ref B.p), some (.int (n : Int)), some (.str z), some u, none] ∧ n < 8 ∧ BdAt L H B S ∧ S.Ok ∧ okName z = true ∧
  (n < 6 → z ∉ keys S.devs) ∧ (6 ≤ n → z ∉ keys S.crews) ∧ Ref C 2 (.str z) H (WE W σ)
def spMissK (L : Addr) : Sp := fun vs H Q _ => ∃ (B : BA) (S : BS) (n : Nat) (z : Str), vs = [.ref B.p, .int (n : Int), .str z] ∧ n < 8 ∧ BdAt L H B S ∧ S.Ok ∧ okName z = true ∧
  (n < 6 → z ∉ keys S.devs) ∧ (6 ≤ n → z ∉ keys S.crews) ∧ ∀ H' t, Same H H' → H' t = some (.tup [.str "Lacks", .str z]) → Q (.ref t) H'
/-- three pools of names -/
structure PoolsN (H : Hp) (t a b c : Addr) (ds js hs : List Str) : Prop where
  tp : H t = some (.tup [.ref a, .ref b, .ref c])
  ha : H a = some (.lst (ds.map V.str))
  hb : H b = some (.lst (js.map V.str))
  hc : H c = some (.lst (hs.map V.str))
  la : 0 < ds.length ∧ ds.length ≤ 64 ∧ ∀ x ∈ ds, okName x = true
  lb : js.length ≤ 64 ∧ ∀ x ∈ js, okName x = true
  lc : hs.length ≤ 64 ∧ ∀ x ∈ hs, okName x = true
theorem Pools.pn {H : Hp} {t a b c : Addr} {ds js hs : List Str} (h : Pools H t a b c ds js hs) : PoolsN H t a b c ds js hs :=
  ⟨h.tp, h.ha, h.hb, h.hc, ⟨h.da.2.1, Nat.le_trans h.da.2.2.1 (by decide), h.da.2.2.2⟩, ⟨Nat.le_trans h.db.2.2.1 (by decide), h.db.2.2.2⟩, ⟨Nat.le_trans h.dc.2.2.1 (by decide), h.dc.2.2.2⟩⟩
theorem PoolsN.keep {ms : List Addr} {H H' : Hp} {t a b c : Addr} {ds js hs : List Str} (h : PoolsN H t a b c ds js hs) (k : Keep ms H H') : PoolsN H' t a b c ds js hs :=
  ⟨k.tup _ _ h.tp, k.flat _ _ h.ha (flat_strs _), k.flat _ _ h.hb (flat_strs _), k.flat _ _ h.hc (flat_strs _), h.la, h.lb, h.lc⟩
/-- _law_lacks(bag, here, m, pools) -/
def spLacksK (L : Addr) : Sp := fun vs H Q _ => ∃ (p q : Addr) (B : BA) (A : KA) (S : BS) (t a b c : Addr) (ds js hs : List Str), vs = [.ref p, .ref B.p, .ref A.m, .ref t] ∧ Bag H p q ∧ Bb L H B A S ∧ PoolsN H t a b c ds js hs ∧
  ∀ H', Bag H' p q → Keep [p] H H' → Q (.bl true) H'
theorem lacks_fine {z : Str} (h : okName z = true) : Fine (.tuple [.str "Lacks", .str z]) :=
  (Sm.tup (.cons ((sm_str (z := "Lacks") (by decide +kernel)).mono (k' := 1) (w' := 2000) (by decide) (by decide)) (.cons ((sm_str (okName_small h)).mono (k' := 1) (w' := 2000) (by decide) (by decide)) .nil))).fine (by decide) (show 2 * (2000 + 1) ≤ 100000 by decide)
def words51 : List Str := ["turn", "turn", "turn", "turn", "hold", "hold", "free", "free", "stick", "mend", "take", "add"]
theorem words51_eight : ∀ x ∈ words51, x ∈ eight := by
  intro x h
  simp only [words51, List.mem_cons, List.not_mem_nil, or_false] at h
  rcases h with rfl | rfl | rfl | rfl | rfl | rfl | rfl | rfl | rfl | rfl | rfl | rfl <;> simp [eight]
def words59 : List Str := ["add", "crew", "hold", "hold", "add", "hold", "turn", "free", "stick", "mend", "crew", "add", "take", "leave"]
theorem words59_eight : ∀ x ∈ words59, x ∈ eight := by
  intro x h
  simp only [words59, List.mem_cons, List.not_mem_nil, or_false] at h
  rcases h with rfl | rfl | rfl | rfl | rfl | rfl | rfl | rfl | rfl | rfl | rfl | rfl | rfl | rfl <;> simp [eight]
end SM
/-! Part W47: what is told of a device in one go (k53, k55, k58). -/
namespace SM
open PySem PySem.Spec PyProof.Rows L2
theorem toldD_fine2 {S : BS} (hS : S.Ok) {z : Str} {d : DevV} (el : look S.devs z = some d) {Ds : List PyData} (l : Ds.length = 6) (h : ∀ D ∈ Ds, ∃ n, ToldD S d n D) : Fine (.list Ds) := by
  have q := Sm.lst (sm_all (Ds := Ds) fun D m => by
    obtain ⟨n, e⟩ := h D m
    exact e.sm hS el)
  rw [l] at q
  exact q.fine (by decide) (by decide)
section
variable (L : Addr)
def spDeviceP : Sp := fun vs H Q _ => ∃ (B : BA) (A : KA) (S : BS) (z : Str) (d : DevV), vs = [.ref B.p, .ref A.m, .str z] ∧ BdAt L H B S ∧ S.Ok ∧ BkRd H A S ∧ look S.devs z = some d ∧ ∀ H', Same H H' → Q (.bl true) H'
def spJobP : Sp := fun vs H Q _ => ∃ (B : BA) (A : KA) (S : BS) (j : Str), vs = [.ref B.p, .ref A.m, .str j] ∧ BdAt L H B S ∧ S.Ok ∧ BkRd H A S ∧ j ∈ keys S.crews ∧ ∀ H', Same H H' → Q (.bl true) H'
def spSameP : Sp := fun vs H Q _ => ∃ (B : BA) (A : KA) (S : BS) (i : Int), vs = [.ref B.p, .ref A.m, .int i] ∧ Bb L H B A S ∧ 0 ≤ i ∧ i ≤ 100 ∧ ∀ H', Same H H' → Q (.bl true) H'
end
end SM
namespace SM
open PySem PySem.Spec PyProof.Rows L2
theorem ne_names {K : PySem.W.Frag} {H : Hp} {p q : Addr} {ys zs xs : List Str} {Q : VK} (a : Srt ys xs) (b : Srt zs xs) (gd : ∀ x ∈ xs, okName x = true) (l : xs.length ≤ 64) (hp : H p = some (.lst (ys.map V.str))) (hq : H q = some (.lst (zs.map V.str))) (k : Q (.bl false) H) : rNeD K (.ref p) (.ref q) H Q := by
  obtain rfl := a.one b
  have g := a.good gd l
  have f := ((names_len_fine g.2 g.1).fine (by decide) (by decide)).shaped
  refine ⟨_, _, names_dp hp, names_dp hq, f, f, ?_⟩
  rw [names_self g.2]
  exact k
end SM
namespace SM
open PySem PySem.Spec PyProof.Rows L2
open Evl (tCut pss_cut)
def topS (i : Nat) : Stmt := PySem.Challenge.pw_stillmain_k61_steps_told.main.body.getD i (.Pass ⟨0, 0, 0, 0⟩)
abbrev s_need : Stmt := topS 12
abbrev s_is_name : Stmt := topS 19
abbrev s_is_position : Stmt := topS 20
abbrev s_are_names : Stmt := topS 21
abbrev s_is_crew : Stmt := topS 23
abbrev s_Board___init__ : Stmt := inClass (topS 27) 0
abbrev s_Board_add : Stmt := inClass (topS 27) 1
abbrev s_Board_crew : Stmt := inClass (topS 27) 3
abbrev s_Board_leave : Stmt := inClass (topS 27) 4
abbrev s_Board_turn : Stmt := inClass (topS 27) 5
abbrev s_Board_hold : Stmt := inClass (topS 27) 8
abbrev s_Board_free : Stmt := inClass (topS 27) 9
abbrev s_Board_devices : Stmt := inClass (topS 27) 10
abbrev s_Board_jobs : Stmt := inClass (topS 27) 11
abbrev s_Board_stands : Stmt := inClass (topS 27) 12
abbrev s_Board_home : Stmt := inClass (topS 27) 13
abbrev s_Board_jobs_on : Stmt := inClass (topS 27) 15
abbrev s_Board_tags : Stmt := inClass (topS 27) 16
abbrev s_Board_crew_of : Stmt := inClass (topS 27) 17
abbrev s_Board__refuse_no_device : Stmt := inClass (topS 27) 21
abbrev s_Board__refuse_no_job : Stmt := inClass (topS 27) 22
abbrev s_Board__refuse_held : Stmt := inClass (topS 27) 23
abbrev s_Board__move : Stmt := inClass (topS 27) 24
abbrev s_Board__hands_on : Stmt := inClass (topS 27) 25
abbrev s_Board__held : Stmt := inClass (topS 27) 26
/-- the errors' bases' chain, M the common one -/
abbrev bmM (M : Addr) : List Value := [.ref M, .type "ValueError", .type "Exception", .type "BaseException", .type "object"]
/-- what the top has made of the program's text -/
structure Bx (K : PySem.W.Frag) (mg : Str → Option Value) (C : Nat → Addr) (M L : Addr) : Prop where
  d_need : DefAt K mg "need" s_need
  d_is_name : DefAt K mg "is_name" s_is_name
  d_is_position : DefAt K mg "is_position" s_is_position
  d_are_names : DefAt K mg "are_names" s_are_names
  d_is_crew : DefAt K mg "is_crew" s_is_crew
  m_init : MethAt K L "__init__" "Board.__init__" s_Board___init__
  m_add : MethAt K L "add" "Board.add" s_Board_add
  m_crew : MethAt K L "crew" "Board.crew" s_Board_crew
  m_leave : MethAt K L "leave" "Board.leave" s_Board_leave
  m_turn : MethAt K L "turn" "Board.turn" s_Board_turn
  m_hold : MethAt K L "hold" "Board.hold" s_Board_hold
  m_free : MethAt K L "free" "Board.free" s_Board_free
  m_devices : MethAt K L "devices" "Board.devices" s_Board_devices
  m_jobs : MethAt K L "jobs" "Board.jobs" s_Board_jobs
  m_stands : MethAt K L "stands" "Board.stands" s_Board_stands
  m_home : MethAt K L "home" "Board.home" s_Board_home
  m_jobs_on : MethAt K L "jobs_on" "Board.jobs_on" s_Board_jobs_on
  m_tags : MethAt K L "tags" "Board.tags" s_Board_tags
  m_crew_of : MethAt K L "crew_of" "Board.crew_of" s_Board_crew_of
  m__refuse_no_device : MethAt K L "_refuse_no_device" "Board._refuse_no_device" s_Board__refuse_no_device
  m__refuse_no_job : MethAt K L "_refuse_no_job" "Board._refuse_no_job" s_Board__refuse_no_job
  m__refuse_held : MethAt K L "_refuse_held" "Board._refuse_held" s_Board__refuse_held
  m__move : MethAt K L "_move" "Board._move" s_Board__move
  m__hands_on : MethAt K L "_hands_on" "Board._hands_on" s_Board__hands_on
  m__held : MethAt K L "_held" "Board._held" s_Board__held
  mkL : PySem.W.makesIn K L = true
  kL : PySem.W.keepIn K (.ref L) = true
  gL : mg "Board" = some (.ref L)
  cl : Cls K L
  n_stands : NoAttr K L "_stands"
  n_homes : NoAttr K L "_homes"
  n_stuck : NoAttr K L "_stuck"
  n_hung : NoAttr K L "_hung"
  n_crews : NoAttr K L "_crews"
  g_LONGEST_NAME : ∃ t, mg "LONGEST_NAME" = some (.int 8 t)
  g_MOST_NAMES : ∃ t, mg "MOST_NAMES" = some (.int 60 t)
  g_MOST_IN_CREW : ∃ t, mg "MOST_IN_CREW" = some (.int 6 t)
  g_MOST_DEVICES : ∃ t, mg "MOST_DEVICES" = some (.int 52 t)
  g_MOST_JOBS : ∃ t, mg "MOST_JOBS" = some (.int 8 t)
  g_POSITIONS : ∃ a, mg "POSITIONS" = some (.ref a) ∧ ∀ H, SqT K H a (posL.map V.str)
  b_len : mg "len" = none
  b_all : mg "all" = none
  b_isinstance : mg "isinstance" = none
  b_str : mg "str" = none
  b_sorted : mg "sorted" = none
  b_list : mg "list" = none
  b_set : mg "set" = none
  gM : mg "MainsError" = some (.ref M)
  eM : ErrC K M [.type "ValueError", .type "Exception", .type "BaseException", .type "object"]
  e : ∀ n, n < 7 → ErrC K (C n) (bmM M)
  gc : ClsGet K
  nd : (M :: (List.range 7).map C).Nodup
  g0 : mg "Wrong" = some (.ref (C 0))
  n0 : PySem.W.findIn K (.ref (C 0)) "at" = some none
  t0 : InitAt K (C 0) "Wrong.__init__" (inClass (topS 3) 0)
  g1 : mg "There" = some (.ref (C 1))
  n1 : PySem.W.findIn K (.ref (C 1)) "name" = some none
  t1 : InitAt K (C 1) "There.__init__" (inClass (topS 4) 0)
  g2 : mg "Lacks" = some (.ref (C 2))
  n2 : PySem.W.findIn K (.ref (C 2)) "name" = some none
  t2 : InitAt K (C 2) "Lacks.__init__" (inClass (topS 5) 0)
  g3 : mg "TooMany" = some (.ref (C 3))
  n3 : PySem.W.findIn K (.ref (C 3)) "most" = some none
  t3 : InitAt K (C 3) "TooMany.__init__" (inClass (topS 6) 0)
  g4 : mg "InUse" = some (.ref (C 4))
  n4 : PySem.W.findIn K (.ref (C 4)) "name" = some none
  t4 : InitAt K (C 4) "InUse.__init__" (inClass (topS 7) 0)
  g5 : mg "Held" = some (.ref (C 5))
  n5 : PySem.W.findIn K (.ref (C 5)) "hands" = some none
  t5 : InitAt K (C 5) "Held.__init__" (inClass (topS 8) 0)
  g6 : mg "Stuck" = some (.ref (C 6))
  n6 : PySem.W.findIn K (.ref (C 6)) "name" = some none
  t6 : InitAt K (C 6) "Stuck.__init__" (inClass (topS 9) 0)
section
variable {P : Program} {w : World} {K : PySem.W.Frag} {mg : Str → Option Value} {base : Heap} {C : Nat → Addr} {M L : Addr}
theorem io_0 (T : Bx K mg C M L) : InitOk P w K mg base (C 0) "at" := by
  obtain ⟨fI, fd, F, iC, tI⟩ := T.t0
  exact ⟨fI, fd, iC, tI, F.binds (ps := ["self", "at"]) fun _ _ _ _ _ _ us hl => match us, hl with | [_, _], _ => rfl,
    init_ok F (T.e 0 (by decide)) T.n0 ⟨rfl, rfl, rfl, by decide +kernel, rfl, by decide +kernel, by decide +kernel⟩ fun _ _ _ _ _ _ => pss_one (ps_ost (pv 0) (pv 1))⟩
theorem io_1 (T : Bx K mg C M L) : InitOk P w K mg base (C 1) "name" := by
  obtain ⟨fI, fd, F, iC, tI⟩ := T.t1
  exact ⟨fI, fd, iC, tI, F.binds (ps := ["self", "name"]) fun _ _ _ _ _ _ us hl => match us, hl with | [_, _], _ => rfl,
    init_ok F (T.e 1 (by decide)) T.n1 ⟨rfl, rfl, rfl, by decide +kernel, rfl, by decide +kernel, by decide +kernel⟩ fun _ _ _ _ _ _ => pss_one (ps_ost (pv 0) (pv 1))⟩
theorem io_2 (T : Bx K mg C M L) : InitOk P w K mg base (C 2) "name" := by
  obtain ⟨fI, fd, F, iC, tI⟩ := T.t2
  exact ⟨fI, fd, iC, tI, F.binds (ps := ["self", "name"]) fun _ _ _ _ _ _ us hl => match us, hl with | [_, _], _ => rfl,
    init_ok F (T.e 2 (by decide)) T.n2 ⟨rfl, rfl, rfl, by decide +kernel, rfl, by decide +kernel, by decide +kernel⟩ fun _ _ _ _ _ _ => pss_one (ps_ost (pv 0) (pv 1))⟩
theorem io_3 (T : Bx K mg C M L) : InitOk P w K mg base (C 3) "most" := by
  obtain ⟨fI, fd, F, iC, tI⟩ := T.t3
  exact ⟨fI, fd, iC, tI, F.binds (ps := ["self", "most"]) fun _ _ _ _ _ _ us hl => match us, hl with | [_, _], _ => rfl,
    init_ok F (T.e 3 (by decide)) T.n3 ⟨rfl, rfl, rfl, by decide +kernel, rfl, by decide +kernel, by decide +kernel⟩ fun _ _ _ _ _ _ => pss_one (ps_ost (pv 0) (pv 1))⟩
theorem io_4 (T : Bx K mg C M L) : InitOk P w K mg base (C 4) "name" := by
  obtain ⟨fI, fd, F, iC, tI⟩ := T.t4
  exact ⟨fI, fd, iC, tI, F.binds (ps := ["self", "name"]) fun _ _ _ _ _ _ us hl => match us, hl with | [_, _], _ => rfl,
    init_ok F (T.e 4 (by decide)) T.n4 ⟨rfl, rfl, rfl, by decide +kernel, rfl, by decide +kernel, by decide +kernel⟩ fun _ _ _ _ _ _ => pss_one (ps_ost (pv 0) (pv 1))⟩
theorem io_5 (T : Bx K mg C M L) : InitOk P w K mg base (C 5) "hands" := by
  obtain ⟨fI, fd, F, iC, tI⟩ := T.t5
  exact ⟨fI, fd, iC, tI, F.binds (ps := ["self", "hands"]) fun _ _ _ _ _ _ us hl => match us, hl with | [_, _], _ => rfl,
    init_ok F (T.e 5 (by decide)) T.n5 ⟨rfl, rfl, rfl, by decide +kernel, rfl, by decide +kernel, by decide +kernel⟩ fun _ _ _ _ _ _ => pss_one (ps_ost (pv 0) (pv 1))⟩
theorem io_6 (T : Bx K mg C M L) : InitOk P w K mg base (C 6) "name" := by
  obtain ⟨fI, fd, F, iC, tI⟩ := T.t6
  exact ⟨fI, fd, iC, tI, F.binds (ps := ["self", "name"]) fun _ _ _ _ _ _ us hl => match us, hl with | [_, _], _ => rfl,
    init_ok F (T.e 6 (by decide)) T.n6 ⟨rfl, rfl, rfl, by decide +kernel, rfl, by decide +kernel, by decide +kernel⟩ fun _ _ _ _ _ _ => pss_one (ps_ost (pv 0) (pv 1))⟩
abbrev OX (P : Program) (w : World) := L2.CX P w
theorem sc_need : FnScope ["at", "fits"] ["at", "fits"] (defScope s_need) := ⟨rfl, rfl, rfl, by decide +kernel, rfl, by decide +kernel, by decide +kernel⟩
theorem ok_need (T : Bx K mg C M L) : OkF P w K mg base (L2.CX P w) 3 "need" ["at", "fits"] (spNeed C) := by
  refine T.d_need.okX sc_need (fun _ _ _ _ _ _ us hl => match us, hl with | [_, _], _ => rfl) (fun vs H Q E h => ?_) (fun f cdv A outer s H vs Q E hr h => ?_)
  · obtain ⟨y, b, rfl, _⟩ := h
    rfl
  · obtain ⟨y, b, rfl, h1, h2⟩ := h
    refine ⟨_, (pss_one (ps_if (pt_not (pt_val (pv 1))) (pss_one (ps_raise1 (C := C 0) (f := "at") (W := fun cls d _ H => E cls d H) rfl (T.e 0 (by decide)) (io_0 T) T.g0 (hr.mono (by decide)) (takes_of rfl rfl rfl rfl) (pv 0))) pss_nil)), ?_⟩
    refine ⟨_, rfl, _, rfl, ?_⟩
    cases b with
    | true => exact if_f rfl (h1 rfl)
    | false => exact if_t rfl ⟨_, rfl, raise1 fun d hd => (h2 rfl).out hd⟩
theorem sc_is_name : FnScope ["thing", "sign"] ["thing"] (defScope s_is_name) := ⟨rfl, rfl, rfl, by decide +kernel, rfl, by decide +kernel, by decide +kernel⟩
theorem ok_is_name (T : Bx K mg C M L) : OkF P w K mg base CX0 1 "is_name" ["thing"] (spIsName K) := by
  refine T.d_is_name.ok sc_is_name (fun _ _ _ _ _ _ us hl => match us, hl with | [_], _ => rfl) (fun vs H Q E h => ?_) (fun f cdv A outer s H vs Q E hr h => ?_)
  · obtain ⟨x, b, rfl, _⟩ := h
    rfl
  · obtain ⟨x, b, rfl, hn, k⟩ := h
    obtain ⟨tk, gk⟩ := T.g_LONGEST_NAME
    refine ⟨_, (pss_cons (ps_if (pw_or (pt_not (pt_val (pe_callB call_isi (by rfl) T.b_isinstance (by decide +kernel) (pa_cons (pv 0) (pa_cons (pe_bltn (v := .ty "str") (by rfl) T.b_str (by decide +kernel) rfl) pa_nil))))) (pw_or1 (pt_not (pt_chain op_le op_le pe_int (pe_callB call_len_str (by rfl) T.b_len PySem.boot_len (pa_cons (pv 0) pa_nil)) (pe_glob (v := .int 8) (by rfl) gk ⟨_, rfl⟩))))).pt (pss_one (ps_ret pe_bl)) pss_nil) (pss_one (ps_ret (pe_callB (cr_all rfl) (by rfl) T.b_all (by decide +kernel) (pa_cons (pe_lc (own := [("sign", 1)]) rfl sc_is_name.nd (pi_str (pv 0)) (blkOk_by (N := ["thing", "sign"]) (sc := (defScope s_is_name)) (by decide +kernel)) (fun _ _ _ _ _ => (pg_name (i := 1) sc_is_name.nd rfl (Or.inl rfl))) (fun _ _ _ _ _ => pts_nil) (fun _ _ _ _ _ => (pe_chain op_le_str op_le_str pe_str (pv 1) pe_str))) pa_nil))))), ?_⟩
    rcases hn with ⟨z, rfl, hz, rfl⟩ | ⟨rfl, t, ty, hk⟩
    · refine ⟨_, rfl, _, .ty "str", _, _, true, rfl, .ty _, .base (.str z), kit_ty (by decide +kernel), _, rfl, ?_⟩
      refine if_f rfl ?_
      refine ⟨_, rfl, _, rfl, hz, _, _, rfl, rfl, _, rfl, ?_⟩
      have no : ∀ {b : Bool}, okName z = b → b = false → Q (.bl false) H := fun e1 e2 => by
        have q := k H fun _ _ e => e
        rw [e1, e2] at q
        exact q
      by_cases e1 : decide ((1 : Int) ≤ (z.cps.size : Int)) = true
      · refine if_t e1 ⟨_, _, rfl, rfl, _, rfl, ?_⟩
        by_cases e2 : decide ((z.cps.size : Int) ≤ 8) = true
        · refine if_f (by show (!decide ((z.cps.size : Int) ≤ 8)) = false; rw [e2]; rfl) ?_
          refine ⟨_, rfl, z, rfl, fun D hD => lc_it walk_str (fun i H1 => Same H H1 ∧ H1 D = some (.lst (((z.cps.toList.take i).map okSign).map V.bl))) ⟨Same.newp hD, upd_same⟩ (fun _ _ _ _ => True.intro) ?_ ?_⟩
          · rintro i x H1 H2 hi ⟨s1, h1⟩ ⟨rfl, c, hc, rfl⟩
            have acc : ∀ b, okSign c = b → ∃ acc, H2 D = some (.lst acc) ∧ acc.length < sizeLine ∧ (Same H (upd H2 D (.lst (acc ++ [V.bl b]))) ∧ upd H2 D (.lst (acc ++ [V.bl b])) D = some (.lst (((z.cps.toList.take (i + 1)).map okSign).map V.bl))) := fun b eb => by
              refine ⟨_, h1, ?_, fun a u e => ?_, ?_⟩
              · rw [List.length_map, List.length_map, List.length_take]
                have : z.cps.size ≤ 8 := by have := of_decide_eq_true e2; omega
                exact small1000 (by simp only [Array.length_toList]; omega)
              · rw [upd_ne (ne_of_none e hD)]
                exact s1 a u e
              · rw [upd_same, List.take_add_one, show z.cps.toList[i]? = some c by rw [Array.getElem?_toList]; exact hc, List.map_append, List.map_append, ← eb]
                rfl
            refine ⟨rfl, _, rfl, _, _, rfl, rfl, _, rfl, ?_⟩
            by_cases e : (!decide ([c] < sgA.cps.toList)) = true
            · refine if_t e ⟨_, _, rfl, rfl, acc _ ?_⟩
              unfold okSign
              rw [e, Bool.true_and]
              rfl
            · refine if_f (Bool.eq_false_iff.mpr e) (acc _ ?_)
              unfold okSign
              rw [Bool.eq_false_iff.mpr e, Bool.false_and]
          · rintro H1 ⟨s1, h1⟩
            rw [show z.cps.toList.take z.cps.size = z.cps.toList by rw [← Array.length_toList, List.take_length]] at h1
            refine ⟨D, z.cps.toList.map okSign, rfl, SqL.of h1, ?_⟩
            have q := k H1 s1
            have e3 : okName z = (z.cps.toList.map okSign).all id := by
              have a1 := of_decide_eq_true e1
              have a2 := of_decide_eq_true e2
              unfold okName
              rw [decide_eq_true (by omega : 1 ≤ z.cps.size), decide_eq_true (by omega : z.cps.size ≤ 8), List.all_map]
              rfl
            rw [← e3]
            exact q
        · refine if_t (by show (!decide ((z.cps.size : Int) ≤ 8)) = true; rw [Bool.eq_false_iff.mpr e2]; rfl) ?_
          refine no rfl ?_
          have a2 : ¬ z.cps.size ≤ 8 := fun h => e2 (decide_eq_true (by omega))
          unfold okName
          rw [decide_eq_false a2, Bool.and_false, Bool.false_and]
      · refine if_f (Bool.eq_false_iff.mpr e1) ⟨_, rfl, ?_⟩
        refine if_t rfl ?_
        refine no rfl ?_
        have a1 : ¬ 1 ≤ z.cps.size := fun h => e1 (decide_eq_true (by omega))
        unfold okName
        rw [decide_eq_false a1, Bool.false_and, Bool.false_and]
    · refine ⟨_, rfl, _, .ty "str", t, _, false, rfl, .ty _, ty, hk, _, rfl, ?_⟩
      exact if_t rfl (k H fun _ _ e => e)
theorem sc_is_position : FnScope ["thing"] ["thing"] (defScope s_is_position) := ⟨rfl, rfl, rfl, by decide +kernel, rfl, by decide +kernel, by decide +kernel⟩
theorem ok_is_position (T : Bx K mg C M L) : OkF P w K mg base CX0 1 "is_position" ["thing"] (spIsPos K) := by
  refine T.d_is_position.ok sc_is_position (fun _ _ _ _ _ _ us hl => match us, hl with | [_], _ => rfl) (fun vs H Q E h => ?_) (fun f cdv A outer s H vs Q E hr h => ?_)
  · obtain ⟨x, b, rfl, _⟩ := h
    rfl
  · obtain ⟨x, b, rfl, hn, k⟩ := h
    obtain ⟨pa, gp, hp⟩ := T.g_POSITIONS
    refine ⟨_, (pss_one (ps_ret (pe_and (pe_callB call_isi (by rfl) T.b_isinstance (by decide +kernel) (pa_cons (pv 0) (pa_cons (pe_bltn (v := .ty "str") (by rfl) T.b_str (by decide +kernel) rfl) pa_nil))) (pe_one (pe_cmpR op_in_seq (pv 0) (pe_glob (v := .ref pa) (by rfl) gp rfl) rfl))))), ?_⟩
    rcases hn with ⟨z, rfl, rfl⟩ | ⟨rfl, t, ty, hk⟩
    · refine ⟨_, rfl, _, .ty "str", _, _, true, rfl, .ty _, .base (.str z), kit_ty (by decide +kernel), _, rfl, ?_⟩
      refine if_t rfl ⟨_, rfl, pa, _, rfl, .inr (hp _), rfl, flat_strs _, ?_⟩
      show Q (.bl (inV (.str z) (posL.map V.str))) H
      rw [inV_strs]
      exact k
    · refine ⟨_, rfl, _, .ty "str", t, _, false, rfl, .ty _, ty, hk, _, rfl, ?_⟩
      exact k
theorem sc_are_names : FnScope ["thing", "member"] ["thing"] (defScope s_are_names) := ⟨rfl, rfl, rfl, by decide +kernel, rfl, by decide +kernel, by decide +kernel⟩
theorem ok_are_names (T : Bx K mg C M L) : OkF P w K mg base CX0 2 "are_names" ["thing"] (spAreNamesQ K) := by
  refine T.d_are_names.ok sc_are_names (fun _ _ _ _ _ _ us hl => match us, hl with | [_], _ => rfl) (fun vs H Q E h => ?_) (fun f cdv Ar outer st H vs Q E hr h => ?_)
  · obtain ⟨v, b, rfl, _⟩ := h
    rfl
  · obtain ⟨v, b, rfl, q, k⟩ := h
    obtain ⟨tk, gk⟩ := T.g_MOST_NAMES
    refine ⟨_, (pss_cons (ps_if (pw_or (pt_not (pt_val (pe_callB call_isi (by rfl) T.b_isinstance (by decide +kernel) (pa_cons (pv 0) (pa_cons (pe_bltn (v := .ty "list") (by rfl) T.b_list (by decide +kernel) rfl) pa_nil))))) (pw_or1 (pt_cmpR op_gt (pe_callB call_len_seq (by rfl) T.b_len PySem.boot_len (pa_cons (pv 0) pa_nil)) (pe_glob (v := .int 60) (by rfl) gk ⟨_, rfl⟩) (nomark _)))).pt (pss_one (ps_ret pe_bl)) pss_nil) (pss_one (ps_ret (pe_and (pe_callB (cr_all rfl) (by rfl) T.b_all (by decide +kernel) (pa_cons (pe_lc (own := [("member", 1)]) rfl sc_are_names.nd (pi_list (pv 0)) (blkOk_by (N := ["thing", "member"]) (sc := (defScope s_are_names)) (by decide +kernel)) (fun _ _ _ _ _ => (pg_name (i := 1) sc_are_names.nd rfl (Or.inl rfl))) (fun _ _ _ _ _ => pts_nil) (fun _ _ _ _ _ => (pe_f (ok_is_name T) (hr.mono (by decide)) pass0 (pa_cons (pv 1) pa_nil)))) pa_nil)) (pe_one (pe_cmpR op_eq (pe_lenSetA rfl (by rfl) T.b_len (by rfl) T.b_set (pv 0)) (pe_callB call_len_seq (by rfl) T.b_len PySem.boot_len (pa_cons (pv 0) pa_nil)) (nomark _))))))), ?_⟩
    cases q with
    | @no _ t ty h =>
      refine ⟨_, rfl, _, .ty "list", _, _, false, rfl, .ty _, ty, h, _, rfl, ?_⟩
      exact if_t rfl (k H fun _ _ e => e)
    | @long l xs hl n =>
      refine ⟨_, rfl, _, .ty "list", _, _, true, rfl, .ty _, .base (.lst hl), kit_ty (by decide +kernel), _, rfl, ?_⟩
      refine if_f rfl ?_
      refine ⟨_, rfl, l, _, rfl, .inl (SqL.of hl), _, _, rfl, rfl, _, rfl, ?_⟩
      exact if_t (decide_eq_true (by omega)) (k H fun _ _ e => e)
    | @bad l xs bs hl n q f =>
      refine ⟨_, rfl, _, .ty "list", _, _, true, rfl, .ty _, .base (.lst hl), kit_ty (by decide +kernel), _, rfl, ?_⟩
      refine if_f rfl ?_
      refine ⟨_, rfl, l, _, rfl, .inl (SqL.of hl), _, _, rfl, rfl, _, rfl, ?_⟩
      refine if_f (decide_eq_false (by omega)) ?_
      refine ⟨_, rfl, l, rfl, ⟨_, SqL.of hl⟩, fun D hD => ?_⟩
      have lb : bs.length = xs.length := (Paired.length q).symm
      refine lc_list (K := K) (a := l) (xs := xs) (fun i H1 => Same H H1 ∧ H1 D = some (.lst ((bs.take i).map V.bl))) ⟨Same.newp hD, upd_same⟩ (fun i H1 _ q => SqL.of (q.1 _ _ hl)) ?_ ?_
      · rintro i y H1 hi ⟨e1, h1⟩
        obtain ⟨b1, eb, nq⟩ := SM.Paired.at q hi
        have li : i < xs.length := (List.getElem?_eq_some_iff.mp hi).1
        refine ⟨rfl, _, rfl, y, b1, rfl, nq.same e1, fun H2 e2 => ⟨_, e2 _ _ h1, ?_, fun b u e => ?_, ?_⟩⟩
        · rw [List.length_map, List.length_take]
          exact small1000 (by omega)
        · rw [upd_ne (ne_of_none e hD)]
          exact e2 _ _ (e1 _ _ e)
        · rw [upd_same, List.take_add_one, eb, List.map_append]
          rfl
      · rintro H1 ⟨e1, h1⟩
        rw [← lb, List.take_length] at h1
        refine ⟨D, _, rfl, SqL.of h1, _, rfl, ?_⟩
        exact if_f f (k H1 e1)
    | @txt l xs hl len ok =>
      refine ⟨_, rfl, _, .ty "list", _, _, true, rfl, .ty _, .base (.lst hl), kit_ty (by decide +kernel), _, rfl, ?_⟩
      refine if_f rfl ?_
      refine ⟨_, rfl, l, _, rfl, .inl (SqL.of hl), _, _, rfl, rfl, _, rfl, ?_⟩
      refine if_f (decide_eq_false (by rw [List.length_map]; omega)) ?_
      refine ⟨_, rfl, l, rfl, ⟨_, SqL.of hl⟩, fun D hD => ?_⟩
      refine lc_list (K := K) (a := l) (xs := xs.map V.str) (fun i H1 => Same H H1 ∧ H1 D = some (.lst ((List.replicate i true).map V.bl))) ⟨Same.newp hD, upd_same⟩ (fun i H1 _ q => SqL.of (q.1 _ _ hl)) ?_ ?_
      · rintro i y H1 hi ⟨e1, h1⟩
        obtain ⟨z, mz, rfl⟩ := List.mem_map.mp (List.mem_of_getElem? hi)
        have li : i < xs.length := by
          have := (List.getElem?_eq_some_iff.mp hi).1
          rw [List.length_map] at this
          exact this
        refine ⟨rfl, _, rfl, .str z, true, rfl, NameQ.of (ok z mz), fun H2 e2 => ⟨_, e2 _ _ h1, ?_, fun b u e => ?_, ?_⟩⟩
        · rw [List.length_map, List.length_replicate]
          exact small1000 (by omega)
        · rw [upd_ne (ne_of_none e hD)]
          exact e2 _ _ (e1 _ _ e)
        · rw [upd_same, show List.replicate (i + 1) true = List.replicate i true ++ [true] by rw [List.replicate_succ', ], List.map_append]
          rfl
      · rintro H1 ⟨e1, h1⟩
        have hl1 := e1 _ _ hl
        refine ⟨D, _, rfl, SqL.of h1, _, rfl, ?_⟩
        rw [show (List.replicate (xs.map V.str).length true).all id = true by rw [List.all_replicate]; simp]
        refine if_t rfl ⟨_, rfl, l, xs, rfl, SqL.of hl1, scan60 len, fun ys oy => ⟨_, rfl, l, _, rfl, .inl (SqL.of hl1), rfl, ?_⟩⟩
        rw [List.length_map]
        show Q (.bl (decide (V.int ys.length = V.int xs.length))) H1
        rw [show decide (V.int ys.length = V.int xs.length) = decide xs.Nodup from decide_eq_decide.mpr ⟨fun e => oy.nodup (by injection e with e; omega), fun n => by rw [oy.self n]⟩]
        exact k H1 e1
theorem sc_is_crew : FnScope ["thing"] ["thing"] (defScope s_is_crew) := ⟨rfl, rfl, rfl, by decide +kernel, rfl, by decide +kernel, by decide +kernel⟩
theorem ok_is_crew (T : Bx K mg C M L) : OkF P w K mg base CX0 3 "is_crew" ["thing"] spCrewG := by
  refine T.d_is_crew.ok sc_is_crew (fun _ _ _ _ _ _ us hl => match us, hl with | [_], _ => rfl) (fun vs H Q E h => ?_) (fun f cdv Ar outer st H vs Q E hr h => ?_)
  · obtain ⟨l, xs, rfl, _⟩ := h
    rfl
  · obtain ⟨l, xs, rfl, hl, nd, l1, l6, ok, k⟩ := h
    obtain ⟨tk, gk⟩ := T.g_MOST_IN_CREW
    refine ⟨_, (pss_one (ps_ret (pe_and (pe_f (ok_are_names T) (hr.mono (by decide)) pass0 (pa_cons (pv 0) pa_nil)) (pe_one (pe_chain op_le op_le pe_int (pe_callB call_len_seq (by rfl) T.b_len PySem.boot_len (pa_cons (pv 0) pa_nil)) (pe_glob (v := .int 6) (by rfl) gk ⟨_, rfl⟩)))))), ?_⟩
    have q := NmsQ.txt (K := K) hl (by omega) ok
    rw [decide_eq_true nd] at q
    refine ⟨_, rfl, _, true, rfl, q, fun H1 e1 => ?_⟩
    have hl1 := e1 _ _ hl
    refine ⟨_, rfl, if_t rfl ⟨_, rfl, l, _, rfl, .inl (SqL.of hl1), _, _, rfl, rfl, _, rfl, ?_⟩⟩
    rw [List.length_map]
    refine if_t (decide_eq_true (by omega)) ⟨_, _, rfl, rfl, ?_⟩
    show Q (.bl (decide ((xs.length : Int) ≤ 6))) H1
    rw [decide_eq_true (show (xs.length : Int) ≤ 6 by omega)]
    exact k H1 e1
theorem sc_Board__refuse_no_device : FnScope ["self", "device"] ["self", "device"] (defScope s_Board__refuse_no_device) := ⟨rfl, rfl, rfl, by decide +kernel, rfl, by decide +kernel, by decide +kernel⟩
theorem ok_refuse_no_device (T : Bx K mg C M L) : OkM P w K mg base (L2.CX P w) 3 L "_refuse_no_device" ["self", "device"] (spBRef C L 2 (fun S z => !decide (z ∈ keys S.devs))) := by
  refine T.m__refuse_no_device.okX sc_Board__refuse_no_device (fun _ _ _ _ _ _ us hl => match us, hl with | [_, _], _ => rfl) (fun vs H Q E h => ?_) (fun f cdv Ar outer st H vs Q E hr h => ?_)
  · obtain ⟨B, z, S, rfl, _⟩ := h
    rfl
  · obtain ⟨B, z, S, rfl, hB, r1, r2⟩ := h
    have hu := hu_of hr
    obtain ⟨⟨dx, ob⟩, ⟨q1, s1, s2⟩, ⟨q2, h1, h2⟩, ⟨q3, k1, k2⟩, ⟨q4, g1, g2⟩, inn, ⟨q5, c1, c2⟩, nd⟩ := id hB
    refine ⟨_, (pss_one (ps_if (pt_cmp (pc_dnotin hu (pv 1) (pe_fld (pv 0) rfl))) (pss_one (ps_raise1 (C := C 2) (f := "name") (W := fun cls d _ H => E cls d H) rfl (T.e 2 (by decide)) (io_2 T) T.g2 (hr.mono (by decide)) (takes_of rfl rfl rfl rfl) (pv 1))) pss_nil)), ?_⟩
    refine ⟨_, rfl, _, rfl, B.p, L, dx, _, _, rfl, ob, T.cl, T.n_stands, bfl_s B, B.s, _, rfl, DGet.k (k := Sum.inr z) s1, _, rfl, ?_⟩
    by_cases hz : z ∈ keys S.devs
    · exact if_f (by rw [(s2.has.trans look_isSome), decide_eq_true hz]; rfl) (r2 (by simp [hz]))
    · exact if_t (by rw [(s2.has.trans look_isSome), decide_eq_false hz]; rfl) ⟨_, rfl, raise1 fun d hd => (r1 (by simp [hz])).out hd⟩
theorem sc_Board__refuse_no_job : FnScope ["self", "job"] ["self", "job"] (defScope s_Board__refuse_no_job) := ⟨rfl, rfl, rfl, by decide +kernel, rfl, by decide +kernel, by decide +kernel⟩
theorem ok_refuse_no_job (T : Bx K mg C M L) : OkM P w K mg base (L2.CX P w) 3 L "_refuse_no_job" ["self", "job"] (spBRef C L 2 (fun S z => !decide (z ∈ keys S.crews))) := by
  refine T.m__refuse_no_job.okX sc_Board__refuse_no_job (fun _ _ _ _ _ _ us hl => match us, hl with | [_, _], _ => rfl) (fun vs H Q E h => ?_) (fun f cdv Ar outer st H vs Q E hr h => ?_)
  · obtain ⟨B, z, S, rfl, _⟩ := h
    rfl
  · obtain ⟨B, z, S, rfl, hB, r1, r2⟩ := h
    have hu := hu_of hr
    obtain ⟨⟨dx, ob⟩, ⟨q1, s1, s2⟩, ⟨q2, h1, h2⟩, ⟨q3, k1, k2⟩, ⟨q4, g1, g2⟩, inn, ⟨q5, c1, c2⟩, nd⟩ := id hB
    refine ⟨_, (pss_one (ps_if (pt_cmp (pc_dnotin hu (pv 1) (pe_fld (pv 0) rfl))) (pss_one (ps_raise1 (C := C 2) (f := "name") (W := fun cls d _ H => E cls d H) rfl (T.e 2 (by decide)) (io_2 T) T.g2 (hr.mono (by decide)) (takes_of rfl rfl rfl rfl) (pv 1))) pss_nil)), ?_⟩
    refine ⟨_, rfl, _, rfl, B.p, L, dx, _, _, rfl, ob, T.cl, T.n_crews, bfl_c B, B.c, _, rfl, DGet.k (k := Sum.inr z) c1, _, rfl, ?_⟩
    by_cases hz : z ∈ keys S.crews
    · exact if_f (by rw [(c2.has.trans look_isSome), decide_eq_true hz]; rfl) (r2 (by simp [hz]))
    · exact if_t (by rw [(c2.has.trans look_isSome), decide_eq_false hz]; rfl) ⟨_, rfl, raise1 fun d hd => (r1 (by simp [hz])).out hd⟩
theorem sc_Board_stands : FnScope ["self", "device"] ["self", "device"] (defScope s_Board_stands) := ⟨rfl, rfl, rfl, by decide +kernel, rfl, by decide +kernel, by decide +kernel⟩
theorem ok_stands (T : Bx K mg C M L) : OkM P w K mg base (L2.CX P w) 4 L "stands" ["self", "device"] (spBAsk C L K (fun d v _ _ => v = .str d.st)) := by
  refine T.m_stands.okX sc_Board_stands (fun _ _ _ _ _ _ us hl => match us, hl with | [_, _], _ => rfl) (fun vs H Q E h => ?_) (fun f cdv Ar outer st H vs Q E hr h => ?_)
  · obtain ⟨B, x, b, S, rfl, _⟩ := h
    rfl
  · obtain ⟨B, x, b, S, rfl, hB, hS, hn, h0, hD⟩ := h
    have hu := hu_of hr
    refine ⟨_, (pss_cons (ps_expr (pe_f (ok_need T) (hr.mono (by decide)) (passes_call (W := fun cls d _ H => E cls d H) (takes_of rfl rfl rfl rfl) (fun _ _ _ _ h => h)) (pa_cons pe_int (pa_cons (pe_f (ok_is_name T) (hr.mono (by decide)) pass0 (pa_cons (pv 1) pa_nil)) pa_nil)))) (pss_cons (ps_expr (pe_m (ok_refuse_no_device T) T.cl (hr.mono (by decide)) (passes_call (W := fun cls d _ H => E cls d H) (takes_of rfl rfl rfl rfl) (fun _ _ _ _ h => h)) (pv 0) (pa_cons (pv 1) pa_nil))) (pss_one (ps_ret (pe_dget hu (pe_fld (pv 0) rfl) (pv 1) (fun _ _ => rfl)))))), ?_⟩
    refine ⟨_, rfl, x, b, rfl, hn, fun H1 e1 => ⟨_, b, rfl, fun hb => ?_, fun hb => (h0 hb).along e1⟩⟩
    subst hb
    obtain ⟨z, rfl, hz⟩ := hn.yes
    have dd := hD z rfl hz
    replace hB := hB.same e1
    obtain ⟨⟨dx, ob⟩, ⟨q1, s1, s2⟩, ⟨q2, h1, h2⟩, ⟨q3, k1, k2⟩, ⟨q4, g1, g2⟩, inn, ⟨q5, c1, c2⟩, nd⟩ := id hB
    refine ⟨_, rfl, B.p, dx, _, rfl, ob, bfl_no B (by decide +kernel), _, rfl, B, z, S, rfl, hB, fun h => ?_, fun h => ?_⟩
    · have hin : z ∉ keys S.devs := by simpa using h
      exact (dd.1 hin).along e1
    cases el : look S.devs z with
    | none => exact absurd (by simpa using h) (look_none.mp el)
    | some a =>
      obtain ⟨v, ev, gv⟩ := s2.get el
      exact ⟨_, rfl, B.p, L, dx, _, _, rfl, ob, T.cl, T.n_stands, bfl_s B, _, rfl, B.s, v, rfl, (by have g := DGet.k (k := Sum.inr z) s1; rw [ev] at g; exact g), dd.2 a el _ _ e1 gv⟩
theorem sc_Board_home : FnScope ["self", "device"] ["self", "device"] (defScope s_Board_home) := ⟨rfl, rfl, rfl, by decide +kernel, rfl, by decide +kernel, by decide +kernel⟩
theorem ok_home (T : Bx K mg C M L) : OkM P w K mg base (L2.CX P w) 4 L "home" ["self", "device"] (spBAsk C L K (fun d v _ _ => v = .str d.home)) := by
  refine T.m_home.okX sc_Board_home (fun _ _ _ _ _ _ us hl => match us, hl with | [_, _], _ => rfl) (fun vs H Q E h => ?_) (fun f cdv Ar outer st H vs Q E hr h => ?_)
  · obtain ⟨B, x, b, S, rfl, _⟩ := h
    rfl
  · obtain ⟨B, x, b, S, rfl, hB, hS, hn, h0, hD⟩ := h
    have hu := hu_of hr
    refine ⟨_, (pss_cons (ps_expr (pe_f (ok_need T) (hr.mono (by decide)) (passes_call (W := fun cls d _ H => E cls d H) (takes_of rfl rfl rfl rfl) (fun _ _ _ _ h => h)) (pa_cons pe_int (pa_cons (pe_f (ok_is_name T) (hr.mono (by decide)) pass0 (pa_cons (pv 1) pa_nil)) pa_nil)))) (pss_cons (ps_expr (pe_m (ok_refuse_no_device T) T.cl (hr.mono (by decide)) (passes_call (W := fun cls d _ H => E cls d H) (takes_of rfl rfl rfl rfl) (fun _ _ _ _ h => h)) (pv 0) (pa_cons (pv 1) pa_nil))) (pss_one (ps_ret (pe_dget hu (pe_fld (pv 0) rfl) (pv 1) (fun _ _ => rfl)))))), ?_⟩
    refine ⟨_, rfl, x, b, rfl, hn, fun H1 e1 => ⟨_, b, rfl, fun hb => ?_, fun hb => (h0 hb).along e1⟩⟩
    subst hb
    obtain ⟨z, rfl, hz⟩ := hn.yes
    have dd := hD z rfl hz
    replace hB := hB.same e1
    obtain ⟨⟨dx, ob⟩, ⟨q1, s1, s2⟩, ⟨q2, h1, h2⟩, ⟨q3, k1, k2⟩, ⟨q4, g1, g2⟩, inn, ⟨q5, c1, c2⟩, nd⟩ := id hB
    refine ⟨_, rfl, B.p, dx, _, rfl, ob, bfl_no B (by decide +kernel), _, rfl, B, z, S, rfl, hB, fun h => ?_, fun h => ?_⟩
    · have hin : z ∉ keys S.devs := by simpa using h
      exact (dd.1 hin).along e1
    cases el : look S.devs z with
    | none => exact absurd (by simpa using h) (look_none.mp el)
    | some a =>
      obtain ⟨v, ev, gv⟩ := h2.get el
      exact ⟨_, rfl, B.p, L, dx, _, _, rfl, ob, T.cl, T.n_homes, bfl_h B, _, rfl, B.h, v, rfl, (by have g := DGet.k (k := Sum.inr z) h1; rw [ev] at g; exact g), dd.2 a el _ _ e1 gv⟩
theorem sc_Board__move : FnScope ["self", "device", "position"] ["self", "device", "position"] (defScope s_Board__move) := ⟨rfl, rfl, rfl, by decide +kernel, rfl, by decide +kernel, by decide +kernel⟩
theorem ok_move (T : Bx K mg C M L) : OkM P w K mg base (L2.CX P w) 3 L "_move" ["self", "device", "position"] (spBMove C L) := by
  refine T.m__move.okX sc_Board__move (fun _ _ _ _ _ _ us hl => match us, hl with | [_, _, _], _ => rfl) (fun vs H Q E h => ?_) (fun f cdv Ar outer st H vs Q E hr h => ?_)
  · obtain ⟨B, z, y, S, d, rfl, _⟩ := h
    rfl
  · obtain ⟨B, z, y, S, d, rfl, hB, hS, el, r1, r2⟩ := h
    have hu := hu_of hr
    obtain ⟨⟨dx, ob⟩, ⟨q1, s1, s2⟩, ⟨q2, h1, h2⟩, ⟨q3, k1, k2⟩, ⟨q4, g1, g2⟩, inn, ⟨q5, c1, c2⟩, nd⟩ := id hB
    refine ⟨_, (pss_one (ps_if (pt_cmpR op_ne (pe_dget hu (pe_fld (pv 0) rfl) (pv 1) (fun _ _ => rfl)) (pv 2) (nomark _)) (pss_cons (ps_if (pt_val (pe_dget hu (pe_fld (pv 0) rfl) (pv 1) (fun _ _ => rfl))) (pss_one (ps_raise1 (C := C 6) (f := "name") (W := fun cls d _ H => E cls d H) rfl (T.e 6 (by decide)) (io_6 T) T.g6 (hr.mono (by decide)) (takes_of rfl rfl rfl rfl) (pv 1))) pss_nil) (pss_one (ps_dput hu (pe_fld (pv 0) rfl) (pv 1) (pv 2) rfl))) pss_nil)), ?_⟩
    obtain ⟨v, ev, gv⟩ := s2.get el
    subst gv
    obtain ⟨u, eu, gu⟩ := k2.get el
    subst gu
    have hin : z ∈ keys S.devs := look_in el
    refine ⟨_, rfl, B.p, L, dx, _, _, rfl, ob, T.cl, T.n_stands, bfl_s B, _, rfl, B.s, .str d.st, rfl, (by have g := DGet.k (k := Sum.inr z) s1; rw [ev] at g; exact g), _, rfl, rfl, ?_⟩
    refine ⟨_, rfl, ?_⟩
    by_cases e : d.st = y
    · refine if_f (by simp [e]) (r2 (by simp [moveDue, e]) H ?_ Keep.refl)
      rw [setT_self hS.dN el (by rw [← e])]
      exact hB
    refine if_t (by simp [e]) ?_
    refine ⟨_, rfl, B.p, L, dx, _, _, rfl, ob, T.cl, T.n_stuck, bfl_k B, _, rfl, B.k, .bl d.stk, rfl, (by have g := DGet.k (k := Sum.inr z) k1; rw [eu] at g; exact g), ?_⟩
    refine ⟨_, rfl, ?_⟩
    cases hk : d.stk with
    | true => exact if_t rfl ⟨_, rfl, raise1 fun d hd => ((show Ref C 6 (.str z) H E from r1 (.stuck z) (by simp [moveDue, e, hk]))).out hd⟩
    | false =>
      refine if_f rfl ⟨_, rfl, _, rfl, B.p, L, dx, _, _, rfl, ob, T.cl, T.n_stands, bfl_s B, _, rfl, B.s, _, rfl, DPut.k (k := Sum.inr z) s1 (small1000 (by rw [s2.len]; have := hS.dL; omega)), ?_⟩
      exact r2 (by simp [moveDue, hk]) _ (hB.setSt (fun _ => rfl) (s2.upd (fun _ => rfl) hin)) (Keep.dput s1 (by simp [bms]))
theorem sc_Board_jobs_on : FnScope ["self", "device"] ["self", "device"] (defScope s_Board_jobs_on) := ⟨rfl, rfl, rfl, by decide +kernel, rfl, by decide +kernel, by decide +kernel⟩
theorem ok_jobs_on (T : Bx K mg C M L) : OkM P w K mg base (L2.CX P w) 4 L "jobs_on" ["self", "device"] (spBAsk C L K (fun d v H H' => ∃ p ys, v = .ref p ∧ H p = none ∧ Srt ys d.hung ∧ H' p = some (.lst (ys.map V.str)))) := by
  refine T.m_jobs_on.okX sc_Board_jobs_on (fun _ _ _ _ _ _ us hl => match us, hl with | [_, _], _ => rfl) (fun vs H Q E h => ?_) (fun f cdv Ar outer st H vs Q E hr h => ?_)
  · obtain ⟨B, x, b, S, rfl, _⟩ := h
    rfl
  · obtain ⟨B, x, b, S, rfl, hB, hS, hn, h0, hD⟩ := h
    have hu := hu_of hr
    refine ⟨_, (pss_cons (ps_expr (pe_f (ok_need T) (hr.mono (by decide)) (passes_call (W := fun cls d _ H => E cls d H) (takes_of rfl rfl rfl rfl) (fun _ _ _ _ h => h)) (pa_cons pe_int (pa_cons (pe_f (ok_is_name T) (hr.mono (by decide)) pass0 (pa_cons (pv 1) pa_nil)) pa_nil)))) (pss_cons (ps_expr (pe_m (ok_refuse_no_device T) T.cl (hr.mono (by decide)) (passes_call (W := fun cls d _ H => E cls d H) (takes_of rfl rfl rfl rfl) (fun _ _ _ _ h => h)) (pv 0) (pa_cons (pv 1) pa_nil))) (pss_one (ps_ret (pe_callB (call_sortedD rfl) (by rfl) T.b_sorted (by decide +kernel) (pa_cons (pe_dget hu (pe_fld (pv 0) rfl) (pv 1) (fun _ _ => rfl)) pa_nil)))))), ?_⟩
    refine ⟨_, rfl, x, b, rfl, hn, fun H1 e1 => ⟨_, b, rfl, fun hb => ?_, fun hb => (h0 hb).along e1⟩⟩
    subst hb
    obtain ⟨z, rfl, hz⟩ := hn.yes
    have dd := hD z rfl hz
    replace hB := hB.same e1
    obtain ⟨⟨dx, ob⟩, ⟨q1, s1, s2⟩, ⟨q2, h1, h2⟩, ⟨q3, k1, k2⟩, ⟨q4, g1, g2⟩, inn, ⟨q5, c1, c2⟩, nd⟩ := id hB
    refine ⟨_, rfl, B.p, dx, _, rfl, ob, bfl_no B (by decide +kernel), _, rfl, B, z, S, rfl, hB, fun h => ?_, fun h => ?_⟩
    · have hin : z ∉ keys S.devs := by simpa using h
      exact (dd.1 hin).along e1
    cases el : look S.devs z with
    | none => exact absurd (by simpa using h) (look_none.mp el)
    | some a =>
      obtain ⟨v, ev, gv⟩ := g2.get el
      subst gv
      have ia := inn _ (look_mem el)
      refine ⟨_, rfl, B.p, L, dx, _, _, rfl, ob, T.cl, T.n_hung, bfl_g B, _, rfl, B.g, .ref a.adr, rfl, (by have g := DGet.k (k := Sum.inr z) g1; rw [ev] at g; exact g), ?_⟩
      refine ⟨a.adr, _, a.hung, rfl, .inl ia, ?_, ?_, fun ys q m n c => ?_⟩
      · show List.map (fun x => x.fst) (jobsD a.hung) = List.map Sum.inr a.hung
        unfold jobsD
        rw [List.map_map]
        rfl
      · have hh := hS.hN _ (look_mem el)
        have : a.hung.length ≤ (keys S.crews).length := nodup_len hh.1 hh.2
        have h8 := hS.cL
        rw [keys, List.length_map] at this
        show a.hung.length < 64
        omega
      · exact dd.2 a el _ _ (e1.trans (Same.newp c)) ⟨q, ys, rfl, e1.free c, ⟨m, n⟩, upd_same⟩
theorem sc_Board__hands_on : FnScope ["self", "device", "but", "jobs", "job", "hand"] ["self", "device", "but"] (defScope s_Board__hands_on) := ⟨rfl, rfl, rfl, by decide +kernel, rfl, by decide +kernel, by decide +kernel⟩
theorem ok_hands_on (T : Bx K mg C M L) : OkM P w K mg base CX0 1 L "_hands_on" ["self", "device", "but"] (spHandsOn L) := by
  refine T.m__hands_on.ok sc_Board__hands_on (fun _ _ _ _ _ _ us hl => match us, hl with | [_, _, _], _ => rfl) (fun vs H Q E h => ?_) (fun f cdv Ar outer st H vs Q E hr h => ?_)
  · obtain ⟨B, z, but, S, d, rfl, _⟩ := h
    rfl
  · obtain ⟨B, z, but, S, d, rfl, hB, hS, el, k⟩ := h
    have hu := hu_of hr
    obtain ⟨⟨dx, ob⟩, ⟨q1, s1, s2⟩, ⟨q2, h1, h2⟩, ⟨q3, k1, k2⟩, ⟨q4, g1, g2⟩, inn, ⟨q5, c1, c2⟩, nd⟩ := id hB
    obtain ⟨v, ev, gv⟩ := g2.get el
    subst gv
    have ia : H d.adr = some (.dK (jobsD d.hung)) := inn _ (look_mem el)
    have ngd : B.g ≠ d.adr := fun w => by
      rw [bms] at nd
      have := List.nodup_append.mp nd
      exact this.2.2 B.g (by simp) _ (List.mem_map_of_mem (f := fun e : Str × DevV => e.2.adr) (look_mem el)) w
    have npd : B.p ≠ d.adr := ne_of ob ia (by intro z; cases z)
    refine ⟨_, (pss_cons (ps_lock (ps_setLc (i := 3) (own := [("job", 4)]) rfl sc_Board__hands_on.nd rfl rfl (sw_true rfl rfl rfl (by decide +kernel)) (pi_keys (pe_dget hu (pe_fld (pv 0) rfl) (pv 1) (fun _ _ => rfl))) (blkOk_by (N := ["self", "device", "but", "jobs", "job", "hand"]) (sc := (defScope s_Board__hands_on)) (by decide +kernel)) (fun _ _ _ _ _ => (pg_name (i := 4) sc_Board__hands_on.nd rfl (Or.inl rfl))) (fun _ _ _ _ _ => (pts_one (pt_cmpR op_ne (pv 4) (pv 2) (nomark _)))) (fun _ _ _ _ _ => (pv 4)))) (pss_one (ps_ret (pe_callB (cr_sortedX rfl) (by rfl) T.b_sorted (by decide +kernel) (pa_cons (pe_sc2 (own := [("job", 4), ("hand", 5)]) (vs1 := [5]) rfl sc_Board__hands_on.nd (pi_list (pv 3)) (blkOk_by (N := ["self", "device", "but", "jobs", "job", "hand"]) (sc := (defScope s_Board__hands_on)) (by decide +kernel)) (by decide) (fun _ _ _ _ _ => (pg_name (i := 4) sc_Board__hands_on.nd rfl (Or.inl rfl))) (fun _ _ _ _ _ => (pi_listK (K := K) rfl (pe_dget hu (pe_fldK (K := K) rfl (pv 0) rfl) (pv 4) (fun _ _ => rfl)))) (fun _ _ _ _ _ => (pg_name (i := 5) sc_Board__hands_on.nd rfl (Or.inl rfl))) (fun _ _ _ _ _ => (pv 5))) pa_nil))))), ?_⟩
    refine ⟨d.adr, _, ia, True.intro, fun od => ?_⟩
    refine ⟨_, rfl, B.p, L, dx, _, _, rfl, (upd_ne npd).trans ob, T.cl, T.n_hung, bfl_g B, _, rfl, B.g, .ref d.adr, rfl, dget_of ((upd_ne ngd).trans g1) ev, ?_⟩
    refine ⟨d.adr, od, rfl, .inl ⟨jobsD d.hung, upd_same, fun D hD => ?_⟩⟩
    refine lc_it walk_keys (fun i H1 => Same (upd H d.adr (.frz od (.dK (jobsD d.hung)))) H1 ∧ H1 D = some (.lst (((d.hung.take i).filter fun j => decide (some j ≠ but)).map V.str))) ⟨Same.newp hD, upd_same⟩ (fun _ _ _ q => q.1 _ _ upd_same) ?_ ?_
    · rintro i x H1 H2 hi ⟨e2, h1⟩ ⟨rfl, kk, vv, ek, rfl⟩
      unfold jobsD at ek
      rw [List.getElem?_map] at ek
      obtain ⟨j, ej, eq⟩ := Option.map_eq_some_iff.mp ek
      cases eq
      have tk : d.hung.take (i + 1) = d.hung.take i ++ [j] := by
        rw [List.take_add_one, ej]
        rfl
      have nD : ∀ b u, upd H d.adr (.frz od (.dK (jobsD d.hung))) b = some u → b ≠ D := fun b u e => ne_of_none e hD
      have li : i < d.hung.length := (List.getElem?_eq_some_iff.mp ej).1
      have few : ((d.hung.take i).filter fun j => decide (some j ≠ but)).length ≤ 8 := by
        have hh := hS.hN _ (look_mem el)
        have a1 : d.hung.length ≤ (keys S.crews).length := nodup_len hh.1 hh.2
        have h8 := hS.cL
        rw [keys, List.length_map] at a1
        have a2 := List.length_filter_le (fun j => decide (some j ≠ but)) (d.hung.take i)
        rw [List.length_take] at a2
        omega
      refine ⟨rfl, _, rfl, butV but, rfl, ?_⟩
      have vb : (V.str j = butV but) ↔ some j = but := by cases but <;> simp [butV]
      refine ⟨(by cases but <;> rfl), _, rfl, ?_⟩
      by_cases hb : some j = but
      · refine if_f (by simp [kV, vb, hb]) ⟨e2, ?_⟩
        rw [tk, List.filter_append, List.filter_cons, if_neg (by simp [hb]), List.filter_nil, List.append_nil]
        exact h1
      · refine if_t (by simp [kV, vb, hb]) ⟨_, rfl, _, h1, ?_, fun b u e => ?_, ?_⟩
        · rw [List.length_map]
          exact small1000 (by omega)
        · rw [upd_ne (nD b u e)]
          exact e2 b u e
        · rw [upd_same, tk, List.filter_append, List.filter_cons, if_pos (by simp [hb]), List.filter_nil, List.map_append]
          rfl
    · rintro H1 ⟨e2, h1⟩
      rw [show (jobsD d.hung).length = d.hung.length by simp [jobsD], List.take_length] at h1
      have nDl : D ≠ d.adr := fun w => by
        rw [w, upd_same] at hD
        cases hD
      have hf1 := e2 _ _ upd_same
      have s1' : Same H (upd H1 d.adr (.dK (jobsD d.hung))) := fun b u e => by
        by_cases eb : b = d.adr
        · rw [eb, upd_same, ← ia, ← eb, e]
        · rw [upd_ne eb]
          exact e2 _ _ ((upd_ne eb).trans e)
      have hDn : H D = none := (upd_ne nDl).symm.trans hD
      have h1' : upd H1 d.adr (.dK (jobsD d.hung)) D = some (.lst ((d.hung.filter fun j => decide (some j ≠ but)).map V.str)) := (upd_ne nDl).trans h1
      refine ⟨hf1, ?_⟩
      generalize upd H1 d.adr (.dK (jobsD d.hung)) = H2 at s1' h1' ⊢
      clear h1 e2 hf1
      have hB2 := hB.same s1'
      have hjs : ∀ j ∈ d.hung.filter fun j => decide (some j ≠ but), j ∈ keys S.crews := fun j m => (hS.hN _ (look_mem el)).2 j (List.mem_filter.mp m).1
      have ljs : (d.hung.filter fun j => decide (some j ≠ but)).length ≤ 8 := by
        have hh := hS.hN _ (look_mem el)
        have a1 : d.hung.length ≤ (keys S.crews).length := nodup_len hh.1 hh.2
        have h8 := hS.cL
        rw [keys, List.length_map] at a1
        have a2 := List.length_filter_le (fun j => decide (some j ≠ but)) d.hung
        omega
      have eho : handsOn S d but = handSet S (d.hung.filter fun j => decide (some j ≠ but)) := rfl
      rw [eho] at k
      generalize (d.hung.filter fun j => decide (some j ≠ but)) = js at *
      refine ⟨_, rfl, D, rfl, ⟨_, SqL.of h1'⟩, fun D2 hD2 => ?_⟩
      have s2' : Same H (upd H2 D2 (SetXO P w D2 [])) := s1'.trans (Same.newp hD2)
      refine roll_list (K := K) (a := D) (xs := js.map V.str) (fun i G => Same H2 G ∧ G D2 = some (SetXO P w D2 (handSet S (js.take i)))) ⟨Same.newp hD2, upd_same⟩ (fun i G _ q => SqL.of (q.1 _ _ h1')) ?_ ?_
      · rintro i y G hi ⟨e3, g3⟩
        rw [List.getElem?_map] at hi
        obtain ⟨j, ej, rfl⟩ := Option.map_eq_some_iff.mp hi
        have mj : j ∈ js := List.mem_of_getElem? ej
        have li : i < js.length := (List.getElem?_eq_some_iff.mp ej).1
        have tk : js.take (i + 1) = js.take i ++ [j] := by
          rw [List.take_add_one, ej]
          rfl
        have hB3 := hB2.same e3
        obtain ⟨dx3, ob3⟩ := hB3.ob
        obtain ⟨q6, c3, c4⟩ := hB3.cr
        obtain ⟨⟨a3, hs⟩, eh, ec, l6, l1⟩ := crew_of hS (hjs j mj)
        dsimp only at ec l6 l1
        obtain ⟨v3, ev3, rfl, ha3⟩ := c4.get eh
        dsimp only at ha3 ev3
        have ll : (handSet S (js.take i)).length ≤ 6 * 8 := by
          have q := handSet_len hS (js.take i) (fun x m => hjs x (List.mem_of_mem_take m)) []
          rw [List.length_take] at q
          refine Nat.le_trans q ?_
          simp only [List.length_nil]
          omega
        refine ⟨rfl, _, rfl, B.p, L, dx3, _, _, rfl, ob3, T.cl, T.n_crews, bfl_c B, _, rfl, B.c, .ref a3, rfl, dget_of c3 ev3, a3, rfl, ⟨_, SqL.of ha3⟩, ?_⟩
        refine roll_list (K := K) (a := a3) (xs := hs.map V.str) (fun n G2 => Same H2 G2 ∧ G2 a3 = some (.lst (hs.map V.str)) ∧ G2 D2 = some (SetXO P w D2 ((hs.take n).foldl putX (handSet S (js.take i))))) ⟨e3, ha3, g3⟩ (fun n G2 _ q => SqL.of q.2.1) ?_ ?_
        · rintro n y2 G2 hn ⟨e4, h4, g4⟩
          rw [List.getElem?_map] at hn
          obtain ⟨x, ex, rfl⟩ := Option.map_eq_some_iff.mp hn
          have ln : n < hs.length := (List.getElem?_eq_some_iff.mp ex).1
          have fl := foldX_len (hs.take n) (handSet S (js.take i))
          rw [List.length_take] at fl
          have nD2 : ∀ b u, H2 b = some u → b ≠ D2 := fun b u e => ne_of_none e hD2
          have na3 : a3 ≠ D2 := fun e => by rw [e, g4] at h4; cases h4
          refine ⟨rfl, _, rfl, x, _, rfl, g4, Nat.lt_of_le_of_lt (show _ ≤ 63 by omega) (by decide), fun b u e => ?_, ?_, ?_⟩
          · rw [upd_ne (nD2 b u e)]
            exact e4 b u e
          · exact (upd_ne na3).trans h4
          · rw [upd_same, List.take_add_one, ex]
            rw [show hs.take n ++ (some x).toList = hs.take n ++ [x] from rfl, foldX_snoc]
            rfl
        · rintro G2 ⟨e4, h4, g4⟩
          refine ⟨e4, ?_⟩
          rw [List.length_map, List.take_length] at g4
          rw [g4, tk, handSet_snoc, ec]
      · rintro G ⟨e3, g3⟩
        rw [List.length_map, List.take_length] at g3
        have ll : (handSet S js).length ≤ 6 * 8 := by
          have q := handSet_len hS js hjs []
          refine Nat.le_trans q ?_
          simp only [List.length_nil]
          omega
        refine ⟨D2, _, rfl, g3, by omega, fun ys p pm sy hp => k _ p ys ⟨pm, sy⟩ ((s1'.trans e3).trans (Same.newp hp)) ((s1'.trans e3).free hp) upd_same⟩
theorem sc_Board__refuse_held : FnScope ["self", "device", "but", "hands"] ["self", "device", "but"] (defScope s_Board__refuse_held) := ⟨rfl, rfl, rfl, by decide +kernel, rfl, by decide +kernel, by decide +kernel⟩
theorem ok_refuse_held (T : Bx K mg C M L) : OkM P w K mg base (L2.CX P w) 3 L "_refuse_held" ["self", "device", "but"] (spBHeld C L) := by
  refine T.m__refuse_held.okX sc_Board__refuse_held (fun _ _ _ _ _ _ us hl => match us, hl with | [_, _, _], _ => rfl) (fun vs H Q E h => ?_) (fun f cdv Ar outer st H vs Q E hr h => ?_)
  · obtain ⟨B, z, but, S, d, rfl, _⟩ := h
    rfl
  · obtain ⟨B, z, but, S, d, rfl, hB, hS, el, r1, r2⟩ := h
    obtain ⟨⟨dx, ob⟩, ⟨q1, s1, s2⟩, ⟨q2, h1, h2⟩, ⟨q3, k1, k2⟩, ⟨q4, g1, g2⟩, inn, ⟨q5, c1, c2⟩, nd⟩ := id hB
    refine ⟨_, (pss_cons (ps_set (i := 3) sc_Board__refuse_held.nd rfl (Or.inl rfl) (pe_m (ok_hands_on T) T.cl (hr.mono (by decide)) pass0 (pv 0) (pa_cons (pv 1) (pa_cons (pv 2) pa_nil)))) (pss_one (ps_if (pt_truth (pv 3) (fun _ => rfl)) (pss_one (ps_raise1 (C := C 5) (f := "hands") (W := fun cls d _ H => E cls d H) rfl (T.e 5 (by decide)) (io_5 T) T.g5 (hr.mono (by decide)) (takes_of rfl rfl rfl rfl) (pv 3))) pss_nil))), ?_⟩
    refine ⟨_, rfl, B.p, dx, _, rfl, ob, bfl_no B (by decide +kernel), _, rfl, _, rfl, B, z, but, S, d, rfl, hB, hS, el, fun H1 p ys sy e1 np hp => ?_⟩
    refine ⟨_, rfl, !(ys.map V.str).isEmpty, .inl ⟨_, SqL.of hp, rfl⟩, ?_⟩
    by_cases e : handsOn S d but = []
    · have ey : ys = [] := List.Perm.eq_nil (by have := sy.1; rw [e] at this; exact this)
      exact if_f (by rw [ey]; rfl) (r2 (by simp [heldDue, e]) H1 e1)
    · have ey : ys ≠ [] := fun w => e (List.Perm.eq_nil (by have := sy.1.symm; rw [w] at this; exact this))
      refine if_t (by cases ys with | nil => exact absurd rfl ey | cons a t => rfl) ⟨_, rfl, raise1 fun x hx => ?_⟩
      have rr := r1 (.held (handsOn S d but)) (by simp [heldDue, e])
      exact rr ys sy x p _ (e1.trans (Same.newp hx)) (e1.free hx) np upd_same ((Same.newp hx) _ _ hp)
theorem sc_Board_turn : FnScope ["self", "device", "position"] ["self", "device", "position"] (defScope s_Board_turn) := ⟨rfl, rfl, rfl, by decide +kernel, rfl, by decide +kernel, by decide +kernel⟩
theorem ok_turn (T : Bx K mg C M L) : OkM P w K mg base (L2.CX P w) 4 L "turn" ["self", "device", "position"] (spBTurn C L K) := by
  refine T.m_turn.okX sc_Board_turn (fun _ _ _ _ _ _ us hl => match us, hl with | [_, _, _], _ => rfl) (fun vs H Q E h => ?_) (fun f cdv Ar outer st H vs Q E hr h => ?_)
  · obtain ⟨B, x, y, b, c, S, rfl, _⟩ := h
    rfl
  · obtain ⟨B, x, y, b, c, S, rfl, hB, hS, hn, hm, h0, h1', hD⟩ := h
    have hu := hu_of hr
    refine ⟨_, (pss_cons (ps_expr (pe_f (ok_need T) (hr.mono (by decide)) (passes_call (W := fun cls d _ H => E cls d H) (takes_of rfl rfl rfl rfl) (fun _ _ _ _ h => h)) (pa_cons pe_int (pa_cons (pe_f (ok_is_name T) (hr.mono (by decide)) pass0 (pa_cons (pv 1) pa_nil)) pa_nil)))) (pss_cons (ps_expr (pe_f (ok_need T) (hr.mono (by decide)) (passes_call (W := fun cls d _ H => E cls d H) (takes_of rfl rfl rfl rfl) (fun _ _ _ _ h => h)) (pa_cons pe_int (pa_cons (pe_f (ok_is_position T) (hr.mono (by decide)) pass0 (pa_cons (pv 2) pa_nil)) pa_nil)))) (pss_cons (ps_expr (pe_m (ok_refuse_no_device T) T.cl (hr.mono (by decide)) (passes_call (W := fun cls d _ H => E cls d H) (takes_of rfl rfl rfl rfl) (fun _ _ _ _ h => h)) (pv 0) (pa_cons (pv 1) pa_nil))) (pss_cons (ps_expr (pe_m (ok_refuse_held T) T.cl (hr.mono (by decide)) (passes_call (W := fun cls d _ H => E cls d H) (takes_of rfl rfl rfl rfl) (fun _ _ _ _ h => h)) (pv 0) (pa_cons (pv 1) (pa_cons pe_non pa_nil)))) (pss_cons (ps_expr (pe_m (ok_move T) T.cl (hr.mono (by decide)) (passes_call (W := fun cls d _ H => E cls d H) (takes_of rfl rfl rfl rfl) (fun _ _ _ _ h => h)) (pv 0) (pa_cons (pv 1) (pa_cons (pv 2) pa_nil)))) (pss_one (ps_dput hu (pe_fld (pv 0) rfl) (pv 1) (pv 2) rfl))))))), ?_⟩
    refine ⟨_, rfl, x, b, rfl, hn, fun H1 e1 => ⟨_, b, rfl, fun hb => ?_, fun hb => (h0 hb).along e1⟩⟩
    refine ⟨_, rfl, y, c, rfl, hm.same e1, ⟨_, c, rfl, fun hc => ?_, fun hc => (h1' hb hc).along e1⟩⟩
    subst hb hc
    obtain ⟨z, rfl, hz⟩ := hn.yes
    obtain ⟨r, rfl, hr2⟩ := hm.yes
    have dd := hD z r rfl rfl hz hr2
    replace hB := hB.same e1
    obtain ⟨dx, ob⟩ := id hB.ob
    refine ⟨_, rfl, B.p, dx, _, rfl, ob, bfl_no B (by decide +kernel), _, rfl, B, z, S, rfl, hB, fun h => ?_, fun h => ?_⟩
    · have hin : z ∉ keys S.devs := by simpa using h
      exact (show Ref C 2 (.str z) H E from dd.2 (.lacks z) (by simp [BS.due, look_none.mpr hin])).along e1
    cases el : look S.devs z with
    | none => exact absurd (by simpa using h) (look_none.mp el)
    | some d =>
    refine ⟨_, rfl, B.p, dx, _, rfl, ob, bfl_no B (by decide +kernel), _, rfl, B, z, none, S, d, rfl, hB, hS, el, fun f hf => (dd.2 f (by simp [BS.due, el, hf])).along e1, fun hh H2 e2 => ?_⟩
    replace hB := hB.same e2
    obtain ⟨dx, ob⟩ := id hB.ob
    refine ⟨_, rfl, B.p, dx, _, rfl, ob, bfl_no B (by decide +kernel), _, rfl, _, rfl, B, z, r, S, d, rfl, hB, hS, el, fun f hf => (dd.2 f (by simp [BS.due, el, hf, hh])).along (e1.trans e2), fun hf H3 hB3 k3 => ?_⟩
    have hin : z ∈ keys S.devs := look_in el
    clear ob hB
    have hB := hB3
    clear hB3
    obtain ⟨⟨dx, ob⟩, ⟨q1, s1, s2⟩, ⟨q2, h1, h2⟩, ⟨q3, k1, k2⟩, ⟨q4, g1, g2⟩, inn, ⟨q5, c1, c2⟩, nd⟩ := id hB
    refine ⟨_, rfl, _, rfl, B.p, L, dx, _, _, rfl, ob, T.cl, T.n_homes, bfl_h B, _, rfl, B.h, _, rfl, DPut.k (k := Sum.inr z) h1 (small1000 (by rw [h2.len]; have := hS.dL; simp [setT]; omega)), ?_⟩
    have uu := h2.upd (f := fun d : DevV => { d with home := r }) (v := .str r) (fun _ => rfl) (by rw [keys_setT]; exact hin)
    have q := hB.setHo (z := z) (f := fun d => { d with home := r }) (fun _ => rfl) uu
    rw [show setT (setT S.devs z fun d => { d with st := r }) z (fun d => { d with home := r }) = _ from setT_setT] at q
    refine dd.1 (by simp [BS.due, el, hh, hf]) _ q (((Keep.of (e1.trans e2)).trans k3).trans (Keep.dput h1 (by simp [bms])))
theorem sc_Board_hold : FnScope ["self", "device", "position", "job"] ["self", "device", "position", "job"] (defScope s_Board_hold) := ⟨rfl, rfl, rfl, by decide +kernel, rfl, by decide +kernel, by decide +kernel⟩
theorem ok_hold (T : Bx K mg C M L) : OkM P w K mg base (L2.CX P w) 4 L "hold" ["self", "device", "position", "job"] (spBHold C L K) := by
  refine T.m_hold.okX sc_Board_hold (fun _ _ _ _ _ _ us hl => match us, hl with | [_, _, _, _], _ => rfl) (fun vs H Q E h => ?_) (fun f cdv Ar outer st H vs Q E hr h => ?_)
  · obtain ⟨B, x, y, u, b, c, g, S, rfl, _⟩ := h
    rfl
  · obtain ⟨B, x, y, u, b, c, g, S, rfl, hB, hS, hn, hm, hv, h0, h1', h2', hD⟩ := h
    have hu := hu_of hr
    refine ⟨_, (pss_cons (ps_expr (pe_f (ok_need T) (hr.mono (by decide)) (passes_call (W := fun cls d _ H => E cls d H) (takes_of rfl rfl rfl rfl) (fun _ _ _ _ h => h)) (pa_cons pe_int (pa_cons (pe_f (ok_is_name T) (hr.mono (by decide)) pass0 (pa_cons (pv 1) pa_nil)) pa_nil)))) (pss_cons (ps_expr (pe_f (ok_need T) (hr.mono (by decide)) (passes_call (W := fun cls d _ H => E cls d H) (takes_of rfl rfl rfl rfl) (fun _ _ _ _ h => h)) (pa_cons pe_int (pa_cons (pe_f (ok_is_position T) (hr.mono (by decide)) pass0 (pa_cons (pv 2) pa_nil)) pa_nil)))) (pss_cons (ps_expr (pe_f (ok_need T) (hr.mono (by decide)) (passes_call (W := fun cls d _ H => E cls d H) (takes_of rfl rfl rfl rfl) (fun _ _ _ _ h => h)) (pa_cons pe_int (pa_cons (pe_f (ok_is_name T) (hr.mono (by decide)) pass0 (pa_cons (pv 3) pa_nil)) pa_nil)))) (pss_cons (ps_expr (pe_m (ok_refuse_no_device T) T.cl (hr.mono (by decide)) (passes_call (W := fun cls d _ H => E cls d H) (takes_of rfl rfl rfl rfl) (fun _ _ _ _ h => h)) (pv 0) (pa_cons (pv 1) pa_nil))) (pss_cons (ps_expr (pe_m (ok_refuse_no_job T) T.cl (hr.mono (by decide)) (passes_call (W := fun cls d _ H => E cls d H) (takes_of rfl rfl rfl rfl) (fun _ _ _ _ h => h)) (pv 0) (pa_cons (pv 3) pa_nil))) (pss_cut (ps_if (pt_cmpR op_ne (pe_dget hu (pe_fld (pv 0) rfl) (pv 1) (fun _ _ => rfl)) (pv 2) (nomark _)) (pss_one (ps_expr (pe_m (ok_refuse_held T) T.cl (hr.mono (by decide)) (passes_call (W := fun cls d _ H => E cls d H) (takes_of rfl rfl rfl rfl) (fun _ _ _ _ h => h)) (pv 0) (pa_cons (pv 1) (pa_cons (pv 3) pa_nil))))) pss_nil) (pss_cons (ps_expr (pe_m (ok_move T) T.cl (hr.mono (by decide)) (passes_call (W := fun cls d _ H => E cls d H) (takes_of rfl rfl rfl rfl) (fun _ _ _ _ h => h)) (pv 0) (pa_cons (pv 1) (pa_cons (pv 2) pa_nil)))) (pss_one (ps_dput hu (pe_dget hu (pe_fld (pv 0) rfl) (pv 1) (fun _ _ => rfl)) (pv 3) pe_bl rfl))))))))), ?_⟩
    refine ⟨_, rfl, x, b, rfl, hn, fun H1 e1 => ⟨_, b, rfl, fun hb => ?_, fun hb => (h0 hb).along e1⟩⟩
    refine ⟨_, rfl, y, c, rfl, hm.same e1, ⟨_, c, rfl, fun hc => ?_, fun hc => (h1' hb hc).along e1⟩⟩
    refine ⟨_, rfl, u, g, rfl, hv.same e1, fun H2 e2 => ⟨_, g, rfl, fun hg => ?_, fun hg => (h2' hb hc hg).along (e1.trans e2)⟩⟩
    replace e1 := e1.trans e2
    subst hb hc hg
    obtain ⟨z, rfl, hz⟩ := hn.yes
    obtain ⟨r, rfl, hr2⟩ := hm.yes
    obtain ⟨j, rfl, hj⟩ := hv.yes
    have dd := hD z r j rfl rfl rfl hz hr2 hj
    replace hB := hB.same e1
    obtain ⟨dx, ob⟩ := id hB.ob
    refine ⟨_, rfl, B.p, dx, _, rfl, ob, bfl_no B (by decide +kernel), _, rfl, B, z, S, rfl, hB, fun h => ?_, fun h => ?_⟩
    · have hin : z ∉ keys S.devs := by simpa using h
      exact (show Ref C 2 (.str z) H E from dd.2 (.lacks z) (by simp [BS.due, look_none.mpr hin])).along e1
    cases el : look S.devs z with
    | none => exact absurd (by simpa using h) (look_none.mp el)
    | some d =>
    refine ⟨_, rfl, B.p, dx, _, rfl, ob, bfl_no B (by decide +kernel), _, rfl, B, j, S, rfl, hB, fun h => ?_, fun h => ?_⟩
    · have hjn : j ∉ keys S.crews := by simpa using h
      exact (show Ref C 2 (.str j) H E from dd.2 (.lacks j) (by simp [BS.due, el, hjn])).along e1
    have hjc : j ∈ keys S.crews := by simpa using h
    have hin : z ∈ keys S.devs := look_in el
    have due : S.due (.hold z r j) = (if d.st = r then none else heldDue S d (some j)).or (moveDue z r d) := by simp [BS.due, el, hjc]
    refine ⟨fun σ' H' => σ' = [some (.ref B.p), some (.str z), some (.str r), some (.str j)] ∧ Same H2 H' ∧ (if d.st = r then none else heldDue S d (some j)) = none, ?_, ?_⟩
    · clear ob
      obtain ⟨⟨dx, ob⟩, ⟨q1, s1, s2⟩, ⟨q2, h1, h2⟩, ⟨q3, k1, k2⟩, ⟨q4, g1, g2⟩, inn, ⟨q5, c1, c2⟩, nd⟩ := id hB
      obtain ⟨v, ev, gv⟩ := s2.get el
      subst gv
      refine ⟨_, rfl, B.p, L, dx, _, _, rfl, ob, T.cl, T.n_stands, bfl_s B, _, rfl, B.s, .str d.st, rfl, dget_of s1 ev, _, rfl, rfl, ?_⟩
      refine ⟨_, rfl, ?_⟩
      by_cases e : d.st = r
      · exact if_f (by simp [e]) ⟨rfl, fun _ _ e => e, if_pos e⟩
      refine if_t (by simp [e]) ?_
      refine ⟨_, rfl, B.p, dx, _, rfl, ob, bfl_no B (by decide +kernel), _, rfl, _, rfl, B, z, some j, S, d, rfl, hB, hS, el, fun f hf => (dd.2 f (by rw [due, if_neg e, hf]; rfl)).along e1, fun hh H3 e3 => ⟨rfl, e3, (if_neg e).trans hh⟩⟩
    · rintro σ' H3 ⟨rfl, e3, hh⟩
      replace hB := hB.same e3
      replace ob := e3 _ _ ob
      refine ⟨_, rfl, B.p, dx, _, rfl, ob, bfl_no B (by decide +kernel), _, rfl, _, rfl, B, z, r, S, d, rfl, hB, hS, el, fun f hf => (dd.2 f (by rw [due, hh, hf]; rfl)).along (e1.trans e3), fun hf H4 hB4 k4 => ?_⟩
      clear ob
      have hB := hB4
      obtain ⟨⟨dx, ob⟩, ⟨q1, s1, s2⟩, ⟨q2, h1, h2⟩, ⟨q3, k1, k2⟩, ⟨q4, g1, g2⟩, inn, ⟨q5, c1, c2⟩, nd⟩ := id hB
      have el' : look (setT S.devs z fun d => { d with st := r }) z = some { d with st := r } := by rw [look_setT, if_pos rfl, el]; rfl
      obtain ⟨v, ev, gv⟩ := g2.get el'
      subst gv
      have ia := inn _ (look_mem el')
      have l8 : d.hung.length ≤ 8 := hung_len hS el
      refine ⟨_, rfl, B.p, L, dx, _, _, rfl, ob, T.cl, T.n_hung, bfl_g B, _, rfl, B.g, .ref d.adr, rfl, dget_of g1 ev, _, rfl, d.adr, _, rfl, DPut.k (k := Sum.inr j) ia (small1000 (by simp only [jobsD, List.length_map]; omega)), ?_⟩
      have q := hB.setG (z := z) (f := fun d => { d with hung := if j ∈ d.hung then d.hung else d.hung ++ [j] }) (by rw [keys_setT]; exact hS.dN) el' (fun _ => rfl)
      rw [show setT (setT S.devs z fun d => { d with st := r }) z (fun d => { d with hung := if j ∈ d.hung then d.hung else d.hung ++ [j] }) = _ from setT_setT] at q
      rw [jobsD_put]
      exact dd.1 (by rw [due, hh, hf]; rfl) _ q (((Keep.of (e1.trans e3)).trans k4).trans (Keep.dput ia (bms_adr (look_mem el))))
theorem sc_Board_free : FnScope ["self", "device", "job"] ["self", "device", "job"] (defScope s_Board_free) := ⟨rfl, rfl, rfl, by decide +kernel, rfl, by decide +kernel, by decide +kernel⟩
theorem ok_free (T : Bx K mg C M L) : OkM P w K mg base (L2.CX P w) 4 L "free" ["self", "device", "job"] (spBFree C L K) := by
  refine T.m_free.okX sc_Board_free (fun _ _ _ _ _ _ us hl => match us, hl with | [_, _, _], _ => rfl) (fun vs H Q E h => ?_) (fun f cdv Ar outer st H vs Q E hr h => ?_)
  · obtain ⟨B, x, u, b, g, S, rfl, _⟩ := h
    rfl
  · obtain ⟨B, x, u, b, g, S, rfl, hB, hS, hn, hv, h0, h1', hD⟩ := h
    have hu := hu_of hr
    refine ⟨_, (pss_cons (ps_expr (pe_f (ok_need T) (hr.mono (by decide)) (passes_call (W := fun cls d _ H => E cls d H) (takes_of rfl rfl rfl rfl) (fun _ _ _ _ h => h)) (pa_cons pe_int (pa_cons (pe_f (ok_is_name T) (hr.mono (by decide)) pass0 (pa_cons (pv 1) pa_nil)) pa_nil)))) (pss_cons (ps_expr (pe_f (ok_need T) (hr.mono (by decide)) (passes_call (W := fun cls d _ H => E cls d H) (takes_of rfl rfl rfl rfl) (fun _ _ _ _ h => h)) (pa_cons pe_int (pa_cons (pe_f (ok_is_name T) (hr.mono (by decide)) pass0 (pa_cons (pv 2) pa_nil)) pa_nil)))) (pss_cons (ps_expr (pe_m (ok_refuse_no_device T) T.cl (hr.mono (by decide)) (passes_call (W := fun cls d _ H => E cls d H) (takes_of rfl rfl rfl rfl) (fun _ _ _ _ h => h)) (pv 0) (pa_cons (pv 1) pa_nil))) (pss_cons (ps_expr (pe_m (ok_refuse_no_job T) T.cl (hr.mono (by decide)) (passes_call (W := fun cls d _ H => E cls d H) (takes_of rfl rfl rfl rfl) (fun _ _ _ _ h => h)) (pv 0) (pa_cons (pv 2) pa_nil))) (pss_one (ps_if (pt_cmp (pc_din hu (pv 2) (pe_dget hu (pe_fld (pv 0) rfl) (pv 1) (fun _ _ => rfl)))) (pss_cut (ps_if (pt_cmpR op_eq (pe_callB call_lenD (by rfl) T.b_len PySem.boot_len (pa_cons (pe_dget hu (pe_fld (pv 0) rfl) (pv 1) (fun _ _ => rfl)) pa_nil)) pe_int (nomark _)) (pss_one (ps_expr (pe_m (ok_move T) T.cl (hr.mono (by decide)) (passes_call (W := fun cls d _ H => E cls d H) (takes_of rfl rfl rfl rfl) (fun _ _ _ _ h => h)) (pv 0) (pa_cons (pv 1) (pa_cons (pe_dget hu (pe_fld (pv 0) rfl) (pv 1) (fun _ _ => rfl)) pa_nil))))) pss_nil) (pss_one (ps_ddel (pe_dget hu (pe_fld (pv 0) rfl) (pv 1) (fun _ _ => rfl)) (pv 2)))) pss_nil)))))), ?_⟩
    refine ⟨_, rfl, x, b, rfl, hn, fun H1 e1 => ⟨_, b, rfl, fun hb => ?_, fun hb => (h0 hb).along e1⟩⟩
    refine ⟨_, rfl, u, g, rfl, hv.same e1, fun H2 e2 => ⟨_, g, rfl, fun hg => ?_, fun hg => (h1' hb hg).along (e1.trans e2)⟩⟩
    replace e1 := e1.trans e2
    subst hb hg
    obtain ⟨z, rfl, hz⟩ := hn.yes
    obtain ⟨j, rfl, hj⟩ := hv.yes
    have dd := hD z j rfl rfl hz hj
    replace hB := hB.same e1
    obtain ⟨dx, ob⟩ := id hB.ob
    refine ⟨_, rfl, B.p, dx, _, rfl, ob, bfl_no B (by decide +kernel), _, rfl, B, z, S, rfl, hB, fun h => ?_, fun h => ?_⟩
    · have hin : z ∉ keys S.devs := by simpa using h
      exact (show Ref C 2 (.str z) H E from dd.2 (.lacks z) (by simp [BS.due, look_none.mpr hin])).along e1
    cases el : look S.devs z with
    | none => exact absurd (by simpa using h) (look_none.mp el)
    | some d =>
    refine ⟨_, rfl, B.p, dx, _, rfl, ob, bfl_no B (by decide +kernel), _, rfl, B, j, S, rfl, hB, fun h => ?_, fun h => ?_⟩
    · have hjn : j ∉ keys S.crews := by simpa using h
      exact (show Ref C 2 (.str j) H E from dd.2 (.lacks j) (by simp [BS.due, el, hjn])).along e1
    have hjc : j ∈ keys S.crews := by simpa using h
    have hin : z ∈ keys S.devs := look_in el
    obtain ⟨⟨dx, ob⟩, ⟨q1, s1, s2⟩, ⟨q2, h1, h2⟩, ⟨q3, k1, k2⟩, ⟨q4, g1, g2⟩, inn, ⟨q5, c1, c2⟩, nd⟩ := id hB
    obtain ⟨v, ev, gv⟩ := g2.get el
    subst gv
    have ia := inn _ (look_mem el)
    have l8 : d.hung.length ≤ 8 := hung_len hS el
    refine ⟨_, rfl, _, rfl, B.p, L, dx, _, _, rfl, ob, T.cl, T.n_hung, bfl_g B, _, rfl, B.g, .ref d.adr, rfl, dget_of g1 ev, d.adr, _, rfl, DGet.k (k := Sum.inr j) ia, _, rfl, ?_⟩
    by_cases mj : j ∈ d.hung
    rotate_left
    · refine if_f (jobsD_has.trans (decide_eq_false mj)) ?_
      refine dd.1 (by simp [BS.due, el, hjc, mj]) _ ?_ (Keep.of e1)
      rw [put_free_no hS el mj]
      exact hB
    refine if_t (jobsD_has.trans (decide_eq_true mj)) ?_
    have due : S.due (.free z j) = if d.hung.length = 1 then moveDue z d.home d else none := by simp [BS.due, el, hjc, mj]
    refine ⟨fun σ' H' => σ' = [some (.ref B.p), some (.str z), some (.str j)] ∧ BdAt L H' B { S with devs := setT S.devs z fun d => { d with st := if d.hung.length = 1 then d.home else d.st } } ∧ Keep (bms B S) H2 H' ∧ S.due (.free z j) = none, ?_, ?_⟩
    · obtain ⟨v, ev2, gv⟩ := h2.get el
      subst gv
      refine ⟨_, rfl, B.p, L, dx, _, _, rfl, ob, T.cl, T.n_hung, bfl_g B, _, rfl, B.g, .ref d.adr, rfl, dget_of g1 ev, d.adr, _, rfl, ia, rfl, _, rfl, ?_⟩
      by_cases l1 : d.hung.length = 1
      · refine if_t (by simp [jobsD, l1]) ?_
        refine ⟨_, rfl, B.p, dx, _, rfl, ob, bfl_no B (by decide +kernel), _, rfl, _, rfl, B.p, L, dx, _, _, rfl, ob, T.cl, T.n_homes, bfl_h B, _, rfl, B.h, .str d.home, rfl, dget_of h1 ev2, B, z, d.home, S, d, rfl, hB, hS, el, fun f hf => (dd.2 f (by rw [due, if_pos l1, hf])).along e1, fun hf H3 hB3 k3 => ⟨rfl, ?_, k3, by rw [due, if_pos l1, hf]⟩⟩
        rw [setT_congr (g := fun d' : DevV => { d' with st := d.home }) hS.dN el (by show ({ d with st := if d.hung.length = 1 then d.home else d.st } : DevV) = _; rw [if_pos l1])]
        exact hB3
      · refine if_f (by simp [jobsD]; omega) ⟨rfl, ?_, Keep.refl, by rw [due, if_neg l1]⟩
        rw [setT_self hS.dN el (by show ({ d with st := if d.hung.length = 1 then d.home else d.st } : DevV) = d; rw [if_neg l1])]
        exact hB
    · rintro σ' H3 ⟨rfl, hB3, k3, dn⟩
      clear ob s1 s2 h1 h2 k1 k2 g1 g2 inn c1 c2 nd ia hB ev
      have hB := hB3
      obtain ⟨⟨dx, ob⟩, ⟨q1, s1, s2⟩, ⟨q2, h1, h2⟩, ⟨q3, k1, k2⟩, ⟨q4, g1, g2⟩, inn, ⟨q5, c1, c2⟩, nd⟩ := id hB
      have el' : look (setT S.devs z fun d => { d with st := if d.hung.length = 1 then d.home else d.st }) z = some { d with st := if d.hung.length = 1 then d.home else d.st } := by rw [look_setT, if_pos rfl, el]; rfl
      obtain ⟨v, ev, gv⟩ := g2.get el'
      subst gv
      have ia := inn _ (look_mem el')
      refine ⟨_, rfl, B.p, L, dx, _, _, rfl, ob, T.cl, T.n_hung, bfl_g B, _, rfl, B.g, .ref d.adr, rfl, dget_of g1 ev, _, rfl, d.adr, _, Sum.inr j, rfl, ia, rfl, jobsD_has.trans (decide_eq_true mj), ?_⟩
      have q := hB.setG (z := z) (f := fun d => { d with hung := d.hung.filter fun y => decide (y ≠ j) }) (by rw [keys_setT]; exact hS.dN) el' (fun _ => rfl)
      rw [show setT (setT S.devs z fun d => { d with st := if d.hung.length = 1 then d.home else d.st }) z (fun d => { d with hung := d.hung.filter fun y => decide (y ≠ j) }) = _ from setT_setT] at q
      rw [jobsD_drop]
      refine dd.1 dn _ ?_ (((Keep.of e1).trans k3).trans (Keep.dput ia (bms_adr (look_mem el))))
      rw [put_free hS el mj]
      exact q
theorem sc_Board_add : FnScope ["self", "device", "position"] ["self", "device", "position"] (defScope s_Board_add) := ⟨rfl, rfl, rfl, by decide +kernel, rfl, by decide +kernel, by decide +kernel⟩
theorem ok_add (T : Bx K mg C M L) : OkM P w K mg base (L2.CX P w) 4 L "add" ["self", "device", "position"] (spBAdd C L K) := by
  refine T.m_add.okX sc_Board_add (fun _ _ _ _ _ _ us hl => match us, hl with | [_, _, _], _ => rfl) (fun vs H Q E h => ?_) (fun f cdv Ar outer st H vs Q E hr h => ?_)
  · obtain ⟨B, x, y, b, c, S, rfl, _⟩ := h
    rfl
  · obtain ⟨B, x, y, b, c, S, rfl, hB, hS, hn, hm, h0, h1', hD⟩ := h
    have hu := hu_of hr
    obtain ⟨tk, gk⟩ := T.g_MOST_DEVICES
    refine ⟨_, (pss_cons (ps_expr (pe_f (ok_need T) (hr.mono (by decide)) (passes_call (W := fun cls d _ H => E cls d H) (takes_of rfl rfl rfl rfl) (fun _ _ _ _ h => h)) (pa_cons pe_int (pa_cons (pe_f (ok_is_name T) (hr.mono (by decide)) pass0 (pa_cons (pv 1) pa_nil)) pa_nil)))) (pss_cons (ps_expr (pe_f (ok_need T) (hr.mono (by decide)) (passes_call (W := fun cls d _ H => E cls d H) (takes_of rfl rfl rfl rfl) (fun _ _ _ _ h => h)) (pa_cons pe_int (pa_cons (pe_f (ok_is_position T) (hr.mono (by decide)) pass0 (pa_cons (pv 2) pa_nil)) pa_nil)))) (pss_cons (ps_if (pt_cmp (pc_din hu (pv 1) (pe_fld (pv 0) rfl))) (pss_one (ps_raise1 (C := C 1) (f := "name") (W := fun cls d _ H => E cls d H) rfl (T.e 1 (by decide)) (io_1 T) T.g1 (hr.mono (by decide)) (takes_of rfl rfl rfl rfl) (pv 1))) pss_nil) (pss_cons (ps_if (pt_cmpR op_ge (pe_callB call_lenD (by rfl) T.b_len PySem.boot_len (pa_cons (pe_fld (pv 0) rfl) pa_nil)) (pe_glob (v := .int 52) (by rfl) gk ⟨_, rfl⟩) (nomark _)) (pss_one (ps_raise1 (C := C 3) (f := "most") (W := fun cls d _ H => E cls d H) rfl (T.e 3 (by decide)) (io_3 T) T.g3 (hr.mono (by decide)) (takes_of rfl rfl rfl rfl) (pe_glob (v := .int 52) (by rfl) gk ⟨_, rfl⟩))) pss_nil) (pss_cons (ps_dput hu (pe_fld (pv 0) rfl) (pv 1) (pv 2) rfl) (pss_cons (ps_dput hu (pe_fld (pv 0) rfl) (pv 1) (pv 2) rfl) (pss_cons (ps_dput hu (pe_fld (pv 0) rfl) (pv 1) pe_bl rfl) (pss_one (ps_dput hu (pe_fld (pv 0) rfl) (pv 1) pe_dnewK rfl))))))))), ?_⟩
    refine ⟨_, rfl, x, b, rfl, hn, fun H1 e1 => ⟨_, b, rfl, fun hb => ?_, fun hb => (h0 hb).along e1⟩⟩
    refine ⟨_, rfl, y, c, rfl, hm.same e1, ⟨_, c, rfl, fun hc => ?_, fun hc => (h1' hb hc).along e1⟩⟩
    subst hb hc
    obtain ⟨z, rfl, hz⟩ := hn.yes
    obtain ⟨r, rfl, hr2⟩ := hm.yes
    have dd := hD z r rfl rfl hz hr2
    replace hB := hB.same e1
    obtain ⟨⟨dx, ob⟩, ⟨q1, s1, s2⟩, ⟨q2, h1, h2⟩, ⟨q3, k1, k2⟩, ⟨q4, g1, g2⟩, inn, ⟨q5, c1, c2⟩, nd⟩ := id hB
    refine ⟨_, rfl, _, rfl, B.p, L, dx, _, _, rfl, ob, T.cl, T.n_stands, bfl_s B, B.s, _, rfl, DGet.k (k := Sum.inr z) s1, _, rfl, ?_⟩
    by_cases hin : z ∈ keys S.devs
    · exact if_t (by rw [(s2.has.trans look_isSome), decide_eq_true hin]) ⟨_, rfl, raise1 fun d hd => ((show Ref C 1 (.str z) H E from dd.1 (.there z) B.p (by simp [BS.due, hin])).along e1).out hd⟩
    refine if_f (by rw [(s2.has.trans look_isSome), decide_eq_false hin]) ?_
    refine ⟨_, rfl, B.p, L, dx, _, _, rfl, ob, T.cl, T.n_stands, bfl_s B, B.s, _, rfl, s1, _, _, rfl, rfl, _, rfl, ?_⟩
    have eln : (q1.length : Int) = S.devs.length := by rw [s2.len]
    by_cases hm52 : 52 ≤ S.devs.length
    · exact if_t (decide_eq_true (by omega)) (raise1 fun d hd => ((show Ref C 3 (.int 52) H E from dd.1 (.tooMany 52) B.p (by simp [BS.due, hin, hm52])).along e1).out hd)
    refine if_f (decide_eq_false (by omega)) ?_
    have nl := look_none.mpr hin
    have nps : B.p ≠ B.s := ne_of ob s1 (by intro z; cases z)
    have nph : B.p ≠ B.h := ne_of ob h1 (by intro z; cases z)
    have npk : B.p ≠ B.k := ne_of ob k1 (by intro z; cases z)
    have nd' := nd
    simp only [bms, List.cons_append, List.nil_append, List.nodup_cons, List.mem_cons, not_or] at nd'
    obtain ⟨⟨n1, n2, n3, n4, n5⟩, ⟨n6, n7, n8, n9⟩, ⟨n10, n11, n12⟩, ⟨n13, n14⟩, n15, n16⟩ := nd'
    have K0 : Keep (bms B S) H1 (upd H1 B.s (.dK (putK q1 (Sum.inr z) (.str r)))) := Keep.dput s1 (by simp [bms])
    refine ⟨_, rfl, _, rfl, B.p, L, dx, _, _, rfl, ob, T.cl, T.n_stands, bfl_s B, _, rfl, B.s, _, rfl, DPut.k (k := Sum.inr z) s1 (small1000 (by omega)), ?_⟩
    replace ob : upd H1 B.s (.dK (putK q1 (Sum.inr z) (.str r))) B.p = _ := (upd_ne nps).trans ob
    replace h1 : upd H1 B.s (.dK (putK q1 (Sum.inr z) (.str r))) B.h = _ := (upd_ne fun w => n1 w.symm).trans h1
    replace k1 : upd H1 B.s (.dK (putK q1 (Sum.inr z) (.str r))) B.k = _ := (upd_ne fun w => n2 w.symm).trans k1
    replace g1 : upd H1 B.s (.dK (putK q1 (Sum.inr z) (.str r))) B.g = _ := (upd_ne fun w => n3 w.symm).trans g1
    have K1 := K0.trans (Keep.dput (ms := bms B S) (kvs' := putK q2 (Sum.inr z) (.str r)) h1 (by simp [bms]))
    refine ⟨_, rfl, _, rfl, B.p, L, dx, _, _, rfl, ob, T.cl, T.n_homes, bfl_h B, _, rfl, B.h, _, rfl, DPut.k (k := Sum.inr z) h1 (small1000 (by rw [h2.len]; omega)), ?_⟩
    replace ob : upd (upd H1 B.s (.dK (putK q1 (Sum.inr z) (.str r)))) B.h (.dK (putK q2 (Sum.inr z) (.str r))) B.p = _ := (upd_ne nph).trans ob
    replace k1 : upd (upd H1 B.s (.dK (putK q1 (Sum.inr z) (.str r)))) B.h (.dK (putK q2 (Sum.inr z) (.str r))) B.k = _ := (upd_ne fun w => n6 w.symm).trans k1
    replace g1 : upd (upd H1 B.s (.dK (putK q1 (Sum.inr z) (.str r)))) B.h (.dK (putK q2 (Sum.inr z) (.str r))) B.g = _ := (upd_ne fun w => n7 w.symm).trans g1
    have K2 := K1.trans (Keep.dput (ms := bms B S) (kvs' := putK q3 (Sum.inr z) (.bl false)) k1 (by simp [bms]))
    refine ⟨_, rfl, B.p, L, dx, _, _, rfl, ob, T.cl, T.n_stuck, bfl_k B, _, rfl, B.k, _, rfl, DPut.k (k := Sum.inr z) k1 (small1000 (by rw [k2.len]; omega)), ?_⟩
    replace ob : upd (upd (upd H1 B.s (.dK (putK q1 (Sum.inr z) (.str r)))) B.h (.dK (putK q2 (Sum.inr z) (.str r)))) B.k (.dK (putK q3 (Sum.inr z) (.bl false))) B.p = _ := (upd_ne npk).trans ob
    replace g1 : upd (upd (upd H1 B.s (.dK (putK q1 (Sum.inr z) (.str r)))) B.h (.dK (putK q2 (Sum.inr z) (.str r)))) B.k (.dK (putK q3 (Sum.inr z) (.bl false))) B.g = _ := (upd_ne fun w => n10 w.symm).trans g1
    intro a ha
    have ha1 : H1 a = none := K2.has _ ha
    have nga : B.g ≠ a := ne_of_none g1 ha
    have npa : B.p ≠ a := ne_of_none ob ha
    have K3 := K2.trans (Keep.of (ms := bms B S) (Same.newp (o := .dK []) ha))
    replace ob : upd (upd (upd (upd H1 B.s (.dK (putK q1 (Sum.inr z) (.str r)))) B.h (.dK (putK q2 (Sum.inr z) (.str r)))) B.k (.dK (putK q3 (Sum.inr z) (.bl false)))) a (.dK []) B.p = _ := (upd_ne npa).trans ob
    replace g1 : upd (upd (upd (upd H1 B.s (.dK (putK q1 (Sum.inr z) (.str r)))) B.h (.dK (putK q2 (Sum.inr z) (.str r)))) B.k (.dK (putK q3 (Sum.inr z) (.bl false)))) a (.dK []) B.g = _ := (upd_ne nga).trans g1
    have K4 := K3.trans (Keep.dput (ms := bms B S) (kvs' := putK q4 (Sum.inr z) (.ref a)) g1 (by simp [bms]))
    refine ⟨_, rfl, B.p, L, dx, _, _, rfl, ob, T.cl, T.n_hung, bfl_g B, _, rfl, B.g, _, rfl, DPut.k (k := Sum.inr z) g1 (small1000 (by rw [g2.len]; omega)), ?_⟩
    exact dd.2 _ a (by simp [BS.due, hin, hm52]) (e1.free ha1) (hB.addDev (D := ⟨r, r, false, [], a⟩) ha1 rfl (s2.put nl rfl) (h2.put nl rfl) (k2.put nl rfl) (g2.put nl rfl)) ((Keep.of e1).trans K4)
theorem sc_Board___init__ : FnScope ["self"] ["self"] (defScope s_Board___init__) := ⟨rfl, rfl, rfl, by decide +kernel, rfl, by decide +kernel, by decide +kernel⟩
theorem ok_initB (T : Bx K mg C M L) : OkM P w K mg base CX0 1 L "__init__" ["self"] (spInitB L) := by
  refine T.m_init.ok sc_Board___init__ (fun _ _ _ _ _ _ us hl => match us, hl with | [_], _ => rfl) (fun vs H Q E h => ?_) (fun f cdv Ar outer st H vs Q E hr h => ?_)
  · obtain ⟨p, dx, rfl, _⟩ := h
    rfl
  · obtain ⟨p, dx, rfl, hp, k⟩ := h
    refine ⟨_, (pss_cons (ps_fld (pv 0) pe_dnewK rfl) (pss_cons (ps_fld (pv 0) pe_dnewK rfl) (pss_cons (ps_fld (pv 0) pe_dnewK rfl) (pss_cons (ps_fld (pv 0) pe_dnewK rfl) (pss_one (ps_fld (pv 0) pe_dnewK rfl)))))), ?_⟩
    intro s hs0
    refine ⟨_, rfl, p, L, dx, [], rfl, (upd_ne (ne_of_none hp hs0)).trans hp, T.cl, T.n_stands, (by show 0 < 1000; decide), ?_⟩
    have N1 := newAt (fs := putF "_stands" (.ref s) []) hp hs0
    generalize upd (upd H s (.dK [])) p (.ins L dx (putF "_stands" (.ref s) [])) = H1 at N1 ⊢
    intro h hh0
    refine ⟨_, rfl, p, L, dx, _, rfl, (upd_ne (ne_of_none N1.ob hh0)).trans N1.ob, T.cl, T.n_homes, (by show 1 < 1000; decide), ?_⟩
    rw [pfB2]
    have N2 := newAt (fs := [("_stands", .ref s), ("_homes", .ref h)]) N1.ob hh0
    generalize upd (upd H1 h (.dK [])) p (.ins L dx [("_stands", .ref s), ("_homes", .ref h)]) = H2 at N2 ⊢
    intro k0 hk0
    refine ⟨_, rfl, p, L, dx, _, rfl, (upd_ne (ne_of_none N2.ob hk0)).trans N2.ob, T.cl, T.n_stuck, (by show 2 < 1000; decide), ?_⟩
    rw [pfB3]
    have N3 := newAt (fs := [("_stands", .ref s), ("_homes", .ref h), ("_stuck", .ref k0)]) N2.ob hk0
    generalize upd (upd H2 k0 (.dK [])) p (.ins L dx [("_stands", .ref s), ("_homes", .ref h), ("_stuck", .ref k0)]) = H3 at N3 ⊢
    intro g hg0
    refine ⟨_, rfl, p, L, dx, _, rfl, (upd_ne (ne_of_none N3.ob hg0)).trans N3.ob, T.cl, T.n_hung, (by show 3 < 1000; decide), ?_⟩
    rw [pfB4]
    have N4 := newAt (fs := [("_stands", .ref s), ("_homes", .ref h), ("_stuck", .ref k0), ("_hung", .ref g)]) N3.ob hg0
    generalize upd (upd H3 g (.dK [])) p (.ins L dx [("_stands", .ref s), ("_homes", .ref h), ("_stuck", .ref k0), ("_hung", .ref g)]) = H4 at N4 ⊢
    intro c hc0
    refine ⟨_, rfl, p, L, dx, _, rfl, (upd_ne (ne_of_none N4.ob hc0)).trans N4.ob, T.cl, T.n_crews, (by show 4 < 1000; decide), ?_⟩
    rw [pfB5]
    have N5 := newAt (fs := bfl ⟨p, s, h, k0, g, c⟩) N4.ob hc0
    rw [show upd (upd H4 c (.dK [])) p (.ins L dx (bfl ⟨p, s, h, k0, g, c⟩)) = upd (upd H4 c (.dK [])) p (.ins L dx [("_stands", .ref s), ("_homes", .ref h), ("_stuck", .ref k0), ("_hung", .ref g), ("_crews", .ref c)]) from rfl] at N5
    generalize upd (upd H4 c (.dK [])) p (.ins L dx [("_stands", .ref s), ("_homes", .ref h), ("_stuck", .ref k0), ("_hung", .ref g), ("_crews", .ref c)]) = H5 at N5 ⊢
    have s2 := N2.up _ _ N1.at' N1.np
    have s3 := N3.up _ _ s2 N1.np
    have s4 := N4.up _ _ s3 N1.np
    have h3 := N3.up _ _ N2.at' N2.np
    have h4 := N4.up _ _ h3 N2.np
    have k4 := N4.up _ _ N3.at' N3.np
    have nd : [s, h, k0, g, c].Nodup := by
      have a1 : s ≠ h := ne_of_none N1.at' N2.fresh
      have a2 : s ≠ k0 := ne_of_none s2 N3.fresh
      have a3 : s ≠ g := ne_of_none s3 N4.fresh
      have a4 : s ≠ c := ne_of_none s4 N5.fresh
      have b2 : h ≠ k0 := ne_of_none N2.at' N3.fresh
      have b3 : h ≠ g := ne_of_none h3 N4.fresh
      have b4 : h ≠ c := ne_of_none h4 N5.fresh
      have c3 : k0 ≠ g := ne_of_none N3.at' N4.fresh
      have c4 : k0 ≠ c := ne_of_none k4 N5.fresh
      have d4 : g ≠ c := ne_of_none N4.at' N5.fresh
      simp [a1, a2, a3, a4, b2, b3, b4, c3, c4, d4]
    refine k ⟨p, s, h, k0, g, c⟩ H5 rfl ⟨⟨dx, N5.ob⟩, ⟨[], N5.up _ _ s4 N1.np, .nil⟩, ⟨[], N5.up _ _ h4 N2.np, .nil⟩, ⟨[], N5.up _ _ k4 N3.np, .nil⟩, ⟨[], N5.up _ _ N4.at' N4.np, .nil⟩, (fun e me => nomatch me), ⟨[], N5.at', .nil⟩, ?_⟩ (fun b u e nb => ?_) (fun b hb => ?_) (fun b e => N1.ne _ (N2.ne _ (N3.ne _ (N4.ne _ (N5.ne _ e)))))
    · simpa [bms, BS.new] using nd
    · exact N5.up _ _ (N4.up _ _ (N3.up _ _ (N2.up _ _ (N1.up _ _ e nb) nb) nb) nb) nb
    · have hb' : b = s ∨ b = h ∨ b = k0 ∨ b = g ∨ b = c := by simpa [bms, BS.new] using hb
      rcases hb' with rfl | rfl | rfl | rfl | rfl
      · exact N1.fresh
      · exact N1.ne _ N2.fresh
      · exact N1.ne _ (N2.ne _ N3.fresh)
      · exact N1.ne _ (N2.ne _ (N3.ne _ N4.fresh))
      · exact N1.ne _ (N2.ne _ (N3.ne _ (N4.ne _ N5.fresh)))
theorem sc_Board_tags : FnScope ["self", "device", "job", "hand"] ["self", "device"] (defScope s_Board_tags) := ⟨rfl, rfl, rfl, by decide +kernel, rfl, by decide +kernel, by decide +kernel⟩
theorem ok_tags (T : Bx K mg C M L) : OkM P w K mg base (L2.CX P w) 4 L "tags" ["self", "device"] (spBTags C L K) := by
  refine T.m_tags.okX sc_Board_tags (fun _ _ _ _ _ _ us hl => match us, hl with | [_, _], _ => rfl) (fun vs H Q E h => ?_) (fun f cdv Ar outer st H vs Q E hr h => ?_)
  · obtain ⟨B, x, b, S, rfl, _⟩ := h
    rfl
  · obtain ⟨B, x, b, S, rfl, hB, hS, hn, h0, hD⟩ := h
    have hu := hu_of hr
    have hu6 := hu64 hr
    refine ⟨_, (pss_cons (ps_expr (pe_f (ok_need T) (hr.mono (by decide)) (passes_call (W := fun cls d _ H => E cls d H) (takes_of rfl rfl rfl rfl) (fun _ _ _ _ h => h)) (pa_cons pe_int (pa_cons (pe_f (ok_is_name T) (hr.mono (by decide)) pass0 (pa_cons (pv 1) pa_nil)) pa_nil)))) (pss_cons (ps_expr (pe_m (ok_refuse_no_device T) T.cl (hr.mono (by decide)) (passes_call (W := fun cls d _ H => E cls d H) (takes_of rfl rfl rfl rfl) (fun _ _ _ _ h => h)) (pv 0) (pa_cons (pv 1) pa_nil))) (pss_one (ps_ret (pe_callB (cr_sortedP hu6) (by rfl) T.b_sorted (by decide +kernel) (pa_cons (pe_lock (pe_lc2 (own := [("job", 2), ("hand", 3)]) (vs1 := [3]) rfl sc_Board_tags.nd (pi_keys (pe_dget hu (pe_fld (pv 0) rfl) (pv 1) (fun _ _ => rfl))) (blkOk_by (N := ["self", "device", "job", "hand"]) (sc := (defScope s_Board_tags)) (by decide +kernel)) (by decide) (fun _ _ _ _ _ => (pg_name (i := 2) sc_Board_tags.nd rfl (Or.inl rfl))) (fun _ _ _ _ _ => pts_nil) (fun _ _ _ _ _ => (pi_listK (K := K) rfl (pe_dget hu (pe_fldK (K := K) rfl (pv 0) rfl) (pv 2) (fun _ _ => rfl)))) (fun _ _ _ _ _ => (pg_name (i := 3) sc_Board_tags.nd rfl (Or.inl rfl))) (fun _ _ _ _ _ => pts_nil) (fun _ _ _ _ _ => (pe_tup (pa_cons (pv 2) (pa_cons (pv 3) pa_nil)))))) pa_nil)))))), ?_⟩
    refine ⟨_, rfl, x, b, rfl, hn, fun H1 e1 => ⟨_, b, rfl, fun hb => ?_, fun hb => (h0 hb).along e1⟩⟩
    subst hb
    obtain ⟨z, rfl, hz⟩ := hn.yes
    have dd := hD z rfl hz
    replace hB := hB.same e1
    obtain ⟨⟨dx, ob⟩, ⟨q1, s1, s2⟩, ⟨q2, h1, h2⟩, ⟨q3, k1, k2⟩, ⟨q4, g1, g2⟩, inn, ⟨q5, c1, c2⟩, nd⟩ := id hB
    refine ⟨_, rfl, B.p, dx, _, rfl, ob, bfl_no B (by decide +kernel), _, rfl, B, z, S, rfl, hB, fun h => ?_, fun h => ?_⟩
    · have hin : z ∉ keys S.devs := by simpa using h
      exact (dd.1 hin).along e1
    cases el : look S.devs z with
    | none => exact absurd (by simpa using h) (look_none.mp el)
    | some d =>
    obtain ⟨v, ev, gv⟩ := g2.get el
    subst gv
    have ia : H1 d.adr = some (.dK (jobsD d.hung)) := inn _ (look_mem el)
    obtain ⟨_, _, _, ngd, ncd, npd⟩ := hB.apart (look_mem el)
    have hjs : ∀ j ∈ d.hung, j ∈ keys S.crews := (hS.hN _ (look_mem el)).2
    have l8 := hung_len hS el
    refine ⟨d.adr, _, ia, True.intro, fun od => ?_⟩
    refine ⟨_, rfl, B.p, L, dx, _, _, rfl, (upd_ne npd).trans ob, T.cl, T.n_hung, bfl_g B, _, rfl, B.g, .ref d.adr, rfl, dget_of ((upd_ne ngd).trans g1) ev, ?_⟩
    refine ⟨d.adr, od, rfl, .inl ⟨jobsD d.hung, upd_same, fun D hD => ?_⟩⟩
    have nD : ∀ b u, upd H1 d.adr (.frz od (.dK (jobsD d.hung))) b = some u → b ≠ D := fun b u e => ne_of_none e hD
    have toD : ∀ {G : Hp} {xs xs' : List V} {ts : List Addr} {ps : List (Str × Str)}, G D = some (.lst xs) → TupsAt G ts ps → TupsAt (upd G D (.lst xs')) ts ps := fun {G xs xs' ts ps} e tp => Paired.mono (fun _ _ q => (upd_ne (ne_of q e (by intro w; cases w))).trans q) tp
    refine roll_keys (fun i G => Same (upd H1 d.adr (.frz od (.dK (jobsD d.hung)))) G ∧ ∃ ts : List Addr, G D = some (.lst (ts.map V.ref)) ∧ TupsAt G ts ((d.hung.take i).flatMap fun j => (crewOf S j).map fun h => (j, h))) ⟨Same.newp hD, [], upd_same, .nil⟩ (fun _ _ _ q => q.1 _ _ upd_same) ?_ ?_
    · rintro i kk vv G ek ⟨e2, ts, hts, tp⟩
      unfold jobsD at ek
      rw [List.getElem?_map] at ek
      obtain ⟨j, ej, eq⟩ := Option.map_eq_some_iff.mp ek
      cases eq
      have tk : d.hung.take (i + 1) = d.hung.take i ++ [j] := by
        rw [List.take_add_one, ej]
        rfl
      obtain ⟨⟨a3, hs⟩, eh, ec, l6, l1⟩ := crew_of hS (hjs j (List.mem_of_getElem? ej))
      dsimp only at ec l6 l1
      obtain ⟨v3, ev3, rfl, ha3⟩ := c2.get eh
      dsimp only at ha3 ev3
      have ha4 : upd H1 d.adr (.frz od (.dK (jobsD d.hung))) a3 = _ := (upd_ne (ne_of ha3 ia (by intro w; cases w))).trans ha3
      refine ⟨rfl, ?_⟩
      rw [tYes, if_pos rfl]
      refine ⟨_, rfl, B.p, L, dx, _, _, rfl, e2 _ _ ((upd_ne npd).trans ob), T.cl, T.n_crews, bfl_c B, _, rfl, B.c, .ref a3, rfl, dget_of (e2 _ _ ((upd_ne ncd).trans c1)) ev3, a3, rfl, ⟨_, SqL.of (e2 _ _ ha4)⟩, ?_⟩
      have few : ((d.hung.take i).flatMap fun j => (crewOf S j).map fun h => (j, h)).length ≤ 48 := by
        have q := tagsF_len hS (d.hung.take i) fun x m => hjs x (List.mem_of_mem_take m)
        rw [List.length_take] at q
        omega
      refine roll_list (K := K) (a := a3) (xs := hs.map V.str) (fun n G2 => Same (upd H1 d.adr (.frz od (.dK (jobsD d.hung)))) G2 ∧ ∃ ts : List Addr, G2 D = some (.lst (ts.map V.ref)) ∧ TupsAt G2 ts (((d.hung.take i).flatMap fun j => (crewOf S j).map fun h => (j, h)) ++ (hs.take n).map fun h => (j, h))) ⟨e2, ts, hts, by rw [List.take_zero, List.map_nil, List.append_nil]; exact tp⟩ (fun n G2 _ q => SqL.of (q.1 _ _ ha4)) ?_ ?_
      · rintro n y2 G2 hn ⟨e4, ts2, hts2, tp2⟩
        rw [List.getElem?_map] at hn
        obtain ⟨x, ex, rfl⟩ := Option.map_eq_some_iff.mp hn
        have ln : n < hs.length := (List.getElem?_eq_some_iff.mp ex).1
        have lt2 := tp2.len
        rw [List.length_append, List.length_map, List.length_take] at lt2
        refine ⟨rfl, ?_⟩
        rw [tYes, if_pos rfl]
        refine ⟨_, rfl, _, rfl, (by show 2 ≤ sizeLine; decide), fun t ht => ?_⟩
        have e5 := Same.newp (o := .tup [.str j, .str x]) ht
        have hts3 := e5 _ _ hts2
        have tp3 : TupsAt (upd G2 t (.tup [.str j, .str x])) (ts2 ++ [t]) _ := TupsAt.snoc (p := (j, x)) upd_same (Paired.mono (fun _ _ q => e5 _ _ q) tp2)
        refine ⟨_, hts3, by rw [List.length_map]; exact small1000 (by omega), fun b u e => ?_, ts2 ++ [t], ?_, ?_⟩
        · rw [upd_ne (nD b u e)]
          exact e5 _ _ (e4 b u e)
        · rw [upd_same, List.map_append]
          rfl
        · have q := toD (xs' := ts2.map V.ref ++ [.ref t]) hts3 tp3
          rw [List.take_add_one, ex, show hs.take n ++ (some x).toList = hs.take n ++ [x] from rfl, List.map_append, ← List.append_assoc]
          exact q
      · rintro G2 ⟨e4, ts2, hts2, tp2⟩
        refine ⟨e4, ts2, hts2, ?_⟩
        rw [List.length_map, List.take_length] at tp2
        rw [tk, tagsF_snoc, ec]
        exact tp2
    · rintro G ⟨e2, ts, hts, tp⟩
      rw [show (jobsD d.hung).length = d.hung.length by simp [jobsD], List.take_length] at tp
      have nDd : D ≠ d.adr := fun w => by
        rw [w, upd_same] at hD
        cases hD
      have s1' := same_unlock ia e2
      have few := tagsF_len hS d.hung hjs
      refine ⟨e2 _ _ upd_same, D, ts, tagsOf S d, rfl, SqL.of ((upd_ne nDd).trans hts), ?_, (show (tagsOf S d).length < 64 by unfold tagsOf; omega), fun p ts' hp tp' => ?_⟩
      · exact Paired.mono (fun _ _ q => (upd_ne (ne_of q (e2 _ _ upd_same) (by intro w; cases w))).trans q) tp
      · have e9 := e1.trans s1'
        exact dd.2 d el _ p ts' (e9.trans (Same.newp hp)) (e9.free hp) upd_same (Paired.mono (fun _ _ q => (Same.newp hp) _ _ q) tp')
theorem sc_Board__held : FnScope ["self", "job", "device"] ["self", "job"] (defScope s_Board__held) := ⟨rfl, rfl, rfl, by decide +kernel, rfl, by decide +kernel, by decide +kernel⟩
theorem ok_held (T : Bx K mg C M L) : OkM P w K mg base CX0 1 L "_held" ["self", "job"] (spBHeldOf L) := by
  refine T.m__held.ok sc_Board__held (fun _ _ _ _ _ _ us hl => match us, hl with | [_, _], _ => rfl) (fun vs H Q E h => ?_) (fun f cdv Ar outer st H vs Q E hr h => ?_)
  · obtain ⟨B, j, S, rfl, _⟩ := h
    rfl
  · obtain ⟨B, j, S, rfl, hB, hS, k⟩ := h
    have hu := hu_of hr
    obtain ⟨⟨dx, ob⟩, ⟨q1, s1, s2⟩, ⟨q2, h1, h2⟩, ⟨q3, k1, k2⟩, ⟨q4, g1, g2⟩, inn, ⟨q5, c1, c2⟩, nd⟩ := id hB
    refine ⟨_, (pss_one (ps_ret (pe_callB cr_sortedS (by rfl) T.b_sorted (by decide +kernel) (pa_cons (pe_lock (pe_lc (own := [("device", 2)]) rfl sc_Board__held.nd (pi_keys (pe_fldK (K := K) rfl (pv 0) rfl)) (blkOk_by (N := ["self", "job", "device"]) (sc := (defScope s_Board__held)) (by decide +kernel)) (fun _ _ _ _ _ => (pg_name (i := 2) sc_Board__held.nd rfl (Or.inl rfl))) (fun _ _ _ _ _ => (pts_one (pt_cmp (pc_din hu (pv 1) (pe_dget hu (pe_fldK (K := K) rfl (pv 0) rfl) (pv 2) (fun _ _ => rfl)))))) (fun _ _ _ _ _ => (pv 2)))) pa_nil)))), ?_⟩
    have npg : B.p ≠ B.g := ne_of ob g1 (by intro z; cases z)
    refine ⟨B.g, _, g1, True.intro, fun od => ?_⟩
    refine ⟨_, rfl, B.p, L, dx, _, _, rfl, (upd_ne npg).trans ob, T.cl, T.n_hung, bfl_g B, B.g, od, rfl, .inl ⟨q4, upd_same, fun D hD => ?_⟩⟩
    refine lc_it walk_keys (fun i H1 => Same (upd H B.g (.frz od (.dK q4))) H1 ∧ H1 D = some (.lst ((keys ((S.devs.take i).filter fun e => decide (j ∈ e.2.hung))).map V.str))) ⟨Same.newp hD, upd_same⟩ (fun _ _ _ q => q.1 _ _ upd_same) ?_ ?_
    · rintro i x H1 H2 hi ⟨e2, h1⟩ ⟨rfl, kk, vv, ek, rfl⟩
      obtain ⟨q, eq, e3, gq⟩ := Kr.at g2 ek
      have e3' : kk = Sum.inr q.1 := e3
      subst e3'
      have ev : valV q4 (Sum.inr q.1) = some vv := valV_at g2 hS.dN ek
      have mq : q ∈ S.devs := List.mem_of_getElem? eq
      obtain ⟨_, _, _, nga, _, _⟩ := hB.apart mq
      dsimp only at gq
      subst gq
      have li : i < S.devs.length := (List.getElem?_eq_some_iff.mp eq).1
      have tk : S.devs.take (i + 1) = S.devs.take i ++ [q] := by
        rw [List.take_add_one, eq]
        rfl
      have nD : ∀ b u, upd H B.g (.frz od (.dK q4)) b = some u → b ≠ D := fun b u e => ne_of_none e hD
      refine ⟨rfl, _, rfl, _, rfl, B.p, L, dx, _, _, rfl, e2 _ _ ((upd_ne npg).trans ob), T.cl, T.n_hung, bfl_g B, _, rfl, B.g, _, rfl, dget_rd (.inr ⟨od, e2 _ _ upd_same⟩) ev, q.2.adr, _, rfl, DGet.k (k := Sum.inr j) (e2 _ _ ((upd_ne nga.symm).trans (inn _ mq))), _, rfl, ?_⟩
      by_cases hb : j ∈ q.2.hung
      · refine if_t (jobsD_has.trans (decide_eq_true hb)) ⟨_, rfl, _, h1, ?_, fun b u e => ?_, ?_⟩
        · have hl := hS.dL
          have h2 := List.length_filter_le (fun e : Str × DevV => decide (j ∈ e.2.hung)) (S.devs.take i)
          rw [List.length_take] at h2
          rw [List.length_map, keys, List.length_map]
          exact small1000 (by omega)
        · rw [upd_ne (nD b u e)]
          exact e2 b u e
        · rw [upd_same, tk, List.filter_append, List.filter_cons, if_pos (by simp [hb]), List.filter_nil, show keys (List.filter (fun e : Str × DevV => decide (j ∈ e.2.hung)) (S.devs.take i) ++ [q]) = keys (List.filter (fun e : Str × DevV => decide (j ∈ e.2.hung)) (S.devs.take i)) ++ [q.1] by simp [keys], List.map_append]
          rfl
      · refine if_f (jobsD_has.trans (decide_eq_false hb)) ⟨e2, ?_⟩
        rw [tk, List.filter_append, List.filter_cons, if_neg (by simp [hb]), List.filter_nil, List.append_nil]
        exact h1
    · rintro H1 ⟨e1, h1⟩
      rw [g2.len, List.take_length] at h1
      have nDg : D ≠ B.g := fun w => by
        rw [w, upd_same] at hD
        cases hD
      have s1' := same_unlock g1 e1
      have lf : (keys (S.devs.filter fun e => decide (j ∈ e.2.hung))).length < 64 := by
        have hl := hS.dL
        have h2 := List.length_filter_le (fun e : Str × DevV => decide (j ∈ e.2.hung)) S.devs
        rw [keys, List.length_map]
        omega
      refine ⟨e1 _ _ upd_same, D, _, rfl, SqL.of ((upd_ne nDg).trans h1), lf, fun ys p pm sy hp => k _ p ys ⟨pm, sy⟩ (s1'.trans (Same.newp hp)) ((s1'.free hp)) upd_same⟩
theorem sc_Board_leave : FnScope ["self", "job"] ["self", "job"] (defScope s_Board_leave) := ⟨rfl, rfl, rfl, by decide +kernel, rfl, by decide +kernel, by decide +kernel⟩
theorem ok_leave (T : Bx K mg C M L) : OkM P w K mg base (L2.CX P w) 4 L "leave" ["self", "job"] (spB1 C L K .leave) := by
  refine T.m_leave.okX sc_Board_leave (fun _ _ _ _ _ _ us hl => match us, hl with | [_, _], _ => rfl) (fun vs H Q E h => ?_) (fun f cdv Ar outer st H vs Q E hr h => ?_)
  · obtain ⟨B, x, b, S, rfl, _⟩ := h
    rfl
  · obtain ⟨B, x, b, S, rfl, hB, hS, hn, h0, hD⟩ := h
    have hu := hu_of hr
    refine ⟨_, (pss_cons (ps_expr (pe_f (ok_need T) (hr.mono (by decide)) (passes_call (W := fun cls d _ H => E cls d H) (takes_of rfl rfl rfl rfl) (fun _ _ _ _ h => h)) (pa_cons pe_int (pa_cons (pe_f (ok_is_name T) (hr.mono (by decide)) pass0 (pa_cons (pv 1) pa_nil)) pa_nil)))) (pss_cons (ps_expr (pe_m (ok_refuse_no_job T) T.cl (hr.mono (by decide)) (passes_call (W := fun cls d _ H => E cls d H) (takes_of rfl rfl rfl rfl) (fun _ _ _ _ h => h)) (pv 0) (pa_cons (pv 1) pa_nil))) (pss_cons (ps_if (pt_truth (pe_m (ok_held T) T.cl (hr.mono (by decide)) pass0 (pv 0) (pa_cons (pv 1) pa_nil)) (fun _ => rfl)) (pss_one (ps_raise1 (C := C 4) (f := "name") (W := fun cls d _ H => E cls d H) rfl (T.e 4 (by decide)) (io_4 T) T.g4 (hr.mono (by decide)) (takes_of rfl rfl rfl rfl) (pv 1))) pss_nil) (pss_one (ps_ddel (pe_fld (pv 0) rfl) (pv 1)))))), ?_⟩
    refine ⟨_, rfl, x, b, rfl, hn, fun H1 e1 => ⟨_, b, rfl, fun hb => ?_, fun hb => (h0 hb).along e1⟩⟩
    subst hb
    obtain ⟨z, rfl, hz⟩ := hn.yes
    have dd := hD z rfl hz
    replace hB := hB.same e1
    obtain ⟨dx, ob⟩ := id hB.ob
    refine ⟨_, rfl, B.p, dx, _, rfl, ob, bfl_no B (by decide +kernel), _, rfl, B, z, S, rfl, hB, fun h => ?_, fun h => ?_⟩
    · have hin : z ∉ keys S.crews := by simpa using h
      exact (show Ref C 2 (.str z) H E from dd.2 (.lacks z) (by simp [BS.due, hin])).along e1
    have hin : z ∈ keys S.crews := by simpa using h
    refine ⟨_, rfl, B.p, dx, _, rfl, ob, bfl_no B (by decide +kernel), _, rfl, B, z, S, rfl, hB, hS, fun H2 p ys sy e2 np hp => ?_⟩
    refine ⟨!(ys.map V.str).isEmpty, .inl ⟨_, SqL.of hp, rfl⟩, ?_⟩
    by_cases he : heldBy S z = []
    rotate_left
    · have ey : ys ≠ [] := fun w => he (List.Perm.eq_nil (by have := sy.1.symm; rw [w] at this; exact this))
      refine if_t (by cases ys with | nil => exact absurd rfl ey | cons a t => rfl) ⟨_, rfl, raise1 fun d hd => ((show Ref C 4 (.str z) H E from dd.2 (.inUse z) (by simp [BS.due, hin, he])).along (e1.trans e2)).out hd⟩
    have ey : ys = [] := List.Perm.eq_nil (by have := sy.1; rw [he] at this; exact this)
    refine if_f (by rw [ey]; rfl) ?_
    replace hB := hB.same e2
    clear ob
    obtain ⟨⟨dx, ob⟩, ⟨q1, s1, s2⟩, ⟨q2, h1, h2⟩, ⟨q3, k1, k2⟩, ⟨q4, g1, g2⟩, inn, ⟨q5, c1, c2⟩, nd⟩ := id hB
    refine ⟨_, rfl, B.p, L, dx, _, _, rfl, ob, T.cl, T.n_crews, bfl_c B, _, rfl, B.c, _, Sum.inr z, rfl, c1, rfl, (by rw [(c2.has.trans look_isSome)]; exact decide_eq_true hin), ?_⟩
    exact dd.1 (by simp [BS.due, hin, he]) _ (hB.setC c2.drop) ((Keep.of (e1.trans e2)).trans (Keep.dput c1 (by simp [bms])))
theorem sc_Board_devices : FnScope ["self"] ["self"] (defScope s_Board_devices) := ⟨rfl, rfl, rfl, by decide +kernel, rfl, by decide +kernel, by decide +kernel⟩
theorem ok_devices (T : Bx K mg C M L) : OkM P w K mg base CX0 1 L "devices" ["self"] (spBAll L (fun S => keys S.devs)) := by
  refine T.m_devices.ok sc_Board_devices (fun _ _ _ _ _ _ us hl => match us, hl with | [_], _ => rfl) (fun vs H Q E h => ?_) (fun f cdv Ar outer st H vs Q E hr h => ?_)
  · obtain ⟨B, S, rfl, _⟩ := h
    rfl
  · obtain ⟨B, S, rfl, hB, hS, k⟩ := h
    have hu := hu_of hr
    obtain ⟨⟨dx, ob⟩, ⟨q1, s1, s2⟩, ⟨q2, h1, h2⟩, ⟨q3, k1, k2⟩, ⟨q4, g1, g2⟩, inn, ⟨q5, c1, c2⟩, nd⟩ := id hB
    refine ⟨_, (pss_one (ps_ret (pe_callB (call_sortedD rfl) (by rfl) T.b_sorted (by decide +kernel) (pa_cons (pe_fld (pv 0) rfl) pa_nil)))), ?_⟩
    refine ⟨_, rfl, B.p, L, dx, _, _, rfl, ob, T.cl, T.n_stands, bfl_s B, B.s, _, keys S.devs, rfl, .inl s1, ?_, ?_, fun ys p pm sy hp => k _ p ys ⟨pm, sy⟩ (Same.newp hp) hp upd_same⟩
    · exact s2.names
    · have := hS.dL
      rw [keys, List.length_map]
      omega
theorem sc_Board_jobs : FnScope ["self"] ["self"] (defScope s_Board_jobs) := ⟨rfl, rfl, rfl, by decide +kernel, rfl, by decide +kernel, by decide +kernel⟩
theorem ok_jobs (T : Bx K mg C M L) : OkM P w K mg base CX0 1 L "jobs" ["self"] (spBAll L (fun S => keys S.crews)) := by
  refine T.m_jobs.ok sc_Board_jobs (fun _ _ _ _ _ _ us hl => match us, hl with | [_], _ => rfl) (fun vs H Q E h => ?_) (fun f cdv Ar outer st H vs Q E hr h => ?_)
  · obtain ⟨B, S, rfl, _⟩ := h
    rfl
  · obtain ⟨B, S, rfl, hB, hS, k⟩ := h
    have hu := hu_of hr
    obtain ⟨⟨dx, ob⟩, ⟨q1, s1, s2⟩, ⟨q2, h1, h2⟩, ⟨q3, k1, k2⟩, ⟨q4, g1, g2⟩, inn, ⟨q5, c1, c2⟩, nd⟩ := id hB
    refine ⟨_, (pss_one (ps_ret (pe_callB (call_sortedD rfl) (by rfl) T.b_sorted (by decide +kernel) (pa_cons (pe_fld (pv 0) rfl) pa_nil)))), ?_⟩
    refine ⟨_, rfl, B.p, L, dx, _, _, rfl, ob, T.cl, T.n_crews, bfl_c B, B.c, _, keys S.crews, rfl, .inl c1, ?_, ?_, fun ys p pm sy hp => k _ p ys ⟨pm, sy⟩ (Same.newp hp) hp upd_same⟩
    · exact c2.names
    · have := hS.cL
      rw [keys, List.length_map]
      omega
theorem sc_Board_crew_of : FnScope ["self", "job"] ["self", "job"] (defScope s_Board_crew_of) := ⟨rfl, rfl, rfl, by decide +kernel, rfl, by decide +kernel, by decide +kernel⟩
theorem ok_crew_of (T : Bx K mg C M L) : OkM P w K mg base (L2.CX P w) 4 L "crew_of" ["self", "job"] (spBAskJ C L K (fun _ _ c v H H' => ∃ p, v = .ref p ∧ H p = none ∧ H' p = some (.lst (c.hs.map V.str)))) := by
  refine T.m_crew_of.okX sc_Board_crew_of (fun _ _ _ _ _ _ us hl => match us, hl with | [_, _], _ => rfl) (fun vs H Q E h => ?_) (fun f cdv Ar outer st H vs Q E hr h => ?_)
  · obtain ⟨B, x, b, S, rfl, _⟩ := h
    rfl
  · obtain ⟨B, x, b, S, rfl, hB, hS, hn, h0, hD⟩ := h
    have hu := hu_of hr
    refine ⟨_, (pss_cons (ps_expr (pe_f (ok_need T) (hr.mono (by decide)) (passes_call (W := fun cls d _ H => E cls d H) (takes_of rfl rfl rfl rfl) (fun _ _ _ _ h => h)) (pa_cons pe_int (pa_cons (pe_f (ok_is_name T) (hr.mono (by decide)) pass0 (pa_cons (pv 1) pa_nil)) pa_nil)))) (pss_cons (ps_expr (pe_m (ok_refuse_no_job T) T.cl (hr.mono (by decide)) (passes_call (W := fun cls d _ H => E cls d H) (takes_of rfl rfl rfl rfl) (fun _ _ _ _ h => h)) (pv 0) (pa_cons (pv 1) pa_nil))) (pss_one (ps_ret (pe_callTy call_list_of (by rfl) T.b_list (by decide +kernel) (pa_cons (pe_dget hu (pe_fld (pv 0) rfl) (pv 1) (fun _ _ => rfl)) pa_nil)))))), ?_⟩
    refine ⟨_, rfl, x, b, rfl, hn, fun H1 e1 => ⟨_, b, rfl, fun hb => ?_, fun hb => (h0 hb).along e1⟩⟩
    subst hb
    obtain ⟨z, rfl, hz⟩ := hn.yes
    have dd := hD z rfl hz
    replace hB := hB.same e1
    obtain ⟨⟨dx, ob⟩, ⟨q1, s1, s2⟩, ⟨q2, h1, h2⟩, ⟨q3, k1, k2⟩, ⟨q4, g1, g2⟩, inn, ⟨q5, c1, c2⟩, nd⟩ := id hB
    refine ⟨_, rfl, B.p, dx, _, rfl, ob, bfl_no B (by decide +kernel), _, rfl, B, z, S, rfl, hB, fun h => ?_, fun h => ?_⟩
    · have hin : z ∉ keys S.crews := by simpa using h
      exact (dd.1 hin).along e1
    cases el : look S.crews z with
    | none => exact absurd (by simpa using h) (look_none.mp el)
    | some a =>
      obtain ⟨v, ev, rfl, hv⟩ := c2.get el
      exact ⟨_, rfl, B.p, L, dx, _, _, rfl, ob, T.cl, T.n_crews, bfl_c B, _, rfl, B.c, _, rfl, dget_of c1 ev, a.adr, _, rfl, .inl (SqL.of hv), fun p hp => dd.2 a el _ _ (e1.trans (Same.newp hp)) ⟨p, rfl, e1.free hp, upd_same⟩⟩
theorem sc_Board_crew : FnScope ["self", "job", "hands"] ["self", "job", "hands"] (defScope s_Board_crew) := ⟨rfl, rfl, rfl, by decide +kernel, rfl, by decide +kernel, by decide +kernel⟩
theorem ok_crew (T : Bx K mg C M L) : OkM P w K mg base (L2.CX P w) 4 L "crew" ["self", "job", "hands"] (spBCrew C L K) := by
  refine T.m_crew.okX sc_Board_crew (fun _ _ _ _ _ _ us hl => match us, hl with | [_, _, _], _ => rfl) (fun vs H Q E h => ?_) (fun f cdv Ar outer st H vs Q E hr h => ?_)
  · obtain ⟨B, x, l, hs, b, S, rfl, _⟩ := h
    rfl
  · obtain ⟨B, x, l, hs, b, S, rfl, hB, hS, hn, h0, hl, nh, l1, l6, okh, hD⟩ := h
    have hu := hu_of hr
    obtain ⟨tk, gk⟩ := T.g_MOST_JOBS
    refine ⟨_, (pss_cons (ps_expr (pe_f (ok_need T) (hr.mono (by decide)) (passes_call (W := fun cls d _ H => E cls d H) (takes_of rfl rfl rfl rfl) (fun _ _ _ _ h => h)) (pa_cons pe_int (pa_cons (pe_f (ok_is_name T) (hr.mono (by decide)) pass0 (pa_cons (pv 1) pa_nil)) pa_nil)))) (pss_cons (ps_expr (pe_f (ok_need T) (hr.mono (by decide)) (passes_call (W := fun cls d _ H => E cls d H) (takes_of rfl rfl rfl rfl) (fun _ _ _ _ h => h)) (pa_cons pe_int (pa_cons (pe_f (ok_is_crew T) (hr.mono (by decide)) pass0 (pa_cons (pv 2) pa_nil)) pa_nil)))) (pss_cut (ps_if (pw_and (pt_cmp (pc_dnotin hu (pv 1) (pe_fld (pv 0) rfl))) (pw_and1 (pt_cmpR op_ge (pe_callB call_lenD (by rfl) T.b_len PySem.boot_len (pa_cons (pe_fld (pv 0) rfl) pa_nil)) (pe_glob (v := .int 8) (by rfl) gk ⟨_, rfl⟩) (nomark _)))).pt (pss_one (ps_raise1 (C := C 3) (f := "most") (W := fun cls d _ H => E cls d H) rfl (T.e 3 (by decide)) (io_3 T) T.g3 (hr.mono (by decide)) (takes_of rfl rfl rfl rfl) (pe_glob (v := .int 8) (by rfl) gk ⟨_, rfl⟩))) pss_nil) (pss_one (ps_dput hu (pe_fld (pv 0) rfl) (pv 1) (pe_callTy call_list_of (by rfl) T.b_list (by decide +kernel) (pa_cons (pv 2) pa_nil)) rfl))))), ?_⟩
    refine ⟨_, rfl, x, b, rfl, hn, fun H1 e1 => ⟨_, b, rfl, fun hb => ?_, fun hb => (h0 hb).along e1⟩⟩
    refine ⟨_, rfl, l, hs, rfl, e1 _ _ hl, nh, l1, l6, okh, fun H2 e2 => ⟨_, true, rfl, fun _ => ?_, fun hb => Bool.noConfusion hb⟩⟩
    replace e1 := e1.trans e2
    subst hb
    obtain ⟨z, rfl, hz⟩ := hn.yes
    have dd := hD z rfl hz
    replace hB := hB.same e1
    have hl2 := e1 _ _ hl
    refine ⟨fun σ' H' => σ' = [some (.ref B.p), some (.str z), some (.ref l)] ∧ H' = H2 ∧ (∀ a, S.due (.crew z hs a) = none), ?_, ?_⟩
    · skip
      obtain ⟨⟨dx, ob⟩, ⟨q1, s1, s2⟩, ⟨q2, h1, h2⟩, ⟨q3, k1, k2⟩, ⟨q4, g1, g2⟩, inn, ⟨q5, c1, c2⟩, nd⟩ := id hB
      by_cases hin : z ∈ keys S.crews
      · refine ⟨_, rfl, _, rfl, B.p, L, dx, _, _, rfl, ob, T.cl, T.n_crews, bfl_c B, B.c, _, rfl, DGet.k (k := Sum.inr z) c1, _, rfl, ?_⟩
        refine if_f (by rw [(c2.has.trans look_isSome), decide_eq_true hin]; rfl) ?_
        exact if_f rfl ⟨rfl, rfl, fun a => by simp [BS.due, hin]⟩
      · refine ⟨_, rfl, _, rfl, B.p, L, dx, _, _, rfl, ob, T.cl, T.n_crews, bfl_c B, B.c, _, rfl, DGet.k (k := Sum.inr z) c1, _, rfl, ?_⟩
        refine if_t (by rw [(c2.has.trans look_isSome), decide_eq_false hin]; rfl) ⟨_, rfl, B.p, L, dx, _, _, rfl, ob, T.cl, T.n_crews, bfl_c B, B.c, _, rfl, c1, _, _, rfl, rfl, _, rfl, ?_⟩
        have eln : (q5.length : Int) = S.crews.length := by rw [c2.len]
        by_cases hm8 : 8 ≤ S.crews.length
        · exact if_t (decide_eq_true (by omega)) (raise1 fun d hd => ((show Ref C 3 (.int 8) H E from dd.1 (.tooMany 8) B.p (by simp [BS.due, hin, hm8])).along e1).out hd)
        · exact if_f (decide_eq_false (by omega)) ⟨rfl, rfl, fun a => by simp [BS.due, hin, hm8]⟩
    · rintro σ' H3 ⟨rfl, rfl, dn⟩
      refine ⟨_, rfl, l, _, rfl, .inl (SqL.of hl2), fun p hp => ?_⟩
      have e3 : Same H3 (upd H3 p (.lst (hs.map V.str))) := Same.newp hp
      replace hB := hB.same e3
      obtain ⟨⟨dx, ob⟩, ⟨q1, s1, s2⟩, ⟨q2, h1, h2⟩, ⟨q3, k1, k2⟩, ⟨q4, g1, g2⟩, inn, ⟨q5, c1, c2⟩, nd⟩ := id hB
      refine ⟨_, rfl, B.p, L, dx, _, _, rfl, ob, T.cl, T.n_crews, bfl_c B, _, rfl, B.c, _, rfl, DPut.k (k := Sum.inr z) c1 (small1000 (by rw [c2.len]; have := hS.cL; omega)), ?_⟩
      have kp : Keep (bms B S) H (upd (upd H3 p (.lst (hs.map V.str))) B.c (.dK (putK q5 (Sum.inr z) (.ref p)))) := (Keep.of (e1.trans e3)).trans (Keep.dput c1 (by simp [bms]))
      by_cases hin : z ∈ keys S.crews
      · refine dd.2 _ p (dn p) (e1.free hp) ?_ kp
        show BdAt L _ B { S with crews := if z ∈ keys S.crews then setT S.crews z fun _ => ⟨p, hs⟩ else S.crews ++ [(z, ⟨p, hs⟩)] }
        rw [if_pos hin]
        exact hB.setC (c2.upd (f := fun _ => ⟨p, hs⟩) (v := .ref p) (fun _ => ⟨rfl, upd_same⟩) hin)
      · refine dd.2 _ p (dn p) (e1.free hp) ?_ kp
        show BdAt L _ B { S with crews := if z ∈ keys S.crews then setT S.crews z fun _ => ⟨p, hs⟩ else S.crews ++ [(z, ⟨p, hs⟩)] }
        rw [if_neg hin]
        exact hB.setC (c2.put (look_none.mpr hin) ⟨rfl, upd_same⟩)
end
end SM
/-! Part W52: a job on a board (k61 and on). -/
namespace SM
open PySem PySem.Spec PyProof.Rows L2
structure JobV where
  nm : Str
  ph : Str
  aim : Str
  sw : List Str
  dr : List Str
structure JA where
  p : Addr
  b : Addr
  st : Addr
  sw : Addr
  dr : Addr
def jfl (J : JA) (j : JobV) : List (Str × V) := [("_board", .ref J.b), ("_name", .str j.nm), ("_stretch", .ref J.st), ("_phase", .str j.ph), ("_aim", .str j.aim), ("_switches", .ref J.sw), ("_drains", .ref J.dr)]
/-- a job stands at J -/
structure JobAt (LJ : Addr) (H : Hp) (J : JA) (j : JobV) : Prop where
  ob : ∃ dx, H J.p = some (.ins LJ dx (jfl J j))
  sw : H J.sw = some (.lst (j.sw.map V.str))
  dr : H J.dr = some (.lst (j.dr.map V.str))
/-- what a job has to do with its board -/
structure JobOk (S : BS) (j : JobV) : Prop where
  nmI : j.nm ∈ keys S.crews
  swI : ∀ d ∈ j.sw, d ∈ keys S.devs
  drI : ∀ d ∈ j.dr, d ∈ keys S.devs
  swN : j.sw.Nodup
  drN : j.dr.Nodup
structure JB (L LJ : Addr) (H : Hp) (B : BA) (S : BS) (J : JA) (j : JobV) : Prop where
  bd : BdAt L H B S
  ok : S.Ok
  jb : JobAt LJ H J j
  eb : J.b = B.p
  jo : JobOk S j
section
variable {L LJ : Addr} {H H' : Hp} {B : BA} {S : BS} {J : JA} {j : JobV}
theorem JobAt.same (h : JobAt LJ H J j) (s : Same H H') : JobAt LJ H' J j := by
  obtain ⟨⟨dx, ob⟩, a, b⟩ := h
  exact ⟨⟨dx, s _ _ ob⟩, s _ _ a, s _ _ b⟩
theorem JB.same (h : JB L LJ H B S J j) (s : Same H H') : JB L LJ H' B S J j := ⟨h.bd.same s, h.ok, h.jb.same s, h.eb, h.jo⟩
theorem JobOk.swL (h : JobOk S j) (hS : S.Ok) : j.sw.length ≤ 52 := by
  have a := nodup_len h.swN h.swI
  rw [keys, List.length_map] at a
  exact Nat.le_trans a hS.dL
theorem JobOk.drL (h : JobOk S j) (hS : S.Ok) : j.dr.length ≤ 52 := by
  have a := nodup_len h.drN h.drI
  rw [keys, List.length_map] at a
  exact Nat.le_trans a hS.dL
end
def stOf (S : BS) (d : Str) : Str := ((look S.devs d).map (·.st)).getD ""
def homeOf (S : BS) (d : Str) : Str := ((look S.devs d).map (·.home)).getD ""
def onJ (S : BS) (n d : Str) : Bool := ((look S.devs d).map fun v => decide (n ∈ v.hung)).getD false
theorem stOf_eq {S : BS} {d : Str} {v : DevV} (e : look S.devs d = some v) : stOf S d = v.st := by rw [stOf, e]; rfl
theorem homeOf_eq {S : BS} {d : Str} {v : DevV} (e : look S.devs d = some v) : homeOf S d = v.home := by rw [homeOf, e]; rfl
theorem onJ_eq {S : BS} {n d : Str} {v : DevV} (e : look S.devs d = some v) : onJ S n d = decide (n ∈ v.hung) := by rw [onJ, e]; rfl
abbrev Row := Str × Option Str
def stepsTo (S : BS) (n pos : Str) (ds : List Str) : List Row := (ds.filter fun d => !decide (stOf S d = pos) || !onJ S n d).map fun d => (d, some pos)
def trialA (S : BS) (j : JobV) : List Row := (j.dr.reverse.filter fun d => decide (stOf S d = "open")).map fun d => (d, some "shut")
def trialB (S : BS) (j : JobV) : List Row := (j.sw.reverse.filter fun d => !decide (stOf S d = homeOf S d)).map fun d => (d, some (homeOf S d))
def stepsAway (S : BS) (j : JobV) : List Row := ((j.dr.reverse ++ j.sw.reverse).filter fun d => onJ S j.nm d).map fun d => (d, none)
def stepsOf (S : BS) (j : JobV) : List Row :=
  if j.ph = "still" then stepsTo S j.nm "shut" j.sw ++ stepsTo S j.nm "open" j.dr
  else if j.ph = "trial" then trialA S j ++ trialB S j
  else if j.ph = "away" then stepsAway S j else []
def RowsP (H : Hp) (ts : List Addr) (rs : List Row) : Prop := Paired (fun t r => H t = some (.tup [.str r.1, butV r.2])) ts rs
theorem RowsP.same {H H' : Hp} {ts : List Addr} {rs : List Row} (h : RowsP H ts rs) (s : Same H H') : RowsP H' ts rs := Paired.mono (fun _ _ q => s _ _ q) h
theorem RowsP.snoc {H : Hp} {t : Addr} {r : Row} (h : H t = some (.tup [.str r.1, butV r.2])) : ∀ {ts : List Addr} {rs : List Row}, RowsP H ts rs → RowsP H (ts ++ [t]) (rs ++ [r])
  | _, _, .nil => .cons h .nil
  | _, _, .cons a b => .cons a (RowsP.snoc h b)
theorem RowsP.app {H : Hp} : ∀ {ts us : List Addr} {rs qs : List Row}, RowsP H ts rs → RowsP H us qs → RowsP H (ts ++ us) (rs ++ qs)
  | _, _, _, _, .nil, k => k
  | _, _, _, _, .cons a b, k => .cons a (RowsP.app b k)
theorem RowsP.wr {H : Hp} {D : Addr} {xs ys : List V} {ts : List Addr} {rs : List Row} (h : RowsP H ts rs) (e : H D = some (.lst xs)) : RowsP (upd H D (.lst ys)) ts rs :=
  Paired.mono (fun _ _ q => (upd_ne (ne_of q e (by intro w; cases w))).trans q) h
section
variable (L LJ : Addr)
def spJPhase : Sp := fun vs H Q _ => ∃ (J : JA) (j : JobV), vs = [.ref J.p] ∧ JobAt LJ H J j ∧ Q (.str j.ph) H
def spJOn : Sp := fun vs H Q _ => ∃ (B : BA) (S : BS) (J : JA) (j : JobV) (d : Str), vs = [.ref J.p, .str d] ∧ JB L LJ H B S J j ∧ d ∈ keys S.devs ∧ ∀ H', Same H H' → Q (.bl (onJ S j.nm d)) H'
/-- rows told anew -/
def spJRows (f : BS → JobV → List Row) : Sp := fun vs H Q _ => ∃ (B : BA) (S : BS) (J : JA) (j : JobV), vs = [.ref J.p] ∧ JB L LJ H B S J j ∧ ∀ (H' : Hp) (p : Addr) (ts : List Addr), Same H H' → H p = none → H' p = some (.lst (ts.map V.ref)) → RowsP H' ts (f S j) → Q (.ref p) H'
def spJTo : Sp := fun vs H Q _ => ∃ (B : BA) (S : BS) (J : JA) (j : JobV) (pos : Str) (l : Addr) (ds : List Str), vs = [.ref J.p, .str pos, .ref l] ∧ JB L LJ H B S J j ∧ H l = some (.lst (ds.map V.str)) ∧ (∀ d ∈ ds, d ∈ keys S.devs) ∧ ds.length ≤ 52 ∧
  ∀ (H' : Hp) (p : Addr) (ts : List Addr), Same H H' → H p = none → H' p = some (.lst (ts.map V.ref)) → RowsP H' ts (stepsTo S j.nm pos ds) → Q (.ref p) H'
def spJBack : Sp := fun vs H Q _ => ∃ (B : BA) (S : BS) (J : JA) (j : JobV), vs = [.ref J.p] ∧ JB L LJ H B S J j ∧ ∀ (H' : Hp) (p : Addr), Same H H' → H p = none → H' p = some (.lst ((j.dr.reverse ++ j.sw.reverse).map V.str)) → Q (.ref p) H'
def spJReady : Sp := fun vs H Q _ => ∃ (B : BA) (S : BS) (J : JA) (j : JobV), vs = [.ref J.p] ∧ JB L LJ H B S J j ∧ ∀ H', Same H H' → Q (.bl (decide (j.ph = "still") && decide (stepsOf S j = []))) H'
end
section
variable (J : JA) (j : JobV)
private theorem nJ {a b : Str} (h : (a == b) = false) : (a == b) = false := h
theorem jfl_b : (jfl J j).lookup ("_board" : Str) = some (.ref J.b) := by simp only [jfl, List.lookup_cons, beq_self_eq_true]
theorem jfl_bB {J : JA} {j : JobV} {B : BA} (e : J.b = B.p) : (jfl J j).lookup ("_board" : Str) = some (.ref B.p) := by rw [← e]; simp only [jfl, List.lookup_cons, beq_self_eq_true]
theorem jfl_n : (jfl J j).lookup ("_name" : Str) = some (.str j.nm) := by
  have n1 : (("_name" : Str) == "_board") = false := by decide +kernel
  simp only [jfl, List.lookup_cons, beq_self_eq_true, n1]
theorem jfl_p : (jfl J j).lookup ("_phase" : Str) = some (.str j.ph) := by
  have n1 : (("_phase" : Str) == "_board") = false := by decide +kernel
  have n2 : (("_phase" : Str) == "_name") = false := by decide +kernel
  have n3 : (("_phase" : Str) == "_stretch") = false := by decide +kernel
  simp only [jfl, List.lookup_cons, beq_self_eq_true, n1, n2, n3]
theorem jfl_a : (jfl J j).lookup ("_aim" : Str) = some (.str j.aim) := by
  have n1 : (("_aim" : Str) == "_board") = false := by decide +kernel
  have n2 : (("_aim" : Str) == "_name") = false := by decide +kernel
  have n3 : (("_aim" : Str) == "_stretch") = false := by decide +kernel
  have n4 : (("_aim" : Str) == "_phase") = false := by decide +kernel
  simp only [jfl, List.lookup_cons, beq_self_eq_true, n1, n2, n3, n4]
theorem jfl_s : (jfl J j).lookup ("_switches" : Str) = some (.ref J.sw) := by
  have n1 : (("_switches" : Str) == "_board") = false := by decide +kernel
  have n2 : (("_switches" : Str) == "_name") = false := by decide +kernel
  have n3 : (("_switches" : Str) == "_stretch") = false := by decide +kernel
  have n4 : (("_switches" : Str) == "_phase") = false := by decide +kernel
  have n5 : (("_switches" : Str) == "_aim") = false := by decide +kernel
  simp only [jfl, List.lookup_cons, beq_self_eq_true, n1, n2, n3, n4, n5]
theorem jfl_d : (jfl J j).lookup ("_drains" : Str) = some (.ref J.dr) := by
  have n1 : (("_drains" : Str) == "_board") = false := by decide +kernel
  have n2 : (("_drains" : Str) == "_name") = false := by decide +kernel
  have n3 : (("_drains" : Str) == "_stretch") = false := by decide +kernel
  have n4 : (("_drains" : Str) == "_phase") = false := by decide +kernel
  have n5 : (("_drains" : Str) == "_aim") = false := by decide +kernel
  have n6 : (("_drains" : Str) == "_switches") = false := by decide +kernel
  simp only [jfl, List.lookup_cons, beq_self_eq_true, n1, n2, n3, n4, n5, n6]
theorem jfl_no {x : Str} (h : ([("_board" : Str), "_name", "_stretch", "_phase", "_aim", "_switches", "_drains"]).contains x = false) : (jfl J j).lookup x = none := by
  simp only [List.contains_cons, List.contains_nil, Bool.or_false, Bool.or_eq_false_iff] at h
  obtain ⟨a, b, c, d, e, f, g⟩ := h
  simp only [jfl, List.lookup_cons, a, b, c, d, e, f, g, List.lookup_nil]
end
end SM
namespace SM
open PySem PySem.Spec PyProof.Rows L2
/-- rows laid in the new list D -/
def RowsG (H0 G : Hp) (D : Addr) (rs : List Row) : Prop := Same H0 G ∧ ∃ ts : List Addr, G D = some (.lst (ts.map V.ref)) ∧ RowsP G ts rs
theorem RowsG.new {H0 : Hp} {D : Addr} (h : H0 D = none) : RowsG H0 (upd H0 D (.lst [])) D [] := ⟨Same.newp h, [], upd_same, .nil⟩
theorem RowsG.same {H0 G G2 : Hp} {D : Addr} {rs : List Row} (h : RowsG H0 G D rs) (s : Same G G2) : RowsG H0 G2 D rs := by
  obtain ⟨a, ts, b, c⟩ := h
  exact ⟨a.trans s, ts, s _ _ b, c.same s⟩
theorem RowsG.add {H0 G G2 : Hp} {D t : Addr} {rs : List Row} (r : Row) (h : RowsG H0 G D rs) (l : rs.length ≤ 900) (hD : H0 D = none) (s : Same G G2) (ht : G2 t = none) :
    ∃ zs, (upd G2 t (.tup [.str r.1, butV r.2])) D = some (.lst zs) ∧ zs.length < sizeLine ∧ RowsG H0 (upd (upd G2 t (.tup [.str r.1, butV r.2])) D (.lst (zs ++ [.ref t]))) D (rs ++ [r]) := by
  obtain ⟨e1, ts, hD1, rp⟩ := h
  have s3 := s.trans (Same.newp (o := .tup [.str r.1, butV r.2]) ht)
  have hD3 := s3 _ _ hD1
  have lt : ts.length = rs.length := Paired.length rp
  refine ⟨_, hD3, by rw [List.length_map]; exact small1000 (by omega), fun b u eb => (upd_ne (ne_of_none eb hD)).trans (s3 _ _ (e1 _ _ eb)), ts ++ [t], by rw [upd_same, List.map_append]; rfl, ?_⟩
  exact RowsP.wr (RowsP.snoc (r := r) upd_same (rp.same s3)) hD3
def rowsF (p : Str → Bool) (f : Str → Row) (xs : List Str) : List Row := (xs.filter p).map f
theorem rowsF_yes {p : Str → Bool} {f : Str → Row} {xs : List Str} {m : Nat} {x : Str} (e : xs[m]? = some x) (h : p x = true) : rowsF p f (xs.take (m + 1)) = rowsF p f (xs.take m) ++ [f x] := by
  rw [rowsF, List.take_add_one, e, show xs.take m ++ (some x).toList = xs.take m ++ [x] from rfl, List.filter_append, List.filter_cons, if_pos h, List.filter_nil, List.map_append]
  rfl
theorem rowsF_no {p : Str → Bool} {f : Str → Row} {xs : List Str} {m : Nat} {x : Str} (e : xs[m]? = some x) (h : p x = false) : rowsF p f (xs.take (m + 1)) = rowsF p f (xs.take m) := by
  rw [rowsF, List.take_add_one, e, show xs.take m ++ (some x).toList = xs.take m ++ [x] from rfl, List.filter_append, List.filter_cons, if_neg (by rw [h]; exact Bool.noConfusion), List.filter_nil, List.append_nil]
  rfl
theorem rowsF_len {p : Str → Bool} {f : Str → Row} {xs : List Str} (m : Nat) : (rowsF p f (xs.take m)).length ≤ xs.length := by
  rw [rowsF, List.length_map]
  refine Nat.le_trans (List.length_filter_le _ _) ?_
  rw [List.length_take]
  omega
theorem RowsP.at {H : Hp} : ∀ {ts : List Addr} {rs : List Row}, RowsP H ts rs → ∀ {m : Nat} {t : Addr}, ts[m]? = some t → ∃ r, rs[m]? = some r ∧ H t = some (.tup [.str r.1, butV r.2])
  | _, _, .nil, _, _, e => by simp at e
  | _, _, .cons a b, 0, t, e => by
    obtain rfl := Option.some.inj e
    exact ⟨_, rfl, a⟩
  | _, _, .cons a b, m + 1, t, e => RowsP.at b (m := m) (by simpa using e)
end SM
namespace SM
open PySem PySem.Spec PyProof.Rows L2
open Evl (tCut pss_cut)
abbrev s_is_stretch : Stmt := topS 22
abbrev s__have_one_in_common : Stmt := topS 30
abbrev s_Job___init__ : Stmt := inClass (topS 29) 0
abbrev s_Job_begin : Stmt := inClass (topS 29) 1
abbrev s_Job_step : Stmt := inClass (topS 29) 2
abbrev s_Job_give : Stmt := inClass (topS 29) 3
abbrev s_Job_try_out : Stmt := inClass (topS 29) 4
abbrev s_Job_go_on : Stmt := inClass (topS 29) 5
abbrev s_Job_put_by : Stmt := inClass (topS 29) 6
abbrev s_Job_called : Stmt := inClass (topS 29) 11
abbrev s_Job_phase : Stmt := inClass (topS 29) 12
abbrev s_Job_stretch : Stmt := inClass (topS 29) 13
abbrev s_Job_switches : Stmt := inClass (topS 29) 14
abbrev s_Job_drains : Stmt := inClass (topS 29) 15
abbrev s_Job_crew_now : Stmt := inClass (topS 29) 16
abbrev s_Job_steps : Stmt := inClass (topS 29) 17
abbrev s_Job_is_ready : Stmt := inClass (topS 29) 18
abbrev s_Job__refuse_unless_in : Stmt := inClass (topS 29) 20
abbrev s_Job__refuse_company : Stmt := inClass (topS 29) 21
abbrev s_Job__go_away : Stmt := inClass (topS 29) 22
abbrev s_Job__leave_away : Stmt := inClass (topS 29) 23
abbrev s_Job__has_tags_on : Stmt := inClass (topS 29) 24
abbrev s_Job__steps_to : Stmt := inClass (topS 29) 25
abbrev s_Job__steps_of_trial : Stmt := inClass (topS 29) 26
abbrev s_Job__last_to_first : Stmt := inClass (topS 29) 27
/-- what the top has made of the class of jobs -/
structure Jx (K : PySem.W.Frag) (mg : Str → Option Value) (C : Nat → Addr) (M L LJ : Addr) : Prop extends Bx K mg C M L where
  d_is_stretch : DefAt K mg "is_stretch" s_is_stretch
  d_have_one_in_common : DefAt K mg "_have_one_in_common" s__have_one_in_common
  j_init : MethAt K LJ "__init__" "Job.__init__" s_Job___init__
  j_begin : MethAt K LJ "begin" "Job.begin" s_Job_begin
  j_step : MethAt K LJ "step" "Job.step" s_Job_step
  j_give : MethAt K LJ "give" "Job.give" s_Job_give
  j_try_out : MethAt K LJ "try_out" "Job.try_out" s_Job_try_out
  j_go_on : MethAt K LJ "go_on" "Job.go_on" s_Job_go_on
  j_put_by : MethAt K LJ "put_by" "Job.put_by" s_Job_put_by
  j_called : MethAt K LJ "called" "Job.called" s_Job_called
  j_phase : MethAt K LJ "phase" "Job.phase" s_Job_phase
  j_stretch : MethAt K LJ "stretch" "Job.stretch" s_Job_stretch
  j_switches : MethAt K LJ "switches" "Job.switches" s_Job_switches
  j_drains : MethAt K LJ "drains" "Job.drains" s_Job_drains
  j_crew_now : MethAt K LJ "crew_now" "Job.crew_now" s_Job_crew_now
  j_steps : MethAt K LJ "steps" "Job.steps" s_Job_steps
  j_is_ready : MethAt K LJ "is_ready" "Job.is_ready" s_Job_is_ready
  j__refuse_unless_in : MethAt K LJ "_refuse_unless_in" "Job._refuse_unless_in" s_Job__refuse_unless_in
  j__refuse_company : MethAt K LJ "_refuse_company" "Job._refuse_company" s_Job__refuse_company
  j__go_away : MethAt K LJ "_go_away" "Job._go_away" s_Job__go_away
  j__leave_away : MethAt K LJ "_leave_away" "Job._leave_away" s_Job__leave_away
  j__has_tags_on : MethAt K LJ "_has_tags_on" "Job._has_tags_on" s_Job__has_tags_on
  j__steps_to : MethAt K LJ "_steps_to" "Job._steps_to" s_Job__steps_to
  j__steps_of_trial : MethAt K LJ "_steps_of_trial" "Job._steps_of_trial" s_Job__steps_of_trial
  j__last_to_first : MethAt K LJ "_last_to_first" "Job._last_to_first" s_Job__last_to_first
  mkJ : PySem.W.makesIn K LJ = true
  kJ : PySem.W.keepIn K (.ref LJ) = true
  gJ : mg "Job" = some (.ref LJ)
  clJ : Cls K LJ
  nj_board : NoAttr K LJ "_board"
  nj_name : NoAttr K LJ "_name"
  nj_stretch : NoAttr K LJ "_stretch"
  nj_phase : NoAttr K LJ "_phase"
  nj_aim : NoAttr K LJ "_aim"
  nj_switches : NoAttr K LJ "_switches"
  nj_drains : NoAttr K LJ "_drains"
  b_any : mg "any" = none
  i_ha : PySem.W.findIn K (.ref L) "__class__" = some (some (.builtin "object.__class__"))
  i_hn : PySem.W.specialIn K (.builtin "object.__class__") "__get__" = some (some (.builtin "getset_descriptor.__get__"))
  i_ht : PySem.W.takesIn K (.builtin "object.__class__") = some true
  i_hm : PySem.W.mroIn K L (.type "object") = some true
  g_MOST_IN_STRETCH : ∃ t, mg "MOST_IN_STRETCH" = some (.int 24 t)
section
variable {P : Program} {w : World} {K : PySem.W.Frag} {mg : Str → Option Value} {base : Heap} {C : Nat → Addr} {M L LJ : Addr}
theorem sc_Job_phase : FnScope ["self"] ["self"] (defScope s_Job_phase) := ⟨rfl, rfl, rfl, by decide +kernel, rfl, by decide +kernel, by decide +kernel⟩
theorem oj_phase (T : Jx K mg C M L LJ) : OkM P w K mg base CX0 1 LJ "phase" ["self"] (spJPhase LJ) := by
  refine T.j_phase.ok sc_Job_phase (fun _ _ _ _ _ _ us hl => match us, hl with | [_], _ => rfl) (fun vs H Q E h => ?_) (fun f cdv Ar outer st H vs Q E hr h => ?_)
  · obtain ⟨J, j, rfl, _⟩ := h
    rfl
  · obtain ⟨J, j, rfl, h, k⟩ := h
    obtain ⟨dx, ob⟩ := id h.ob
    refine ⟨_, (pss_one (ps_ret (pe_fld (pv 0) rfl))), ?_⟩
    exact ⟨_, rfl, J.p, LJ, dx, _, _, rfl, ob, T.clJ, T.nj_phase, jfl_p J j, k⟩
theorem sc_Job__has_tags_on : FnScope ["self", "device"] ["self", "device"] (defScope s_Job__has_tags_on) := ⟨rfl, rfl, rfl, by decide +kernel, rfl, by decide +kernel, by decide +kernel⟩
theorem oj_has_tags_on (T : Jx K mg C M L LJ) : OkM P w K mg base CX0 5 LJ "_has_tags_on" ["self", "device"] (spJOn L LJ) := by
  refine T.j__has_tags_on.ok sc_Job__has_tags_on (fun _ _ _ _ _ _ us hl => match us, hl with | [_, _], _ => rfl) (fun vs H Q E h => ?_) (fun f cdv Ar outer st H vs Q E hr h => ?_)
  · obtain ⟨B, S, J, j, d, rfl, _⟩ := h
    rfl
  · obtain ⟨B, S, J, j, d, rfl, h, inD, k⟩ := h
    obtain ⟨dx, ob⟩ := id h.jb.ob
    obtain ⟨dxb, obb⟩ := id h.bd.ob
    have gz := h.ok.dG _ inD
    obtain ⟨v, el⟩ := look_some inD
    refine ⟨_, (pss_one (ps_ret (pe_cmpR op_in_seq (pe_fld (pv 0) rfl) (pe_m (ok_jobs_on T.toBx) T.cl (hr.mono (by decide)) passL (pe_fld (pv 0) rfl) (pa_cons (pv 1) pa_nil)) rfl))), ?_⟩
    refine ⟨_, rfl, J.p, LJ, dx, _, _, rfl, ob, T.clJ, T.nj_name, jfl_n J j, _, rfl, J.p, LJ, dx, _, _, rfl, ob, T.clJ, T.nj_board, jfl_bB h.eb, B.p, dxb, _, rfl, obb, bfl_no B (by decide +kernel), _, rfl, B, .str d, true, S, rfl, h.bd, h.ok, NameQ.of gz, (fun w => Bool.noConfusion w), fun z1 ez _ => ?_⟩
    cases ez
    refine ⟨fun no => absurd inD no, fun v1 ev H1 x s1 told => ?_⟩
    obtain rfl : v = v1 := Option.some.inj (el.symm.trans ev)
    obtain ⟨p, ys, rfl, np, sy, hp⟩ := told
    refine ⟨p, _, rfl, .inl (SqL.of hp), rfl, flat_strs _, ?_⟩
    have e : (if false = true then !inV (.str j.nm) (ys.map V.str) else inV (.str j.nm) (ys.map V.str)) = onJ S j.nm d := by
      show inV (.str j.nm) (ys.map V.str) = _
      rw [inV_strs, onJ_eq el]
      exact decide_eq_decide.mpr sy.1.mem_iff
    rw [e]
    exact k _ s1
theorem sc_Job__steps_to : FnScope ["self", "position", "devices", "device"] ["self", "position", "devices"] (defScope s_Job__steps_to) := ⟨rfl, rfl, rfl, by decide +kernel, rfl, by decide +kernel, by decide +kernel⟩
theorem oj_steps_to (T : Jx K mg C M L LJ) : OkM P w K mg base CX0 6 LJ "_steps_to" ["self", "position", "devices"] (spJTo L LJ) := by
  refine T.j__steps_to.ok sc_Job__steps_to (fun _ _ _ _ _ _ us hl => match us, hl with | [_, _, _], _ => rfl) (fun vs H Q E h => ?_) (fun f cdv Ar outer st H vs Q E hr h => ?_)
  · obtain ⟨B, S, J, j, pos, l, ds, rfl, _⟩ := h
    rfl
  · obtain ⟨B, S, J, j, pos, l, ds, rfl, h0, hl, hds, l52, k⟩ := h
    refine ⟨_, (pss_one (ps_ret (pe_lc (own := [("device", 3)]) rfl sc_Job__steps_to.nd (pi_list (pv 2)) (blkOk_by (N := ["self", "position", "devices", "device"]) (sc := (defScope s_Job__steps_to)) (by decide +kernel)) (fun _ _ _ _ _ => (pg_name (i := 3) sc_Job__steps_to.nd rfl (Or.inl rfl))) (fun _ _ _ _ _ => (pts_one (PW.pt (pw_or (pt_cmpR op_ne (pe_m (ok_stands T.toBx) T.cl (hr.mono (by decide)) passL (pe_fldK (K := K) rfl (pv 0) rfl) (pa_cons (pv 3) pa_nil)) (pv 1) (nomark _)) (pw_or1 (pt_not (pt_val (pe_m (oj_has_tags_on T) T.clJ (hr.mono (by decide)) pass0 (pv 0) (pa_cons (pv 3) pa_nil))))))))) (fun _ _ _ _ _ => (pe_tup (pa_cons (pv 3) (pa_cons (pv 1) pa_nil))))))), ?_⟩
    refine ⟨_, rfl, l, rfl, ⟨_, SqL.of hl⟩, fun D hD => ?_⟩
    refine lc_list (K := K) (a := l) (xs := ds.map V.str) (fun m G => Same H G ∧ ∃ ts : List Addr, G D = some (.lst (ts.map V.ref)) ∧ RowsP G ts (stepsTo S j.nm pos (ds.take m))) ⟨Same.newp hD, [], upd_same, .nil⟩ (fun m G _ z => SqL.of (z.1 _ _ hl)) ?_ ?_
    · rintro m y G hm ⟨e1, ts, hD1, rp⟩
      rw [List.getElem?_map] at hm
      obtain ⟨x, ex, rfl⟩ := Option.map_eq_some_iff.mp hm
      have tk : ds.take (m + 1) = ds.take m ++ [x] := by
        rw [List.take_add_one, ex]
        rfl
      have lr : (stepsTo S j.nm pos (ds.take m)).length ≤ 52 := by
        rw [stepsTo, List.length_map]
        refine Nat.le_trans (List.length_filter_le _ _) ?_
        rw [List.length_take]
        omega
      have lt : ts.length ≤ 52 := by rw [Paired.length rp]; exact lr
      have inD := hds x (List.mem_of_getElem? ex)
      have h := h0.same e1
      obtain ⟨dx, ob⟩ := id h.jb.ob
      obtain ⟨dxb, obb⟩ := id h.bd.ob
      have gz := h.ok.dG _ inD
      obtain ⟨v, el⟩ := look_some inD
      have no : ∀ {c : Bool}, (!decide (stOf S x = pos) || !onJ S j.nm x) = false → stepsTo S j.nm pos (ds.take (m + 1)) = stepsTo S j.nm pos (ds.take m) := fun {c} e => by
        rw [tk, stepsTo, List.filter_append, List.filter_cons, if_neg (by rw [e]; exact Bool.noConfusion), List.filter_nil, List.append_nil]
        rfl
      have yes : (!decide (stOf S x = pos) || !onJ S j.nm x) = true → stepsTo S j.nm pos (ds.take (m + 1)) = stepsTo S j.nm pos (ds.take m) ++ [(x, some pos)] := fun e => by
        rw [tk, stepsTo, List.filter_append, List.filter_cons, if_pos e, List.filter_nil, List.map_append]
        rfl
      refine ⟨rfl, _, rfl, J.p, LJ, dx, _, _, rfl, ob, T.clJ, T.nj_board, jfl_bB h.eb, B.p, dxb, _, rfl, obb, bfl_no B (by decide +kernel), _, rfl, B, .str x, true, S, rfl, h.bd, h.ok, NameQ.of gz, (fun w => Bool.noConfusion w), fun z1 ez _ => ?_⟩
      cases ez
      refine ⟨fun no => absurd inD no, fun v1 ev G1 u s1 told => ?_⟩
      obtain rfl : v = v1 := Option.some.inj (el.symm.trans ev)
      subst told
      have fin : ∀ G2, Same G G2 → (!decide (stOf S x = pos) || !onJ S j.nm x) = true → ∀ t, G2 t = none → ∃ zs, (upd G2 t (.tup [.str x, .str pos])) D = some (.lst zs) ∧ zs.length < sizeLine ∧ (Same H (upd (upd G2 t (.tup [.str x, .str pos])) D (.lst (zs ++ [.ref t]))) ∧ ∃ ts : List Addr, upd (upd G2 t (.tup [.str x, .str pos])) D (.lst (zs ++ [.ref t])) D = some (.lst (ts.map V.ref)) ∧ RowsP (upd (upd G2 t (.tup [.str x, .str pos])) D (.lst (zs ++ [.ref t]))) ts (stepsTo S j.nm pos (ds.take (m + 1)))) := fun G2 s2 e t ht => by
        have s3 := s2.trans (Same.newp (o := .tup [.str x, .str pos]) ht)
        have hD3 := s3 _ _ hD1
        refine ⟨_, hD3, by rw [List.length_map]; exact small1000 (by omega), fun b u eb => (upd_ne (ne_of_none eb hD)).trans (s3 _ _ (e1 _ _ eb)), ts ++ [t], by rw [upd_same, List.map_append]; rfl, ?_⟩
        rw [yes e]
        exact RowsP.wr (RowsP.snoc (r := (x, some pos)) upd_same (rp.same s3)) hD3
      refine ⟨_, rfl, rfl, _, rfl, ?_⟩
      by_cases hp : v.st = pos
      · refine if_f (by simp [hp]) ?_
        have ob1 := s1 _ _ ob
        refine ⟨_, rfl, J.p, dx, _, rfl, ob1, jfl_no J j (by decide +kernel), _, rfl, B, S, J, j, x, rfl, h.same s1, inD, fun G2 s2 => ⟨_, rfl, ?_⟩⟩
        by_cases ho : onJ S j.nm x = true
        · refine if_f (by rw [ho]; rfl) ⟨(e1.trans s1).trans s2, ts, s2 _ _ (s1 _ _ hD1), ?_⟩
          rw [no (c := true) (by rw [stOf_eq el, hp, ho]; simp)]
          exact (rp.same s1).same s2
        · refine if_t (by rw [Bool.eq_false_iff.mpr ho]; rfl) ⟨_, rfl, _, rfl, (by show 2 ≤ sizeLine; decide), fun t ht => ?_⟩
          exact fin G2 (s1.trans s2) (by rw [Bool.eq_false_iff.mpr ho]; simp) t ht
      · refine if_t (by simp [hp]) (if_t rfl ⟨_, rfl, _, rfl, (by show 2 ≤ sizeLine; decide), fun t ht => ?_⟩)
        exact fin G1 s1 (by rw [stOf_eq el]; simp [hp]) t ht
    · rintro G ⟨e1, ts, hD1, rp⟩
      rw [List.length_map, List.take_length] at rp
      exact k G D ts e1 hD hD1 rp
theorem sc_Job__last_to_first : FnScope ["self"] ["self"] (defScope s_Job__last_to_first) := ⟨rfl, rfl, rfl, by decide +kernel, rfl, by decide +kernel, by decide +kernel⟩
theorem oj_last_to_first (T : Jx K mg C M L LJ) : OkM P w K mg base CX0 1 LJ "_last_to_first" ["self"] (spJBack L LJ) := by
  refine T.j__last_to_first.ok sc_Job__last_to_first (fun _ _ _ _ _ _ us hl => match us, hl with | [_], _ => rfl) (fun vs H Q E h => ?_) (fun f cdv Ar outer st H vs Q E hr h => ?_)
  · obtain ⟨B, S, J, j, rfl, _⟩ := h
    rfl
  · obtain ⟨B, S, J, j, rfl, h, k⟩ := h
    obtain ⟨dx, ob⟩ := id h.jb.ob
    have hS := h.ok
    refine ⟨_, (pss_one (ps_ret (pe_op op_cat (pe_revL (pe_fld (pv 0) rfl)) (pe_revL (pe_fld (pv 0) rfl))))), ?_⟩
    have l1 := h.jo.swL hS
    have l2 := h.jo.drL hS
    refine ⟨_, rfl, J.p, LJ, dx, _, _, rfl, ob, T.clJ, T.nj_drains, jfl_d J j, J.dr, _, rfl, SqL.of h.jb.dr, fun p1 hp1 => ?_⟩
    rw [← List.map_reverse]
    have s1 := Same.newp (o := .lst (j.dr.reverse.map V.str)) hp1
    refine ⟨_, rfl, J.p, LJ, dx, _, _, rfl, s1 _ _ ob, T.clJ, T.nj_switches, jfl_s J j, J.sw, _, rfl, SqL.of (s1 _ _ h.jb.sw), fun p2 hp2 => ?_⟩
    rw [← List.map_reverse]
    have s2 := Same.newp (o := .lst (j.sw.reverse.map V.str)) hp2
    refine ⟨p1, p2, _, _, rfl, rfl, s2 _ _ upd_same, upd_same, Nat.le_of_lt (small1000 (by rw [List.length_map, List.length_map, List.length_reverse, List.length_reverse]; omega)), fun p hp => ?_⟩
    rw [← List.map_append]
    have s3 := Same.newp (o := .lst ((j.dr.reverse ++ j.sw.reverse).map V.str)) hp
    exact k _ p ((s1.trans s2).trans s3) ((s1.trans s2).free hp) upd_same
end
end SM
namespace SM
open PySem PySem.Spec PyProof.Rows L2
open Evl (tCut pss_cut)
section
variable {P : Program} {w : World} {K : PySem.W.Frag} {mg : Str → Option Value} {base : Heap} {C : Nat → Addr} {M L LJ : Addr}
theorem sc_Job__steps_of_trial : FnScope ["self", "drains", "drain", "switches", "switch", "home"] ["self"] (defScope s_Job__steps_of_trial) := ⟨rfl, rfl, rfl, by decide +kernel, rfl, by decide +kernel, by decide +kernel⟩
theorem oj_steps_of_trial (T : Jx K mg C M L LJ) : OkM P w K mg base CX0 5 LJ "_steps_of_trial" ["self"] (spJRows L LJ (fun S j => trialA S j ++ trialB S j)) := by
  refine T.j__steps_of_trial.ok sc_Job__steps_of_trial (fun _ _ _ _ _ _ us hl => match us, hl with | [_], _ => rfl) (fun vs H Q E h => ?_) (fun f cdv Ar outer st H vs Q E hr h => ?_)
  · obtain ⟨B, S, J, j, rfl, _⟩ := h
    rfl
  · obtain ⟨B, S, J, j, rfl, h0, k⟩ := h
    obtain ⟨dx, ob⟩ := id h0.jb.ob
    have hS := h0.ok
    have l1 := h0.jo.swL hS
    have l2 := h0.jo.drL hS
    refine ⟨_, (pss_cons (ps_setLc (i := 1) (own := [("drain", 2)]) rfl sc_Job__steps_of_trial.nd rfl rfl (sw_true rfl rfl rfl (by decide +kernel)) (pi_list (pe_revL (pe_fld (pv 0) rfl))) (blkOk_by (N := ["self", "drains", "drain", "switches", "switch", "home"]) (sc := (defScope s_Job__steps_of_trial)) (by decide +kernel)) (fun _ _ _ _ _ => (pg_name (i := 2) sc_Job__steps_of_trial.nd rfl (Or.inl rfl))) (fun _ _ _ _ _ => (pts_one (pt_cmpR op_eq (pe_m (ok_stands T.toBx) T.cl (hr.mono (by decide)) passL (pe_fldK (K := K) rfl (pv 0) rfl) (pa_cons (pv 2) pa_nil)) pe_str (nomark _)))) (fun _ _ _ _ _ => (pe_tup (pa_cons (pv 2) (pa_cons pe_str pa_nil))))) (pss_cons (ps_setLc (i := 3) (own := [("switch", 4)]) rfl sc_Job__steps_of_trial.nd rfl rfl (sw_true rfl rfl rfl (by decide +kernel)) (pi_list (pe_revL (pe_fld (pv 0) rfl))) (blkOk_by (N := ["self", "drains", "drain", "switches", "switch", "home"]) (sc := (defScope s_Job__steps_of_trial)) (by decide +kernel)) (fun _ _ _ _ _ => (pg_name (i := 4) sc_Job__steps_of_trial.nd rfl (Or.inl rfl))) (fun _ _ _ _ _ => pts_nil) (fun _ _ _ _ _ => (pe_tup (pa_cons (pv 4) (pa_cons (pe_m (ok_home T.toBx) T.cl (hr.mono (by decide)) passL (pe_fldK (K := K) rfl (pv 0) rfl) (pa_cons (pv 4) pa_nil)) pa_nil))))) (pss_one (ps_ret (pe_op op_cat (pv 1) (pe_lc (own := [("switch", 4), ("home", 5)]) rfl sc_Job__steps_of_trial.nd (pi_list (pv 3)) (blkOk_by (N := ["self", "drains", "drain", "switches", "switch", "home"]) (sc := (defScope s_Job__steps_of_trial)) (by decide +kernel)) (fun _ _ _ _ _ => (pg_tupK (K := K) (n := 2) rfl rfl (pgs_cons (pg_name (i := 4) sc_Job__steps_of_trial.nd rfl (Or.inl rfl)) (pgs_cons (pg_name (i := 5) sc_Job__steps_of_trial.nd rfl (Or.inl rfl)) pgs_nil)))) (fun _ _ _ _ _ => (pts_one (pt_cmpR op_ne (pe_m (ok_stands T.toBx) T.cl (hr.mono (by decide)) passL (pe_fldK (K := K) rfl (pv 0) rfl) (pa_cons (pv 4) pa_nil)) (pv 5) (nomark _)))) (fun _ _ _ _ _ => (pe_tup (pa_cons (pv 4) (pa_cons (pv 5) pa_nil)))))))))), ?_⟩
    refine ⟨_, rfl, J.p, LJ, dx, _, _, rfl, ob, T.clJ, T.nj_drains, jfl_d J j, J.dr, _, rfl, SqL.of h0.jb.dr, fun p1 hp1 => ?_⟩
    rw [← List.map_reverse]
    have s0 := Same.newp (o := .lst (j.dr.reverse.map V.str)) hp1
    have hr1 : upd H p1 (.lst (j.dr.reverse.map V.str)) p1 = some (.lst (j.dr.reverse.map V.str)) := upd_same
    generalize upd H p1 (.lst (j.dr.reverse.map V.str)) = H1 at s0 hr1 ⊢
    refine ⟨p1, rfl, ⟨_, SqL.of hr1⟩, fun D hD => ?_⟩
    refine lc_list (K := K) (a := p1) (xs := j.dr.reverse.map V.str) (fun m G => RowsG H1 G D (rowsF (fun d => decide (stOf S d = "open")) (fun d => (d, some "shut")) (j.dr.reverse.take m))) (RowsG.new hD) (fun m G _ z => SqL.of (z.1 _ _ hr1)) ?_ ?_
    · rintro m y G hm rg
      rw [List.getElem?_map] at hm
      obtain ⟨x, ex, rfl⟩ := Option.map_eq_some_iff.mp hm
      have inD := h0.jo.drI x (List.mem_reverse.mp (List.mem_of_getElem? ex))
      have h := h0.same (s0.trans rg.1)
      obtain ⟨dx, ob⟩ := id h.jb.ob
      obtain ⟨dxb, obb⟩ := id h.bd.ob
      have gz := h.ok.dG _ inD
      obtain ⟨v, el⟩ := look_some inD
      refine ⟨rfl, _, rfl, J.p, LJ, dx, _, _, rfl, ob, T.clJ, T.nj_board, jfl_bB h.eb, B.p, dxb, _, rfl, obb, bfl_no B (by decide +kernel), _, rfl, B, .str x, true, S, rfl, h.bd, h.ok, NameQ.of gz, (fun w => Bool.noConfusion w), fun z1 ez _ => ?_⟩
      cases ez
      refine ⟨fun no => absurd inD no, fun v1 ev G1 u s1 told => ?_⟩
      obtain rfl : v = v1 := Option.some.inj (el.symm.trans ev)
      subst told
      refine ⟨rfl, _, rfl, ?_⟩
      by_cases hp : v.st = "open"
      · refine if_t (by rw [hp]; exact decide_eq_true rfl) ⟨_, rfl, (by show 2 ≤ sizeLine; decide), fun t ht => ?_⟩
        rw [rowsF_yes ex (by rw [stOf_eq el, hp]; exact decide_eq_true rfl)]
        exact rg.add (x, some "shut") (Nat.le_trans (rowsF_len m) (by rw [List.length_reverse]; omega)) hD s1 ht
      · refine if_f (decide_eq_false fun w => hp (by injection w)) ?_
        rw [rowsF_no ex (by rw [stOf_eq el]; exact decide_eq_false hp)]
        exact rg.same s1
    rintro G1 rg
    rw [List.length_map, List.take_length] at rg
    change RowsG H1 G1 D (trialA S j) at rg
    have e1 := s0.trans rg.1
    have nD : H D = none := s0.free hD
    refine ⟨_, rfl, J.p, LJ, dx, _, _, rfl, e1 _ _ ob, T.clJ, T.nj_switches, jfl_s J j, J.sw, _, rfl, SqL.of (e1 _ _ h0.jb.sw), fun p2 hp2 => ?_⟩
    rw [← List.map_reverse]
    have s2 := Same.newp (o := .lst (j.sw.reverse.map V.str)) hp2
    have hr2 : upd G1 p2 (.lst (j.sw.reverse.map V.str)) p2 = some (.lst (j.sw.reverse.map V.str)) := upd_same
    replace rg := rg.same s2
    replace e1 := e1.trans s2
    generalize upd G1 p2 (.lst (j.sw.reverse.map V.str)) = H2 at s2 hr2 rg e1 ⊢
    refine ⟨p2, rfl, ⟨_, SqL.of hr2⟩, fun D2 hD2 => ?_⟩
    refine lc_list (K := K) (a := p2) (xs := j.sw.reverse.map V.str) (fun m G => RowsG H2 G D2 (rowsF (fun _ => true) (fun d => (d, some (homeOf S d))) (j.sw.reverse.take m))) (RowsG.new hD2) (fun m G _ z => SqL.of (z.1 _ _ hr2)) ?_ ?_
    · rintro m y G hm rg2
      rw [List.getElem?_map] at hm
      obtain ⟨x, ex, rfl⟩ := Option.map_eq_some_iff.mp hm
      have inD := h0.jo.swI x (List.mem_reverse.mp (List.mem_of_getElem? ex))
      have h := h0.same (e1.trans rg2.1)
      obtain ⟨dx, ob⟩ := id h.jb.ob
      obtain ⟨dxb, obb⟩ := id h.bd.ob
      have gz := h.ok.dG _ inD
      obtain ⟨v, el⟩ := look_some inD
      refine ⟨rfl, _, rfl, _, rfl, J.p, LJ, dx, _, _, rfl, ob, T.clJ, T.nj_board, jfl_bB h.eb, B.p, dxb, _, rfl, obb, bfl_no B (by decide +kernel), _, rfl, B, .str x, true, S, rfl, h.bd, h.ok, NameQ.of gz, (fun w => Bool.noConfusion w), fun z1 ez _ => ?_⟩
      cases ez
      refine ⟨fun no => absurd inD no, fun v1 ev G1 u s1 told => ?_⟩
      obtain rfl : v = v1 := Option.some.inj (el.symm.trans ev)
      subst told
      refine ⟨(by show 2 ≤ sizeLine; decide), fun t ht => ?_⟩
      rw [rowsF_yes ex rfl, ← homeOf_eq el]
      exact rg2.add (x, some (homeOf S x)) (Nat.le_trans (rowsF_len m) (by rw [List.length_reverse]; omega)) hD2 s1 ht
    rintro G2 rg2
    rw [List.length_map, List.take_length] at rg2
    have e2 := e1.trans rg2.1
    replace rg := rg.same rg2.1
    obtain ⟨_, ts2, hts2, rp2⟩ := rg2
    have lt2 : ts2.length = j.sw.length := by
      rw [Paired.length rp2, rowsF, List.length_map, List.filter_eq_self.mpr (fun _ _ => rfl), List.length_reverse]
    refine ⟨_, rfl, _, rfl, D2, rfl, ⟨_, SqL.of hts2⟩, fun D3 hD3 => ?_⟩
    refine lc_list (K := K) (a := D2) (xs := ts2.map V.ref) (fun m G => RowsG G2 G D3 (rowsF (fun d => !decide (stOf S d = homeOf S d)) (fun d => (d, some (homeOf S d))) (j.sw.reverse.take m))) (RowsG.new hD3) (fun m G _ z => SqL.of (z.1 _ _ hts2)) ?_ ?_
    · rintro m y G hm rg3
      rw [List.getElem?_map] at hm
      obtain ⟨t2, et2, rfl⟩ := Option.map_eq_some_iff.mp hm
      obtain ⟨r, er, ht2⟩ := rp2.at et2
      have er' : (j.sw.reverse.map fun d => ((d, some (homeOf S d)) : Row))[m]? = some r := by
        rw [rowsF, List.filter_eq_self.mpr (fun _ _ => rfl)] at er
        exact er
      rw [List.getElem?_map] at er'
      obtain ⟨x, ex, rfl⟩ := Option.map_eq_some_iff.mp er'
      have inD := h0.jo.swI x (List.mem_reverse.mp (List.mem_of_getElem? ex))
      have h := h0.same (e2.trans rg3.1)
      obtain ⟨dx, ob⟩ := id h.jb.ob
      obtain ⟨dxb, obb⟩ := id h.bd.ob
      have gz := h.ok.dG _ inD
      obtain ⟨v, el⟩ := look_some inD
      refine ⟨t2, _, rfl, SqT.of (rg3.1 _ _ ht2), rfl, _, _, rfl, _, _, rfl, rfl, rfl, _, rfl, J.p, LJ, dx, _, _, rfl, ob, T.clJ, T.nj_board, jfl_bB h.eb, B.p, dxb, _, rfl, obb, bfl_no B (by decide +kernel), _, rfl, B, .str x, true, S, rfl, h.bd, h.ok, NameQ.of gz, (fun w => Bool.noConfusion w), fun z1 ez _ => ?_⟩
      cases ez
      refine ⟨fun no => absurd inD no, fun v1 ev G1 u s1 told => ?_⟩
      obtain rfl : v = v1 := Option.some.inj (el.symm.trans ev)
      subst told
      refine ⟨_, rfl, rfl, _, rfl, ?_⟩
      by_cases hp : v.st = homeOf S x
      · refine if_f (by show (!decide (V.str v.st = V.str (homeOf S x))) = false; rw [hp]; simp) ?_
        rw [rowsF_no ex (by rw [stOf_eq el, hp]; simp)]
        exact rg3.same s1
      · refine if_t (by show (!decide (V.str v.st = V.str (homeOf S x))) = true; simp [hp]) ⟨_, rfl, _, rfl, (by show 2 ≤ sizeLine; decide), fun t ht => ?_⟩
        rw [rowsF_yes ex (by rw [stOf_eq el]; simp [hp])]
        exact rg3.add (x, some (homeOf S x)) (Nat.le_trans (rowsF_len m) (by rw [List.length_reverse]; omega)) hD3 s1 ht
    rintro G3 rg3
    rw [List.length_map, lt2, ← List.length_reverse, List.take_length] at rg3
    change RowsG G2 G3 D3 (trialB S j) at rg3
    replace rg := rg.same rg3.1
    obtain ⟨_, ta, hta, ra⟩ := rg
    obtain ⟨e3, tb, htb, rb⟩ := rg3
    have la : ta.length ≤ 52 := by
      rw [Paired.length ra, trialA, List.length_map]
      exact Nat.le_trans (List.length_filter_le _ _) (by rw [List.length_reverse]; exact l2)
    have lb : tb.length ≤ 52 := by
      rw [Paired.length rb, trialB, List.length_map]
      exact Nat.le_trans (List.length_filter_le _ _) (by rw [List.length_reverse]; exact l1)
    refine ⟨D, D3, _, _, rfl, rfl, hta, htb, Nat.le_of_lt (small1000 (by rw [List.length_map, List.length_map]; omega)), fun F hF => ?_⟩
    rw [← List.map_append]
    have s9 := Same.newp (o := .lst ((ta ++ tb).map V.ref)) hF
    exact k _ F (ta ++ tb) ((e2.trans e3).trans s9) ((e2.trans e3).free hF) upd_same ((RowsP.app ra rb).same s9)
theorem sc_Job_steps : FnScope ["self", "device"] ["self"] (defScope s_Job_steps) := ⟨rfl, rfl, rfl, by decide +kernel, rfl, by decide +kernel, by decide +kernel⟩
theorem oj_steps (T : Jx K mg C M L LJ) : OkM P w K mg base CX0 7 LJ "steps" ["self"] (spJRows L LJ stepsOf) := by
  refine T.j_steps.ok sc_Job_steps (fun _ _ _ _ _ _ us hl => match us, hl with | [_], _ => rfl) (fun vs H Q E h => ?_) (fun f cdv Ar outer st H vs Q E hr h => ?_)
  · obtain ⟨B, S, J, j, rfl, _⟩ := h
    rfl
  · obtain ⟨B, S, J, j, rfl, h, k⟩ := h
    obtain ⟨dx, ob⟩ := id h.jb.ob
    have hS := h.ok
    have l1 := h.jo.swL hS
    have l2 := h.jo.drL hS
    refine ⟨_, (pss_cons (ps_if (pt_cmpR op_eq (pe_fld (pv 0) rfl) pe_str (nomark _)) (pss_one (ps_ret (pe_op op_cat (pe_m (oj_steps_to T) T.clJ (hr.mono (by decide)) pass0 (pv 0) (pa_cons pe_str (pa_cons (pe_fld (pv 0) rfl) pa_nil))) (pe_m (oj_steps_to T) T.clJ (hr.mono (by decide)) pass0 (pv 0) (pa_cons pe_str (pa_cons (pe_fld (pv 0) rfl) pa_nil)))))) pss_nil) (pss_cons (ps_if (pt_cmpR op_eq (pe_fld (pv 0) rfl) pe_str (nomark _)) (pss_one (ps_ret (pe_m0 (oj_steps_of_trial T) T.clJ (hr.mono (by decide)) pass0 (pv 0)))) pss_nil) (pss_cons (ps_if (pt_cmpR op_eq (pe_fld (pv 0) rfl) pe_str (nomark _)) (pss_one (ps_ret (pe_lc (own := [("device", 1)]) rfl sc_Job_steps.nd (pi_list (pe_m0 (oj_last_to_first T) T.clJ (hr.mono (by decide)) pass0 (pv 0))) (blkOk_by (N := ["self", "device"]) (sc := (defScope s_Job_steps)) (by decide +kernel)) (fun _ _ _ _ _ => (pg_name (i := 1) sc_Job_steps.nd rfl (Or.inl rfl))) (fun _ _ _ _ _ => (pts_one (pt_val (pe_m (oj_has_tags_on T) T.clJ (hr.mono (by decide)) pass0 (pv 0) (pa_cons (pv 1) pa_nil))))) (fun _ _ _ _ _ => (pe_tup (pa_cons (pv 1) (pa_cons pe_non pa_nil))))))) pss_nil) (pss_one (ps_ret (pe_lst pa_nil)))))), ?_⟩
    refine ⟨_, rfl, J.p, LJ, dx, _, _, rfl, ob, T.clJ, T.nj_phase, jfl_p J j, rfl, _, rfl, ?_⟩
    by_cases c1 : j.ph = "still"
    · refine if_t (by rw [c1]; exact decide_eq_true rfl) ?_
      refine ⟨_, rfl, J.p, dx, _, rfl, ob, jfl_no J j (by decide +kernel), _, rfl, J.p, LJ, dx, _, _, rfl, ob, T.clJ, T.nj_switches, jfl_s J j, B, S, J, j, "shut", J.sw, j.sw, rfl, h, h.jb.sw, h.jo.swI, l1, fun H1 p1 ts1 s1 np1 hp1 rp1 => ?_⟩
      have hh := h.same s1
      refine ⟨_, rfl, J.p, dx, _, rfl, s1 _ _ ob, jfl_no J j (by decide +kernel), _, rfl, J.p, LJ, dx, _, _, rfl, s1 _ _ ob, T.clJ, T.nj_drains, jfl_d J j, B, S, J, j, "open", J.dr, j.dr, rfl, hh, hh.jb.dr, h.jo.drI, l2, fun H2 p2 ts2 s2 np2 hp2 rp2 => ?_⟩
      have la : ts1.length ≤ 52 := by
        rw [Paired.length rp1, stepsTo, List.length_map]
        exact Nat.le_trans (List.length_filter_le _ _) l1
      have lb : ts2.length ≤ 52 := by
        rw [Paired.length rp2, stepsTo, List.length_map]
        exact Nat.le_trans (List.length_filter_le _ _) l2
      refine ⟨p1, p2, _, _, rfl, rfl, s2 _ _ hp1, hp2, Nat.le_of_lt (small1000 (by rw [List.length_map, List.length_map]; omega)), fun F hF => ?_⟩
      rw [← List.map_append]
      have s9 := Same.newp (o := .lst ((ts1 ++ ts2).map V.ref)) hF
      refine k _ F (ts1 ++ ts2) ((s1.trans s2).trans s9) ((s1.trans s2).free hF) upd_same ?_
      rw [stepsOf, if_pos c1]
      exact (RowsP.app (rp1.same s2) rp2).same s9
    refine if_f (decide_eq_false fun w => c1 (by injection w)) ⟨_, rfl, J.p, LJ, dx, _, _, rfl, ob, T.clJ, T.nj_phase, jfl_p J j, rfl, _, rfl, ?_⟩
    by_cases c2 : j.ph = "trial"
    · refine if_t (by rw [c2]; exact decide_eq_true rfl) ?_
      refine ⟨_, rfl, J.p, dx, _, rfl, ob, jfl_no J j (by decide +kernel), B, S, J, j, rfl, h, fun H1 p1 ts1 s1 np1 hp1 rp1 => ?_⟩
      refine k _ p1 ts1 s1 np1 hp1 ?_
      rw [stepsOf, if_neg c1, if_pos c2]
      exact rp1
    refine if_f (decide_eq_false fun w => c2 (by injection w)) ⟨_, rfl, J.p, LJ, dx, _, _, rfl, ob, T.clJ, T.nj_phase, jfl_p J j, rfl, _, rfl, ?_⟩
    by_cases c3 : j.ph = "away"
    · refine if_t (by rw [c3]; exact decide_eq_true rfl) ?_
      refine ⟨_, rfl, J.p, dx, _, rfl, ob, jfl_no J j (by decide +kernel), B, S, J, j, rfl, h, fun H1 p1 s1 np1 hp1 => ?_⟩
      refine ⟨p1, rfl, ⟨_, SqL.of hp1⟩, fun D hD => ?_⟩
      have h0 := h
      refine lc_list (K := K) (a := p1) (xs := (j.dr.reverse ++ j.sw.reverse).map V.str) (fun m G => RowsG H1 G D (rowsF (fun d => onJ S j.nm d) (fun d => (d, none)) ((j.dr.reverse ++ j.sw.reverse).take m))) (RowsG.new hD) (fun m G _ z => SqL.of (z.1 _ _ hp1)) ?_ ?_
      · rintro m y G hm rg
        rw [List.getElem?_map] at hm
        obtain ⟨x, ex, rfl⟩ := Option.map_eq_some_iff.mp hm
        have inD : x ∈ keys S.devs := by
          rcases List.mem_append.mp (List.mem_of_getElem? ex) with w | w
          · exact h0.jo.drI x (List.mem_reverse.mp w)
          · exact h0.jo.swI x (List.mem_reverse.mp w)
        have h := h0.same (s1.trans rg.1)
        obtain ⟨dx, ob⟩ := id h.jb.ob
        refine ⟨rfl, _, rfl, J.p, dx, _, rfl, ob, jfl_no J j (by decide +kernel), _, rfl, B, S, J, j, x, rfl, h, inD, fun G2 s2 => ⟨_, rfl, ?_⟩⟩
        by_cases ho : onJ S j.nm x = true
        · refine if_t ho ⟨_, rfl, (by show 2 ≤ sizeLine; decide), fun t ht => ?_⟩
          rw [rowsF_yes ex ho]
          exact rg.add (x, none) (Nat.le_trans (rowsF_len m) (by rw [List.length_append, List.length_reverse, List.length_reverse]; omega)) hD s2 ht
        · refine if_f (Bool.eq_false_iff.mpr ho) ?_
          rw [rowsF_no ex (Bool.eq_false_iff.mpr ho)]
          exact rg.same s2
      · rintro G ⟨e1, ts, hts, rp⟩
        rw [List.length_map, List.take_length] at rp
        refine k G D ts (s1.trans e1) (s1.free hD) hts ?_
        rw [stepsOf, if_neg c1, if_neg c2, if_pos c3]
        exact rp
    refine if_f (decide_eq_false fun w => c3 (by injection w)) ⟨(by show 0 ≤ sizeLine; decide), fun p hp => ?_⟩
    refine k _ p [] (Same.newp hp) hp upd_same ?_
    rw [stepsOf, if_neg c1, if_neg c2, if_neg c3]
    exact .nil
end
end SM
/-! Part W53: a job's own fields are written. -/
namespace SM
open PySem PySem.Spec PyProof.Rows L2
/-- kept but for the dicts at ms and the instance at p -/
structure KJ (ms : List Addr) (p : Addr) (H H' : Hp) : Prop where
  out : ∀ b u, H b = some u → b ∉ ms → b ≠ p → H' b = some u
  tup : ∀ b xs, H b = some (.tup xs) → H' b = some (.tup xs)
  ins : ∀ b C dx fs, H b = some (.ins C dx fs) → b ≠ p → H' b = some (.ins C dx fs)
  flat : ∀ b xs, H b = some (.lst xs) → xs.all flatV = true → H' b = some (.lst xs)
  has : ∀ b, H' b = none → H b = none
section
variable {ms ms' : List Addr} {p : Addr} {H H1 H2 : Hp}
theorem KJ.of (k : Keep ms H H1) : KJ ms p H H1 := ⟨fun b u e n _ => k.out b u e n, k.tup, fun b C dx fs e _ => k.ins b C dx fs e, k.flat, k.has⟩
theorem KJ.same (s : Same H H1) : KJ ms p H H1 := KJ.of (Keep.of s)
theorem KJ.trans (a : KJ ms p H H1) (b : KJ ms p H1 H2) : KJ ms p H H2 :=
  ⟨fun x u e n m => b.out x u (a.out x u e n m) n m, fun x xs e => b.tup x xs (a.tup x xs e), fun x c d f e m => b.ins x c d f (a.ins x c d f e m) m, fun x xs e f => b.flat x xs (a.flat x xs e f) f, fun x e => a.has x (b.has x e)⟩
theorem KJ.mono (a : KJ ms p H H1) (h : ∀ x ∈ ms, x ∈ ms') : KJ ms' p H H1 := ⟨fun x u e n m => a.out x u e (fun z => n (h x z)) m, a.tup, a.ins, a.flat, a.has⟩
theorem KJ.wr {C dx : Addr} {fs gs : List (Str × V)} (e : H p = some (.ins C dx fs)) : KJ ms p H (upd H p (.ins C dx gs)) :=
  ⟨fun b u eb _ n => (upd_ne n).trans eb, fun b xs eb => (upd_ne (ne_of eb e (by intro w; cases w))).trans eb, fun b c d f eb n => (upd_ne n).trans eb, fun b xs eb _ => (upd_ne (ne_of eb e (by intro w; cases w))).trans eb, fun b eb => by
    by_cases w : b = p
    · rw [w, upd_same] at eb
      cases eb
    · rwa [upd_ne w] at eb⟩
end
section
variable {L LJ : Addr} {H H' : Hp} {B : BA} {S : BS} {J : JA} {j : JobV} {ms : List Addr} {p : Addr}
theorem BdAt.kj (h : BdAt L H B S) (k : KJ ms p H H') (n : ∀ b ∈ ms, b ∉ bms B S) (np : ∀ C dx fs, H p = some (.ins C dx fs) → p ≠ B.p) (hp : ∃ C dx fs, H p = some (.ins C dx fs)) : BdAt L H' B S := by
  obtain ⟨C, dp, fp, hp⟩ := hp
  have nB := np _ _ _ hp
  obtain ⟨⟨dx, ob⟩, ⟨k1, a1, b1⟩, ⟨k2, a2, b2⟩, ⟨k3, a3, b3⟩, ⟨k4, a4, b4⟩, inn, ⟨k5, a5, b5⟩, nd⟩ := h
  have dk : ∀ {b u}, H b = some (.dK u) → b ∈ bms B S → H' b = some (.dK u) := fun {b u} e m => k.out b _ e (fun w => n b w m) fun w => by
    rw [w, hp] at e
    cases e
  exact ⟨⟨dx, k.ins _ _ _ _ ob nB.symm⟩, ⟨k1, dk a1 (by simp [bms]), b1⟩, ⟨k2, dk a2 (by simp [bms]), b2⟩, ⟨k3, dk a3 (by simp [bms]), b3⟩, ⟨k4, dk a4 (by simp [bms]), b4⟩,
    fun e me => dk (inn e me) (List.mem_append_right _ (List.mem_map_of_mem me)), ⟨k5, dk a5 (by simp [bms]), b5.mono fun v c q => ⟨q.1, k.flat _ _ q.2 (flat_strs _)⟩⟩, nd⟩
theorem JB.apart (h : JB L LJ H B S J j) : J.p ≠ B.p := fun w => by
  obtain ⟨dx, ob⟩ := h.jb.ob
  obtain ⟨dxb, obb⟩ := h.bd.ob
  rw [w, obb] at ob
  have e : bfl B = jfl J j := by
    injection ob with ob
    injection ob
  have l1 := bfl_s B
  rw [e, jfl_no J j (by decide +kernel)] at l1
  cases l1
end
section
variable (J : JA) (j : JobV)
theorem putJh {f : Str} {v x : V} {r : List (Str × V)} : putF f v ((f, x) :: r) = (f, v) :: r := by
  show (if f = f then (f, v) :: r else _) = _
  rw [if_pos rfl]
theorem putJ_p (x : Str) : putF "_phase" (.str x) (jfl J j) = jfl J { j with ph := x } := by
  unfold jfl
  rw [putF_skip (by decide +kernel), putF_skip (by decide +kernel), putF_skip (by decide +kernel), putJh]
theorem putJ_a (x : Str) : putF "_aim" (.str x) (jfl J j) = jfl J { j with aim := x } := by
  unfold jfl
  rw [putF_skip (by decide +kernel), putF_skip (by decide +kernel), putF_skip (by decide +kernel), putF_skip (by decide +kernel), putJh]
theorem putJ_s (d : Addr) : putF "_switches" (.ref d) (jfl J j) = jfl { J with sw := d } j := by
  unfold jfl
  rw [putF_skip (by decide +kernel), putF_skip (by decide +kernel), putF_skip (by decide +kernel), putF_skip (by decide +kernel), putF_skip (by decide +kernel), putJh]
theorem putJ_d (d : Addr) : putF "_drains" (.ref d) (jfl J j) = jfl { J with dr := d } j := by
  unfold jfl
  rw [putF_skip (by decide +kernel), putF_skip (by decide +kernel), putF_skip (by decide +kernel), putF_skip (by decide +kernel), putF_skip (by decide +kernel), putF_skip (by decide +kernel), putJh]
end
/-- it has gone: out of hand, where nothing is left -/
def leaveJ (S : BS) (j : JobV) : JobV := if j.ph = "away" ∧ stepsOf S j = [] then { j with ph := j.aim, sw := [], dr := [] } else j
def oneHand (S : BS) (j : JobV) : Prop := ∃ c, look S.crews j.nm = some c ∧ c.hs.length = 1
section
variable (L LJ : Addr)
/-- the fields are written, f tells what they are -/
def spJSet (pre : BS → JobV → Prop) (f : BS → JobV → JobV) : Sp := fun vs H Q _ => ∃ (B : BA) (S : BS) (J : JA) (j : JobV), vs = [.ref J.p] ∧ JB L LJ H B S J j ∧ pre S j ∧ ∀ (H' : Hp) (J' : JA), JB L LJ H' B S J' (f S j) → J'.p = J.p → KJ [] J.p H H' → Q .non H'
def spJAway : Sp := fun vs H Q _ => ∃ (B : BA) (S : BS) (J : JA) (j : JobV), vs = [.ref J.p, .str "by"] ∧ JB L LJ H B S J j ∧ ∀ (H' : Hp) (J' : JA), JB L LJ H' B S J' (leaveJ S { j with ph := "away", aim := "by" }) → J'.p = J.p → KJ [] J.p H H' → Q .non H'
def spJIn : Sp := fun vs H Q _ => ∃ (J : JA) (j : JobV) (t : Addr) (ps : List Str), vs = [.ref J.p, .ref t] ∧ JobAt LJ H J j ∧ H t = some (.tup (ps.map V.str)) ∧ j.ph ∈ ps ∧ Q .non H
def spJCrew : Sp := fun vs H Q _ => ∃ (B : BA) (S : BS) (J : JA) (j : JobV), vs = [.ref J.p] ∧ JB L LJ H B S J j ∧ j.ph ≠ "ended" ∧ ∀ c, look S.crews j.nm = some c → ∀ H' p, Same H H' → H p = none → H' p = some (.lst (c.hs.map V.str)) → Q (.ref p) H'
def spJCompany : Sp := fun vs H Q _ => ∃ (B : BA) (S : BS) (J : JA) (j : JobV), vs = [.ref J.p] ∧ JB L LJ H B S J j ∧ j.ph ≠ "ended" ∧ oneHand S j ∧ ∀ H', Same H H' → Q .non H'
end
end SM
namespace SM
open PySem PySem.Spec PyProof.Rows L2
open Evl (tCut pss_cut)
section
variable {P : Program} {w : World} {K : PySem.W.Frag} {mg : Str → Option Value} {base : Heap} {C : Nat → Addr} {M L LJ : Addr}
theorem sc_Job_is_ready : FnScope ["self"] ["self"] (defScope s_Job_is_ready) := ⟨rfl, rfl, rfl, by decide +kernel, rfl, by decide +kernel, by decide +kernel⟩
theorem oj_is_ready (T : Jx K mg C M L LJ) : OkM P w K mg base CX0 8 LJ "is_ready" ["self"] (spJReady L LJ) := by
  refine T.j_is_ready.ok sc_Job_is_ready (fun _ _ _ _ _ _ us hl => match us, hl with | [_], _ => rfl) (fun vs H Q E h => ?_) (fun f cdv Ar outer st H vs Q E hr h => ?_)
  · obtain ⟨B, S, J, j, rfl, _⟩ := h
    rfl
  · obtain ⟨B, S, J, j, rfl, h, k⟩ := h
    obtain ⟨dx, ob⟩ := id h.jb.ob
    refine ⟨_, (pss_one (ps_ret (pe_and (pe_cmpR op_eq (pe_fld (pv 0) rfl) pe_str (nomark _)) (pe_one (pe_notT (pe_m0 (oj_steps T) T.clJ (hr.mono (by decide)) pass0 (pv 0))))))), ?_⟩
    refine ⟨_, rfl, J.p, LJ, dx, _, _, rfl, ob, T.clJ, T.nj_phase, jfl_p J j, rfl, _, rfl, ?_⟩
    by_cases c1 : j.ph = "still"
    rotate_left
    · refine if_f (decide_eq_false fun w => c1 (by injection w)) ?_
      have := k H (fun _ _ e => e)
      rw [decide_eq_false c1] at this
      exact this
    refine if_t (by rw [c1]; exact decide_eq_true rfl) ⟨_, rfl, J.p, dx, _, rfl, ob, jfl_no J j (by decide +kernel), B, S, J, j, rfl, h, fun H1 p1 ts1 s1 np1 hp1 rp1 => ?_⟩
    refine ⟨!(ts1.map V.ref).isEmpty, .inl ⟨_, SqL.of hp1, rfl⟩, ?_⟩
    have := k H1 s1
    rw [decide_eq_true c1, Bool.true_and] at this
    have e : ∀ {rs : List Row}, RowsP H1 ts1 rs → (!(!(ts1.map V.ref).isEmpty)) = decide (rs = []) := fun {rs} q => by
      rw [Bool.not_not]
      cases q with
      | nil => rfl
      | cons a b => rfl
    rw [e rp1]
    exact this
theorem sc_Job_crew_now : FnScope ["self"] ["self"] (defScope s_Job_crew_now) := ⟨rfl, rfl, rfl, by decide +kernel, rfl, by decide +kernel, by decide +kernel⟩
theorem oj_crew_now (T : Jx K mg C M L LJ) : OkM P w K mg base CX0 5 LJ "crew_now" ["self"] (spJCrew L LJ) := by
  refine T.j_crew_now.ok sc_Job_crew_now (fun _ _ _ _ _ _ us hl => match us, hl with | [_], _ => rfl) (fun vs H Q E h => ?_) (fun f cdv Ar outer st H vs Q E hr h => ?_)
  · obtain ⟨B, S, J, j, rfl, _⟩ := h
    rfl
  · obtain ⟨B, S, J, j, rfl, h, ne, k⟩ := h
    obtain ⟨dx, ob⟩ := id h.jb.ob
    obtain ⟨dxb, obb⟩ := id h.bd.ob
    have gn := h.ok.cG _ h.jo.nmI
    refine ⟨_, (pss_cons (ps_if (pt_cmpR op_eq (pe_fld (pv 0) rfl) pe_str (nomark _)) (pss_one (ps_ret (pe_lst pa_nil))) pss_nil) (pss_one (ps_ret (pe_m (ok_crew_of T.toBx) T.cl (hr.mono (by decide)) passL (pe_fld (pv 0) rfl) (pa_cons (pe_fld (pv 0) rfl) pa_nil))))), ?_⟩
    refine ⟨_, rfl, J.p, LJ, dx, _, _, rfl, ob, T.clJ, T.nj_phase, jfl_p J j, rfl, _, rfl, if_f (decide_eq_false fun w => ne (by injection w)) ?_⟩
    refine ⟨_, rfl, J.p, LJ, dx, _, _, rfl, ob, T.clJ, T.nj_board, jfl_bB h.eb, B.p, dxb, _, rfl, obb, bfl_no B (by decide +kernel), _, rfl, J.p, LJ, dx, _, _, rfl, ob, T.clJ, T.nj_name, jfl_n J j, B, .str j.nm, true, S, rfl, h.bd, h.ok, NameQ.of gn, (fun w => Bool.noConfusion w), fun z1 ez _ => ?_⟩
    cases ez
    refine ⟨fun no => absurd h.jo.nmI no, fun c ec H1 x s1 told => ?_⟩
    obtain ⟨p, rfl, np, hp⟩ := told
    exact k c ec H1 p s1 np hp
theorem sc_Job__refuse_unless_in : FnScope ["self", "phases"] ["self", "phases"] (defScope s_Job__refuse_unless_in) := ⟨rfl, rfl, rfl, by decide +kernel, rfl, by decide +kernel, by decide +kernel⟩
theorem oj_refuse_unless_in (T : Jx K mg C M L LJ) : OkM P w K mg base CX0 1 LJ "_refuse_unless_in" ["self", "phases"] (spJIn LJ) := by
  refine T.j__refuse_unless_in.ok sc_Job__refuse_unless_in (fun _ _ _ _ _ _ us hl => match us, hl with | [_, _], _ => rfl) (fun vs H Q E h => ?_) (fun f cdv Ar outer st H vs Q E hr h => ?_)
  · obtain ⟨J, j, t, ps, rfl, _⟩ := h
    rfl
  · obtain ⟨J, j, t, ps, rfl, h, ht, mp, k⟩ := h
    obtain ⟨dx, ob⟩ := id h.ob
    refine ⟨_, (pss_one (ps_if (pt_cmpR op_notIn_seq (pe_fld (pv 0) rfl) (pv 1) rfl) (pss_one ps_never) pss_nil)), ?_⟩
    refine ⟨_, rfl, J.p, LJ, dx, _, _, rfl, ob, T.clJ, T.nj_phase, jfl_p J j, _, rfl, t, _, rfl, .inr (SqT.of ht), rfl, flat_strs _, _, rfl, if_f ?_ k⟩
    show (!inV (.str j.ph) (ps.map V.str)) = false
    rw [inV_strs, decide_eq_true mp]
    rfl
theorem sc_Job__refuse_company : FnScope ["self", "crew"] ["self"] (defScope s_Job__refuse_company) := ⟨rfl, rfl, rfl, by decide +kernel, rfl, by decide +kernel, by decide +kernel⟩
theorem oj_refuse_company (T : Jx K mg C M L LJ) : OkM P w K mg base CX0 6 LJ "_refuse_company" ["self"] (spJCompany L LJ) := by
  refine T.j__refuse_company.ok sc_Job__refuse_company (fun _ _ _ _ _ _ us hl => match us, hl with | [_], _ => rfl) (fun vs H Q E h => ?_) (fun f cdv Ar outer st H vs Q E hr h => ?_)
  · obtain ⟨B, S, J, j, rfl, _⟩ := h
    rfl
  · obtain ⟨B, S, J, j, rfl, h, ne, one, k⟩ := h
    obtain ⟨dx, ob⟩ := id h.jb.ob
    refine ⟨_, (pss_cons (ps_set (i := 1) sc_Job__refuse_company.nd rfl (Or.inl rfl) (pe_m0 (oj_crew_now T) T.clJ (hr.mono (by decide)) pass0 (pv 0))) (pss_one (ps_if (pt_cmpR op_gt (pe_callB call_len_seq (by rfl) T.b_len PySem.boot_len (pa_cons (pv 1) pa_nil)) pe_int (nomark _)) (pss_one ps_never) pss_nil))), ?_⟩
    obtain ⟨c, ec, l1⟩ := one
    refine ⟨_, rfl, J.p, dx, _, rfl, ob, jfl_no J j (by decide +kernel), B, S, J, j, rfl, h, ne, fun c2 ec2 H1 p s1 np hp => ?_⟩
    obtain rfl : c = c2 := Option.some.inj (ec.symm.trans ec2)
    refine ⟨_, rfl, p, _, rfl, .inl (SqL.of hp), _, _, rfl, rfl, _, rfl, if_f ?_ (k H1 s1)⟩
    rw [List.length_map, l1]
    exact decide_eq_false (by decide)
theorem sc_Job__leave_away : FnScope ["self"] ["self"] (defScope s_Job__leave_away) := ⟨rfl, rfl, rfl, by decide +kernel, rfl, by decide +kernel, by decide +kernel⟩
theorem oj_leave_away (T : Jx K mg C M L LJ) : OkM P w K mg base CX0 8 LJ "_leave_away" ["self"] (spJSet L LJ (fun _ j => j.aim = "by") leaveJ) := by
  refine T.j__leave_away.ok sc_Job__leave_away (fun _ _ _ _ _ _ us hl => match us, hl with | [_], _ => rfl) (fun vs H Q E h => ?_) (fun f cdv Ar outer st H vs Q E hr h => ?_)
  · obtain ⟨B, S, J, j, rfl, _⟩ := h
    rfl
  · obtain ⟨B, S, J, j, rfl, h, ab, k⟩ := h
    obtain ⟨dx, ob⟩ := id h.jb.ob
    have nB := h.apart
    refine ⟨_, (pss_cons (ps_if (PW.pt (pw_or (pt_cmpR op_ne (pe_fld (pv 0) rfl) pe_str (nomark _)) (pw_or1 (pt_truth (pe_m0 (oj_steps T) T.clJ (hr.mono (by decide)) pass0 (pv 0)) (fun _ => rfl))))) (pss_one ps_retN) pss_nil) (pss_cons (ps_fld (pv 0) (pe_fld (pv 0) rfl) rfl) (pss_cons (ps_fld (pv 0) (pe_lst pa_nil) rfl) (pss_cons (ps_fld (pv 0) (pe_lst pa_nil) rfl) (pss_one (ps_if (pt_cmpR op_eq (pe_fld (pv 0) rfl) pe_str (nomark _)) (pss_one (ps_expr (pe_m (ok_leave T.toBx) T.cl (hr.mono (by decide)) passL (pe_fld (pv 0) rfl) (pa_cons (pe_fld (pv 0) rfl) pa_nil)))) pss_nil)))))), ?_⟩
    refine ⟨_, rfl, J.p, LJ, dx, _, _, rfl, ob, T.clJ, T.nj_phase, jfl_p J j, rfl, _, rfl, ?_⟩
    by_cases c1 : j.ph = "away"
    rotate_left
    · refine if_t (by show (!decide (V.str j.ph = V.str "away")) = true; simp [c1]) (if_t rfl ?_)
      refine k H J ?_ rfl (KJ.same fun _ _ e => e)
      rw [leaveJ, if_neg (fun w => c1 w.1)]
      exact h
    refine if_f (by rw [c1]; rfl) ⟨_, rfl, J.p, dx, _, rfl, ob, jfl_no J j (by decide +kernel), B, S, J, j, rfl, h, fun H1 p1 ts1 s1 np1 hp1 rp1 => ?_⟩
    refine ⟨!(ts1.map V.ref).isEmpty, .inl ⟨_, SqL.of hp1, rfl⟩, ?_⟩
    by_cases c2 : stepsOf S j = []
    rotate_left
    · have ne : ts1 ≠ [] := fun w => by
        rw [w] at rp1
        cases hs : stepsOf S j with
        | nil => exact c2 hs
        | cons a b =>
          rw [hs] at rp1
          cases rp1
      refine if_t (by cases ts1 with | nil => exact absurd rfl ne | cons a b => rfl) ?_
      refine k H1 J ?_ rfl (KJ.same s1)
      rw [leaveJ, if_neg (fun w => c2 w.2)]
      exact h.same s1
    have e0 : ts1 = [] := by
      rw [c2] at rp1
      cases rp1
      rfl
    refine if_f (by rw [e0]; rfl) ?_
    have h1 := h.same s1
    have ob1 := s1 _ _ ob
    refine ⟨_, rfl, J.p, LJ, dx, _, _, rfl, ob1, T.clJ, T.nj_aim, jfl_a J j, _, rfl, J.p, LJ, dx, _, rfl, ob1, T.clJ, T.nj_phase, (by show 7 < 1000; decide), ?_⟩
    rw [putJ_p]
    have w1 : KJ [] J.p H1 (upd H1 J.p (.ins LJ dx (jfl J { j with ph := j.aim }))) := KJ.wr ob1
    have ob2 : upd H1 J.p (.ins LJ dx (jfl J { j with ph := j.aim })) J.p = some (.ins LJ dx (jfl J { j with ph := j.aim })) := upd_same
    generalize upd H1 J.p (.ins LJ dx (jfl J { j with ph := j.aim })) = H2 at w1 ob2 ⊢
    refine ⟨(by show 0 ≤ sizeLine; decide), fun l1 hl1 => ?_⟩
    have n1 : l1 ≠ J.p := fun w => by
      rw [w, ob2] at hl1
      cases hl1
    have w2 := Same.newp (o := .lst []) hl1
    refine ⟨_, rfl, J.p, LJ, dx, _, rfl, w2 _ _ ob2, T.clJ, T.nj_switches, (by show 7 < 1000; decide), ?_⟩
    rw [putJ_s]
    have w3 : KJ [] J.p (upd H2 l1 (.lst [])) (upd (upd H2 l1 (.lst [])) J.p (.ins LJ dx (jfl { J with sw := l1 } { j with ph := j.aim }))) := KJ.wr (w2 _ _ ob2)
    have a3 : upd (upd H2 l1 (.lst [])) J.p (.ins LJ dx (jfl { J with sw := l1 } { j with ph := j.aim })) l1 = some (.lst []) := (upd_ne n1).trans upd_same
    have ob3 : upd (upd H2 l1 (.lst [])) J.p (.ins LJ dx (jfl { J with sw := l1 } { j with ph := j.aim })) J.p = some (.ins LJ dx (jfl { J with sw := l1 } { j with ph := j.aim })) := upd_same
    have w13 := w1.trans ((KJ.same w2).trans w3)
    generalize upd (upd H2 l1 (.lst [])) J.p (.ins LJ dx (jfl { J with sw := l1 } { j with ph := j.aim })) = H3 at w13 a3 ob3 ⊢
    clear w1 w2 w3 ob2 n1 hl1
    refine ⟨(by show 0 ≤ sizeLine; decide), fun l2 hl2 => ?_⟩
    have n2 : l2 ≠ J.p := fun w => by
      rw [w, ob3] at hl2
      cases hl2
    have w4 := Same.newp (o := .lst []) hl2
    refine ⟨_, rfl, J.p, LJ, dx, _, rfl, w4 _ _ ob3, T.clJ, T.nj_drains, (by show 7 < 1000; decide), ?_⟩
    rw [putJ_d]
    have w5 : KJ [] J.p (upd H3 l2 (.lst [])) (upd (upd H3 l2 (.lst [])) J.p (.ins LJ dx (jfl { J with sw := l1, dr := l2 } { j with ph := j.aim }))) := KJ.wr (w4 _ _ ob3)
    have a4 : upd (upd H3 l2 (.lst [])) J.p (.ins LJ dx (jfl { J with sw := l1, dr := l2 } { j with ph := j.aim })) l2 = some (.lst []) := (upd_ne n2).trans upd_same
    have ob5 : upd (upd H3 l2 (.lst [])) J.p (.ins LJ dx (jfl { J with sw := l1, dr := l2 } { j with ph := j.aim })) J.p = some (.ins LJ dx (jfl { J with sw := l1, dr := l2 } { j with ph := j.aim })) := upd_same
    have w15 := w13.trans ((KJ.same w4).trans w5)
    have a5 := w5.flat _ _ (w4 _ _ a3) rfl
    generalize upd (upd H3 l2 (.lst [])) J.p (.ins LJ dx (jfl { J with sw := l1, dr := l2 } { j with ph := j.aim })) = H5 at w15 a4 a5 ob5 ⊢
    clear w4 w5 w13 a3 ob3 n2 hl2
    refine ⟨_, rfl, J.p, LJ, dx, _, _, rfl, ob5, T.clJ, T.nj_phase, jfl_p _ _, rfl, _, rfl, if_f (by show decide (V.str j.aim = V.str "ended") = false; rw [ab]; decide +kernel) ?_⟩
    refine k H5 { J with sw := l1, dr := l2 } ?_ rfl ((KJ.same s1).trans w15)
    rw [leaveJ, if_pos ⟨c1, c2⟩]
    refine ⟨h1.bd.kj w15 (fun _ m => nomatch m) (fun _ _ _ _ => nB) ⟨_, _, _, ob1⟩, h.ok, ⟨⟨dx, ?_⟩, a5, a4⟩, h.eb, ⟨h.jo.nmI, (fun _ m => nomatch m), (fun _ m => nomatch m), List.nodup_nil, List.nodup_nil⟩⟩
    exact ob5
end
end SM
/-! Part W54: a job goes on. -/
namespace SM
open PySem PySem.Spec PyProof.Rows L2
theorem JB.set {L LJ : Addr} {H : Hp} {B : BA} {S : BS} {J : JA} {j j' : JobV} {dx : Addr} {fs : List (Str × V)} (h : JB L LJ H B S J j) (ob : H J.p = some (.ins LJ dx fs)) (e1 : j'.nm = j.nm) (e2 : j'.sw = j.sw) (e3 : j'.dr = j.dr) :
    JB L LJ (upd H J.p (.ins LJ dx (jfl J j'))) B S J j' ∧ KJ [] J.p H (upd H J.p (.ins LJ dx (jfl J j'))) := by
  have w : KJ [] J.p H (upd H J.p (.ins LJ dx (jfl J j'))) := KJ.wr ob
  have nB := h.apart
  refine ⟨⟨h.bd.kj w (fun _ m => nomatch m) (fun _ _ _ _ => nB) ⟨_, _, _, ob⟩, h.ok, ⟨⟨dx, upd_same⟩, ?_, ?_⟩, h.eb, ?_⟩, w⟩
  · rw [e2]
    exact w.flat _ _ h.jb.sw (flat_strs _)
  · rw [e3]
    exact w.flat _ _ h.jb.dr (flat_strs _)
  · exact ⟨by rw [e1]; exact h.jo.nmI, by rw [e2]; exact h.jo.swI, by rw [e3]; exact h.jo.drI, by rw [e2]; exact h.jo.swN, by rw [e3]; exact h.jo.drN⟩
theorem JB.kept {L LJ : Addr} {H H' : Hp} {B : BA} {S : BS} {J : JA} {j : JobV} {ms : List Addr} (h : JB L LJ H B S J j) (k : Keep ms H H') (n : ∀ b ∈ ms, b ∉ bms B S) : JB L LJ H' B S J j := by
  obtain ⟨dx, ob⟩ := h.jb.ob
  exact ⟨h.bd.keep k n, h.ok, ⟨⟨dx, k.ins _ _ _ _ ob⟩, k.flat _ _ h.jb.sw (flat_strs _), k.flat _ _ h.jb.dr (flat_strs _)⟩, h.eb, h.jo⟩
/-- a step's deed -/
def stepD (n : Str) (r : Row) : BDeed := match r.2 with
  | none => .free r.1 n
  | some p => .hold r.1 p n
section
variable (L LJ : Addr)
def spJBegin : Sp := fun vs H Q _ => ∃ (B : BA) (S : BS) (J : JA) (j : JobV) (a b : Addr) (xs ys : List Str), vs = [.ref J.p, .ref a, .ref b] ∧ JB L LJ H B S J j ∧ j.ph = "by" ∧ H a = some (.lst (xs.map V.str)) ∧ H b = some (.lst (ys.map V.str)) ∧
  (∀ d ∈ xs, d ∈ keys S.devs) ∧ (∀ d ∈ ys, d ∈ keys S.devs) ∧ xs.Nodup ∧ ys.Nodup ∧ (∀ d ∈ xs, d ∉ ys) ∧
  ∀ (H' : Hp) (J' : JA), JB L LJ H' B S J' { j with ph := "still", sw := xs, dr := ys } → J'.p = J.p → KJ [] J.p H H' → Q .non H'
def spJStep : Sp := fun vs H Q _ => ∃ (B : BA) (S : BS) (J : JA) (j : JobV) (r : Row) (rs : List Row), vs = [.ref J.p] ∧ JB L LJ H B S J j ∧ j.aim = "by" ∧ stepsOf S j = r :: rs ∧ S.due (stepD j.nm r) = none ∧ (∀ p, r.2 = some p → p ∈ posL) ∧ r.1 ∈ keys S.devs ∧
  ∀ (H' : Hp) (J' : JA) (t : Addr), JB L LJ H' B (S.put (stepD j.nm r)) J' (leaveJ (S.put (stepD j.nm r)) j) → J'.p = J.p → KJ (bms B S) J.p H H' → H' t = some (.tup [.str r.1, butV r.2]) → Q (.ref t) H'
def spCommon : Sp := fun vs H Q _ => ∃ (a b : Addr) (xs ys : List Str), vs = [.ref a, .ref b] ∧ H a = some (.lst (xs.map V.str)) ∧ H b = some (.lst (ys.map V.str)) ∧ xs.length ≤ 900 ∧ (∀ d ∈ xs, d ∉ ys) ∧ ∀ H', Same H H' → Q (.bl false) H'
def spStretchJ : Sp := fun vs H Q _ => ∃ (a : Addr) (xs : List Str), vs = [.ref a] ∧ H a = some (.lst (xs.map V.str)) ∧ xs.Nodup ∧ 1 ≤ xs.length ∧ xs.length ≤ 24 ∧ (∀ x ∈ xs, okName x = true) ∧ ∀ H', Same H H' → Q (.bl true) H'
/-- a new job on a board -/
def spJInit : Sp := fun vs H Q _ => ∃ (p dx st : Addr) (B : BA) (S : BS) (n hand : Str) (rs : List Str), vs = [.ref p, .ref B.p, .str n, .str hand, .ref st] ∧ H p = some (.ins LJ dx []) ∧ BdAt L H B S ∧ S.Ok ∧ okName n = true ∧ okName hand = true ∧ n ∉ keys S.crews ∧ S.crews.length < 8 ∧
  H st = some (.lst (rs.map V.str)) ∧ rs.Nodup ∧ 1 ≤ rs.length ∧ rs.length ≤ 24 ∧ (∀ x ∈ rs, okName x = true) ∧
  ∀ (J : JA) (a : Addr) (H' : Hp), J.p = p → JB L LJ H' B (S.put (.crew n [hand] a)) J ⟨n, "by", "by", [], []⟩ → KJ (bms B S) p H H' → Q .non H'
end
theorem stepD_keys {S : BS} {n : Str} {r : Row} : keys (S.put (stepD n r)).devs = keys S.devs ∧ (S.put (stepD n r)).crews = S.crews := by
  unfold stepD
  split
  · exact ⟨by simp only [BS.put, keys_setT], rfl⟩
  · exact ⟨by simp only [BS.put, keys_setT], rfl⟩
end SM
namespace SM
open PySem PySem.Spec PyProof.Rows L2
theorem pfJ0 { v : V} : putF "_board" v [] = ([("_board", v)] : List (Str × V)) := by
  rw [putF_nil]
theorem pfJ1 {a0 v : V} : putF "_name" v [("_board", a0)] = ([("_board", a0), ("_name", v)] : List (Str × V)) := by
  rw [putF_skip (by decide +kernel), putF_nil]
theorem pfJ2 {a0 a1 v : V} : putF "_stretch" v [("_board", a0), ("_name", a1)] = ([("_board", a0), ("_name", a1), ("_stretch", v)] : List (Str × V)) := by
  rw [putF_skip (by decide +kernel), putF_skip (by decide +kernel), putF_nil]
theorem pfJ3 {a0 a1 a2 v : V} : putF "_phase" v [("_board", a0), ("_name", a1), ("_stretch", a2)] = ([("_board", a0), ("_name", a1), ("_stretch", a2), ("_phase", v)] : List (Str × V)) := by
  rw [putF_skip (by decide +kernel), putF_skip (by decide +kernel), putF_skip (by decide +kernel), putF_nil]
theorem pfJ4 {a0 a1 a2 a3 v : V} : putF "_aim" v [("_board", a0), ("_name", a1), ("_stretch", a2), ("_phase", a3)] = ([("_board", a0), ("_name", a1), ("_stretch", a2), ("_phase", a3), ("_aim", v)] : List (Str × V)) := by
  rw [putF_skip (by decide +kernel), putF_skip (by decide +kernel), putF_skip (by decide +kernel), putF_skip (by decide +kernel), putF_nil]
theorem pfJ5 {a0 a1 a2 a3 a4 v : V} : putF "_switches" v [("_board", a0), ("_name", a1), ("_stretch", a2), ("_phase", a3), ("_aim", a4)] = ([("_board", a0), ("_name", a1), ("_stretch", a2), ("_phase", a3), ("_aim", a4), ("_switches", v)] : List (Str × V)) := by
  rw [putF_skip (by decide +kernel), putF_skip (by decide +kernel), putF_skip (by decide +kernel), putF_skip (by decide +kernel), putF_skip (by decide +kernel), putF_nil]
theorem pfJ6 {a0 a1 a2 a3 a4 a5 v : V} : putF "_drains" v [("_board", a0), ("_name", a1), ("_stretch", a2), ("_phase", a3), ("_aim", a4), ("_switches", a5)] = ([("_board", a0), ("_name", a1), ("_stretch", a2), ("_phase", a3), ("_aim", a4), ("_switches", a5), ("_drains", v)] : List (Str × V)) := by
  rw [putF_skip (by decide +kernel), putF_skip (by decide +kernel), putF_skip (by decide +kernel), putF_skip (by decide +kernel), putF_skip (by decide +kernel), putF_skip (by decide +kernel), putF_nil]
end SM
namespace SM
open PySem PySem.Spec PyProof.Rows L2
open Evl (tCut pss_cut)
section
variable {P : Program} {w : World} {K : PySem.W.Frag} {mg : Str → Option Value} {base : Heap} {C : Nat → Addr} {M L LJ : Addr}
theorem sc_Job__go_away : FnScope ["self", "aim"] ["self", "aim"] (defScope s_Job__go_away) := ⟨rfl, rfl, rfl, by decide +kernel, rfl, by decide +kernel, by decide +kernel⟩
theorem oj_go_away (T : Jx K mg C M L LJ) : OkM P w K mg base CX0 9 LJ "_go_away" ["self", "aim"] (spJAway L LJ) := by
  refine T.j__go_away.ok sc_Job__go_away (fun _ _ _ _ _ _ us hl => match us, hl with | [_, _], _ => rfl) (fun vs H Q E h => ?_) (fun f cdv Ar outer st H vs Q E hr h => ?_)
  · obtain ⟨B, S, J, j, rfl, _⟩ := h
    rfl
  · obtain ⟨B, S, J, j, rfl, h, k⟩ := h
    obtain ⟨dx, ob⟩ := id h.jb.ob
    refine ⟨_, (pss_cons (ps_fld (pv 0) pe_str rfl) (pss_cons (ps_fld (pv 0) (pv 1) rfl) (pss_one (ps_expr (pe_m0 (oj_leave_away T) T.clJ (hr.mono (by decide)) pass0 (pv 0)))))), ?_⟩
    refine ⟨_, rfl, J.p, LJ, dx, _, rfl, ob, T.clJ, T.nj_phase, (by show 7 < 1000; decide), ?_⟩
    rw [putJ_p]
    obtain ⟨h1, w1⟩ := h.set (j' := { j with ph := "away" }) ob rfl rfl rfl
    have ob1 : upd H J.p (.ins LJ dx (jfl J { j with ph := "away" })) J.p = some (.ins LJ dx (jfl J { j with ph := "away" })) := upd_same
    generalize upd H J.p (.ins LJ dx (jfl J { j with ph := "away" })) = H1 at h1 w1 ob1 ⊢
    refine ⟨_, rfl, _, rfl, J.p, LJ, dx, _, rfl, ob1, T.clJ, T.nj_aim, (by show 7 < 1000; decide), ?_⟩
    rw [putJ_a]
    obtain ⟨h2, w2⟩ := h1.set (j' := { j with ph := "away", aim := "by" }) ob1 rfl rfl rfl
    have ob2 : upd H1 J.p (.ins LJ dx (jfl J { j with ph := "away", aim := "by" })) J.p = some (.ins LJ dx (jfl J { j with ph := "away", aim := "by" })) := upd_same
    generalize upd H1 J.p (.ins LJ dx (jfl J { j with ph := "away", aim := "by" })) = H2 at h2 w2 ob2 ⊢
    exact ⟨_, rfl, J.p, dx, _, rfl, ob2, jfl_no J _ (by decide +kernel), B, S, J, { j with ph := "away", aim := "by" }, rfl, h2, rfl, fun H3 J3 h3 e3 w3 => k H3 J3 h3 e3 ((w1.trans w2).trans w3)⟩
theorem sc_Job_give : FnScope ["self"] ["self"] (defScope s_Job_give) := ⟨rfl, rfl, rfl, by decide +kernel, rfl, by decide +kernel, by decide +kernel⟩
theorem oj_give (T : Jx K mg C M L LJ) : OkM P w K mg base CX0 9 LJ "give" ["self"] (spJSet L LJ (fun S j => j.ph = "still" ∧ stepsOf S j = []) (fun _ j => { j with ph := "given" })) := by
  refine T.j_give.ok sc_Job_give (fun _ _ _ _ _ _ us hl => match us, hl with | [_], _ => rfl) (fun vs H Q E h => ?_) (fun f cdv Ar outer st H vs Q E hr h => ?_)
  · obtain ⟨B, S, J, j, rfl, _⟩ := h
    rfl
  · obtain ⟨B, S, J, j, rfl, h, ⟨c1, c2⟩, k⟩ := h
    obtain ⟨dx, ob⟩ := id h.jb.ob
    refine ⟨_, (pss_cons (ps_if (pt_not (pt_val (pe_m0 (oj_is_ready T) T.clJ (hr.mono (by decide)) pass0 (pv 0)))) (pss_one ps_never) pss_nil) (pss_one (ps_fld (pv 0) pe_str rfl))), ?_⟩
    refine ⟨_, rfl, J.p, dx, _, rfl, ob, jfl_no J j (by decide +kernel), B, S, J, j, rfl, h, fun H1 s1 => ⟨_, rfl, if_f (by rw [decide_eq_true c1, decide_eq_true c2]; rfl) ?_⟩⟩
    have h1 := h.same s1
    have ob1 := s1 _ _ ob
    refine ⟨_, rfl, J.p, LJ, dx, _, rfl, ob1, T.clJ, T.nj_phase, (by show 7 < 1000; decide), ?_⟩
    rw [putJ_p]
    obtain ⟨h2, w2⟩ := h1.set (j' := { j with ph := "given" }) ob1 rfl rfl rfl
    exact k _ J h2 rfl ((KJ.same s1).trans w2)
theorem sc_Job_try_out : FnScope ["self"] ["self"] (defScope s_Job_try_out) := ⟨rfl, rfl, rfl, by decide +kernel, rfl, by decide +kernel, by decide +kernel⟩
theorem oj_try_out (T : Jx K mg C M L LJ) : OkM P w K mg base CX0 9 LJ "try_out" ["self"] (spJSet L LJ (fun S j => j.ph = "given" ∧ oneHand S j) (fun _ j => { j with ph := "trial" })) := by
  refine T.j_try_out.ok sc_Job_try_out (fun _ _ _ _ _ _ us hl => match us, hl with | [_], _ => rfl) (fun vs H Q E h => ?_) (fun f cdv Ar outer st H vs Q E hr h => ?_)
  · obtain ⟨B, S, J, j, rfl, _⟩ := h
    rfl
  · obtain ⟨B, S, J, j, rfl, h, ⟨c1, c2⟩, k⟩ := h
    obtain ⟨dx, ob⟩ := id h.jb.ob
    refine ⟨_, (pss_cons (ps_expr (pe_m (oj_refuse_unless_in T) T.clJ (hr.mono (by decide)) pass0 (pv 0) (pa_cons (pe_tup (pa_cons pe_str pa_nil)) pa_nil))) (pss_cons (ps_expr (pe_m0 (oj_refuse_company T) T.clJ (hr.mono (by decide)) pass0 (pv 0))) (pss_one (ps_fld (pv 0) pe_str rfl)))), ?_⟩
    refine ⟨_, rfl, J.p, dx, _, rfl, ob, jfl_no J j (by decide +kernel), (by show 1 ≤ sizeLine; decide), fun t ht => ?_⟩
    have s1 := Same.newp (o := .tup [.str "given"]) ht
    have h1 := h.same s1
    have ob1 := s1 _ _ ob
    refine ⟨J, j, t, ["given"], rfl, h1.jb, upd_same, by rw [c1]; exact .head _, ?_⟩
    generalize upd H t (.tup [.str "given"]) = H1 at s1 h1 ob1 ⊢
    refine ⟨_, rfl, J.p, dx, _, rfl, ob1, jfl_no J j (by decide +kernel), B, S, J, j, rfl, h1, (by rw [c1]; decide +kernel), c2, fun H2 s2 => ?_⟩
    have h2 := h1.same s2
    have ob2 := s2 _ _ ob1
    refine ⟨_, rfl, J.p, LJ, dx, _, rfl, ob2, T.clJ, T.nj_phase, (by show 7 < 1000; decide), ?_⟩
    rw [putJ_p]
    obtain ⟨h3, w3⟩ := h2.set (j' := { j with ph := "trial" }) ob2 rfl rfl rfl
    exact k _ J h3 rfl ((KJ.same (s1.trans s2)).trans w3)
theorem sc_Job_go_on : FnScope ["self"] ["self"] (defScope s_Job_go_on) := ⟨rfl, rfl, rfl, by decide +kernel, rfl, by decide +kernel, by decide +kernel⟩
theorem oj_go_on (T : Jx K mg C M L LJ) : OkM P w K mg base CX0 9 LJ "go_on" ["self"] (spJSet L LJ (fun S j => j.ph = "trial") (fun _ j => { j with ph := "still" })) := by
  refine T.j_go_on.ok sc_Job_go_on (fun _ _ _ _ _ _ us hl => match us, hl with | [_], _ => rfl) (fun vs H Q E h => ?_) (fun f cdv Ar outer st H vs Q E hr h => ?_)
  · obtain ⟨B, S, J, j, rfl, _⟩ := h
    rfl
  · obtain ⟨B, S, J, j, rfl, h, c1, k⟩ := h
    obtain ⟨dx, ob⟩ := id h.jb.ob
    refine ⟨_, (pss_cons (ps_expr (pe_m (oj_refuse_unless_in T) T.clJ (hr.mono (by decide)) pass0 (pv 0) (pa_cons (pe_tup (pa_cons pe_str pa_nil)) pa_nil))) (pss_one (ps_fld (pv 0) pe_str rfl))), ?_⟩
    refine ⟨_, rfl, J.p, dx, _, rfl, ob, jfl_no J j (by decide +kernel), (by show 1 ≤ sizeLine; decide), fun t ht => ?_⟩
    have s1 := Same.newp (o := .tup [.str "trial"]) ht
    have h1 := h.same s1
    have ob1 := s1 _ _ ob
    refine ⟨J, j, t, ["trial"], rfl, h1.jb, upd_same, by rw [c1]; exact .head _, ?_⟩
    generalize upd H t (.tup [.str "trial"]) = H1 at s1 h1 ob1 ⊢
    refine ⟨_, rfl, J.p, LJ, dx, _, rfl, ob1, T.clJ, T.nj_phase, (by show 7 < 1000; decide), ?_⟩
    rw [putJ_p]
    obtain ⟨h3, w3⟩ := h1.set (j' := { j with ph := "still" }) ob1 rfl rfl rfl
    exact k _ J h3 rfl ((KJ.same s1).trans w3)
theorem sc_Job_put_by : FnScope ["self"] ["self"] (defScope s_Job_put_by) := ⟨rfl, rfl, rfl, by decide +kernel, rfl, by decide +kernel, by decide +kernel⟩
theorem oj_put_by (T : Jx K mg C M L LJ) : OkM P w K mg base CX0 10 LJ "put_by" ["self"] (spJSet L LJ (fun S j => (j.ph = "still" ∨ j.ph = "given" ∨ j.ph = "trial") ∧ oneHand S j) (fun S j => leaveJ S { j with ph := "away", aim := "by" })) := by
  refine T.j_put_by.ok sc_Job_put_by (fun _ _ _ _ _ _ us hl => match us, hl with | [_], _ => rfl) (fun vs H Q E h => ?_) (fun f cdv Ar outer st H vs Q E hr h => ?_)
  · obtain ⟨B, S, J, j, rfl, _⟩ := h
    rfl
  · obtain ⟨B, S, J, j, rfl, h, ⟨c1, c2⟩, k⟩ := h
    obtain ⟨dx, ob⟩ := id h.jb.ob
    refine ⟨_, (pss_cons (ps_expr (pe_m (oj_refuse_unless_in T) T.clJ (hr.mono (by decide)) pass0 (pv 0) (pa_cons (pe_tup (pa_cons pe_str (pa_cons pe_str (pa_cons pe_str pa_nil)))) pa_nil))) (pss_cons (ps_expr (pe_m0 (oj_refuse_company T) T.clJ (hr.mono (by decide)) pass0 (pv 0))) (pss_one (ps_expr (pe_m (oj_go_away T) T.clJ (hr.mono (by decide)) pass0 (pv 0) (pa_cons pe_str pa_nil)))))), ?_⟩
    refine ⟨_, rfl, J.p, dx, _, rfl, ob, jfl_no J j (by decide +kernel), (by show 3 ≤ sizeLine; decide), fun t ht => ?_⟩
    have s1 := Same.newp (o := .tup [.str "still", .str "given", .str "trial"]) ht
    have h1 := h.same s1
    have ob1 := s1 _ _ ob
    refine ⟨J, j, t, ["still", "given", "trial"], rfl, h1.jb, upd_same, by simpa using c1, ?_⟩
    generalize upd H t (.tup [.str "still", .str "given", .str "trial"]) = H1 at s1 h1 ob1 ⊢
    refine ⟨_, rfl, J.p, dx, _, rfl, ob1, jfl_no J j (by decide +kernel), B, S, J, j, rfl, h1, (by rcases c1 with w | w | w <;> rw [w] <;> decide +kernel), c2, fun H2 s2 => ?_⟩
    have h2 := h1.same s2
    have ob2 := s2 _ _ ob1
    exact ⟨_, rfl, J.p, dx, _, rfl, ob2, jfl_no J j (by decide +kernel), B, S, J, j, rfl, h2, fun H3 J3 h3 e3 w3 => k H3 J3 h3 e3 ((KJ.same (s1.trans s2)).trans w3)⟩
end
end SM
namespace SM
open PySem PySem.Spec PyProof.Rows L2
open Evl (tCut pss_cut)
section
variable {P : Program} {w : World} {K : PySem.W.Frag} {mg : Str → Option Value} {base : Heap} {C : Nat → Addr} {M L LJ : Addr}
theorem sc_is_stretch : FnScope ["thing"] ["thing"] (defScope s_is_stretch) := ⟨rfl, rfl, rfl, by decide +kernel, rfl, by decide +kernel, by decide +kernel⟩
theorem oj_is_stretch (T : Jx K mg C M L LJ) : OkF P w K mg base CX0 3 "is_stretch" ["thing"] (spStretchG) := by
  refine T.d_is_stretch.ok sc_is_stretch (fun _ _ _ _ _ _ us hl => match us, hl with | [_], _ => rfl) (fun vs H Q E h => ?_) (fun f cdv Ar outer st H vs Q E hr h => ?_)
  · obtain ⟨l, xs, rfl, _⟩ := h
    rfl
  · obtain ⟨l, xs, rfl, hl, nd, l1, l24, ok, k⟩ := h
    obtain ⟨tk, gk⟩ := T.g_MOST_IN_STRETCH
    refine ⟨_, (pss_one (ps_ret (pe_and (pe_f (ok_are_names T.toBx) (hr.mono (by decide)) pass0 (pa_cons (pv 0) pa_nil)) (pe_one (pe_chain op_le op_le pe_int (pe_callB call_len_seq (by rfl) T.b_len PySem.boot_len (pa_cons (pv 0) pa_nil)) (pe_glob (v := .int 24) (by rfl) gk ⟨_, rfl⟩)))))), ?_⟩
    have q := NmsQ.txt (K := K) hl (by omega) ok
    rw [decide_eq_true nd] at q
    refine ⟨_, rfl, _, true, rfl, q, fun H1 e1 => ?_⟩
    have hl1 := e1 _ _ hl
    refine ⟨_, rfl, if_t rfl ⟨_, rfl, l, _, rfl, .inl (SqL.of hl1), _, _, rfl, rfl, _, rfl, ?_⟩⟩
    rw [List.length_map]
    refine if_t (decide_eq_true (by omega)) ⟨_, _, rfl, rfl, ?_⟩
    show Q (.bl (decide ((xs.length : Int) ≤ 24))) H1
    rw [decide_eq_true (show (xs.length : Int) ≤ 24 by omega)]
    exact k H1 e1
theorem sc__have_one_in_common : FnScope ["some", "others", "name"] ["some", "others"] (defScope s__have_one_in_common) := ⟨rfl, rfl, rfl, by decide +kernel, rfl, by decide +kernel, by decide +kernel⟩
theorem oj_common (T : Jx K mg C M L LJ) : OkF P w K mg base CX0 1 "_have_one_in_common" ["some", "others"] (spCommon) := by
  refine T.d_have_one_in_common.ok sc__have_one_in_common (fun _ _ _ _ _ _ us hl => match us, hl with | [_, _], _ => rfl) (fun vs H Q E h => ?_) (fun f cdv Ar outer st H vs Q E hr h => ?_)
  · obtain ⟨a, b, xs, ys, rfl, _⟩ := h
    rfl
  · obtain ⟨a, b, xs, ys, rfl, ha, hb, l9, dis, k⟩ := h
    refine ⟨_, (pss_one (ps_ret (pe_callB (cr_any rfl) (by rfl) T.b_any (by decide +kernel) (pa_cons (pe_lc (own := [("name", 2)]) rfl sc__have_one_in_common.nd (pi_list (pv 0)) (blkOk_by (N := ["some", "others", "name"]) (sc := (defScope s__have_one_in_common)) (by decide +kernel)) (fun _ _ _ _ _ => (pg_name (i := 2) sc__have_one_in_common.nd rfl (Or.inl rfl))) (fun _ _ _ _ _ => pts_nil) (fun _ _ _ _ _ => (pe_cmpR (op_in_seqK (K := K) rfl) (pv 2) (pv 1) rfl))) pa_nil)))), ?_⟩
    refine ⟨_, rfl, a, rfl, ⟨_, SqL.of ha⟩, fun D hD => ?_⟩
    refine lc_list (K := K) (a := a) (xs := xs.map V.str) (fun m G => Same H G ∧ G D = some (.lst (List.replicate m (.bl false)))) ⟨Same.newp hD, upd_same⟩ (fun m G _ z => SqL.of (z.1 _ _ ha)) ?_ ?_
    · rintro m y G hm ⟨e1, hD1⟩
      have lm := (List.getElem?_eq_some_iff.mp hm).1
      rw [List.length_map] at lm
      rw [List.getElem?_map] at hm
      obtain ⟨x, ex, rfl⟩ := Option.map_eq_some_iff.mp hm
      refine ⟨rfl, _, rfl, _, rfl, b, _, rfl, .inl (SqL.of (e1 _ _ hb)), rfl, flat_strs _, _, hD1, small1000 (by rw [List.length_replicate]; omega), fun b' u e => (upd_ne (ne_of_none e hD)).trans (e1 _ _ e), ?_⟩
      have e : (if false = true then !inV (.str x) (ys.map V.str) else inV (.str x) (ys.map V.str)) = false := by
        show inV (.str x) (ys.map V.str) = false
        rw [inV_strs]
        exact decide_eq_false (dis x (List.mem_of_getElem? ex))
      rw [upd_same, e, List.replicate_succ']
    · rintro G ⟨e1, hD1⟩
      rw [List.length_map] at hD1
      refine ⟨D, List.replicate xs.length false, rfl, SqL.of (by rw [List.map_replicate]; exact hD1), ?_⟩
      have e : (List.replicate xs.length false).any id = false := by
        rw [List.any_eq_false]
        intro x m
        rw [List.eq_of_mem_replicate m]
        decide
      rw [e]
      exact k G e1
theorem sc_Job_begin : FnScope ["self", "switches", "drains", "devices", "device"] ["self", "switches", "drains"] (defScope s_Job_begin) := ⟨rfl, rfl, rfl, by decide +kernel, rfl, by decide +kernel, by decide +kernel⟩
theorem oj_begin (T : Jx K mg C M L LJ) : OkM P w K mg base CX0 5 LJ "begin" ["self", "switches", "drains"] (spJBegin L LJ) := by
  refine T.j_begin.ok sc_Job_begin (fun _ _ _ _ _ _ us hl => match us, hl with | [_, _, _], _ => rfl) (fun vs H Q E h => ?_) (fun f cdv Ar outer st H vs Q E hr h => ?_)
  · obtain ⟨B, S, J, j, a, b, xs, ys, rfl, _⟩ := h
    rfl
  · obtain ⟨B, S, J, j, a, b, xs, ys, rfl, h, c1, ha, hb, hx, hy, nx, ny, dis, k⟩ := h
    obtain ⟨dx, ob⟩ := id h.jb.ob
    have hS := h.ok
    have lx : xs.length ≤ 52 := by
      have q := nodup_len nx hx
      rw [keys, List.length_map] at q
      exact Nat.le_trans q hS.dL
    have ly : ys.length ≤ 52 := by
      have q := nodup_len ny hy
      rw [keys, List.length_map] at q
      exact Nat.le_trans q hS.dL
    refine ⟨_, (pss_cons (ps_expr (pe_f (ok_need T.toBx) (hr.mono (by decide)) passL (pa_cons pe_int (pa_cons (pe_f (ok_are_names T.toBx) (hr.mono (by decide)) pass0 (pa_cons (pv 1) pa_nil)) pa_nil)))) (pss_cons (ps_expr (pe_f (ok_need T.toBx) (hr.mono (by decide)) passL (pa_cons pe_int (pa_cons (pe_and (pe_f (ok_are_names T.toBx) (hr.mono (by decide)) pass0 (pa_cons (pv 2) pa_nil)) (pe_one (pe_not (pe_f (oj_common T) (hr.mono (by decide)) pass0 (pa_cons (pv 1) (pa_cons (pv 2) pa_nil)))))) pa_nil)))) (pss_cons (ps_expr (pe_m (oj_refuse_unless_in T) T.clJ (hr.mono (by decide)) pass0 (pv 0) (pa_cons (pe_tup (pa_cons pe_str pa_nil)) pa_nil))) (pss_cons (ps_set (i := 3) sc_Job_begin.nd rfl (Or.inl rfl) (pe_m0 (ok_devices T.toBx) T.cl (hr.mono (by decide)) pass0 (pe_fld (pv 0) rfl))) (pss_cons (ps_for PassesOwn.never rfl (pi_list (pe_op op_cat (pv 1) (pv 2))) (pg_name (i := 4) sc_Job_begin.nd rfl (Or.inl rfl)) (pss_one (ps_if (pt_cmpR op_notIn_seq (pv 4) (pv 3) rfl) (pss_one ps_never) pss_nil))) (pss_cons (ps_fld (pv 0) pe_str rfl) (pss_cons (ps_fld (pv 0) (pe_callTy call_list_of (by rfl) T.b_list (by decide +kernel) (pa_cons (pv 1) pa_nil)) rfl) (pss_one (ps_fld (pv 0) (pe_callTy call_list_of (by rfl) T.b_list (by decide +kernel) (pa_cons (pv 2) pa_nil)) rfl))))))))), ?_⟩
    have q1 := NmsQ.txt (K := K) ha (by omega) fun d m => hS.dG d (hx d m)
    rw [decide_eq_true nx] at q1
    refine ⟨_, rfl, _, true, rfl, q1, fun H1 s1 => ⟨_, true, rfl, fun _ => ?_, fun w => Bool.noConfusion w⟩⟩
    have q2 := NmsQ.txt (K := K) (s1 _ _ hb) (by omega) fun d m => hS.dG d (hy d m)
    rw [decide_eq_true ny] at q2
    refine ⟨_, rfl, _, true, rfl, q2, fun H2 s2 => ⟨_, rfl, if_t rfl ⟨_, rfl, _, rfl, a, b, xs, ys, rfl, s2 _ _ (s1 _ _ ha), s2 _ _ (s1 _ _ hb), by omega, dis, fun H3 s3 => ⟨_, rfl, _, true, rfl, fun _ => ?_, fun w => Bool.noConfusion w⟩⟩⟩⟩
    have e3 := (s1.trans s2).trans s3
    clear s1 s2 s3 q1 q2
    refine ⟨_, rfl, J.p, dx, _, rfl, e3 _ _ ob, jfl_no J j (by decide +kernel), (by show 1 ≤ sizeLine; decide), fun t ht => ?_⟩
    have e4 := e3.trans (Same.newp (o := .tup [.str "by"]) ht)
    refine ⟨J, j, t, ["by"], rfl, (h.same e4).jb, upd_same, by rw [c1]; exact .head _, ?_⟩
    generalize upd H3 t (.tup [.str "by"]) = H4 at e4 ⊢
    have h4 := h.same e4
    obtain ⟨dxb, obb⟩ := id h4.bd.ob
    refine ⟨_, rfl, J.p, LJ, dx, _, _, rfl, e4 _ _ ob, T.clJ, T.nj_board, jfl_bB h.eb, B.p, dxb, _, rfl, obb, bfl_no B (by decide +kernel), B, S, rfl, h4.bd, hS, fun H5 p yd syd s5 np hp => ?_⟩
    have e5 := e4.trans s5
    refine ⟨_, rfl, _, rfl, a, b, _, _, rfl, rfl, e5 _ _ ha, e5 _ _ hb, Nat.le_of_lt (small1000 (by rw [List.length_map, List.length_map]; omega)), fun F hF => ?_⟩
    rw [← List.map_append]
    have s6 := Same.newp (o := .lst ((xs ++ ys).map V.str)) hF
    have hF6 : upd H5 F (.lst ((xs ++ ys).map V.str)) F = some (.lst ((xs ++ ys).map V.str)) := upd_same
    have e6 := e5.trans s6
    have hp6 := s6 _ _ hp
    generalize upd H5 F (.lst ((xs ++ ys).map V.str)) = H6 at e6 hF6 hp6 ⊢
    clear s5 s6 e5 hF
    refine ⟨F, rfl, ⟨_, SqL.of hF6⟩, ?_⟩
    refine for_list (K := K) (a := F) (xs := (xs ++ ys).map V.str) (fun n σ G => (∃ x4 : Option V, σ = [some (.ref J.p), some (.ref a), some (.ref b), some (.ref p), x4]) ∧ Same H6 G)
      ⟨⟨_, rfl⟩, fun _ _ e => e⟩ (fun n σ G _ z => SqL.of (z.2 _ _ hF6)) ?_ ?_
    · rintro n y σ G hn ⟨⟨x4, rfl⟩, s7⟩
      rw [List.getElem?_map] at hn
      obtain ⟨d, ed, rfl⟩ := Option.map_eq_some_iff.mp hn
      refine ⟨_, rfl, _, rfl, p, _, rfl, .inl (SqL.of (s7 _ _ hp6)), rfl, flat_strs _, _, rfl, if_f ?_ ⟨⟨_, rfl⟩, s7⟩⟩
      show (!inV (.str d) (yd.map V.str)) = false
      rw [inV_strs]
      have inD : d ∈ yd := syd.1.mem_iff.mpr (by
        rcases List.mem_append.mp (List.mem_of_getElem? ed) with w | w
        · exact hx d w
        · exact hy d w)
      rw [decide_eq_true inD]
      rfl
    rintro σ G ⟨⟨x4, rfl⟩, s7⟩
    have e7 := e6.trans s7
    have h7 := h.same e7
    have ob7 := e7 _ _ ob
    refine ⟨_, rfl, J.p, LJ, dx, _, rfl, ob7, T.clJ, T.nj_phase, (by show 7 < 1000; decide), ?_⟩
    rw [putJ_p]
    obtain ⟨h8, w8⟩ := h7.set (j' := { j with ph := "still" }) ob7 rfl rfl rfl
    have ob8 : upd G J.p (.ins LJ dx (jfl J { j with ph := "still" })) J.p = some (.ins LJ dx (jfl J { j with ph := "still" })) := upd_same
    generalize upd G J.p (.ins LJ dx (jfl J { j with ph := "still" })) = H8 at h8 w8 ob8 ⊢
    have k8 := (KJ.same (ms := []) (p := J.p) e7).trans w8
    clear e7 h7 ob7 s7 w8 e6 hF6 hp6
    have ha8 := k8.flat _ _ ha (flat_strs _)
    have hb8 := k8.flat _ _ hb (flat_strs _)
    refine ⟨_, rfl, a, _, rfl, .inl (SqL.of ha8), fun l1 hl1 => ?_⟩
    have n1 : l1 ≠ J.p := fun w => by
      rw [w, ob8] at hl1
      cases hl1
    have w2 := Same.newp (o := .lst (xs.map V.str)) hl1
    refine ⟨_, rfl, J.p, LJ, dx, _, rfl, w2 _ _ ob8, T.clJ, T.nj_switches, (by show 7 < 1000; decide), ?_⟩
    rw [putJ_s]
    have w3 : KJ [] J.p (upd H8 l1 (.lst (xs.map V.str))) (upd (upd H8 l1 (.lst (xs.map V.str))) J.p (.ins LJ dx (jfl { J with sw := l1 } { j with ph := "still" }))) := KJ.wr (w2 _ _ ob8)
    have a3 : upd (upd H8 l1 (.lst (xs.map V.str))) J.p (.ins LJ dx (jfl { J with sw := l1 } { j with ph := "still" })) l1 = some (.lst (xs.map V.str)) := (upd_ne n1).trans upd_same
    have ob3 : upd (upd H8 l1 (.lst (xs.map V.str))) J.p (.ins LJ dx (jfl { J with sw := l1 } { j with ph := "still" })) J.p = some (.ins LJ dx (jfl { J with sw := l1 } { j with ph := "still" })) := upd_same
    have w13 := (KJ.same w2).trans w3
    generalize upd (upd H8 l1 (.lst (xs.map V.str))) J.p (.ins LJ dx (jfl { J with sw := l1 } { j with ph := "still" })) = H9 at w13 a3 ob3 ⊢
    clear w2 w3 n1 hl1
    refine ⟨_, rfl, b, _, rfl, .inl (SqL.of (w13.flat _ _ hb8 (flat_strs _))), fun l2 hl2 => ?_⟩
    have n2 : l2 ≠ J.p := fun w => by
      rw [w, ob3] at hl2
      cases hl2
    have w4 := Same.newp (o := .lst (ys.map V.str)) hl2
    refine ⟨_, rfl, J.p, LJ, dx, _, rfl, w4 _ _ ob3, T.clJ, T.nj_drains, (by show 7 < 1000; decide), ?_⟩
    rw [putJ_d]
    have w5 : KJ [] J.p (upd H9 l2 (.lst (ys.map V.str))) (upd (upd H9 l2 (.lst (ys.map V.str))) J.p (.ins LJ dx (jfl { J with sw := l1, dr := l2 } { j with ph := "still" }))) := KJ.wr (w4 _ _ ob3)
    have a4 : upd (upd H9 l2 (.lst (ys.map V.str))) J.p (.ins LJ dx (jfl { J with sw := l1, dr := l2 } { j with ph := "still" })) l2 = some (.lst (ys.map V.str)) := (upd_ne n2).trans upd_same
    have ob5 : upd (upd H9 l2 (.lst (ys.map V.str))) J.p (.ins LJ dx (jfl { J with sw := l1, dr := l2 } { j with ph := "still" })) J.p = some (.ins LJ dx (jfl { J with sw := l1, dr := l2 } { j with ph := "still" })) := upd_same
    have w15 := w13.trans ((KJ.same w4).trans w5)
    have a5 := w5.flat _ _ (w4 _ _ a3) (flat_strs _)
    generalize upd (upd H9 l2 (.lst (ys.map V.str))) J.p (.ins LJ dx (jfl { J with sw := l1, dr := l2 } { j with ph := "still" })) = H10 at w15 a4 a5 ob5 ⊢
    have nB := h.apart
    refine k H10 { J with sw := l1, dr := l2 } ⟨h8.bd.kj w15 (fun _ m => nomatch m) (fun _ _ _ _ => nB) ⟨_, _, _, ob8⟩, hS, ⟨⟨dx, ?_⟩, a5, a4⟩, h.eb, ⟨h.jo.nmI, hx, hy, nx, ny⟩⟩ rfl (k8.trans w15)
    exact ob5
theorem sc_Job_step : FnScope ["self", "steps", "device", "position"] ["self"] (defScope s_Job_step) := ⟨rfl, rfl, rfl, by decide +kernel, rfl, by decide +kernel, by decide +kernel⟩
theorem oj_step (T : Jx K mg C M L LJ) : OkM P w K mg base CX0 9 LJ "step" ["self"] (spJStep L LJ) := by
  refine T.j_step.ok sc_Job_step (fun _ _ _ _ _ _ us hl => match us, hl with | [_], _ => rfl) (fun vs H Q E h => ?_) (fun f cdv Ar outer st H vs Q E hr h => ?_)
  · obtain ⟨B, S, J, j, r, rs, rfl, _⟩ := h
    rfl
  · obtain ⟨B, S, J, j, r, rs, rfl, h, ab, hs, dn, hpos, inD, k⟩ := h
    obtain ⟨dx, ob⟩ := id h.jb.ob
    have hS := h.ok
    have gz := hS.dG _ inD
    have gn := hS.cG _ h.jo.nmI
    refine ⟨_, (pss_cons (ps_set (i := 1) sc_Job_step.nd rfl (Or.inl rfl) (pe_m0 (oj_steps T) T.clJ (hr.mono (by decide)) pass0 (pv 0))) (pss_cons (ps_if (pt_not (pt_truth (pv 1) (fun _ => rfl))) (pss_one ps_never) pss_nil) (pss_cons (ps_asg (pe_ix ix_list (pv 1) pe_int (fun _ _ => rfl)) (pg_tupK (K := K) (n := 2) rfl rfl (pgs_cons (pg_name (i := 2) sc_Job_step.nd rfl (Or.inl rfl)) (pgs_cons (pg_name (i := 3) sc_Job_step.nd rfl (Or.inl rfl)) pgs_nil)))) (pss_cut (ps_if (pt_cmpR op_isN (pv 3) pe_non (nomark _)) (pss_one (ps_expr (pe_m (ok_free T.toBx) T.cl (hr.mono (by decide)) passL (pe_fld (pv 0) rfl) (pa_cons (pv 2) (pa_cons (pe_fld (pv 0) rfl) pa_nil))))) (pss_one (ps_expr (pe_m (ok_hold T.toBx) T.cl (hr.mono (by decide)) passL (pe_fld (pv 0) rfl) (pa_cons (pv 2) (pa_cons (pv 3) (pa_cons (pe_fld (pv 0) rfl) pa_nil))))))) (pss_cons (ps_expr (pe_m0 (oj_leave_away T) T.clJ (hr.mono (by decide)) pass0 (pv 0))) (pss_one (ps_ret (pe_tup (pa_cons (pv 2) (pa_cons (pv 3) pa_nil)))))))))), ?_⟩
    refine ⟨_, rfl, J.p, dx, _, rfl, ob, jfl_no J j (by decide +kernel), B, S, J, j, rfl, h, fun H1 p1 ts1 s1 np1 hp1 rp1 => ?_⟩
    rw [hs] at rp1
    obtain ⟨t0, ts, rfl, ht0⟩ : ∃ t0 ts, ts1 = t0 :: ts ∧ H1 t0 = some (.tup [.str r.1, butV r.2]) := by
      cases rp1 with
      | cons a b => exact ⟨_, _, rfl, a⟩
    refine ⟨_, rfl, !((t0 :: ts).map V.ref).isEmpty, .inl ⟨_, SqL.of hp1, rfl⟩, if_f rfl ?_⟩
    refine ⟨_, rfl, p1, _, 0, _, rfl, rfl, SqL.of hp1, atI_first _ _, t0, _, rfl, SqT.of ht0, rfl, _, _, rfl, _, _, rfl, rfl, ?_⟩
    have h1 := h.same s1
    have ob1 := s1 _ _ ob
    obtain ⟨dxb, obb⟩ := id h1.bd.ob
    clear rp1 hp1 np1 ht0
    refine ⟨fun σ G => σ = [some (.ref J.p), some (.ref p1), some (.str r.1), some (butV r.2)] ∧ JB L LJ G B (S.put (stepD j.nm r)) J j ∧ KJ (bms B S) J.p H G, ?_, ?_⟩
    · have fin : ∀ H2, BdAt L H2 B (S.put (stepD j.nm r)) → Keep (bms B S) H1 H2 → JB L LJ H2 B (S.put (stepD j.nm r)) J j ∧ KJ (bms B S) J.p H H2 := fun H2 hB2 k2 => by
        have gD : GoodK (stepD j.nm r) := by
          unfold stepD
          split
          · exact ⟨gz, gn⟩
          · rename_i p e
            exact ⟨gz, hpos p e, gn⟩
        have ok2 : (S.put (stepD j.nm r)).Ok := by
          have e : atA (stepD j.nm r) B.p = stepD j.nm r := by
            unfold stepD
            split <;> rfl
          have q := put_okK hS gD dn B.p
          rwa [e] at q
        obtain ⟨kd, kc⟩ := stepD_keys (S := S) (n := j.nm) (r := r)
        exact ⟨⟨hB2, ok2, ⟨⟨dx, k2.ins _ _ _ _ ob1⟩, k2.flat _ _ h1.jb.sw (flat_strs _), k2.flat _ _ h1.jb.dr (flat_strs _)⟩, h.eb, ⟨by rw [kc]; exact h.jo.nmI, by rw [kd]; exact h.jo.swI, by rw [kd]; exact h.jo.drI, h.jo.swN, h.jo.drN⟩⟩, (KJ.same s1).trans (KJ.of k2)⟩
      obtain ⟨d, pos⟩ := r
      refine ⟨_, rfl, rfl, _, rfl, ?_⟩
      cases pos with
      | none =>
        refine if_t rfl ⟨_, rfl, J.p, LJ, dx, _, _, rfl, ob1, T.clJ, T.nj_board, jfl_bB h.eb, B.p, dxb, _, rfl, obb, bfl_no B (by decide +kernel), _, rfl, _, rfl, J.p, LJ, dx, _, _, rfl, ob1, T.clJ, T.nj_name, jfl_n J j, B, _, _, true, true, S, rfl, h1.bd, hS, NameQ.of gz, NameQ.of gn, (fun w => Bool.noConfusion w), (fun _ w => Bool.noConfusion w), fun z1 j1 ez ej _ _ => ?_⟩
        cases ez
        cases ej
        exact ⟨fun _ H2 hB2 k2 => ⟨rfl, fin H2 hB2 k2⟩, fun f hf => by rw [show S.due (.free d j.nm) = none from dn] at hf; cases hf⟩
      | some pp =>
        refine if_f rfl ⟨_, rfl, J.p, LJ, dx, _, _, rfl, ob1, T.clJ, T.nj_board, jfl_bB h.eb, B.p, dxb, _, rfl, obb, bfl_no B (by decide +kernel), _, rfl, _, rfl, _, rfl, J.p, LJ, dx, _, _, rfl, ob1, T.clJ, T.nj_name, jfl_n J j, B, _, _, _, true, true, true, S, rfl, h1.bd, hS, NameQ.of gz, PosQ.of (hpos pp rfl), NameQ.of gn, (fun w => Bool.noConfusion w), (fun _ w => Bool.noConfusion w), (fun _ _ w => Bool.noConfusion w), fun z1 p2 j1 ez ep ej _ _ _ => ?_⟩
        cases ez
        cases ep
        cases ej
        exact ⟨fun _ H2 hB2 k2 => ⟨rfl, fin H2 hB2 k2⟩, fun f hf => by rw [show S.due (.hold d pp j.nm) = none from dn] at hf; cases hf⟩
    rintro σ G ⟨rfl, h2, k2⟩
    obtain ⟨dx2, ob2⟩ := id h2.jb.ob
    refine ⟨_, rfl, J.p, dx2, _, rfl, ob2, jfl_no J j (by decide +kernel), B, _, J, j, rfl, h2, ab, fun H3 J3 h3 e3 k3 => ?_⟩
    refine ⟨_, rfl, _, rfl, (by show 2 ≤ sizeLine; decide), fun t ht => ?_⟩
    have s4 := Same.newp (o := .tup [.str r.1, butV r.2]) ht
    exact k _ J3 t (h3.same s4) e3 ((k2.trans (k3.mono fun _ m => nomatch m)).trans (KJ.same s4)) upd_same
end
end SM
namespace SM
open PySem PySem.Spec PyProof.Rows L2
open Evl (tCut pss_cut)
section
variable {P : Program} {w : World} {K : PySem.W.Frag} {mg : Str → Option Value} {base : Heap} {C : Nat → Addr} {M L LJ : Addr}
theorem sc_Job___init__ : FnScope ["self", "board", "name", "hand", "rooms"] ["self", "board", "name", "hand", "rooms"] (defScope s_Job___init__) := ⟨rfl, rfl, rfl, by decide +kernel, rfl, by decide +kernel, by decide +kernel⟩
theorem oj_init (T : Jx K mg C M L LJ) : OkM P w K mg base CX0 5 LJ "__init__" ["self", "board", "name", "hand", "rooms"] (spJInit L LJ) := by
  refine T.j_init.ok sc_Job___init__ (fun _ _ _ _ _ _ us hl => match us, hl with | [_, _, _, _, _], _ => rfl) (fun vs H Q E h => ?_) (fun f cdv Ar outer st H vs Q E hr h => ?_)
  · obtain ⟨p, dx, st, B, S, n, hand, rs, rfl, _⟩ := h
    rfl
  · obtain ⟨p, dx, st, B, S, n, hand, rs, rfl, hp, hB, hS, gn, gh, nn, c8, hst, rN, r1, r24, rok, k⟩ := h
    obtain ⟨dxb, obb⟩ := id hB.ob
    refine ⟨_, (pss_cons (ps_expr (pe_f (ok_need T.toBx) (hr.mono (by decide)) passL (pa_cons pe_int (pa_cons (pe_callB call_isi (by rfl) T.b_isinstance (by decide +kernel) (pa_cons (pv 1) (pa_cons (pe_glob (v := .ref L) (by rfl) T.gL rfl) pa_nil))) pa_nil)))) (pss_cons (ps_expr (pe_f (ok_need T.toBx) (hr.mono (by decide)) passL (pa_cons pe_int (pa_cons (pe_f (ok_is_name T.toBx) (hr.mono (by decide)) pass0 (pa_cons (pv 2) pa_nil)) pa_nil)))) (pss_cons (ps_expr (pe_f (ok_need T.toBx) (hr.mono (by decide)) passL (pa_cons pe_int (pa_cons (pe_f (ok_is_name T.toBx) (hr.mono (by decide)) pass0 (pa_cons (pv 3) pa_nil)) pa_nil)))) (pss_cons (ps_expr (pe_f (ok_need T.toBx) (hr.mono (by decide)) passL (pa_cons pe_int (pa_cons (pe_f (oj_is_stretch T) (hr.mono (by decide)) pass0 (pa_cons (pv 4) pa_nil)) pa_nil)))) (pss_cons (ps_if (pt_cmpR op_in_seq (pv 2) (pe_m0 (ok_jobs T.toBx) T.cl (hr.mono (by decide)) pass0 (pv 1)) rfl) (pss_one ps_never) pss_nil) (pss_cons (ps_expr (pe_m (ok_crew T.toBx) T.cl (hr.mono (by decide)) passL (pv 1) (pa_cons (pv 2) (pa_cons (pe_lst (pa_cons (pv 3) pa_nil)) pa_nil)))) (pss_cons (ps_fld (pv 0) (pv 1) rfl) (pss_cons (ps_fld (pv 0) (pv 2) rfl) (pss_cons (ps_fld (pv 0) (pe_callTy call_list_of (by rfl) T.b_list (by decide +kernel) (pa_cons (pv 4) pa_nil)) rfl) (pss_cons (ps_fld (pv 0) pe_str rfl) (pss_cons (ps_fld (pv 0) pe_str rfl) (pss_cons (ps_fld (pv 0) (pe_lst pa_nil) rfl) (pss_one (ps_fld (pv 0) (pe_lst pa_nil) rfl)))))))))))))), ?_⟩
    refine ⟨_, rfl, _, .ref L, _, _, true, rfl, .own L, .base (.ins obb T.cl T.i_ha T.i_hn T.i_ht T.i_hm), kit_self, _, true, rfl, fun _ => ?_, fun w => Bool.noConfusion w⟩
    refine ⟨_, rfl, _, true, rfl, NameQ.of gn, fun H1 e1 => ⟨_, true, rfl, fun _ => ?_, fun w => Bool.noConfusion w⟩⟩
    refine ⟨_, rfl, _, true, rfl, NameQ.of gh, fun H2 e2 => ⟨_, true, rfl, fun _ => ?_, fun w => Bool.noConfusion w⟩⟩
    have f2 := e1.trans e2
    refine ⟨_, rfl, st, rs, rfl, f2 _ _ hst, rN, r1, r24, rok, fun H3 e3 => ⟨_, true, rfl, fun _ => ?_, fun w => Bool.noConfusion w⟩⟩
    have f3 := f2.trans e3
    refine ⟨_, rfl, _, rfl, B.p, dxb, _, rfl, f3 _ _ obb, bfl_no B (by decide +kernel), B, S, rfl, hB.same f3, hS, fun H4 pj yj syj s4 npj hpj => ?_⟩
    refine ⟨pj, _, rfl, .inl (SqL.of hpj), rfl, flat_strs _, _, rfl, if_f ?_ ?_⟩
    · show inV (.str n) (yj.map V.str) = false
      rw [inV_strs]
      exact decide_eq_false fun w => nn (syj.1.mem_iff.mp w)
    have f4 := f3.trans s4
    clear e1 e2 e3 f2 f3 s4 hpj npj syj
    refine ⟨_, rfl, B.p, dxb, _, rfl, f4 _ _ obb, bfl_no B (by decide +kernel), _, rfl, _, rfl, (by show 1 ≤ sizeLine; decide), fun l hl => ?_⟩
    have s5 := Same.newp (o := .lst [.str hand]) hl
    have f5 := f4.trans s5
    have hok : ∀ y ∈ [hand], okName y = true := fun y m => by
      rw [List.mem_singleton.mp m]
      exact gh
    refine ⟨B, _, l, [hand], true, S, rfl, hB.same f5, hS, NameQ.of gn, (fun w => Bool.noConfusion w), upd_same, List.nodup_cons.mpr ⟨(fun w => nomatch w), List.nodup_nil⟩, (by show 1 ≤ 1; decide), (by show 1 ≤ 6; decide), hok, fun z1 ez _ => ?_⟩
    cases ez
    have c9 : ¬ 8 ≤ S.crews.length := by omega
    refine ⟨fun f a df => by simp [BS.due, nn, c9] at df, fun H6 a dn fr hB6 k6 => ?_⟩
    have ok6 : (S.put (.crew n [hand] a)).Ok := put_okK hS (D := .crew n [hand] a) ⟨gn, List.nodup_cons.mpr ⟨(fun w => nomatch w), List.nodup_nil⟩, (by show 1 ≤ 1; decide), (by show 1 ≤ 6; decide), hok⟩ dn a
    have ob6 : H6 p = some (.ins LJ dx []) := k6.ins _ _ _ _ (f5 _ _ hp)
    have hst6 := k6.flat _ _ (f5 _ _ hst) (flat_strs _)
    obtain ⟨dxb6, obb6⟩ := id hB6.ob
    have npB : p ≠ B.p := fun w => by
      rw [w, obb6] at ob6
      injection ob6 with ob6
      injection ob6 with _ _ ob6
      cases ob6
    have K6 : KJ (bms B S) p H H6 := (KJ.same f5).trans (KJ.of k6)
    clear f4 f5 s5 hl
    have K0 : KJ [] p H6 H6 := KJ.same fun _ _ e => e
    have obq := ob6
    refine ⟨_, rfl, _, rfl, p, LJ, dx, _, rfl, obq, T.clJ, T.nj_board, (by show 0 < 1000; decide), ?_⟩
    rw [pfJ0]
    have w2 : KJ [] p H6 (upd H6 p (.ins LJ dx [("_board", .ref B.p)])) := KJ.wr obq
    replace K0 := K0.trans w2
    replace obq : (upd H6 p (.ins LJ dx [("_board", .ref B.p)])) p = some (.ins LJ dx [("_board", .ref B.p)]) := upd_same
    generalize upd H6 p (.ins LJ dx [("_board", .ref B.p)]) = G0 at K0 obq ⊢
    clear w2
    refine ⟨_, rfl, _, rfl, p, LJ, dx, _, rfl, obq, T.clJ, T.nj_name, (by show 1 < 1000; decide), ?_⟩
    rw [pfJ1]
    have w2 : KJ [] p G0 (upd G0 p (.ins LJ dx [("_board", .ref B.p), ("_name", .str n)])) := KJ.wr obq
    replace K0 := K0.trans w2
    replace obq : (upd G0 p (.ins LJ dx [("_board", .ref B.p), ("_name", .str n)])) p = some (.ins LJ dx [("_board", .ref B.p), ("_name", .str n)]) := upd_same
    generalize upd G0 p (.ins LJ dx [("_board", .ref B.p), ("_name", .str n)]) = G1 at K0 obq ⊢
    clear w2
    refine ⟨_, rfl, st, _, rfl, .inl (SqL.of (K0.flat _ _ hst6 (flat_strs _))), fun s1 hs1 => ?_⟩
    have w1 := Same.newp (o := .lst (rs.map V.str)) hs1
    have nw : s1 ≠ p := fun w => by
      rw [w, obq] at hs1
      cases hs1
    have hn_s1 : (upd G1 s1 (.lst (rs.map V.str))) s1 = some (.lst (rs.map V.str)) := upd_same
    replace obq := w1 _ _ obq
    replace K0 := K0.trans (KJ.same w1)
    generalize upd G1 s1 (.lst (rs.map V.str)) = G1' at K0 obq hn_s1 ⊢
    clear w1 hs1
    refine ⟨_, rfl, p, LJ, dx, _, rfl, obq, T.clJ, T.nj_stretch, (by show 2 < 1000; decide), ?_⟩
    rw [pfJ2]
    have w2 : KJ [] p G1' (upd G1' p (.ins LJ dx [("_board", .ref B.p), ("_name", .str n), ("_stretch", .ref s1)])) := KJ.wr obq
    replace hn_s1 := w2.flat _ _ hn_s1 (flat_strs _)
    replace K0 := K0.trans w2
    replace obq : (upd G1' p (.ins LJ dx [("_board", .ref B.p), ("_name", .str n), ("_stretch", .ref s1)])) p = some (.ins LJ dx [("_board", .ref B.p), ("_name", .str n), ("_stretch", .ref s1)]) := upd_same
    generalize upd G1' p (.ins LJ dx [("_board", .ref B.p), ("_name", .str n), ("_stretch", .ref s1)]) = G2 at K0 obq hn_s1 ⊢
    clear w2 nw
    refine ⟨_, rfl, p, LJ, dx, _, rfl, obq, T.clJ, T.nj_phase, (by show 3 < 1000; decide), ?_⟩
    rw [pfJ3]
    have w2 : KJ [] p G2 (upd G2 p (.ins LJ dx [("_board", .ref B.p), ("_name", .str n), ("_stretch", .ref s1), ("_phase", .str "by")])) := KJ.wr obq
    replace hn_s1 := w2.flat _ _ hn_s1 (flat_strs _)
    replace K0 := K0.trans w2
    replace obq : (upd G2 p (.ins LJ dx [("_board", .ref B.p), ("_name", .str n), ("_stretch", .ref s1), ("_phase", .str "by")])) p = some (.ins LJ dx [("_board", .ref B.p), ("_name", .str n), ("_stretch", .ref s1), ("_phase", .str "by")]) := upd_same
    generalize upd G2 p (.ins LJ dx [("_board", .ref B.p), ("_name", .str n), ("_stretch", .ref s1), ("_phase", .str "by")]) = G3 at K0 obq hn_s1 ⊢
    clear w2
    refine ⟨_, rfl, p, LJ, dx, _, rfl, obq, T.clJ, T.nj_aim, (by show 4 < 1000; decide), ?_⟩
    rw [pfJ4]
    have w2 : KJ [] p G3 (upd G3 p (.ins LJ dx [("_board", .ref B.p), ("_name", .str n), ("_stretch", .ref s1), ("_phase", .str "by"), ("_aim", .str "by")])) := KJ.wr obq
    replace hn_s1 := w2.flat _ _ hn_s1 (flat_strs _)
    replace K0 := K0.trans w2
    replace obq : (upd G3 p (.ins LJ dx [("_board", .ref B.p), ("_name", .str n), ("_stretch", .ref s1), ("_phase", .str "by"), ("_aim", .str "by")])) p = some (.ins LJ dx [("_board", .ref B.p), ("_name", .str n), ("_stretch", .ref s1), ("_phase", .str "by"), ("_aim", .str "by")]) := upd_same
    generalize upd G3 p (.ins LJ dx [("_board", .ref B.p), ("_name", .str n), ("_stretch", .ref s1), ("_phase", .str "by"), ("_aim", .str "by")]) = G4 at K0 obq hn_s1 ⊢
    clear w2
    refine ⟨(by show 0 ≤ sizeLine; decide), fun l1 hl1 => ?_⟩
    have w1 := Same.newp (o := .lst []) hl1
    have nw : l1 ≠ p := fun w => by
      rw [w, obq] at hl1
      cases hl1
    have hn_l1 : (upd G4 l1 (.lst [])) l1 = some (.lst []) := upd_same
    replace hn_s1 := w1 _ _ hn_s1
    replace obq := w1 _ _ obq
    replace K0 := K0.trans (KJ.same w1)
    generalize upd G4 l1 (.lst []) = G4' at K0 obq hn_l1 hn_s1 ⊢
    clear w1 hl1
    refine ⟨_, rfl, p, LJ, dx, _, rfl, obq, T.clJ, T.nj_switches, (by show 5 < 1000; decide), ?_⟩
    rw [pfJ5]
    have w2 : KJ [] p G4' (upd G4' p (.ins LJ dx [("_board", .ref B.p), ("_name", .str n), ("_stretch", .ref s1), ("_phase", .str "by"), ("_aim", .str "by"), ("_switches", .ref l1)])) := KJ.wr obq
    replace hn_s1 := w2.flat _ _ hn_s1 (flat_strs _)
    replace hn_l1 := w2.flat _ _ hn_l1 rfl
    replace K0 := K0.trans w2
    replace obq : (upd G4' p (.ins LJ dx [("_board", .ref B.p), ("_name", .str n), ("_stretch", .ref s1), ("_phase", .str "by"), ("_aim", .str "by"), ("_switches", .ref l1)])) p = some (.ins LJ dx [("_board", .ref B.p), ("_name", .str n), ("_stretch", .ref s1), ("_phase", .str "by"), ("_aim", .str "by"), ("_switches", .ref l1)]) := upd_same
    generalize upd G4' p (.ins LJ dx [("_board", .ref B.p), ("_name", .str n), ("_stretch", .ref s1), ("_phase", .str "by"), ("_aim", .str "by"), ("_switches", .ref l1)]) = G5 at K0 obq hn_s1 hn_l1 ⊢
    clear w2 nw
    refine ⟨(by show 0 ≤ sizeLine; decide), fun l2 hl2 => ?_⟩
    have w1 := Same.newp (o := .lst []) hl2
    have nw : l2 ≠ p := fun w => by
      rw [w, obq] at hl2
      cases hl2
    have hn_l2 : (upd G5 l2 (.lst [])) l2 = some (.lst []) := upd_same
    replace hn_s1 := w1 _ _ hn_s1
    replace hn_l1 := w1 _ _ hn_l1
    replace obq := w1 _ _ obq
    replace K0 := K0.trans (KJ.same w1)
    generalize upd G5 l2 (.lst []) = G5' at K0 obq hn_l2 hn_s1 hn_l1 ⊢
    clear w1 hl2
    refine ⟨_, rfl, p, LJ, dx, _, rfl, obq, T.clJ, T.nj_drains, (by show 6 < 1000; decide), ?_⟩
    rw [pfJ6]
    have w2 : KJ [] p G5' (upd G5' p (.ins LJ dx [("_board", .ref B.p), ("_name", .str n), ("_stretch", .ref s1), ("_phase", .str "by"), ("_aim", .str "by"), ("_switches", .ref l1), ("_drains", .ref l2)])) := KJ.wr obq
    replace hn_s1 := w2.flat _ _ hn_s1 (flat_strs _)
    replace hn_l1 := w2.flat _ _ hn_l1 rfl
    replace hn_l2 := w2.flat _ _ hn_l2 rfl
    replace K0 := K0.trans w2
    replace obq : (upd G5' p (.ins LJ dx [("_board", .ref B.p), ("_name", .str n), ("_stretch", .ref s1), ("_phase", .str "by"), ("_aim", .str "by"), ("_switches", .ref l1), ("_drains", .ref l2)])) p = some (.ins LJ dx [("_board", .ref B.p), ("_name", .str n), ("_stretch", .ref s1), ("_phase", .str "by"), ("_aim", .str "by"), ("_switches", .ref l1), ("_drains", .ref l2)]) := upd_same
    generalize upd G5' p (.ins LJ dx [("_board", .ref B.p), ("_name", .str n), ("_stretch", .ref s1), ("_phase", .str "by"), ("_aim", .str "by"), ("_switches", .ref l1), ("_drains", .ref l2)]) = G6 at K0 obq hn_s1 hn_l1 hn_l2 ⊢
    clear w2 nw
    have nI : n ∈ keys (S.put (.crew n [hand] a)).crews := by
      show n ∈ keys (if n ∈ keys S.crews then setT S.crews n fun _ => ⟨a, [hand]⟩ else S.crews ++ [(n, ⟨a, [hand]⟩)])
      rw [if_neg nn, keys, List.map_append]
      exact List.mem_append_right _ (.head _)
    refine k ⟨p, B.p, s1, l1, l2⟩ a _ rfl ⟨hB6.kj K0 (fun _ m => nomatch m) (fun _ _ _ _ => npB) ⟨_, _, _, ob6⟩, ok6, ⟨⟨dx, obq⟩, hn_l1, hn_l2⟩, rfl, ⟨nI, (fun _ m => nomatch m), (fun _ m => nomatch m), List.nodup_nil, List.nodup_nil⟩⟩ (K6.trans (K0.mono fun _ m => nomatch m))
end
end SM
/-! Part W55: k61's draws, its own table of what stands. -/
namespace SM
open PySem PySem.Spec PyProof.Rows L2
section
variable {X : Cx} {CX : CXT} {k : Nat} {ps : List Str} {sp : Sp} {E : XK} {L : Addr} {x : Str} {p pos : Pos} {e : Expr} {es : List Expr} {t : TA}
/-- Cls(e, ..) of an own class -/
theorem pe_mkA (mk : PySem.W.makesIn X.K L = true) (kp : PySem.W.keepIn X.K (.ref L) = true) (F : OkM X.prog X.w X.K X.mg X.base CX k L "__init__" ps sp) (hr : Room (k + 1) X.A) (hm : X.mg x = some (.ref L)) (hx : Passes CX X E) (ha : PA X (e :: es) t) (hg : Gl X x := by rfl)
    (hdb : (x == ("__debug__" : Str)) = false := by decide) (he : starEach (e :: es) X.env = (false, eval e X.env) :: starEach es X.env := by rfl) (hpl : (backTo pos (starEach es X.env)).any (·.1) = false := by rfl) : PE X (.Call (.Name x p) (e :: es) [] pos) (tMake L sp [] E t) := by
  obtain ⟨f, fd, a, b, d⟩ := F
  exact pe_make ⟨mk, a.at_, a.fn, kp⟩ d hr hg hm b .nil hx ha hdb he hpl
end
def ltr (c : Nat) : Str := ⟨#[c]⟩
theorem ltr_inj {c d : Nat} (h : ltr c = ltr d) : c = d := by
  unfold ltr at h
  injection h with h
  injection h with h
  injection h
theorem ltr_ok {c : Nat} (h : c ∈ lettersL.cps.toList) : okName (ltr c) = true :=
  okName_codes (by show 1 ≤ 1; decide) (by show 1 ≤ 8; decide) fun d hd => by
    have : d = c := by simpa [ltr, codesOf] using hd
    rw [this]
    exact lettersL_ok c h
theorem letters_nd : (lettersL.cps.toList.map ltr).Nodup := by
  have h : lettersL.cps.toList.Nodup := by decide +kernel
  rw [List.nodup_iff_pairwise_ne] at h ⊢
  rw [List.pairwise_map]
  exact h.imp fun n w => n (ltr_inj w)
theorem letters_26 : lettersL.cps.toList.length = 26 := by decide +kernel
/-- as many names as are asked for -/
theorem fill_names {zs : List Str} {n : Nat} (nd : zs.Nodup) (ok : ∀ z ∈ zs, okName z = true) (n26 : n ≤ 26) :
    ((zs ++ (lettersL.cps.toList.map ltr).filter fun x => !decide (x ∈ zs)).take n).Nodup ∧ ((zs ++ (lettersL.cps.toList.map ltr).filter fun x => !decide (x ∈ zs)).take n).length = n ∧ ∀ z ∈ (zs ++ (lettersL.cps.toList.map ltr).filter fun x => !decide (x ∈ zs)).take n, okName z = true := by
  have all : (zs ++ (lettersL.cps.toList.map ltr).filter fun x => !decide (x ∈ zs)).Nodup := by
    rw [List.nodup_append]
    refine ⟨nd, letters_nd.filter _, fun a ha b hb e => ?_⟩
    have := (List.mem_filter.mp hb).2
    rw [← e] at this
    simp [ha] at this
  have len : 26 ≤ (zs ++ (lettersL.cps.toList.map ltr).filter fun x => !decide (x ∈ zs)).length := by
    have q := nodup_len letters_nd (ys := zs ++ (lettersL.cps.toList.map ltr).filter fun x => !decide (x ∈ zs)) fun x m => by
      by_cases h : x ∈ zs
      · exact List.mem_append_left _ h
      · exact List.mem_append_right _ (List.mem_filter.mpr ⟨m, by simp [h]⟩)
    rw [List.length_map, letters_26] at q
    exact q
  refine ⟨all.sublist (List.take_sublist _ _), by rw [List.length_take]; omega, fun z m => ?_⟩
  rcases List.mem_append.mp (List.mem_of_mem_take m) with w | w
  · exact ok z w
  · obtain ⟨c, mc, rfl⟩ := List.mem_map.mp (List.mem_filter.mp w).1
    exact ltr_ok mc
def spNamesN26 : Sp := fun vs H Q _ => ∃ (p q : Addr) (n : Nat), vs = [.ref p, .int (n : Int)] ∧ Bag H p q ∧ 1 ≤ n ∧ n ≤ 26 ∧
  ∀ (a : Addr) (ys : List Str) (H' : Hp), H' a = some (.lst (ys.map V.str)) → ys.Nodup → ys.length = n → (∀ y ∈ ys, okName y = true) → Bag H' p q → Keep [p] H H' → H a = none → Q (.ref a) H'
theorem pickZ5 {v : Int} (h0 : 0 ≤ v) (h1 : v < 4) : ∃ y : Int, atI [V.int 1, V.int 2, V.int 3, V.int 5] v = some (.int y) ∧ 1 ≤ y ∧ y ≤ 5 := by
  obtain rfl | rfl | rfl | rfl : v = 0 ∨ v = 1 ∨ v = 2 ∨ v = 3 := by omega
  · exact ⟨1, rfl, by decide⟩
  · exact ⟨2, rfl, by decide⟩
  · exact ⟨3, rfl, by decide⟩
  · exact ⟨5, rfl, by decide⟩
end SM
namespace SM
open PySem PySem.Spec PyProof.Rows L2
open Evl (tCut pss_cut)
abbrev s__law_bag : Stmt := topS 32
abbrev s__law_take : Stmt := topS 33
abbrev s__law_alike : Stmt := topS 34
abbrev s__law_name : Stmt := topS 35
abbrev s__law_names : Stmt := topS 36
abbrev s__law_some : Stmt := topS 37
abbrev s__law_left : Stmt := topS 38
abbrev s__law_stepped : Stmt := topS 39
abbrev s__law_onward : Stmt := topS 40
abbrev s__law_turned : Stmt := topS 41
abbrev s_law : Stmt := topS 42
/-- what the top has made of the law's text -/
structure Tx (K : PySem.W.Frag) (mg : Str → Option Value) (C : Nat → Addr) (M L LJ : Addr) : Prop extends Jx K mg C M L LJ where
  d_bag : DefAt K mg "_law_bag" s__law_bag
  d_take : DefAt K mg "_law_take" s__law_take
  d_alike : DefAt K mg "_law_alike" s__law_alike
  d_name : DefAt K mg "_law_name" s__law_name
  d_names : DefAt K mg "_law_names" s__law_names
  d_some : DefAt K mg "_law_some" s__law_some
  d_left : DefAt K mg "_law_left" s__law_left
  d_stepped : DefAt K mg "_law_stepped" s__law_stepped
  d_onward : DefAt K mg "_law_onward" s__law_onward
  d_turned : DefAt K mg "_law_turned" s__law_turned
  d_law : DefAt K mg "law" s_law
  b_abs : mg "abs" = none
  b_range : mg "range" = none
  b_repr : mg "repr" = none
  b_enumerate : mg "enumerate" = none
  b_ValueError : mg "ValueError" = none
section
variable {P : Program} {w : World} {K : PySem.W.Frag} {mg : Str → Option Value} {base : Heap} {C : Nat → Addr} {M L LJ : Addr}
theorem sc__law_bag : FnScope ["_law_script", "_law_cell"] ["_law_script"] (defScope s__law_bag) := ⟨rfl, rfl, rfl, by decide +kernel, rfl, by decide +kernel, by decide +kernel⟩
theorem ok_bag (T : Tx K mg C M L LJ) : OkF P w K mg base CX0 1 "_law_bag" ["_law_script"] (spBag K) := by
  refine T.d_bag.ok sc__law_bag (fun _ _ _ _ _ _ us hl => match us, hl with | [_], _ => rfl) (fun vs H Q E h => ?_) (fun f cdv A outer s H vs Q E hr h => ?_)
  · obtain ⟨a, ns, rfl, _⟩ := h
    rfl
  · obtain ⟨a, ns, rfl, hS, hl, k⟩ := h
    refine ⟨_, (pss_one (ps_ret (pe_lst (pa_cons pe_int (pa_cons pe_int (pa_cons pe_int (pa_cons (pe_lc (own := [("_law_cell", 1)]) rfl sc__law_bag.nd (pi_list (pe_slice sl_list (pv 0) po_none (po_some pe_int))) (blkOk_by (N := ["_law_script", "_law_cell"]) (sc := (defScope s__law_bag)) (by decide +kernel)) (fun _ _ _ _ _ => (pg_name (i := 1) sc__law_bag.nd rfl (Or.inl rfl))) (fun _ _ _ _ _ => pts_nil) (fun _ _ _ _ _ => (pe_callB call_abs (by rfl) T.b_abs (by decide +kernel) (pa_cons (pv 1) pa_nil)))) pa_nil))))))), ?_⟩
    have hc : cutV (ns.map V.int) none (some 63) = ns.map V.int := by
      unfold cutV
      rw [HT.sIx_none, show (63 : Int) = ((63 : Nat) : Int) from rfl, HT.sIx_nat, List.length_map]
      simp only [List.drop_zero, Nat.sub_zero]
      rw [List.take_of_length_le (by rw [List.length_map]; omega)]
    refine ⟨_, rfl, _, rfl, a, _, rfl, hS, fun c hc0 => ?_⟩
    rw [hc]
    have s0 : Same H (upd H c (.lst (ns.map V.int))) := Same.newp hc0
    refine ⟨c, rfl, ⟨_, SqL.of upd_same⟩, fun D hD => ?_⟩
    have nDc : D ≠ c := fun z => by
      rw [z, upd_same] at hD
      cases hD
    have hD0 : H D = none := by
      rw [upd_ne nDc] at hD
      exact hD
    refine lc_list (K := K) (a := c) (xs := ns.map V.int) (fun i H1 => Same H H1 ∧ H1 c = some (.lst (ns.map V.int)) ∧ H1 D = some (.lst (((ns.take i).map fun n => if n < 0 then -n else n).map V.int)))
      ⟨s0.trans (Same.newp hD), (upd_ne (Ne.symm nDc)).trans upd_same, upd_same⟩ (fun i H1 _ z => SqL.of z.2.1) ?_ ?_
    · rintro i x H1 hi ⟨z1, z2, z3⟩
      obtain ⟨n, hn, rfl⟩ : ∃ n, ns[i]? = some n ∧ x = V.int n := by
        rw [List.getElem?_map] at hi
        cases e : ns[i]? with
        | none =>
          rw [e] at hi
          cases hi
        | some n =>
          rw [e] at hi
          exact ⟨n, rfl, (Option.some.inj hi).symm⟩
      have lt : i < ns.length := (List.getElem?_eq_some_iff.mp hn).1
      refine ⟨rfl, _, rfl, n, rfl, _, z3, ?_, ?_⟩
      · rw [List.length_map, List.length_map, List.length_take]
        exact small1000 (by omega)
      · have tk : ns.take (i + 1) = ns.take i ++ [n] := by
          rw [List.take_add_one, hn]
          rfl
        refine ⟨fun b o e => ?_, ?_, ?_⟩
        · have nb : b ≠ D := fun q => by
            rw [q, hD0] at e
            cases e
          rw [upd_ne nb]
          exact z1 b o e
        · rw [upd_ne (Ne.symm nDc)]
          exact z2
        · rw [upd_same, tk, List.map_append, List.map_append]
          rfl
    · rintro H1 ⟨z1, z2, z3⟩
      rw [List.length_map, List.take_length] at z3
      refine ⟨by show 4 ≤ sizeLine; decide, fun p hp => ?_⟩
      have npD : p ≠ D := fun z => by
        rw [z, z3] at hp
        cases hp
      refine k _ p D (z1.trans (Same.newp hp)) (z1.free hp) hD0 ⟨0, 1234567891, 0, _, upd_same, (upd_ne (Ne.symm npD)).trans z3, by decide, by decide, by decide, by decide, ?_⟩
      intro n hn
      obtain ⟨m, _, rfl⟩ := List.mem_map.mp hn
      show 0 ≤ if m < 0 then -m else m
      split <;> omega
theorem sc__law_take : FnScope ["_law_bag_here", "_law_many", "_law_cell", "_law_value", "_law_first", "_law_second"] ["_law_bag_here", "_law_many"] (defScope s__law_take) := ⟨rfl, rfl, rfl, by decide +kernel, rfl, by decide +kernel, by decide +kernel⟩
theorem ok_take (T : Tx K mg C M L LJ) : OkF P w K mg base CX0 1 "_law_take" ["_law_bag_here", "_law_many"] spTake := by
  refine T.d_take.ok sc__law_take (fun _ _ _ _ _ _ us hl => match us, hl with | [_, _], _ => rfl) (fun vs H Q E h => ?_) (fun f cdv A outer s H vs Q E hr h => ?_)
  · obtain ⟨p, q, m, rfl, _⟩ := h
    rfl
  · obtain ⟨p, q, m, rfl, B, m0, m1, k⟩ := h
    have npq := B.ne
    refine ⟨_, (pss_cut (ps_if (pt_cmpR op_eq (pe_ix ix_list (pv 0) pe_int (fun _ _ => rfl)) pe_int (nomark _)) (pss_cons (ps_set (i := 2) sc__law_take.nd rfl (Or.inl rfl) pe_int) (pss_cut (ps_if (pt_cmpR op_lt (pe_ix ix_list (pv 0) pe_int (fun _ _ => rfl)) (pe_callB call_len_seq (by rfl) T.b_len PySem.boot_len (pa_cons (pe_ix ix_list (pv 0) pe_int (fun _ _ => rfl)) pa_nil)) (nomark _)) (pss_one (ps_set (i := 2) sc__law_take.nd rfl (Or.inl rfl) (pe_ix ix_list (pe_ix ix_list (pv 0) pe_int (fun _ _ => rfl)) (pe_ix ix_list (pv 0) pe_int (fun _ _ => rfl)) (fun _ _ => rfl)))) pss_nil) (pss_cons (ps_augS (pv 0) pe_int get_list pe_int ip_add set_list) (pss_cut (ps_if (pt_cmpR op_ge (pv 2) pe_int (nomark _)) (pss_one (ps_asg (pv 2) (pg_sub (pv 0) pe_int set_list))) pss_nil) (pss_one (ps_asg (pe_op op_mod (pe_op op_add (pe_op op_add (pe_op op_mul (pe_ix ix_list (pv 0) pe_int (fun _ _ => rfl)) pe_int) (pe_op op_mod (pv 2) pe_int)) (pe_op op_mul pe_int (pe_ix ix_list (pv 0) pe_int (fun _ _ => rfl)))) pe_int) (pg_sub (pv 0) pe_int set_list))))))) pss_nil) (pss_cons (ps_if (pt_cmpR op_gt (pe_ix ix_list (pv 0) pe_int (fun _ _ => rfl)) pe_int (nomark _)) (pss_cons (ps_set (i := 3) sc__law_take.nd rfl (Or.inl rfl) (pe_op op_mod (pe_ix ix_list (pv 0) pe_int (fun _ _ => rfl)) (pv 1))) (pss_cons (ps_asg (pe_op op_fdiv (pe_ix ix_list (pv 0) pe_int (fun _ _ => rfl)) (pv 1)) (pg_sub (pv 0) pe_int set_list)) (pss_one (ps_ret (pv 3))))) pss_nil) (pss_cons (ps_set (i := 4) sc__law_take.nd rfl (Or.inl rfl) (pe_op op_mod (pe_op op_mul (pe_op op_add (pe_ix ix_list (pv 0) pe_int (fun _ _ => rfl)) pe_int) pe_int) pe_int)) (pss_cons (ps_set (i := 5) sc__law_take.nd rfl (Or.inl rfl) (pe_op op_mod (pe_op op_mul (pe_op op_mod (pe_op op_mul (pv 4) (pv 4)) pe_int) pe_int) pe_int)) (pss_cons (ps_if (pt_cmpR op_gt (pv 1) pe_int (nomark _)) (pss_one (ps_ret (pe_op op_mod (pe_op op_add (pe_op op_mul (pv 5) pe_int) (pv 4)) (pv 1)))) pss_nil) (pss_one (ps_ret (pe_op op_mod (pe_op op_fdiv (pv 5) pe_int) (pv 1))))))))), ?_⟩
    obtain ⟨a, b, c, ns, B⟩ := B
    -- the word between the filling and the drawing
    refine ⟨fun σ1 H1 => (∃ x : Option V, σ1 = [some (.ref p), some (.int m), x, none, none, none]) ∧ Bag H1 p q ∧ But p H H1, ?_, ?_⟩
    · refine ⟨_, rfl, p, _, 0, _, rfl, rfl, SqL.of B.top, rfl, rfl, _, rfl, ?_⟩
      refine ite2 (fun _ => ?_) (fun _ => ⟨⟨_, rfl⟩, ⟨a, b, c, ns, B⟩, But.refl p H⟩)
      -- cell = 0; if bag[2] < len(bag[3]): cell = bag[3][bag[2]]
      refine ⟨fun σ1 H1 => (∃ x : Int, 0 ≤ x ∧ σ1 = [some (.ref p), some (.int m), some (.int x), none, none, none]) ∧ H1 = H, ?_, ?_⟩
      · refine ⟨_, rfl, p, _, 2, _, rfl, rfl, SqL.of B.top, rfl, _, rfl, p, _, 3, _, rfl, rfl, SqL.of B.top, rfl, q, _, rfl, .inl (SqL.of B.low), _, _, rfl, rfl, _, rfl, ?_⟩
        refine ite2 (fun hc => ?_) (fun _ => ⟨⟨0, by decide, rfl⟩, rfl⟩)
        have hlt := of_decide_eq_true hc
        rw [List.length_map] at hlt
        have c0 := B.c0
        have hg : ns[c.toNat]? = some (ns[c.toNat]'(by omega)) := List.getElem?_eq_getElem (by omega)
        have hat : atI (ns.map V.int) c = some (.int (ns[c.toNat]'(by omega))) := by
          have e := atI_nat (xs := ns.map V.int) (j := c.toNat) (v := .int (ns[c.toNat]'(by omega))) (by rw [List.getElem?_map, hg]; rfl)
          rw [Int.toNat_of_nonneg c0] at e
          exact e
        refine ⟨_, rfl, p, _, 3, _, rfl, rfl, SqL.of B.top, rfl, _, rfl, p, _, 2, _, rfl, rfl, SqL.of B.top, rfl, q, _, c, _, rfl, rfl, SqL.of B.low, hat, ?_⟩
        exact ⟨⟨_, B.nn _ (List.getElem_mem _), rfl⟩, rfl⟩
      · rintro σ1 H1 ⟨⟨x, x0, rfl⟩, rfl⟩
        -- bag[2] += 1
        refine ⟨_, rfl, p, _, 2, _, rfl, rfl, SqL.of B.top, by decide, rfl, _, _, rfl, rfl, p, _, 2, 2, rfl, rfl, B.top, rfl, ?_⟩
        have B2 : BagIs (upd H1 p (.lst [.int a, .int b, .int (c + 1), .ref q])) p q a b (c + 1) ns :=
          ⟨upd_same, (upd_ne (Ne.symm npq)).trans B.low, B.a0, B.b0, B.b1, by have := B.c0; omega, B.nn⟩
        -- if cell >= 10 ** 18: bag[0] = cell
        refine ⟨fun σ2 H2 => σ2 = [some (.ref p), some (.int m), some (.int x), none, none, none] ∧ But p H1 H2 ∧ ∃ a2, BagIs H2 p q a2 b (c + 1) ns, ?_, ?_⟩
        · refine ⟨_, rfl, _, _, rfl, rfl, _, rfl, ?_⟩
          refine ite2 (fun _ => ?_) (fun _ => ⟨rfl, But.upd, a, B2⟩)
          refine ⟨_, rfl, _, rfl, p, _, 0, 0, rfl, rfl, B2.top, rfl, ?_⟩
          exact ⟨rfl, But.upd.trans But.upd, x, upd_same, (upd_ne (Ne.symm npq)).trans B2.low, x0, B2.b0, B2.b1, B2.c0, B2.nn⟩
        · rintro σ2 H2 ⟨rfl, K2, a2, B3⟩
          refine ⟨_, rfl, p, _, 1, _, rfl, rfl, SqL.of B3.top, rfl, _, _, rfl, rfl, .inr ⟨by decide, by decide⟩, _, rfl, _, _, rfl, rfl, pos31, _, _, rfl, rfl,
            _, rfl, p, _, 2, _, rfl, rfl, SqL.of B3.top, rfl, _, _, rfl, rfl, .inl ⟨by decide, by decide⟩, _, _, rfl, rfl, _, _, rfl, rfl, pos31,
            _, rfl, p, _, 1, 1, rfl, rfl, B3.top, rfl, ?_⟩
          refine ⟨⟨_, rfl⟩, ⟨a2, _, c + 1, ns, upd_same, (upd_ne (Ne.symm npq)).trans B3.low, B3.a0, ?_, ?_, B3.c0, B3.nn⟩, K2.trans But.upd⟩
          · exact Int.emod_nonneg _ (by decide)
          · exact Int.emod_lt_of_pos _ (by decide)
    · rintro σ1 H1 ⟨⟨x, rfl⟩, ⟨a1, b1, c1, ns1, B1⟩, K1⟩
      -- if bag[0] > 0
      refine ⟨_, rfl, p, _, 0, _, rfl, rfl, SqL.of B1.top, rfl, _, _, rfl, rfl, _, rfl, ?_⟩
      refine ite2 (fun ha => ?_) (fun _ => ?_)
      · refine ⟨_, rfl, p, _, 0, _, rfl, rfl, SqL.of B1.top, rfl, _, rfl, _, _, rfl, rfl, m0, _, rfl, p, _, 0, _, rfl, rfl, SqL.of B1.top, rfl, _, rfl, _, _, rfl, rfl, ⟨m0, m1⟩,
          _, rfl, p, _, 0, 0, rfl, rfl, B1.top, rfl, _, rfl, ?_⟩
        refine k _ _ (Int.emod_nonneg _ (by omega)) (Int.emod_lt_of_pos _ m0) ⟨_, b1, c1, ns1, upd_same, (upd_ne (Ne.symm npq)).trans B1.low, Int.ediv_nonneg B1.a0 (by omega), B1.b0, B1.b1, B1.c0, B1.nn⟩ (K1.trans But.upd)
      · have f1 := fst_ok B1.b0 B1.b1
        refine ⟨_, rfl, p, _, 1, _, rfl, rfl, SqL.of B1.top, rfl, _, _, rfl, rfl, _, _, rfl, rfl, .inr ⟨by decide, by decide⟩, _, _, rfl, rfl, posA, ?_⟩
        generalize (b1 + 1) * 39373 % 1000000007 = g1 at f1 ⊢
        refine ⟨_, rfl, _, rfl, _, _, rfl, rfl, .inl ⟨by omega, by omega⟩, _, _, rfl, rfl, posB, _, _, rfl, rfl, .inr ⟨by decide, by decide⟩, _, _, rfl, rfl, posB, ?_⟩
        have f2 := snd_ok (g1 * g1 % 998244353 * 30011)
        generalize g1 * g1 % 998244353 * 30011 % 998244353 = g2 at f2 ⊢
        refine ⟨_, rfl, _, _, rfl, rfl, _, rfl, ?_⟩
        refine ite2 (fun _ => ?_) (fun _ => ?_)
        · refine ⟨_, rfl, _, _, rfl, rfl, .inr ⟨by decide, by decide⟩, _, rfl, _, _, rfl, rfl, _, rfl, _, _, rfl, rfl, m0, ?_⟩
          exact k _ _ (Int.emod_nonneg _ (by omega)) (Int.emod_lt_of_pos _ m0) ⟨a1, b1, c1, ns1, B1⟩ K1
        · refine ⟨_, rfl, _, _, rfl, rfl, ⟨by decide, by decide⟩, _, rfl, _, _, rfl, rfl, m0, ?_⟩
          exact k _ _ (Int.emod_nonneg _ (by omega)) (Int.emod_lt_of_pos _ m0) ⟨a1, b1, c1, ns1, B1⟩ K1
theorem sc__law_alike : FnScope ["_law_found", "_law_due"] ["_law_found", "_law_due"] (defScope s__law_alike) := ⟨rfl, rfl, rfl, by decide +kernel, rfl, by decide +kernel, by decide +kernel⟩
theorem lo_alike (T : Tx K mg C M L LJ) : OkQ P w K mg base CX0 1 "_law_alike" ["_law_found", "_law_due"] (spAlike K) := by
  refine T.d_alike.okQ sc__law_alike (fun _ _ _ _ _ _ us hl => match us, hl with | [_, _], _ => rfl) (fun vs H Q E h => ?_) (fun f cdv Ar outer st H vs Q E qa hr h => ?_)
  · obtain ⟨x, y, d, rfl, _⟩ := h
    rfl
  · obtain ⟨x, y, d, rfl, hx, hy, hf, k⟩ := h
    have hu := hu64 hr
    refine ⟨_, (pss_one (ps_ret (pe_and (pe_cmpR (op_eqD hu) (pv 0) (pv 1) (nomark _)) (pe_one (pe_cmpR op_eq (pe_callB (call_reprD qa hr) (by rfl) T.b_repr (by decide +kernel) (pa_cons (pv 0) pa_nil)) (pe_callB (call_reprD qa hr) (by rfl) T.b_repr (by decide +kernel) (pa_cons (pv 1) pa_nil)) (nomark _)))))), ?_⟩
    refine ⟨_, rfl, _, rfl, d, d, hx, hy, hf.shaped, hf.shaped, _, rfl, ?_⟩
    rw [eqv_self d hf.lay]
    refine ⟨_, rfl, x, d, rfl, hx, hf, _, rfl, y, d, rfl, hy, hf, rfl, ?_⟩
    have e : decide (V.str d.shown = V.str d.shown) = true := decide_eq_true rfl
    rw [e]
    exact k
theorem sc__law_name : FnScope ["_law_bag_here", "_law_words", "_law_way", "_law_letters", "_law_k"] ["_law_bag_here"] (defScope s__law_name) := ⟨rfl, rfl, rfl, by decide +kernel, rfl, by decide +kernel, by decide +kernel⟩
theorem lo_name (T : Tx K mg C M L LJ) : OkF P w K mg base CX0 2 "_law_name" ["_law_bag_here"] (spNameL) := by
  refine T.d_name.ok sc__law_name (fun _ _ _ _ _ _ us hl => match us, hl with | [_], _ => rfl) (fun vs H Q E h => ?_) (fun f cdv Ar outer st H vs Q E hr h => ?_)
  · obtain ⟨p, q, rfl, _⟩ := h
    rfl
  · obtain ⟨p, q, rfl, B, k⟩ := h
    refine ⟨_, (pss_cons (ps_set (i := 1) sc__law_name.nd rfl (Or.inl rfl) (pe_lst (pa_cons pe_str (pa_cons pe_str (pa_cons pe_str (pa_cons pe_str (pa_cons pe_str (pa_cons pe_str (pa_cons pe_str (pa_cons pe_str (pa_cons pe_str (pa_cons pe_str (pa_cons pe_str (pa_cons pe_str pa_nil)))))))))))))) (pss_cons (ps_set (i := 2) sc__law_name.nd rfl (Or.inl rfl) (pe_f (ok_take T) (hr.mono (by decide)) pass0 (pa_cons (pv 0) (pa_cons pe_int pa_nil)))) (pss_cons (ps_if (pt_cmpR op_eq (pv 2) pe_int (nomark _)) (pss_one (ps_ret (pe_ix ix_list (pv 1) (pe_f (ok_take T) (hr.mono (by decide)) pass0 (pa_cons (pv 0) (pa_cons pe_int pa_nil))) (fun _ _ => rfl)))) pss_nil) (pss_cons (ps_set (i := 3) sc__law_name.nd rfl (Or.inr rfl) pe_str) (pss_one (ps_ret (pe_join pe_str (pe_lc (own := [("_law_k", 4)]) rfl sc__law_name.nd (pi_range1 rfl T.b_range (pa_cons (pe_op op_add pe_int (pe_f (ok_take T) (hr.mono (by decide)) pass0 (pa_cons (pv 0) (pa_cons (pe_ix ix_list (pe_lst (pa_cons pe_int (pa_cons pe_int (pa_cons pe_int pa_nil)))) (pe_op op_sub (pv 2) pe_int) (fun _ _ => rfl)) pa_nil)))) pa_nil)) (blkOk_by (N := ["_law_bag_here", "_law_words", "_law_way", "_law_letters", "_law_k"]) (sc := (defScope s__law_name)) (by decide +kernel)) (fun _ _ _ _ _ => (pg_name (i := 4) sc__law_name.nd rfl (Or.inl rfl))) (fun _ _ _ _ _ => pts_nil) (fun _ _ _ _ _ => (pe_ix ix_str (pv 3) (pe_f (ok_take T) (hr.mono (by decide)) pass0 (pa_cons (pv 0) (pa_cons pe_int pa_nil))) (fun _ _ => rfl))))))))))), ?_⟩
    refine ⟨(by show 12 ≤ sizeLine; decide), fun l hl => ?_⟩
    have e1 := Same.newp (o := .lst (wordsL.map V.str)) hl
    have B1 := B.same e1
    refine ⟨_, rfl, p, q, 4, rfl, B1, by decide, by decide, fun v H2 v0 v1 B2 but => ?_⟩
    have K2 : Keep [p] H H2 := (Keep.of e1).trans (Keep.bag B1 B2 but (by simp))
    have hl2 : H2 l = some (.lst (wordsL.map V.str)) := (Keep.bag (ms := [p]) B1 B2 but (by simp)).flat l _ upd_same (flat_strs wordsL)
    refine ⟨_, rfl, rfl, _, rfl, ?_⟩
    by_cases e : v = 0
    · refine if_t (decide_eq_true (by rw [e])) ?_
      refine ⟨_, rfl, _, rfl, p, q, 12, rfl, B2, by decide, by decide, fun v3 H3 w0 w1 B3 but3 => ?_⟩
      have K3 : Keep [p] H2 H3 := Keep.bag B2 B3 but3 (by simp)
      obtain ⟨y, hy, ey⟩ := atI_some (xs := wordsL.map V.str) w0 (by show v3 < 12; exact w1)
      obtain ⟨z, hz, rfl⟩ := List.mem_map.mp hy
      exact ⟨l, _, v3, _, rfl, rfl, SqL.of (K3.flat l _ hl2 (flat_strs wordsL)), ey, k z H3 (wordsL_ok z hz) B3 (K2.trans K3)⟩
    refine if_f (decide_eq_false fun z => e (by injection z)) ?_
    refine ⟨⟨_, rfl⟩, _, rfl, (by show 3 ≤ sizeLine; decide), fun l2 hl2' => ⟨_, rfl, _, _, rfl, rfl, ?_⟩⟩
    have ey : ∃ y, y ∈ [V.int 2, V.int 8, V.int 1] ∧ atI [V.int 2, V.int 8, V.int 1] (v - 1) = some y := atI_some (by omega) (by show v - 1 < 3; omega)
    obtain ⟨y, hy, ey⟩ := ey
    obtain ⟨m, rfl, m0, m8⟩ : ∃ m : Int, y = .int m ∧ 0 < m ∧ m ≤ 8 := by
      simp only [List.mem_cons, List.not_mem_nil, or_false] at hy
      rcases hy with rfl | rfl | rfl
      · exact ⟨2, rfl, by decide, by decide⟩
      · exact ⟨8, rfl, by decide, by decide⟩
      · exact ⟨1, rfl, by decide, by decide⟩
    refine ⟨l2, _, _, _, rfl, rfl, SqL.of upd_same, ey, ?_⟩
    have e3 := Same.newp (o := .lst [V.int 2, V.int 8, V.int 1]) hl2'
    have B3 := B2.same e3
    refine ⟨p, q, m, rfl, B3, m0, by omega, fun u H4 u0 u1 B4 but4 => ⟨_, _, rfl, rfl, 1 + u, rfl, by omega, by omega, fun D hD => ?_⟩⟩
    have K4 : Keep [p] H H4 := (K2.trans (Keep.of e3)).trans (Keep.bag B3 B4 but4 (by simp))
    refine lc_range (lo := 0) (n := (1 + u).toNat) (fun i H1 => Bag H1 p q ∧ Keep [p] H H1 ∧ ∃ cs : List Nat, cs.length = i ∧ (∀ c ∈ cs, okSign c = true) ∧ H1 D = some (.lst ((cs.map fun c => (⟨#[c]⟩ : Str)).map V.str)))
      ⟨B4.same (Same.newp hD), K4.trans (Keep.of (Same.newp hD)), [], rfl, (by intro c hc; cases hc), upd_same⟩ ?_ ?_
    · rintro i H1 hi ⟨B5, K5, cs, hcs, okc, h1⟩
      refine ⟨rfl, _, rfl, _, rfl, p, q, 26, rfl, B5, by decide, by decide, fun w H6 w0 w1 B6 but6 => ?_⟩
      have K6 : Keep [p] H1 H6 := Keep.bag B5 B6 but6 (by simp)
      obtain ⟨c, hc, ec⟩ := atI_some (xs := lettersL.cps.toList) w0 (by rw [lettersL_len]; exact w1)
      refine ⟨lettersL, w, c, rfl, rfl, (by show 26 ≤ sizeLine; decide), ec, _, K6.flat D _ h1 (flat_strs _), ?_, ?_⟩
      · rw [List.length_map, List.length_map]
        exact small1000 (by omega)
      · have hp : D ≠ p := fun z => by
          rw [z] at hD
          exact B4.there.1 hD
        have hq : D ≠ q := fun z => by
          rw [z] at hD
          exact B4.there.2 hD
        have hDn : H D = none := K4.has _ hD
        have K7 : Keep [p] H (upd H6 D (.lst (((cs.map fun c => (⟨#[c]⟩ : Str)).map V.str) ++ [V.str ⟨#[c]⟩]))) := by
          have K56 := K5.trans K6
          refine ⟨fun b v e n => ?_, fun b xs e => ?_, fun b C dx fs e => ?_, fun b xs e f => ?_, fun b e => ?_⟩
          · rw [upd_ne (ne_of_none e hDn)]
            exact K56.out b v e n
          · rw [upd_ne (ne_of_none e hDn)]
            exact K56.tup b xs e
          · rw [upd_ne (ne_of_none e hDn)]
            exact K56.ins b C dx fs e
          · rw [upd_ne (ne_of_none e hDn)]
            exact K56.flat b xs e f
          · by_cases z : b = D
            · rw [z]
              exact hDn
            · rw [upd_ne z] at e
              exact K56.has b e
        refine ⟨B6.keep (upd_ne hp.symm) (upd_ne hq.symm), K7, cs ++ [c], by rw [List.length_append, hcs]; rfl, fun x hx => ?_, ?_⟩
        · rcases List.mem_append.mp hx with z | z
          · exact okc x z
          · rw [List.mem_singleton.mp z]
            exact lettersL_ok c hc
        · rw [upd_same, List.map_append, List.map_append]
          rfl
    · rintro H1 ⟨B5, K5, cs, hcs, okc, h1⟩
      have hl : 1 ≤ cs.length ∧ cs.length ≤ 8 := by omega
      have sm : ∀ ds : List Nat, ((ds.map fun c => (⟨#[c]⟩ : Str)).map (·.length)).sum = ds.length := fun ds => by
        induction ds with
        | nil => rfl
        | cons d r ih =>
          simp only [List.map_cons, List.sum_cons, List.length_cons] at ih ⊢
          rw [ih]
          show 1 + r.length = _
          omega
      refine ⟨"", D, cs.map fun c => (⟨#[c]⟩ : Str), rfl, rfl, .inl (SqL.of h1), ?_, ?_⟩
      · rw [sm, List.length_map]
        show cs.length + cs.length * 0 ≤ 16777216
        omega
      · exact k _ H1 (okName_join hl.1 hl.2 okc) B5 K5
theorem sc__law_names : FnScope ["_law_bag_here", "_law_many", "_law_drawn", "_law_k", "_law_found", "_law_name_here", "_law_sign"] ["_law_bag_here", "_law_many"] (defScope s__law_names) := ⟨rfl, rfl, rfl, by decide +kernel, rfl, by decide +kernel, by decide +kernel⟩
theorem lo_names (T : Tx K mg C M L LJ) : OkF P w K mg base CX0 3 "_law_names" ["_law_bag_here", "_law_many"] (spNamesN26) := by
  refine T.d_names.ok sc__law_names (fun _ _ _ _ _ _ us hl => match us, hl with | [_, _], _ => rfl) (fun vs H Q E h => ?_) (fun f cdv Ar outer st H vs Q E hr h => ?_)
  · obtain ⟨p, q, n, rfl, _⟩ := h
    rfl
  · obtain ⟨p, q, nn, rfl, B, n1, n26, k⟩ := h
    obtain ⟨n, en⟩ : ∃ n : Int, n = (nn : Int) := ⟨_, rfl⟩
    have n0 : 0 ≤ n := by omega
    have n110 : n ≤ 110 := by omega
    rw [← en]
    refine ⟨_, (pss_cons (ps_set (i := 2) sc__law_names.nd rfl (Or.inr rfl) (pe_lc (own := [("_law_k", 3)]) rfl sc__law_names.nd (pi_range1 rfl T.b_range (pa_cons (pv 1) pa_nil)) (blkOk_by (N := ["_law_bag_here", "_law_many", "_law_drawn", "_law_k", "_law_found", "_law_name_here", "_law_sign"]) (sc := (defScope s__law_names)) (by decide +kernel)) (fun _ _ _ _ _ => (pg_name (i := 3) sc__law_names.nd rfl (Or.inl rfl))) (fun _ _ _ _ _ => pts_nil) (fun _ _ _ _ _ => (pe_f (lo_name T) (hr.mono (by decide)) pass0 (pa_cons (pv 0) pa_nil))))) (pss_cons (ps_set (i := 4) sc__law_names.nd rfl (Or.inr rfl) (pe_lc (own := [("_law_k", 3), ("_law_name_here", 5)]) rfl sc__law_names.nd (pi_enum rfl T.b_enumerate (pa_cons (pv 2) pa_nil)) (blkOk_by (N := ["_law_bag_here", "_law_many", "_law_drawn", "_law_k", "_law_found", "_law_name_here", "_law_sign"]) (sc := (defScope s__law_names)) (by decide +kernel)) (fun _ _ _ _ _ => (pg_tupK (K := K) (n := 2) rfl rfl (pgs_cons (pg_name (i := 3) sc__law_names.nd rfl (Or.inl rfl)) (pgs_cons (pg_name (i := 5) sc__law_names.nd rfl (Or.inl rfl)) pgs_nil)))) (fun _ _ _ _ _ => (pts_one (pt_cmpR (op_notIn_seqK (K := K) rfl) (pv 5) (pe_slice (sl_listK (K := K) rfl) (pv 2) po_none (po_some (pv 3))) rfl))) (fun _ _ _ _ _ => (pv 5)))) (pss_one (ps_ret (pe_slice sl_list (pe_op op_cat (pv 4) (pe_lc (own := [("_law_sign", 6)]) rfl sc__law_names.nd (pi_str pe_str) (blkOk_by (N := ["_law_bag_here", "_law_many", "_law_drawn", "_law_k", "_law_found", "_law_name_here", "_law_sign"]) (sc := (defScope s__law_names)) (by decide +kernel)) (fun _ _ _ _ _ => (pg_name (i := 6) sc__law_names.nd rfl (Or.inl rfl))) (fun _ _ _ _ _ => (pts_one (pt_cmpR (op_notIn_seqK (K := K) rfl) (pv 6) (pv 4) rfl))) (fun _ _ _ _ _ => (pv 6)))) po_none (po_some (pv 1))))))), ?_⟩
    refine ⟨_, rfl, n, rfl, by omega, by omega, fun D hD => ?_⟩
    refine lc_range (lo := 0) (n := n.toNat) (fun i H1 => Bag H1 p q ∧ Keep [p] H H1 ∧ ∃ ys : List Str, ys.length = i ∧ (∀ y ∈ ys, okName y = true) ∧ H1 D = some (.lst (ys.map V.str)))
      ⟨B.same (Same.newp hD), Keep.of (Same.newp hD), [], rfl, (by intro c hc; cases hc), upd_same⟩ ?_ ?_
    · rintro i H1 hi ⟨B1, K1, ys, hys, oky, h1⟩
      refine ⟨rfl, _, rfl, p, q, rfl, B1, fun z H2 hz B2 K2 => ?_⟩
      refine ⟨_, K2.flat D _ h1 (flat_strs _), by rw [List.length_map]; exact small1000 (by omega), ?_⟩
      have hp : D ≠ p := fun z => by
        rw [z] at hD
        exact B.there.1 hD
      have hq : D ≠ q := fun z => by
        rw [z] at hD
        exact B.there.2 hD
      refine ⟨B2.keep (upd_ne hp.symm) (upd_ne hq.symm), (K1.trans K2).over hD, ys ++ [z], by rw [List.length_append, hys]; rfl, fun x hx => ?_, ?_⟩
      · rcases List.mem_append.mp hx with w | w
        · exact oky x w
        · rw [List.mem_singleton.mp w]
          exact hz
      · rw [upd_same, List.map_append]
        rfl
    · rintro H1 ⟨B1, K1, ys, hys, oky, h1⟩
      refine ⟨_, rfl, D, _, rfl, SqL.of h1, fun D2 hD2 => ?_⟩
      have nDD : D ≠ D2 := ne_of_none h1 hD2
      refine lc_it walk_enum (fun i H2 => Same H1 H2 ∧ ∃ zs : List Str, H2 D2 = some (.lst (zs.map V.str)) ∧ zs.length ≤ i ∧ (0 < i → 0 < zs.length) ∧ zs.Nodup ∧ ∀ z ∈ zs, z ∈ ys.take i)
        ⟨Same.newp hD2, [], upd_same, Nat.le_refl _, fun z => absurd z (by omega), List.nodup_nil, (by intro z hz; cases hz)⟩ (fun i H2 _ z => SqL.of (z.1 _ _ h1)) ?_ ?_
      · rintro i x H2 H3 hi ⟨e2, zs, h2, hz, hz0, nd, sub⟩ ⟨Tt, xk, xv, rfl, hT, rfl, ek, ev⟩
        cases ek
        have hi' : i < ys.length := by
          rw [List.length_map] at hi
          exact hi
        have ey : ys[i]? = some (ys[i]'hi') := List.getElem?_eq_getElem hi'
        generalize ys[i]'hi' = y at ey
        have tk : ys.take (i + 1) = ys.take i ++ [y] := by
          rw [List.take_add_one, ey]
          rfl
        have ev' : (ys.map V.str)[i]? = some xv := ev
        rw [List.getElem?_map, ey] at ev'
        cases ev'
        have e3 : Same H2 (upd H2 Tt (.tup [V.int (i : Nat), V.str y])) := Same.newp hT
        refine ⟨Tt, _, rfl, SqT.of upd_same, rfl, _, _, rfl, _, _, rfl, rfl, rfl, _, rfl, _, rfl, _, rfl, _, rfl, D, _, rfl, SqL.of (e3 _ _ (e2 _ _ h1)), fun p2 hp2 => ?_⟩
        refine ⟨p2, _, rfl, .inl (SqL.of upd_same), rfl, cutV_flat (flat_strs ys) _ _, _, rfl, ?_⟩
        have e4 := e3.trans (Same.newp (o := .lst (cutV (ys.map V.str) none (some ((i : Nat) : Int)))) hp2)
        have h4 := e4 _ _ h2
        have nD : ∀ b u, H1 b = some u → b ≠ D2 := fun b u e => ne_of_none e hD2
        have ein : inV (V.str y) (cutV (ys.map V.str) none (some ((i : Nat) : Int))) = decide (y ∈ ys.take i) := by
          rw [cutV_take, ← List.map_take, inV_strs]
        by_cases hb : y ∈ ys.take i
        · refine if_f (by show (!inV (V.str y) (cutV (ys.map V.str) none (some ((i : Nat) : Int)))) = false; rw [ein, decide_eq_true hb]; rfl) ⟨fun b u e => e4 _ _ (e2 _ _ e), zs, h4, by omega, fun _ => ?_, nd, fun z m => ?_⟩
          · by_cases i0 : i = 0
            · subst i0
              simp at hb
            · exact hz0 (by omega)
          · rw [tk]
            exact List.mem_append_left _ (sub z m)
        · refine if_t (by show (!inV (V.str y) (cutV (ys.map V.str) none (some ((i : Nat) : Int)))) = true; rw [ein, decide_eq_false hb]; rfl) ⟨_, rfl, _, h4, by rw [List.length_map]; exact small1000 (by omega), fun b u e => ?_, zs ++ [y], ?_, ?_, ?_, ?_, ?_⟩
          · rw [upd_ne (nD b u e)]
            exact e4 _ _ (e2 _ _ e)
          · rw [upd_same, List.map_append]
            rfl
          · rw [List.length_append, List.length_singleton]
            omega
          · intro _
            rw [List.length_append, List.length_singleton]
            omega
          · exact List.nodup_append.mpr ⟨nd, by simp, fun a ha b hb2 e => hb (by rw [← List.mem_singleton.mp hb2, ← e]; exact sub a ha)⟩
          · intro x hx
            rw [tk]
            rcases List.mem_append.mp hx with w | w
            · exact List.mem_append_left _ (sub x w)
            · exact List.mem_append_right _ w
      · rintro H2 ⟨e2, zs, h2, hz, hz0, nd, sub⟩
        rw [List.length_map] at hz hz0 sub
        rw [List.take_length] at sub
        have ok2 : ∀ z ∈ zs, okName z = true := fun z m => oky z (sub z m)
        have lz : zs.length ≤ 26 := by omega
        have f2 := K1.trans (Keep.of (ms := [p]) e2)
        refine ⟨_, rfl, lettersL, rfl, fun D3 hD3 => ?_⟩
        have nD3 : ∀ b u, H2 b = some u → b ≠ D3 := fun b u e => ne_of_none e hD3
        refine lc_it walk_str (fun i G => Same H2 G ∧ G D3 = some (.lst ((((lettersL.cps.toList.take i).map ltr).filter fun x => !decide (x ∈ zs)).map V.str))) ⟨Same.newp hD3, upd_same⟩ (fun _ _ _ _ => True.intro) ?_ ?_
        · rintro i x G G2 hi ⟨e3, h3⟩ ⟨rfl, c, hc, rfl⟩
          have hc' : lettersL.cps.toList[i]? = some c := by rw [Array.getElem?_toList]; exact hc
          have tk : (lettersL.cps.toList.take (i + 1)).map ltr = (lettersL.cps.toList.take i).map ltr ++ [ltr c] := by
            rw [List.take_add_one, hc', List.map_append]
            rfl
          have ein : inV (V.str (ltr c)) (zs.map V.str) = decide (ltr c ∈ zs) := inV_strs _ _
          refine ⟨rfl, _, rfl, _, rfl, D2, _, rfl, .inl (SqL.of (e3 _ _ h2)), rfl, flat_strs _, _, rfl, ?_⟩
          by_cases hb : ltr c ∈ zs
          · refine if_f (by show (!inV (V.str (ltr c)) (zs.map V.str)) = false; rw [ein, decide_eq_true hb]; rfl) ⟨e3, ?_⟩
            rw [tk, List.filter_append, List.filter_cons, if_neg (by simp [hb]), List.filter_nil, List.append_nil]
            exact h3
          · refine if_t (by show (!inV (V.str (ltr c)) (zs.map V.str)) = true; rw [ein, decide_eq_false hb]; rfl) ⟨_, rfl, _, h3, ?_, fun b u e => ?_, ?_⟩
            · have l1 := List.length_filter_le (fun x => !decide (x ∈ zs)) ((lettersL.cps.toList.take i).map ltr)
              rw [List.length_map, List.length_take, letters_26] at l1
              rw [List.length_map]
              exact small1000 (by omega)
            · rw [upd_ne (nD3 b u e)]
              exact e3 b u e
            · rw [upd_same, tk, List.filter_append, List.filter_cons, if_pos (by simp [hb]), List.filter_nil, List.map_append]
              rfl
        rintro G ⟨e3, h3⟩
        have tl : lettersL.cps.toList.take lettersL.cps.size = lettersL.cps.toList := by rw [← Array.length_toList, List.take_length]
        rw [tl] at h3
        have l3 : ((lettersL.cps.toList.map ltr).filter fun x => !decide (x ∈ zs)).length ≤ 26 := by
          have l1 := List.length_filter_le (fun x => !decide (x ∈ zs)) (lettersL.cps.toList.map ltr)
          rw [List.length_map, letters_26] at l1
          exact l1
        refine ⟨D2, D3, _, _, rfl, rfl, e3 _ _ h2, h3, Nat.le_of_lt (small1000 (by rw [List.length_map, List.length_map]; omega)), fun F hF => ?_⟩
        rw [← List.map_append]
        have s4 := Same.newp (o := .lst ((zs ++ (lettersL.cps.toList.map ltr).filter fun x => !decide (x ∈ zs)).map V.str)) hF
        refine ⟨_, rfl, _, rfl, F, _, rfl, SqL.of upd_same, fun R hR => ?_⟩
        rw [en, cutV_take, ← List.map_take]
        have s5 := s4.trans (Same.newp (o := .lst (((zs ++ (lettersL.cps.toList.map ltr).filter fun x => !decide (x ∈ zs)).take nn).map V.str)) hR)
        obtain ⟨a1, a2, a3⟩ := fill_names (n := nn) nd ok2 n26
        exact k R _ _ upd_same a1 a2 a3 ((B1.same e2).same (e3.trans s5)) (f2.trans (Keep.of (e3.trans s5))) (f2.has _ (e3.free (s4.free hR)))
theorem sc__law_some : FnScope ["_law_bag_here", "_law_some_here", "_law_share", "_law_found", "_law_one", "_law_turn"] ["_law_bag_here", "_law_some_here"] (defScope s__law_some) := ⟨rfl, rfl, rfl, by decide +kernel, rfl, by decide +kernel, by decide +kernel⟩
theorem lo_some (T : Tx K mg C M L LJ) : OkF P w K mg base CX0 2 "_law_some" ["_law_bag_here", "_law_some_here"] (spSomeL) := by
  refine T.d_some.ok sc__law_some (fun _ _ _ _ _ _ us hl => match us, hl with | [_, _], _ => rfl) (fun vs H Q E h => ?_) (fun f cdv Ar outer st H vs Q E hr h => ?_)
  · obtain ⟨p, q, a, xs, rfl, _⟩ := h
    rfl
  · obtain ⟨p, q, a, xs, rfl, B, ha, xN, xl, k⟩ := h
    refine ⟨_, (pss_cons (ps_set (i := 2) sc__law_some.nd rfl (Or.inr rfl) (pe_ix ix_list (pe_lst (pa_cons pe_int (pa_cons pe_int (pa_cons pe_int (pa_cons pe_int pa_nil))))) (pe_f (ok_take T) (hr.mono (by decide)) pass0 (pa_cons (pv 0) (pa_cons pe_int pa_nil))) (fun _ _ => rfl))) (pss_cons (ps_setLc (i := 3) (own := [("_law_one", 4)]) rfl sc__law_some.nd rfl rfl (sw_true rfl rfl rfl (by decide +kernel)) (pi_list (pv 1)) (blkOk_by (N := ["_law_bag_here", "_law_some_here", "_law_share", "_law_found", "_law_one", "_law_turn"]) (sc := (defScope s__law_some)) (by decide +kernel)) (fun _ _ _ _ _ => (pg_name (i := 4) sc__law_some.nd rfl (Or.inl rfl))) (fun _ _ _ _ _ => (pts_one (pt_cmpR op_eq (pe_f (ok_take T) (hr.mono (by decide)) pass0 (pa_cons (pv 0) (pa_cons (pv 2) pa_nil))) pe_int (nomark _)))) (fun _ _ _ _ _ => (pv 4))) (pss_cons (ps_set (i := 5) sc__law_some.nd rfl (Or.inl rfl) (pe_f (ok_take T) (hr.mono (by decide)) pass0 (pa_cons (pv 0) (pa_cons (pe_op op_add (pe_callB call_len_seq (by rfl) T.b_len PySem.boot_len (pa_cons (pv 3) pa_nil)) pe_int) pa_nil)))) (pss_one (ps_ret (pe_op op_cat (pe_slice sl_list (pv 3) (po_some (pv 5)) po_none) (pe_slice sl_list (pv 3) po_none (po_some (pv 5))))))))), ?_⟩
    refine ⟨(by show 4 ≤ sizeLine; decide), fun l1 g1 => ?_⟩
    have s1 : Same H (upd H l1 (.lst [V.int 1, V.int 2, V.int 3, V.int 5])) := Same.newp g1
    refine ⟨_, rfl, p, q, 4, rfl, B.same s1, by decide, by decide, fun v H1 v0 v1 B1 b1 => ?_⟩
    have k1 : Keep [p] (upd H l1 (.lst [V.int 1, V.int 2, V.int 3, V.int 5])) H1 := Keep.bag (B.same s1) B1 b1 (by simp)
    have K1 : Keep [p] H H1 := (Keep.of s1).trans k1
    obtain ⟨sr, es, sr1, sr60⟩ := pickZ5 v0 v1
    refine ⟨l1, _, v, _, rfl, rfl, SqL.of (k1.flat _ _ upd_same rfl), es, ?_⟩
    have ha1 := K1.flat _ _ ha (flat_strs _)
    refine ⟨_, rfl, a, rfl, ⟨_, SqL.of ha1⟩, fun F hF => ?_⟩
    have pF : p ≠ F := fun w => B1.there.1 (by rw [w]; exact hF)
    have qF : q ≠ F := fun w => B1.there.2 (by rw [w]; exact hF)
    refine lc_list (K := K) (a := a) (xs := xs.map V.str) (fun i G => Bag G p q ∧ Keep [p] H1 G ∧ ∃ ss : List Str, G F = some (.lst (ss.map V.str)) ∧ ss.length ≤ i ∧ ss.Sublist (xs.take i)) ⟨B1.same (Same.newp hF), Keep.of (Same.newp hF), [], upd_same, Nat.le_refl _, List.nil_sublist _⟩ (fun i G _ z => SqL.of (z.2.1.flat _ _ ha1 (flat_strs _))) ?_ ?_
    · rintro i x G hi ⟨BG, KG, ss, hc, sl, sb⟩
      rw [List.getElem?_map] at hi
      obtain ⟨z, ez, rfl⟩ := Option.map_eq_some_iff.mp hi
      have li : i < 64 := by
        have := (List.getElem?_eq_some_iff.mp ez).1
        omega
      have tk : xs.take (i + 1) = xs.take i ++ [z] := by
        rw [List.take_add_one, ez]
        rfl
      refine ⟨rfl, _, rfl, _, rfl, p, q, sr, rfl, BG, by omega, by omega, fun u G1 u0 u1 BG1 bG1 => ?_⟩
      have kG1 : Keep [p] G G1 := Keep.bag BG BG1 bG1 (by simp)
      have hc1 := kG1.flat _ _ hc (flat_strs _)
      refine ⟨rfl, _, rfl, ?_⟩
      by_cases e0 : V.int u = V.int 0
      · refine if_t (decide_eq_true e0) ⟨_, rfl, _, hc1, ?_, BG1.keep (upd_ne pF) (upd_ne qF), (KG.trans kG1).over hF, ss ++ [z], ?_, ?_, ?_⟩
        · rw [List.length_map]
          exact small1000 (by omega)
        · rw [upd_same, List.map_append]
          rfl
        · rw [List.length_append, List.length_singleton]
          omega
        · rw [tk]
          exact List.Sublist.append sb (List.Sublist.refl _)
      · refine if_f (decide_eq_false e0) ⟨BG1, KG.trans kG1, ss, hc1, by omega, ?_⟩
        rw [tk]
        exact sb.trans (List.sublist_append_left _ _)
    rintro G ⟨BG, KG, ss, hc, sl, sb⟩
    rw [List.length_map] at sl sb
    rw [List.take_length] at sb
    refine ⟨_, rfl, _, rfl, F, _, rfl, .inl (SqL.of hc), _, _, rfl, rfl, p, q, _, rfl, BG, by rw [List.length_map]; omega, by rw [List.length_map]; omega, fun u G1 u0 u1 BG1 bG1 => ?_⟩
    obtain ⟨n, rfl⟩ := Int.eq_ofNat_of_zero_le u0
    have K2 := (K1.trans KG).trans (Keep.bag (ms := [p]) BG BG1 bG1 (by simp))
    have hc1 := (Keep.bag (ms := [p]) BG BG1 bG1 (by simp)).flat _ _ hc (flat_strs _)
    refine ⟨_, rfl, _, rfl, _, rfl, F, _, rfl, SqL.of hc1, fun r1 hr1 => ?_⟩
    dsimp only
    rw [cutV_drop, ← List.map_drop]
    have s3 : Same G1 (upd G1 r1 (.lst ((ss.drop n).map V.str))) := Same.newp hr1
    refine ⟨_, rfl, _, rfl, _, rfl, F, _, rfl, SqL.of (s3 _ _ hc1), fun r2 hr2 => ?_⟩
    dsimp only
    rw [cutV_take, ← List.map_take]
    have s4 := s3.trans (Same.newp (o := .lst ((ss.take n).map V.str)) hr2)
    refine ⟨r1, r2, _, _, rfl, rfl, (upd_ne (ne_of_none upd_same hr2)).trans upd_same, upd_same, ?_, fun r3 hr3 => ?_⟩
    · rw [List.length_map, List.length_map, List.length_drop, List.length_take]
      exact Nat.le_of_lt (small1000 (by omega))
    rw [← List.map_append]
    have s5 := s4.trans (Same.newp (o := .lst ((ss.drop n ++ ss.take n).map V.str)) hr3)
    have nd : (ss.drop n ++ ss.take n).Nodup := by
      have : (ss.take n ++ ss.drop n).Nodup := by
        rw [List.take_append_drop]
        exact sb.nodup xN
      exact List.perm_append_comm.nodup_iff.mp this
    have sub : ∀ y ∈ ss.drop n ++ ss.take n, y ∈ xs := fun y m => by
      rcases List.mem_append.mp m with m | m
      · exact sb.subset (List.mem_of_mem_drop m)
      · exact sb.subset (List.mem_of_mem_take m)
    exact k r3 _ _ upd_same nd sub (BG1.same s5) (K2.trans (Keep.of (ms := [p]) s5))
end
end SM
/-! Part W56: k61's table of what stands, its steps. -/
namespace SM
open PySem PySem.Spec PyProof.Rows L2
/-- a row of the table: where it stands, where it is at home, does the job's tag hang there -/
def NowG (H : Hp) (n : Str) (v : V) (d : DevV) : Prop := ∃ t : Addr, v = .ref t ∧ H t = some (.tup [.str d.st, .str d.home, .bl (decide (n ∈ d.hung))])
def NowAt (H : Hp) (m : Addr) (n : Str) (S : BS) : Prop := ∃ kvs, H m = some (.dK kvs) ∧ Kr (NowG H n) kvs S.devs
section
variable {H H' : Hp} {m p : Addr} {n : Str} {S : BS} {ms : List Addr}
theorem NowAt.keep (h : NowAt H m n S) (k : Keep ms H H') (hm : m ∉ ms) : NowAt H' m n S := by
  obtain ⟨kvs, a, b⟩ := h
  exact ⟨kvs, k.out _ _ a hm, b.mono fun v d ⟨t, e, q⟩ => ⟨t, e, k.tup _ _ q⟩⟩
theorem NowAt.same (h : NowAt H m n S) (s : Same H H') : NowAt H' m n S := h.keep (ms := []) (Keep.of s) fun w => nomatch w
theorem NowAt.kj (h : NowAt H m n S) (k : KJ ms p H H') (hm : m ∉ ms) (hp : ∃ C dx fs, H p = some (.ins C dx fs)) : NowAt H' m n S := by
  obtain ⟨kvs, a, b⟩ := h
  obtain ⟨C, dx, fs, e⟩ := hp
  exact ⟨kvs, k.out _ _ a hm (ne_of a e (by intro w; cases w)), b.mono fun v d ⟨t, e, q⟩ => ⟨t, e, k.tup _ _ q⟩⟩
theorem NowAt.get (h : NowAt H m n S) {z : Str} {v : DevV} (e : look S.devs z = some v) : ∃ kvs t, H m = some (.dK kvs) ∧ valV kvs (Sum.inr z) = some (.ref t) ∧ H t = some (.tup [.str v.st, .str v.home, .bl (decide (n ∈ v.hung))]) := by
  obtain ⟨kvs, a, b⟩ := h
  obtain ⟨x, e1, t, rfl, q⟩ := b.get e
  exact ⟨kvs, t, a, e1, q⟩
theorem NowAt.len (h : NowAt H m n S) {kvs : List (Key × V)} (e : H m = some (.dK kvs)) : kvs.length = S.devs.length := by
  obtain ⟨kvs', a, b⟩ := h
  rw [e] at a
  injection a with a
  injection a with a
  rw [a, b.len]
/-- a row is written -/
theorem NowAt.put (h : NowAt H m n S) (kn : (keys S.devs).Nodup) {z : Str} {v : DevV} (e : look S.devs z = some v) {f : DevV → DevV} {t : Addr} (ht : H t = some (.tup [.str (f v).st, .str (f v).home, .bl (decide (n ∈ (f v).hung))])) {kvs : List (Key × V)} (hm : H m = some (.dK kvs)) :
    NowAt (upd H m (.dK (putK kvs (Sum.inr z) (.ref t)))) m n { S with devs := setT S.devs z f } := by
  obtain ⟨kvs', a, b⟩ := h
  rw [hm] at a
  injection a with a
  injection a with a
  subst a
  have tup : ∀ b xs, H b = some (.tup xs) → (upd H m (.dK (putK kvs (Sum.inr z) (.ref t)))) b = some (.tup xs) := fun b xs q => (upd_ne (ne_of q hm (by intro w; cases w))).trans q
  refine ⟨_, upd_same, ?_⟩
  show Kr _ _ (setT S.devs z f)
  rw [setT_congr kn e (g := fun _ => f v) rfl]
  refine Kr.upd (G := NowG (upd H m (.dK (putK kvs (Sum.inr z) (.ref t)))) n) (fun _ => ⟨t, rfl, tup _ _ ht⟩) (b.mono fun w d ⟨u, e, q⟩ => ⟨u, e, tup _ _ q⟩) (look_in e)
end
/-! rows that are due, rows that are left -/
theorem filt_yes {p : Row → Bool} {rs : List Row} {m : Nat} {r : Row} (e : rs[m]? = some r) (h : p r = true) : (rs.take (m + 1)).filter p = (rs.take m).filter p ++ [r] := by
  rw [List.take_add_one, e, show rs.take m ++ (some r).toList = rs.take m ++ [r] from rfl, List.filter_append, List.filter_cons, if_pos h, List.filter_nil]
theorem filt_no {p : Row → Bool} {rs : List Row} {m : Nat} {r : Row} (e : rs[m]? = some r) (h : p r = false) : (rs.take (m + 1)).filter p = (rs.take m).filter p := by
  rw [List.take_add_one, e, show rs.take m ++ (some r).toList = rs.take m ++ [r] from rfl, List.filter_append, List.filter_cons, if_neg (by rw [h]; exact Bool.noConfusion), List.filter_nil, List.append_nil]
theorem filt_len {p : Row → Bool} {rs : List Row} (m : Nat) : ((rs.take m).filter p).length ≤ rs.length := by
  refine Nat.le_trans (List.length_filter_le _ _) ?_
  rw [List.length_take]
  omega
def withP (p : Str) (xs : List Str) : List Row := xs.map fun d => (d, some p)
def dueStill (xs ys : List Str) : List Row := withP "shut" xs ++ withP "open" ys
def dueTrial (S : BS) (xs ys : List Str) : List Row := withP "shut" ys.reverse ++ (xs.reverse.map fun d => (d, some (homeOf S d)))
def leftStill (S : BS) (n : Str) (r : Row) : Bool := !onJ S n r.1 || !decide (some (stOf S r.1) = r.2)
def leftTrial (S : BS) (r : Row) : Bool := !decide (some (stOf S r.1) = r.2)
theorem due_still {S : BS} {n : Str} {xs ys : List Str} {ph aim : Str} (e : ph = "still") : (dueStill xs ys).filter (leftStill S n) = stepsOf S ⟨n, ph, aim, xs, ys⟩ := by
  subst e
  have q : ∀ (pos : Str) (ds : List Str), (withP pos ds).filter (leftStill S n) = stepsTo S n pos ds := fun pos ds => by
    unfold stepsTo withP
    rw [List.filter_map]
    congr 1
    refine List.filter_congr fun d _ => ?_
    show (!onJ S n d || !decide (some (stOf S d) = some pos)) = _
    rw [Bool.or_comm]
    simp
  rw [dueStill, List.filter_append, q, q, stepsOf, if_pos rfl]
theorem due_trial {S : BS} (hS : S.Ok) {n : Str} {xs ys : List Str} {ph aim : Str} (e : ph = "trial") (hy : ∀ d ∈ ys, d ∈ keys S.devs) : (dueTrial S xs ys).filter (leftTrial S) = stepsOf S ⟨n, ph, aim, xs, ys⟩ := by
  subst e
  have e1 : ¬ (("trial" : Str) = "still") := by decide +kernel
  rw [dueTrial, List.filter_append, stepsOf, if_neg e1, if_pos rfl, trialA, trialB, withP, List.filter_map, List.filter_map]
  congr 2
  · refine List.filter_congr fun d m => ?_
    obtain ⟨v, el⟩ := look_some (hy d (List.mem_reverse.mp m))
    have ps := (hS.pos _ (look_mem el)).1
    show (!decide (some (stOf S d) = some "shut")) = _
    rw [stOf_eq el]
    have ps' : v.st = "open" ∨ v.st = "shut" := by simpa [posL] using ps
    rcases ps' with w | w <;> rw [w] <;> decide +kernel
  · refine List.filter_congr fun d m => ?_
    show (!decide (some (stOf S d) = some (homeOf S d))) = _
    simp
theorem mem_due {S : BS} {xs ys : List Str} {r : Row} (h : r ∈ dueStill xs ys ∨ r ∈ dueTrial S xs ys) : ∃ d p, r = (d, some p) ∧ (d ∈ xs ∨ d ∈ ys) := by
  rcases h with h | h
  · rcases List.mem_append.mp (show r ∈ withP _ xs ++ withP _ ys from h) with m | m <;> obtain ⟨d, md, rfl⟩ := List.mem_map.mp m
    · exact ⟨_, _, rfl, .inl md⟩
    · exact ⟨_, _, rfl, .inr md⟩
  · rcases List.mem_append.mp (show r ∈ withP _ ys.reverse ++ (xs.reverse.map _) from h) with m | m <;> obtain ⟨d, md, rfl⟩ := List.mem_map.mp m
    · exact ⟨_, _, rfl, .inr (List.mem_reverse.mp md)⟩
    · exact ⟨_, _, rfl, .inl (List.mem_reverse.mp md)⟩
/-! one job on the board, nothing stuck -/
def OneJ (S : BS) (n : Str) : Prop := ∀ d v, look S.devs d = some v → v.stk = false ∧ ∀ j ∈ v.hung, j = n
theorem hs_nil {S : BS} : handSet S [] = [] := rfl
theorem OneJ.held {S : BS} {n d : Str} {v : DevV} (o : OneJ S n) (e : look S.devs d = some v) : handsOn S v (some n) = [] := by
  unfold handsOn
  have : (v.hung.filter fun j => decide (some j ≠ some n)) = [] := List.filter_eq_nil_iff.mpr fun j m => by rw [(o d v e).2 j m]; simp
  rw [this, hs_nil]
theorem OneJ.due {S : BS} {n : Str} {r : Row} (o : OneJ S n) (hn : n ∈ keys S.crews) (hr : r.1 ∈ keys S.devs) : S.due (stepD n r) = none := by
  obtain ⟨v, e⟩ := look_some hr
  obtain ⟨sk, hu⟩ := o _ v e
  have mv : ∀ p, moveDue r.1 p v = none := fun p => by
    unfold moveDue
    rw [sk]
    simp
  unfold stepD
  split
  · simp only [BS.due, e]
    rw [if_neg (by simpa using hn)]
    split
    · exact mv _
    · rfl
  · simp only [BS.due, e]
    rw [if_neg (by simpa using hn)]
    have hd : heldDue S v (some n) = none := by rw [heldDue, if_pos (o.held e)]
    rw [hd, mv]
    simp
theorem OneJ.turn {S : BS} {n z p : Str} {v : DevV} (o : OneJ S n) (e : look S.devs z = some v) (hu : n ∉ v.hung) : S.due (.turn z p) = none := by
  obtain ⟨sk, ho⟩ := o _ v e
  have h0 : v.hung = [] := List.eq_nil_iff_forall_not_mem.mpr fun j m => hu (by rw [← ho j m]; exact m)
  simp only [BS.due, e]
  have h1 : heldDue S v none = none := by
    rw [heldDue, if_pos]
    unfold handsOn
    rw [h0]
    rfl
  have h2 : moveDue z p v = none := by
    unfold moveDue
    rw [sk]
    simp
  rw [h1, h2]
  rfl
theorem OneJ.setT {S : BS} {n z : Str} (o : OneJ S n) {f : DevV → DevV} (hf : ∀ v, v.stk = false → (∀ j ∈ v.hung, j = n) → (f v).stk = false ∧ ∀ j ∈ (f v).hung, j = n) : OneJ { S with devs := SM.setT S.devs z f } n := by
  intro d v e
  change look (SM.setT S.devs z f) d = some v at e
  rw [look_setT] at e
  by_cases h : d = z
  · rw [if_pos h] at e
    obtain ⟨w, ew, rfl⟩ := Option.map_eq_some_iff.mp e
    obtain ⟨a, b⟩ := o _ _ ew
    exact hf w a b
  · rw [if_neg h] at e
    exact o _ _ e
theorem OneJ.step {S : BS} {n : Str} (o : OneJ S n) (r : Row) : OneJ (S.put (stepD n r)) n := by
  unfold stepD
  split
  · exact o.setT fun v a b => ⟨a, fun j m => b j (List.mem_filter.mp m).1⟩
  · refine o.setT fun v a b => ⟨a, fun j m => ?_⟩
    dsimp only at m
    split at m
    · exact b j m
    · rcases List.mem_append.mp m with m | m
      · exact b j m
      · exact List.mem_singleton.mp m
/-- what the law's own row becomes -/
theorem OneJ.hungF {S : BS} (hS : S.Ok) {n z : Str} {v : DevV} (o : OneJ S n) (e : look S.devs z = some v) (hn : n ∈ v.hung) : v.hung = [n] := by
  have nd := (hS.hN _ (look_mem e)).1
  have al := (o _ _ e).2
  match hv : v.hung, hn, nd, al with
  | [a], _, _, al => rw [al a (.head _)]
  | a :: b :: t, _, nd, al => 
    have := (List.nodup_cons.mp nd).1
    rw [al a (.head _), al b (.tail _ (.head _))] at this
    exact absurd (.head _) this
end SM
namespace SM
open PySem PySem.Spec PyProof.Rows L2
def posD : Option Str → PyData
  | none => .none
  | some p => .str p
def rwD (r : Row) : PyData := .tuple [.str r.1, posD r.2]
theorem butV_dp {K : PySem.W.Frag} {H : Hp} : ∀ o : Option Str, Dp K H (butV o) (posD o)
  | none => .non
  | some p => .str p
theorem rw_dp {K : PySem.W.Frag} {H : Hp} {t : Addr} {r : Row} (h : H t = some (.tup [.str r.1, butV r.2])) : Dp K H (.ref t) (rwD r) := .tup (SqT.of h) (.cons (.str _) (.cons (butV_dp _) .nil))
theorem rws_dp {K : PySem.W.Frag} {H : Hp} : ∀ {ts : List Addr} {rs : List Row}, RowsP H ts rs → DpAll K H (ts.map V.ref) (rs.map rwD)
  | _, _, .nil => .nil
  | _, _, .cons h t => .cons (rw_dp h) (rws_dp t)
def RowOk (r : Row) : Prop := okName r.1 = true ∧ ∀ p, r.2 = some p → p ∈ posL
theorem pos_small {p : Str} (m : p ∈ posL) : smallS p = true := by
  have : p = "open" ∨ p = "shut" := by simpa [posL] using m
  rcases this with rfl | rfl <;> decide +kernel
theorem rw_sm {r : Row} (h : RowOk r) : Sm 1 34 (rwD r) := by
  refine Sm.tup (.cons (sm_str (okName_small h.1)) (.cons ?_ .nil))
  obtain ⟨_, h2⟩ := h
  match hr : r.2, h2 with
  | none, _ => exact sm_none
  | some p, h2 => exact sm_str (pos_small (h2 p rfl))
theorem rws_sm {rs : List Row} (h : ∀ r ∈ rs, RowOk r) (l : rs.length ≤ 200) : Sm 2 7000 (.list (rs.map rwD)) := by
  have q := Sm.lst (SmAll.map rwD fun r m => rw_sm (h r m))
  rw [List.length_map] at q
  exact q.mono (Nat.le_refl _) (by omega)
theorem steps_sub {S : BS} {j : JobV} (hS : S.Ok) (hx : ∀ d ∈ j.sw, d ∈ keys S.devs) (hy : ∀ d ∈ j.dr, d ∈ keys S.devs) : ∀ r ∈ stepsOf S j, r.1 ∈ keys S.devs ∧ ∀ p, r.2 = some p → p ∈ posL := by
  have to : ∀ {n pos : Str} {ds : List Str}, pos ∈ posL → (∀ d ∈ ds, d ∈ keys S.devs) → ∀ r ∈ stepsTo S n pos ds, r.1 ∈ keys S.devs ∧ ∀ p, r.2 = some p → p ∈ posL := fun {n pos ds} hp hd r m => by
    obtain ⟨d, md, rfl⟩ := List.mem_map.mp m
    exact ⟨hd d (List.mem_filter.mp md).1, fun p e => by rw [← Option.some.inj e]; exact hp⟩
  intro r m
  unfold stepsOf at m
  split at m
  · rcases List.mem_append.mp m with m | m
    · exact to (by simp [posL]) hx r m
    · exact to (by simp [posL]) hy r m
  · split at m
    · rcases List.mem_append.mp m with m | m
      · obtain ⟨d, md, rfl⟩ := List.mem_map.mp m
        exact ⟨hy d (List.mem_reverse.mp (List.mem_filter.mp md).1), fun p e => by rw [← Option.some.inj e]; simp [posL]⟩
      · obtain ⟨d, md, rfl⟩ := List.mem_map.mp m
        have inD := hx d (List.mem_reverse.mp (List.mem_filter.mp md).1)
        obtain ⟨v, el⟩ := look_some inD
        exact ⟨inD, fun p e => by rw [← Option.some.inj e, homeOf_eq el]; exact (hS.pos _ (look_mem el)).2⟩
    · split at m
      · obtain ⟨d, md, rfl⟩ := List.mem_map.mp m
        refine ⟨?_, fun p e => by cases e⟩
        rcases List.mem_append.mp (List.mem_filter.mp md).1 with w | w
        · exact hy d (List.mem_reverse.mp w)
        · exact hx d (List.mem_reverse.mp w)
      · cases m
theorem steps_len {S : BS} {j : JobV} (hx : j.sw.length ≤ 52) (hy : j.dr.length ≤ 52) : (stepsOf S j).length ≤ 104 := by
  have f : ∀ {p : Str → Bool} {g : Str → Row} {xs : List Str} {n : Nat}, xs.length ≤ n → ((xs.filter p).map g).length ≤ n := fun {p g xs n} h => by
    rw [List.length_map]
    exact Nat.le_trans (List.length_filter_le _ _) h
  unfold stepsOf
  split
  · rw [List.length_append]
    have a := f (p := fun d => !decide (stOf S d = "shut") || !onJ S j.nm d) (g := fun d => (d, some "shut")) hx
    have b := f (p := fun d => !decide (stOf S d = "open") || !onJ S j.nm d) (g := fun d => (d, some "open")) hy
    unfold stepsTo
    omega
  · split
    · rw [List.length_append]
      unfold trialA trialB
      rw [List.length_map, List.length_map]
      have a := List.length_filter_le (fun d => decide (stOf S d = "open")) j.dr.reverse
      have b := List.length_filter_le (fun d => !decide (stOf S d = homeOf S d)) j.sw.reverse
      rw [List.length_reverse] at a b
      omega
    · split
      · unfold stepsAway
        rw [List.length_map]
        refine Nat.le_trans (List.length_filter_le _ _) ?_
        rw [List.length_append, List.length_reverse, List.length_reverse]
        omega
      · exact Nat.zero_le _
/-- what may come of going on -/
def onwardR (S : BS) (j : JobV) (ph' : Str) (j' : JobV) : Prop :=
  (j.ph = "still" ∧ ph' = "given" ∧ j' = { j with ph := "given" }) ∨ (j.ph = "given" ∧ ph' = "trial" ∧ j' = { j with ph := "trial" }) ∨ (j.ph = "trial" ∧ ph' = "still" ∧ j' = { j with ph := "still" }) ∨ (ph' = "away" ∧ j' = leaveJ S { j with ph := "away", aim := "by" })
section
variable (L LJ : Addr)
def spLeftJ : Sp := fun vs H Q _ => ∃ (m a b : Addr) (ph n : Str) (xs ys : List Str) (S : BS), vs = [.str ph, .ref a, .ref b, .ref m] ∧ NowAt H m n S ∧ S.Ok ∧ H a = some (.lst (xs.map V.str)) ∧ H b = some (.lst (ys.map V.str)) ∧ (∀ d ∈ xs, d ∈ keys S.devs) ∧ (∀ d ∈ ys, d ∈ keys S.devs) ∧ xs.length ≤ 52 ∧ ys.length ≤ 52 ∧
  ∀ (H' : Hp) (p : Addr) (ts : List Addr), Same H H' → H p = none → H' p = some (.lst (ts.map V.ref)) → RowsP H' ts (stepsOf S ⟨n, ph, "by", xs, ys⟩) → Q (.ref p) H'
def spSteppedJ : Sp := fun vs H Q _ => ∃ (B : BA) (S : BS) (J : JA) (j : JobV) (m l : Addr) (r : Row) (rs : List Row) (ts : List Addr), vs = [.ref J.p, .ref m, .ref l] ∧ JB L LJ H B S J j ∧ NowAt H m j.nm S ∧ m ∉ bms B S ∧ OneJ S j.nm ∧ j.aim = "by" ∧ stepsOf S j = r :: rs ∧ H l = some (.lst (ts.map V.ref)) ∧ RowsP H ts (r :: rs) ∧
  ∀ (H' : Hp) (J' : JA), JB L LJ H' B (S.put (stepD j.nm r)) J' (leaveJ (S.put (stepD j.nm r)) j) → J'.p = J.p → NowAt H' m j.nm (S.put (stepD j.nm r)) → KJ (m :: bms B S) J.p H H' → Q (.bl true) H'
def spOnwardJ : Sp := fun vs H Q _ => ∃ (p q : Addr) (B : BA) (S : BS) (J : JA) (j : JobV), vs = [.ref p, .ref J.p, .str j.ph] ∧ Bag H p q ∧ JB L LJ H B S J j ∧ (j.ph = "still" ∨ j.ph = "given" ∨ j.ph = "trial") ∧ stepsOf S j = [] ∧ oneHand S j ∧
  ∀ (H' : Hp) (J' : JA) (ph' : Str) (j' : JobV), onwardR S j ph' j' → JB L LJ H' B S J' j' → J'.p = J.p → Bag H' p q → KJ [p] J.p H H' → Q (.str ph') H'
def spTurnedJ : Sp := fun vs H Q _ => ∃ (p q m : Addr) (B : BA) (S : BS) (n d : Str), vs = [.ref p, .ref B.p, .ref m, .str d] ∧ Bag H p q ∧ BdAt L H B S ∧ S.Ok ∧ NowAt H m n S ∧ m ∉ bms B S ∧ OneJ S n ∧ d ∈ keys S.devs ∧
  ∀ (H' : Hp) (S' : BS), (S' = S ∨ ∃ pos v, pos ∈ posL ∧ look S.devs d = some v ∧ n ∉ v.hung ∧ S' = S.put (.turn d pos)) → BdAt L H' B S' → NowAt H' m n S' → Bag H' p q → Keep (p :: m :: bms B S) H H' → Q .non H'
end
theorem stepD_bms {B : BA} {S : BS} {n : Str} {r : Row} : bms B (S.put (stepD n r)) = bms B S := by
  unfold stepD
  split
  · exact bms_setT (f := fun d => { d with st := if n ∈ d.hung ∧ d.hung.length = 1 then d.home else d.st, hung := d.hung.filter fun y => decide (y ≠ n) }) (fun _ => rfl)
  · exact bms_setT (f := fun d => { d with st := _, hung := if n ∈ d.hung then d.hung else d.hung ++ [n] }) (fun _ => rfl)
theorem stepsOf_none {S : BS} {j : JobV} {z : Str} {rs : List Row} (h : stepsOf S j = (z, none) :: rs) : onJ S j.nm z = true := by
  have m : (z, none) ∈ stepsOf S j := by rw [h]; exact .head _
  unfold stepsOf at m
  split at m
  · rcases List.mem_append.mp m with m | m <;> obtain ⟨d, md, e⟩ := List.mem_map.mp m <;> cases e
  · split at m
    · rcases List.mem_append.mp m with m | m <;> obtain ⟨d, md, e⟩ := List.mem_map.mp m <;> cases e
    · split at m
      · obtain ⟨d, md, e⟩ := List.mem_map.mp m
        cases e
        exact (List.mem_filter.mp md).2
      · cases m
end SM
namespace SM
open PySem PySem.Spec PyProof.Rows L2
open Evl (tCut pss_cut)
section
variable {P : Program} {w : World} {K : PySem.W.Frag} {mg : Str → Option Value} {base : Heap} {C : Nat → Addr} {M L LJ : Addr}
theorem sc__law_left : FnScope ["_law_phase", "_law_switches", "_law_drains", "_law_now", "_law_due", "_law_name_here", "_law_to"] ["_law_phase", "_law_switches", "_law_drains", "_law_now"] (defScope s__law_left) := ⟨rfl, rfl, rfl, by decide +kernel, rfl, by decide +kernel, by decide +kernel⟩
theorem lo_left (T : Tx K mg C M L LJ) : OkF P w K mg base CX0 2 "_law_left" ["_law_phase", "_law_switches", "_law_drains", "_law_now"] (spLeftJ) := by
  refine T.d_left.ok sc__law_left (fun _ _ _ _ _ _ us hl => match us, hl with | [_, _, _, _], _ => rfl) (fun vs H Q E h => ?_) (fun f cdv Ar outer st H vs Q E hr h => ?_)
  · obtain ⟨m, a, b, ph, n, xs, ys, S, rfl, _⟩ := h
    rfl
  · obtain ⟨m, a, b, ph, n, xs, ys, S, rfl, hn, hS, ha, hb, hx, hy, lx, ly, k⟩ := h
    have hu := hu_of hr
    refine ⟨_, (pss_cons (ps_if (pt_cmpR op_eq (pv 0) pe_str (nomark _)) (pss_cons (ps_set (i := 4) sc__law_left.nd rfl (Or.inl rfl) (pe_op op_cat (pe_lc (own := [("_law_name_here", 5)]) rfl sc__law_left.nd (pi_list (pv 1)) (blkOk_by (N := ["_law_phase", "_law_switches", "_law_drains", "_law_now", "_law_due", "_law_name_here", "_law_to"]) (sc := (defScope s__law_left)) (by decide +kernel)) (fun _ _ _ _ _ => (pg_name (i := 5) sc__law_left.nd rfl (Or.inl rfl))) (fun _ _ _ _ _ => pts_nil) (fun _ _ _ _ _ => (pe_tup (pa_cons (pv 5) (pa_cons pe_str pa_nil))))) (pe_lc (own := [("_law_name_here", 5)]) rfl sc__law_left.nd (pi_list (pv 2)) (blkOk_by (N := ["_law_phase", "_law_switches", "_law_drains", "_law_now", "_law_due", "_law_name_here", "_law_to"]) (sc := (defScope s__law_left)) (by decide +kernel)) (fun _ _ _ _ _ => (pg_name (i := 5) sc__law_left.nd rfl (Or.inl rfl))) (fun _ _ _ _ _ => pts_nil) (fun _ _ _ _ _ => (pe_tup (pa_cons (pv 5) (pa_cons pe_str pa_nil))))))) (pss_one (ps_ret (pe_lc (own := [("_law_name_here", 5), ("_law_to", 6)]) rfl sc__law_left.nd (pi_list (pv 4)) (blkOk_by (N := ["_law_phase", "_law_switches", "_law_drains", "_law_now", "_law_due", "_law_name_here", "_law_to"]) (sc := (defScope s__law_left)) (by decide +kernel)) (fun _ _ _ _ _ => (pg_tupK (K := K) (n := 2) rfl rfl (pgs_cons (pg_name (i := 5) sc__law_left.nd rfl (Or.inl rfl)) (pgs_cons (pg_name (i := 6) sc__law_left.nd rfl (Or.inl rfl)) pgs_nil)))) (fun _ _ _ _ _ => (pts_one (PW.pt (pw_or (pt_not (pt_val (pe_ix (ix_tupK (K := K) rfl) (pe_dget hu (pv 3) (pv 5) (fun _ _ => rfl)) pe_int (fun _ _ => rfl)))) (pw_or1 (pt_cmpR op_ne (pe_ix (ix_tupK (K := K) rfl) (pe_dget hu (pv 3) (pv 5) (fun _ _ => rfl)) pe_int (fun _ _ => rfl)) (pv 6) (nomark _))))))) (fun _ _ _ _ _ => (pe_tup (pa_cons (pv 5) (pa_cons (pv 6) pa_nil)))))))) pss_nil) (pss_cons (ps_if (pt_cmpR op_eq (pv 0) pe_str (nomark _)) (pss_cons (ps_set (i := 4) sc__law_left.nd rfl (Or.inl rfl) (pe_op op_cat (pe_lc (own := [("_law_name_here", 5)]) rfl sc__law_left.nd (pi_list (pe_revL (pv 2))) (blkOk_by (N := ["_law_phase", "_law_switches", "_law_drains", "_law_now", "_law_due", "_law_name_here", "_law_to"]) (sc := (defScope s__law_left)) (by decide +kernel)) (fun _ _ _ _ _ => (pg_name (i := 5) sc__law_left.nd rfl (Or.inl rfl))) (fun _ _ _ _ _ => pts_nil) (fun _ _ _ _ _ => (pe_tup (pa_cons (pv 5) (pa_cons pe_str pa_nil))))) (pe_lc (own := [("_law_name_here", 5)]) rfl sc__law_left.nd (pi_list (pe_revL (pv 1))) (blkOk_by (N := ["_law_phase", "_law_switches", "_law_drains", "_law_now", "_law_due", "_law_name_here", "_law_to"]) (sc := (defScope s__law_left)) (by decide +kernel)) (fun _ _ _ _ _ => (pg_name (i := 5) sc__law_left.nd rfl (Or.inl rfl))) (fun _ _ _ _ _ => pts_nil) (fun _ _ _ _ _ => (pe_tup (pa_cons (pv 5) (pa_cons (pe_ix (ix_tupK (K := K) rfl) (pe_dget hu (pv 3) (pv 5) (fun _ _ => rfl)) pe_int (fun _ _ => rfl)) pa_nil))))))) (pss_one (ps_ret (pe_lc (own := [("_law_name_here", 5), ("_law_to", 6)]) rfl sc__law_left.nd (pi_list (pv 4)) (blkOk_by (N := ["_law_phase", "_law_switches", "_law_drains", "_law_now", "_law_due", "_law_name_here", "_law_to"]) (sc := (defScope s__law_left)) (by decide +kernel)) (fun _ _ _ _ _ => (pg_tupK (K := K) (n := 2) rfl rfl (pgs_cons (pg_name (i := 5) sc__law_left.nd rfl (Or.inl rfl)) (pgs_cons (pg_name (i := 6) sc__law_left.nd rfl (Or.inl rfl)) pgs_nil)))) (fun _ _ _ _ _ => (pts_one (pt_cmpR op_ne (pe_ix (ix_tupK (K := K) rfl) (pe_dget hu (pv 3) (pv 5) (fun _ _ => rfl)) pe_int (fun _ _ => rfl)) (pv 6) (nomark _)))) (fun _ _ _ _ _ => (pe_tup (pa_cons (pv 5) (pa_cons (pv 6) pa_nil)))))))) pss_nil) (pss_cons (ps_if (pt_cmpR op_eq (pv 0) pe_str (nomark _)) (pss_one (ps_ret (pe_lc (own := [("_law_name_here", 5)]) rfl sc__law_left.nd (pi_list (pe_op op_cat (pe_revL (pv 2)) (pe_revL (pv 1)))) (blkOk_by (N := ["_law_phase", "_law_switches", "_law_drains", "_law_now", "_law_due", "_law_name_here", "_law_to"]) (sc := (defScope s__law_left)) (by decide +kernel)) (fun _ _ _ _ _ => (pg_name (i := 5) sc__law_left.nd rfl (Or.inl rfl))) (fun _ _ _ _ _ => (pts_one (pt_val (pe_ix (ix_tupK (K := K) rfl) (pe_dget hu (pv 3) (pv 5) (fun _ _ => rfl)) pe_int (fun _ _ => rfl))))) (fun _ _ _ _ _ => (pe_tup (pa_cons (pv 5) (pa_cons pe_non pa_nil))))))) pss_nil) (pss_one (ps_ret (pe_lst pa_nil)))))), ?_⟩
    have tl : ∀ (f : Str → Row) (zs : List Str), rowsF (fun _ => true) f zs = zs.map f := fun f zs => by rw [rowsF, List.filter_eq_self.mpr fun _ _ => rfl]
    refine ⟨_, rfl, rfl, _, rfl, ?_⟩
    by_cases c1 : ph = "still"
    · refine if_t (by rw [c1]; exact decide_eq_true rfl) ⟨_, rfl, a, rfl, ⟨_, SqL.of ha⟩, fun D hD => ?_⟩
      refine lc_list (K := K) (a := a) (xs := xs.map V.str) (fun i G => RowsG H G D (rowsF (fun _ => true) (fun d => (d, some "shut")) (xs.take i))) (RowsG.new hD) (fun i G _ z => SqL.of (z.1 _ _ ha)) ?_ ?_
      · rintro i y G hi rg
        rw [List.getElem?_map] at hi
        obtain ⟨x, ex, rfl⟩ := Option.map_eq_some_iff.mp hi
        refine ⟨rfl, _, rfl, (by show 2 ≤ sizeLine; decide), fun t ht => ?_⟩
        rw [rowsF_yes ex rfl]
        exact rg.add (x, some "shut") (Nat.le_trans (rowsF_len i) (by omega)) hD (fun _ _ z => z) ht
      rintro G1 rg1
      rw [List.length_map, List.take_length, tl] at rg1
      have e1 := rg1.1
      refine ⟨_, rfl, b, rfl, ⟨_, SqL.of (e1 _ _ hb)⟩, fun D2 hD2 => ?_⟩
      refine lc_list (K := K) (a := b) (xs := ys.map V.str) (fun i G => RowsG G1 G D2 (rowsF (fun _ => true) (fun d => (d, some "open")) (ys.take i))) (RowsG.new hD2) (fun i G _ z => SqL.of (z.1 _ _ (e1 _ _ hb))) ?_ ?_
      · rintro i y G hi rg
        rw [List.getElem?_map] at hi
        obtain ⟨x, ex, rfl⟩ := Option.map_eq_some_iff.mp hi
        refine ⟨rfl, _, rfl, (by show 2 ≤ sizeLine; decide), fun t ht => ?_⟩
        rw [rowsF_yes ex rfl]
        exact rg.add (x, some "open") (Nat.le_trans (rowsF_len i) (by omega)) hD2 (fun _ _ z => z) ht
      rintro G2 rg2
      rw [List.length_map, List.take_length, tl] at rg2
      have e2 := e1.trans rg2.1
      obtain ⟨_, ta, hta, ra⟩ := rg1.same rg2.1
      obtain ⟨_, tb, htb, rb⟩ := rg2
      have la : ta.length = xs.length := by rw [Paired.length ra, List.length_map]
      have lb : tb.length = ys.length := by rw [Paired.length rb, List.length_map]
      refine ⟨D, D2, _, _, rfl, rfl, hta, htb, Nat.le_of_lt (small1000 (by rw [List.length_map, List.length_map]; omega)), fun F hF => ?_⟩
      rw [← List.map_append]
      have s9 := Same.newp (o := .lst ((ta ++ tb).map V.ref)) hF
      have rab : RowsP (upd G2 F (.lst ((ta ++ tb).map V.ref))) (ta ++ tb) (dueStill xs ys) := (RowsP.app ra rb).same s9
      have hF3 : upd G2 F (.lst ((ta ++ tb).map V.ref)) F = some (.lst ((ta ++ tb).map V.ref)) := upd_same
      have e3 := e2.trans s9
      generalize upd G2 F (.lst ((ta ++ tb).map V.ref)) = G3 at e3 rab hF3 ⊢
      have lab : (dueStill xs ys).length ≤ 104 := by
        rw [← Paired.length rab, List.length_append]
        omega
      refine ⟨_, rfl, F, rfl, ⟨_, SqL.of hF3⟩, fun D3 hD3 => ?_⟩
      refine lc_list (K := K) (a := F) (xs := (ta ++ tb).map V.ref) (fun i G => RowsG G3 G D3 (((dueStill xs ys).take i).filter (leftStill S n))) (RowsG.new hD3) (fun i G _ z => SqL.of (z.1 _ _ hF3)) ?_ ?_
      · rintro i y G hi rg
        rw [List.getElem?_map] at hi
        obtain ⟨t2, et2, rfl⟩ := Option.map_eq_some_iff.mp hi
        obtain ⟨r, er, ht2⟩ := rab.at et2
        obtain ⟨d, pp, rfl, dxy⟩ := mem_due (S := S) (.inl (List.mem_of_getElem? er))
        have inD : d ∈ keys S.devs := by
          rcases dxy with w | w
          · exact hx _ w
          · exact hy _ w
        obtain ⟨v, el⟩ := look_some inD
        obtain ⟨kvs, tt, hm, ev, htt⟩ := (hn.same (e3.trans rg.1)).get el
        refine ⟨t2, _, rfl, SqT.of (rg.1 _ _ ht2), rfl, _, _, rfl, _, _, rfl, rfl, rfl, ?_⟩
        refine ⟨_, rfl, _, rfl, m, _, rfl, dget_of hm ev, tt, _, 2, _, rfl, rfl, SqT.of htt, rfl, _, rfl, ?_⟩
        have ad : leftStill S n (d, some pp) = true → ∀ t, G t = none → ∃ zs, (upd G t (.tup [.str d, .str pp])) D3 = some (.lst zs) ∧ zs.length < sizeLine ∧ RowsG G3 (upd (upd G t (.tup [.str d, .str pp])) D3 (.lst (zs ++ [.ref t]))) D3 (((dueStill xs ys).take (i + 1)).filter (leftStill S n)) := fun w t ht => by
          rw [filt_yes er w]
          exact rg.add (d, some pp) (Nat.le_trans (filt_len i) (by omega)) hD3 (fun _ _ z => z) ht
        have eon : onJ S n d = decide (n ∈ v.hung) := onJ_eq el
        by_cases ho : n ∈ v.hung
        · refine if_f (by rw [decide_eq_true ho]; rfl) ⟨_, rfl, _, rfl, m, _, rfl, dget_of hm ev, tt, _, 0, _, rfl, rfl, SqT.of htt, rfl, _, rfl, rfl, _, rfl, ?_⟩
          by_cases hp : v.st = pp
          · refine if_f (by show (!decide (V.str v.st = V.str pp)) = false; rw [hp]; simp) ?_
            rw [filt_no er (by show (!onJ S n d || !decide (some (stOf S d) = some pp)) = false; rw [eon, stOf_eq el, hp, decide_eq_true ho]; simp)]
            exact rg
          · refine if_t (by show (!decide (V.str v.st = V.str pp)) = true; simp [hp]) ⟨_, rfl, _, rfl, (by show 2 ≤ sizeLine; decide), fun t ht => ?_⟩
            exact ad (by show (!onJ S n d || !decide (some (stOf S d) = some pp)) = true; rw [stOf_eq el]; simp [hp]) t ht
        · refine if_t (by rw [decide_eq_false ho]; rfl) (if_t rfl ⟨_, rfl, _, rfl, (by show 2 ≤ sizeLine; decide), fun t ht => ?_⟩)
          exact ad (by show (!onJ S n d || !decide (some (stOf S d) = some pp)) = true; rw [eon, decide_eq_false ho]; rfl) t ht
      · rintro G ⟨e4, tc, htc, rc⟩
        rw [List.length_map, Paired.length rab, List.take_length, due_still c1] at rc
        exact k G D3 tc (e3.trans e4) (e3.free hD3) htc rc
    refine if_f (decide_eq_false fun w => c1 (by injection w)) ⟨_, rfl, rfl, _, rfl, ?_⟩
    by_cases c2 : ph = "trial"
    · refine if_t (by rw [c2]; exact decide_eq_true rfl) ⟨_, rfl, b, _, rfl, SqL.of hb, fun p1 hp1 => ?_⟩
      rw [← List.map_reverse]
      have s0 := Same.newp (o := .lst (ys.reverse.map V.str)) hp1
      have hr1 : upd H p1 (.lst (ys.reverse.map V.str)) p1 = some (.lst (ys.reverse.map V.str)) := upd_same
      generalize upd H p1 (.lst (ys.reverse.map V.str)) = H1 at s0 hr1 ⊢
      refine ⟨p1, rfl, ⟨_, SqL.of hr1⟩, fun D hD => ?_⟩
      refine lc_list (K := K) (a := p1) (xs := ys.reverse.map V.str) (fun i G => RowsG H1 G D (rowsF (fun _ => true) (fun d => (d, some "shut")) (ys.reverse.take i))) (RowsG.new hD) (fun i G _ z => SqL.of (z.1 _ _ hr1)) ?_ ?_
      · rintro i y G hi rg
        rw [List.getElem?_map] at hi
        obtain ⟨x, ex, rfl⟩ := Option.map_eq_some_iff.mp hi
        refine ⟨rfl, _, rfl, (by show 2 ≤ sizeLine; decide), fun t ht => ?_⟩
        rw [rowsF_yes ex rfl]
        exact rg.add (x, some "shut") (Nat.le_trans (rowsF_len i) (by rw [List.length_reverse]; omega)) hD (fun _ _ z => z) ht
      rintro G1 rg1
      rw [List.length_map, List.take_length, tl] at rg1
      have e1 := s0.trans rg1.1
      refine ⟨_, rfl, a, _, rfl, SqL.of (e1 _ _ ha), fun p2 hp2 => ?_⟩
      rw [← List.map_reverse]
      have s1 := Same.newp (o := .lst (xs.reverse.map V.str)) hp2
      have hr2 : upd G1 p2 (.lst (xs.reverse.map V.str)) p2 = some (.lst (xs.reverse.map V.str)) := upd_same
      replace rg1 := rg1.same s1
      replace e1 := e1.trans s1
      generalize upd G1 p2 (.lst (xs.reverse.map V.str)) = H2 at s1 hr2 rg1 e1 ⊢
      refine ⟨p2, rfl, ⟨_, SqL.of hr2⟩, fun D2 hD2 => ?_⟩
      refine lc_list (K := K) (a := p2) (xs := xs.reverse.map V.str) (fun i G => RowsG H2 G D2 (rowsF (fun _ => true) (fun d => (d, some (homeOf S d))) (xs.reverse.take i))) (RowsG.new hD2) (fun i G _ z => SqL.of (z.1 _ _ hr2)) ?_ ?_
      · rintro i y G hi rg
        rw [List.getElem?_map] at hi
        obtain ⟨x, ex, rfl⟩ := Option.map_eq_some_iff.mp hi
        obtain ⟨v, el⟩ := look_some (hx x (List.mem_reverse.mp (List.mem_of_getElem? ex)))
        obtain ⟨kvs, tt, hm, ev, htt⟩ := (hn.same (e1.trans rg.1)).get el
        refine ⟨rfl, _, rfl, _, rfl, _, rfl, m, _, rfl, dget_of hm ev, tt, _, 1, _, rfl, rfl, SqT.of htt, rfl, (by show 2 ≤ sizeLine; decide), fun t ht => ?_⟩
        rw [rowsF_yes ex rfl, ← homeOf_eq el]
        exact rg.add (x, some (homeOf S x)) (Nat.le_trans (rowsF_len i) (by rw [List.length_reverse]; omega)) hD2 (fun _ _ z => z) ht
      rintro G2 rg2
      rw [List.length_map, List.take_length, tl] at rg2
      have e2 := e1.trans rg2.1
      obtain ⟨_, ta, hta, ra⟩ := rg1.same rg2.1
      obtain ⟨_, tb, htb, rb⟩ := rg2
      have la : ta.length = ys.length := by rw [Paired.length ra, List.length_map, List.length_reverse]
      have lb : tb.length = xs.length := by rw [Paired.length rb, List.length_map, List.length_reverse]
      refine ⟨D, D2, _, _, rfl, rfl, hta, htb, Nat.le_of_lt (small1000 (by rw [List.length_map, List.length_map]; omega)), fun F hF => ?_⟩
      rw [← List.map_append]
      have s9 := Same.newp (o := .lst ((ta ++ tb).map V.ref)) hF
      have rab : RowsP (upd G2 F (.lst ((ta ++ tb).map V.ref))) (ta ++ tb) (dueTrial S xs ys) := (RowsP.app ra rb).same s9
      have hF3 : upd G2 F (.lst ((ta ++ tb).map V.ref)) F = some (.lst ((ta ++ tb).map V.ref)) := upd_same
      have e3 := e2.trans s9
      generalize upd G2 F (.lst ((ta ++ tb).map V.ref)) = G3 at e3 rab hF3 ⊢
      have lab : (dueTrial S xs ys).length ≤ 104 := by
        rw [← Paired.length rab, List.length_append]
        omega
      refine ⟨_, rfl, F, rfl, ⟨_, SqL.of hF3⟩, fun D3 hD3 => ?_⟩
      refine lc_list (K := K) (a := F) (xs := (ta ++ tb).map V.ref) (fun i G => RowsG G3 G D3 (((dueTrial S xs ys).take i).filter (leftTrial S))) (RowsG.new hD3) (fun i G _ z => SqL.of (z.1 _ _ hF3)) ?_ ?_
      · rintro i y G hi rg
        rw [List.getElem?_map] at hi
        obtain ⟨t2, et2, rfl⟩ := Option.map_eq_some_iff.mp hi
        obtain ⟨r, er, ht2⟩ := rab.at et2
        obtain ⟨d, pp, rfl, dxy⟩ := mem_due (S := S) (.inr (List.mem_of_getElem? er))
        have inD : d ∈ keys S.devs := by
          rcases dxy with w | w
          · exact hx _ w
          · exact hy _ w
        obtain ⟨v, el⟩ := look_some inD
        obtain ⟨kvs, tt, hm, ev, htt⟩ := (hn.same (e3.trans rg.1)).get el
        refine ⟨t2, _, rfl, SqT.of (rg.1 _ _ ht2), rfl, _, _, rfl, _, _, rfl, rfl, rfl, ?_⟩
        refine ⟨_, rfl, _, rfl, m, _, rfl, dget_of hm ev, tt, _, 0, _, rfl, rfl, SqT.of htt, rfl, _, rfl, rfl, _, rfl, ?_⟩
        by_cases hp : v.st = pp
        · refine if_f (by show (!decide (V.str v.st = V.str pp)) = false; rw [hp]; simp) ?_
          rw [filt_no er (by show (!decide (some (stOf S d) = some pp)) = false; rw [stOf_eq el, hp]; simp)]
          exact rg
        · refine if_t (by show (!decide (V.str v.st = V.str pp)) = true; simp [hp]) ⟨_, rfl, _, rfl, (by show 2 ≤ sizeLine; decide), fun t ht => ?_⟩
          rw [filt_yes er (by show (!decide (some (stOf S d) = some pp)) = true; rw [stOf_eq el]; simp [hp])]
          exact rg.add (d, some pp) (Nat.le_trans (filt_len i) (by omega)) hD3 (fun _ _ z => z) ht
      · rintro G ⟨e4, tc, htc, rc⟩
        rw [List.length_map, Paired.length rab, List.take_length, due_trial hS c2 hy] at rc
        exact k G D3 tc (e3.trans e4) (e3.free hD3) htc rc
    refine if_f (decide_eq_false fun w => c2 (by injection w)) ⟨_, rfl, rfl, _, rfl, ?_⟩
    by_cases c3 : ph = "away"
    · refine if_t (by rw [c3]; exact decide_eq_true rfl) ⟨_, rfl, b, _, rfl, SqL.of hb, fun p1 hp1 => ?_⟩
      rw [← List.map_reverse]
      have s0 := Same.newp (o := .lst (ys.reverse.map V.str)) hp1
      refine ⟨_, rfl, a, _, rfl, SqL.of (s0 _ _ ha), fun p2 hp2 => ?_⟩
      rw [← List.map_reverse]
      have s1 := Same.newp (o := .lst (xs.reverse.map V.str)) hp2
      refine ⟨p1, p2, _, _, rfl, rfl, s1 _ _ upd_same, upd_same, Nat.le_of_lt (small1000 (by rw [List.length_map, List.length_map, List.length_reverse, List.length_reverse]; omega)), fun F hF => ?_⟩
      rw [← List.map_append]
      have e1 := (s0.trans s1).trans (Same.newp (o := .lst ((ys.reverse ++ xs.reverse).map V.str)) hF)
      have hF1 : (upd (upd (upd H p1 (.lst (ys.reverse.map V.str))) p2 (.lst (xs.reverse.map V.str))) F (.lst ((ys.reverse ++ xs.reverse).map V.str))) F = some (.lst ((ys.reverse ++ xs.reverse).map V.str)) := upd_same
      generalize upd (upd (upd H p1 (.lst (ys.reverse.map V.str))) p2 (.lst (xs.reverse.map V.str))) F (.lst ((ys.reverse ++ xs.reverse).map V.str)) = H1 at e1 hF1 ⊢
      refine ⟨F, rfl, ⟨_, SqL.of hF1⟩, fun D hD => ?_⟩
      refine lc_list (K := K) (a := F) (xs := (ys.reverse ++ xs.reverse).map V.str) (fun i G => RowsG H1 G D (rowsF (fun d => onJ S n d) (fun d => (d, none)) ((ys.reverse ++ xs.reverse).take i))) (RowsG.new hD) (fun i G _ z => SqL.of (z.1 _ _ hF1)) ?_ ?_
      · rintro i y G hi rg
        rw [List.getElem?_map] at hi
        obtain ⟨x, ex, rfl⟩ := Option.map_eq_some_iff.mp hi
        have inD : x ∈ keys S.devs := by
          rcases List.mem_append.mp (List.mem_of_getElem? ex) with w | w
          · exact hy x (List.mem_reverse.mp w)
          · exact hx x (List.mem_reverse.mp w)
        obtain ⟨v, el⟩ := look_some inD
        obtain ⟨kvs, tt, hm, ev, htt⟩ := (hn.same (e1.trans rg.1)).get el
        refine ⟨rfl, _, rfl, _, rfl, m, _, rfl, dget_of hm ev, tt, _, 2, _, rfl, rfl, SqT.of htt, rfl, _, rfl, ?_⟩
        have eon : onJ S n x = decide (n ∈ v.hung) := onJ_eq el
        by_cases ho : n ∈ v.hung
        · refine if_t (decide_eq_true ho) ⟨_, rfl, (by show 2 ≤ sizeLine; decide), fun t ht => ?_⟩
          rw [rowsF_yes ex (by rw [eon]; exact decide_eq_true ho)]
          exact rg.add (x, none) (Nat.le_trans (rowsF_len i) (by rw [List.length_append, List.length_reverse, List.length_reverse]; omega)) hD (fun _ _ z => z) ht
        · refine if_f (decide_eq_false ho) ?_
          rw [rowsF_no ex (by rw [eon]; exact decide_eq_false ho)]
          exact rg
      · rintro G ⟨e4, tc, htc, rc⟩
        rw [List.length_map, List.take_length] at rc
        refine k G D tc (e1.trans e4) (e1.free hD) htc ?_
        rw [stepsOf, if_neg c1, if_neg c2, if_pos c3]
        exact rc
    refine if_f (decide_eq_false fun w => c3 (by injection w)) ⟨(by show 0 ≤ sizeLine; decide), fun p hp => ?_⟩
    refine k _ p [] (Same.newp hp) hp upd_same ?_
    rw [stepsOf, if_neg c1, if_neg c2, if_neg c3]
    exact .nil
end
end SM
namespace SM
open PySem PySem.Spec PyProof.Rows L2
open Evl (tCut pss_cut)
section
variable {P : Program} {w : World} {K : PySem.W.Frag} {mg : Str → Option Value} {base : Heap} {C : Nat → Addr} {M L LJ : Addr}
theorem sc__law_stepped : FnScope ["_law_job", "_law_now", "_law_left_here", "_law_told", "_law_name_here", "_law_to"] ["_law_job", "_law_now", "_law_left_here"] (defScope s__law_stepped) := ⟨rfl, rfl, rfl, by decide +kernel, rfl, by decide +kernel, by decide +kernel⟩
theorem lo_stepped (T : Tx K mg C M L LJ) : OkQ P w K mg base CX0 10 "_law_stepped" ["_law_job", "_law_now", "_law_left_here"] (spSteppedJ L LJ) := by
  refine T.d_stepped.okQ sc__law_stepped (fun _ _ _ _ _ _ us hl => match us, hl with | [_, _, _], _ => rfl) (fun vs H Q E h => ?_) (fun f cdv Ar outer st H vs Q E qa hr h => ?_)
  · obtain ⟨B, S, J, j, m, l, r, rs, ts, rfl, _⟩ := h
    rfl
  · obtain ⟨B, S, J, j, m, l, r, rs, ts, rfl, h, hn, mB, one, aim, est, hl, rp, k⟩ := h
    have hu := hu_of hr
    refine ⟨_, (pss_cons (ps_set (i := 3) sc__law_stepped.nd rfl (Or.inl rfl) (pe_m0 (oj_step T.toJx) T.clJ (hr.mono (by decide)) pass0 (pv 0))) (pss_cons (ps_if (pt_not (pt_val (pe_q (lo_alike T) qa (hr.mono (by decide)) pass0 (pa_cons (pv 3) (pa_cons (pe_ix ix_list (pv 2) pe_int (fun _ _ => rfl)) pa_nil))))) (pss_one (ps_ret pe_bl)) pss_nil) (pss_cons (ps_asg (pv 3) (pg_tupK (K := K) (n := 2) rfl rfl (pgs_cons (pg_name (i := 4) sc__law_stepped.nd rfl (Or.inl rfl)) (pgs_cons (pg_name (i := 5) sc__law_stepped.nd rfl (Or.inl rfl)) pgs_nil)))) (pss_cons (ps_if (pt_cmpR op_isN (pv 5) pe_non (nomark _)) (pss_one (ps_dput hu (pv 1) (pv 4) (pe_tup (pa_cons (pe_ix ix_tup (pe_dget hu (pv 1) (pv 4) (fun _ _ => rfl)) pe_int (fun _ _ => rfl)) (pa_cons (pe_ix ix_tup (pe_dget hu (pv 1) (pv 4) (fun _ _ => rfl)) pe_int (fun _ _ => rfl)) (pa_cons pe_bl pa_nil)))) rfl)) (pss_one (ps_dput hu (pv 1) (pv 4) (pe_tup (pa_cons (pv 5) (pa_cons (pe_ix ix_tup (pe_dget hu (pv 1) (pv 4) (fun _ _ => rfl)) pe_int (fun _ _ => rfl)) (pa_cons pe_bl pa_nil)))) rfl))) (pss_one (ps_ret pe_bl)))))), ?_⟩
    obtain ⟨dx, ob⟩ := id h.jb.ob
    have hS := h.ok
    have sb := steps_sub hS h.jo.swI h.jo.drI r (by rw [est]; exact .head _)
    refine ⟨_, rfl, J.p, dx, _, rfl, ob, jfl_no J j (by decide +kernel), B, S, J, j, r, rs, rfl, h, aim, est, one.due h.jo.nmI sb.1, sb.2, sb.1, fun H1 J1 t h1 e1 k1 ht => ?_⟩
    cases rp with
    | cons ht0 rp =>
    rename_i t0 ts
    have hn1 := hn.kj k1 mB ⟨_, _, _, ob⟩
    have hl1 : H1 l = some (.lst ((t0 :: ts).map V.ref)) := k1.out _ _ hl (fun w => by
      obtain ⟨kvs, e⟩ := h.bd.dks _ w
      rw [hl] at e
      cases e) (ne_of hl ob (by intro w; cases w))
    refine ⟨_, rfl, _, rfl, l, _, 0, _, rfl, rfl, SqL.of hl1, atI_first _ _, _, _, _, rfl, rw_dp ht, rw_dp (k1.tup _ _ ht0), (rw_sm ⟨hS.dG _ sb.1, sb.2⟩).fine (by decide) (by decide), _, rfl, if_f rfl ?_⟩
    refine ⟨_, rfl, t, _, rfl, SqT.of ht, rfl, _, _, rfl, _, _, rfl, rfl, ?_⟩
    obtain ⟨z, o⟩ := r
    obtain ⟨v, el⟩ := look_some sb.1
    obtain ⟨kvs, tt, hm, ev, htt⟩ := hn1.get el
    have l60 : kvs.length < sizeLine := small1000 (by rw [NowAt.len hn1 hm]; have := hS.dL; omega)
    have fin : ∀ (st : Str) (b : Bool) (t3 : Addr) (f : DevV → DevV), H1 t3 = none → S.put (stepD j.nm (z, o)) = { S with devs := setT S.devs z f } → (f v).st = st → (f v).home = v.home → decide (j.nm ∈ (f v).hung) = b →
        Q (.bl true) (upd (upd H1 t3 (.tup [.str st, .str v.home, .bl b])) m (.dK (putK kvs (Sum.inr z) (.ref t3)))) := fun sv b t3 f g3 ep e1' e2' e3' => by
      have s3 := Same.newp (o := .tup [.str sv, .str v.home, .bl b]) g3
      have hm3 := s3 _ _ hm
      have nu : NowAt (upd (upd H1 t3 (.tup [.str sv, .str v.home, .bl b])) m (.dK (putK kvs (Sum.inr z) (.ref t3)))) m j.nm { S with devs := setT S.devs z f } :=
        (NowAt.same hn1 s3).put hS.dN el (f := f) (by rw [e1', e2', e3']; exact upd_same) hm3
      have kd : Keep [m] (upd H1 t3 (.tup [.str sv, .str v.home, .bl b])) (upd (upd H1 t3 (.tup [.str sv, .str v.home, .bl b])) m (.dK (putK kvs (Sum.inr z) (.ref t3)))) := Keep.dput hm3 (by simp)
      have eb : bms B (S.put (stepD j.nm (z, o))) = bms B S := stepD_bms
      refine k _ J1 ((h1.same s3).kept kd fun b mb w => mB ?_) e1 (by rw [ep]; exact nu) ((k1.mono fun x w => .tail _ w).trans ((KJ.same s3).trans ((KJ.of kd).mono fun x w => by rw [List.mem_singleton.mp w]; exact .head _)))
      rw [List.mem_singleton.mp mb, eb] at w
      exact w
    cases o with
    | none =>
      refine ⟨_, rfl, rfl, _, rfl, if_t rfl ?_⟩
      have hin : j.nm ∈ v.hung := by
        have e := stepsOf_none est
        rw [onJ_eq el] at e
        exact of_decide_eq_true e
      have hv := one.hungF hS el hin
      refine ⟨_, rfl, _, rfl, m, _, rfl, dget_of hm ev, tt, _, 1, _, rfl, rfl, SqT.of htt, rfl, _, rfl, _, rfl, m, _, rfl, dget_of hm ev, tt, _, 1, _, rfl, rfl, SqT.of htt, rfl, (by show 3 ≤ sizeLine; decide), fun t3 g3 => ?_⟩
      refine ⟨_, rfl, _, rfl, m, _, rfl, DPut.k (k := Sum.inr z) (Same.newp g3 _ _ hm) l60, ?_⟩
      refine fin v.home false t3 (fun d => { d with st := if j.nm ∈ d.hung ∧ d.hung.length = 1 then d.home else d.st, hung := d.hung.filter fun y => decide (y ≠ j.nm) }) g3 rfl ?_ rfl ?_
      · show (if j.nm ∈ v.hung ∧ v.hung.length = 1 then v.home else v.st) = v.home
        rw [if_pos ⟨hin, by rw [hv]; rfl⟩]
      · show decide (j.nm ∈ v.hung.filter fun y => decide (y ≠ j.nm)) = false
        rw [hv]
        simp
    | some p =>
      refine ⟨_, rfl, rfl, _, rfl, if_f rfl ?_⟩
      refine ⟨_, rfl, _, rfl, _, rfl, m, _, rfl, dget_of hm ev, tt, _, 1, _, rfl, rfl, SqT.of htt, rfl, (by show 3 ≤ sizeLine; decide), fun t3 g3 => ?_⟩
      refine ⟨_, rfl, _, rfl, m, _, rfl, DPut.k (k := Sum.inr z) (Same.newp g3 _ _ hm) l60, ?_⟩
      refine fin p true t3 (fun d => { d with st := p, hung := if j.nm ∈ d.hung then d.hung else d.hung ++ [j.nm] }) g3 rfl rfl rfl ?_
      show decide (j.nm ∈ if j.nm ∈ v.hung then v.hung else v.hung ++ [j.nm]) = true
      split
      · exact decide_eq_true (by assumption)
      · simp
theorem sc__law_onward : FnScope ["_law_bag_here", "_law_job", "_law_phase", "_law_way"] ["_law_bag_here", "_law_job", "_law_phase"] (defScope s__law_onward) := ⟨rfl, rfl, rfl, by decide +kernel, rfl, by decide +kernel, by decide +kernel⟩
theorem lo_onward (T : Tx K mg C M L LJ) : OkF P w K mg base CX0 11 "_law_onward" ["_law_bag_here", "_law_job", "_law_phase"] (spOnwardJ L LJ) := by
  refine T.d_onward.ok sc__law_onward (fun _ _ _ _ _ _ us hl => match us, hl with | [_, _, _], _ => rfl) (fun vs H Q E h => ?_) (fun f cdv Ar outer st H vs Q E hr h => ?_)
  · obtain ⟨p, q, B, S, J, j, rfl, _⟩ := h
    rfl
  · obtain ⟨p, q, B, S, J, j, rfl, Bg, h, hph, e0, oh, k⟩ := h
    have hu := hu_of hr
    refine ⟨_, (pss_cons (ps_set (i := 3) sc__law_onward.nd rfl (Or.inl rfl) (pe_f (ok_take T) (hr.mono (by decide)) pass0 (pa_cons (pv 0) (pa_cons pe_int pa_nil)))) (pss_cons (ps_if (pt_cmpR op_eq (pv 2) pe_str (nomark _)) (pss_one (ps_ret pe_str)) pss_nil) (pss_cons (ps_if (PW.pt (pw_and (pt_cmpR op_eq (pv 2) pe_str (nomark _)) (pw_and1 (pt_cmpR op_gt (pv 3) pe_int (nomark _))))) (pss_cons (ps_expr (pe_m0 (oj_give T.toJx) T.clJ (hr.mono (by decide)) pass0 (pv 1))) (pss_one (ps_ret pe_str))) pss_nil) (pss_cons (ps_if (PW.pt (pw_and (pt_cmpR op_eq (pv 2) pe_str (nomark _)) (pw_and1 (pt_cmpR op_gt (pv 3) pe_int (nomark _))))) (pss_cons (ps_expr (pe_m0 (oj_try_out T.toJx) T.clJ (hr.mono (by decide)) pass0 (pv 1))) (pss_one (ps_ret pe_str))) pss_nil) (pss_cons (ps_if (PW.pt (pw_and (pt_cmpR op_eq (pv 2) pe_str (nomark _)) (pw_and1 (pt_cmpR op_gt (pv 3) pe_int (nomark _))))) (pss_cons (ps_expr (pe_m0 (oj_go_on T.toJx) T.clJ (hr.mono (by decide)) pass0 (pv 1))) (pss_one (ps_ret pe_str))) pss_nil) (pss_cons (ps_if (pt_cmpR op_ne (pv 2) pe_str (nomark _)) (pss_one (ps_expr (pe_m0 (oj_put_by T.toJx) T.clJ (hr.mono (by decide)) pass0 (pv 1)))) pss_nil) (pss_one (ps_ret pe_str)))))))), ?_⟩
    obtain ⟨dx, ob⟩ := id h.jb.ob
    refine ⟨_, rfl, p, q, 3, rfl, Bg, by decide, by decide, fun v H1 v0 v1 B1 b1 => ?_⟩
    have k1 : Keep [p] H H1 := Keep.bag Bg B1 b1 (by simp)
    have pn : p ∉ bms B S := h.bd.pbag Bg
    have h1 := h.kept k1 (fun x mx w => pn (by rw [← List.mem_singleton.mp mx]; exact w))
    obtain ⟨dx, ob1⟩ := id h1.jb.ob
    have pj : p ≠ J.p := by
      obtain ⟨a, b, c, ns, BI⟩ := B1
      exact ne_of BI.top ob1 (by intro w; cases w)
    have bagk : ∀ {H2 : Hp}, KJ [] J.p H1 H2 → Bag H2 p q := fun {H2} kj => by
      obtain ⟨a, b, c, ns, BI⟩ := id B1
      refine B1.keep ?_ ?_
      · rw [kj.out _ _ BI.top (fun w => nomatch w) pj, BI.top]
      · rw [kj.out _ _ BI.low (fun w => nomatch w) (ne_of BI.low ob1 (by intro w; cases w)), BI.low]
    have kk : ∀ {H2 : Hp}, KJ [] J.p H1 H2 → KJ [p] J.p H H2 := fun kj => (KJ.of k1).trans (kj.mono fun _ w => nomatch w)
    refine ⟨_, rfl, rfl, _, rfl, if_f (decide_eq_false fun w => ?_) ?_⟩
    · injection w with w
      rcases hph with e | e | e <;> rw [e] at w <;> exact absurd w (by decide +kernel)
    rcases hph with e | e | e
    · refine ⟨_, rfl, rfl, _, rfl, if_t (by rw [e]; exact decide_eq_true rfl) ⟨_, rfl, _, _, rfl, rfl, _, rfl, ?_⟩⟩
      by_cases w0 : 0 < v
      · refine if_t (decide_eq_true w0) ⟨_, rfl, J.p, dx, _, rfl, ob1, jfl_no J j (by decide +kernel), B, S, J, j, rfl, h1, ⟨e, e0⟩, fun H2 J2 h2 e2 k2 => ?_⟩
        exact k H2 J2 "given" _ (.inl ⟨e, rfl, rfl⟩) h2 e2 (bagk k2) (kk k2)
      refine if_f (decide_eq_false w0) ?_
      refine ⟨_, rfl, rfl, _, rfl, if_f (decide_eq_false fun w => ?_) (if_f rfl ?_)⟩
      · injection w with w
        rw [e] at w
        exact absurd w (by decide +kernel)
      refine ⟨_, rfl, rfl, _, rfl, if_f (decide_eq_false fun w => ?_) (if_f rfl ?_)⟩
      · injection w with w
        rw [e] at w
        exact absurd w (by decide +kernel)
      refine ⟨_, rfl, rfl, _, rfl, if_t (by rw [e]; decide +kernel) ?_⟩
      refine ⟨_, rfl, J.p, dx, _, rfl, ob1, jfl_no J j (by decide +kernel), B, S, J, j, rfl, h1, ⟨.inl e, oh⟩, fun H2 J2 h2 e2 k2 => ?_⟩
      exact k H2 J2 "away" _ (.inr (.inr (.inr ⟨rfl, rfl⟩))) h2 e2 (bagk k2) (kk k2)
    · refine ⟨_, rfl, rfl, _, rfl, if_f (decide_eq_false fun w => ?_) (if_f rfl ?_)⟩
      · injection w with w
        rw [e] at w
        exact absurd w (by decide +kernel)
      refine ⟨_, rfl, rfl, _, rfl, if_t (by rw [e]; exact decide_eq_true rfl) ⟨_, rfl, _, _, rfl, rfl, _, rfl, ?_⟩⟩
      by_cases w0 : 0 < v
      · refine if_t (decide_eq_true w0) ⟨_, rfl, J.p, dx, _, rfl, ob1, jfl_no J j (by decide +kernel), B, S, J, j, rfl, h1, ⟨e, oh⟩, fun H2 J2 h2 e2 k2 => ?_⟩
        exact k H2 J2 "trial" _ (.inr (.inl ⟨e, rfl, rfl⟩)) h2 e2 (bagk k2) (kk k2)
      refine if_f (decide_eq_false w0) ?_
      refine ⟨_, rfl, rfl, _, rfl, if_f (decide_eq_false fun w => ?_) (if_f rfl ?_)⟩
      · injection w with w
        rw [e] at w
        exact absurd w (by decide +kernel)
      refine ⟨_, rfl, rfl, _, rfl, if_t (by rw [e]; decide +kernel) ?_⟩
      refine ⟨_, rfl, J.p, dx, _, rfl, ob1, jfl_no J j (by decide +kernel), B, S, J, j, rfl, h1, ⟨.inr (.inl e), oh⟩, fun H2 J2 h2 e2 k2 => ?_⟩
      exact k H2 J2 "away" _ (.inr (.inr (.inr ⟨rfl, rfl⟩))) h2 e2 (bagk k2) (kk k2)
    · refine ⟨_, rfl, rfl, _, rfl, if_f (decide_eq_false fun w => ?_) (if_f rfl ?_)⟩
      · injection w with w
        rw [e] at w
        exact absurd w (by decide +kernel)
      refine ⟨_, rfl, rfl, _, rfl, if_f (decide_eq_false fun w => ?_) (if_f rfl ?_)⟩
      · injection w with w
        rw [e] at w
        exact absurd w (by decide +kernel)
      refine ⟨_, rfl, rfl, _, rfl, if_t (by rw [e]; exact decide_eq_true rfl) ⟨_, rfl, _, _, rfl, rfl, _, rfl, ?_⟩⟩
      by_cases w0 : 0 < v
      · refine if_t (decide_eq_true w0) ⟨_, rfl, J.p, dx, _, rfl, ob1, jfl_no J j (by decide +kernel), B, S, J, j, rfl, h1, e, fun H2 J2 h2 e2 k2 => ?_⟩
        exact k H2 J2 "still" _ (.inr (.inr (.inl ⟨e, rfl, rfl⟩))) h2 e2 (bagk k2) (kk k2)
      refine if_f (decide_eq_false w0) ?_
      refine ⟨_, rfl, rfl, _, rfl, if_t (by rw [e]; decide +kernel) ?_⟩
      refine ⟨_, rfl, J.p, dx, _, rfl, ob1, jfl_no J j (by decide +kernel), B, S, J, j, rfl, h1, ⟨.inr (.inr e), oh⟩, fun H2 J2 h2 e2 k2 => ?_⟩
      exact k H2 J2 "away" _ (.inr (.inr (.inr ⟨rfl, rfl⟩))) h2 e2 (bagk k2) (kk k2)
theorem sc__law_turned : FnScope ["_law_bag_here", "_law_board", "_law_now", "_law_name_here", "_law_to"] ["_law_bag_here", "_law_board", "_law_now", "_law_name_here"] (defScope s__law_turned) := ⟨rfl, rfl, rfl, by decide +kernel, rfl, by decide +kernel, by decide +kernel⟩
theorem lo_turned (T : Tx K mg C M L LJ) : OkF P w K mg base CX0 9 "_law_turned" ["_law_bag_here", "_law_board", "_law_now", "_law_name_here"] (spTurnedJ L) := by
  refine T.d_turned.ok sc__law_turned (fun _ _ _ _ _ _ us hl => match us, hl with | [_, _, _, _], _ => rfl) (fun vs H Q E h => ?_) (fun f cdv Ar outer st H vs Q E hr h => ?_)
  · obtain ⟨p, q, m, B, S, n, d, rfl, _⟩ := h
    rfl
  · obtain ⟨p, q, m, B, S, n, d, rfl, Bg, bd, hS, hn, mB, one, inD, k⟩ := h
    have hu := hu_of hr
    refine ⟨_, (pss_one (ps_if (pt_not (pt_val (pe_ix ix_tup (pe_dget hu (pv 2) (pv 3) (fun _ _ => rfl)) pe_int (fun _ _ => rfl)))) (pss_cons (ps_set (i := 4) sc__law_turned.nd rfl (Or.inl rfl) (pe_ix ix_list (pe_lst (pa_cons pe_str (pa_cons pe_str pa_nil))) (pe_f (ok_take T) (hr.mono (by decide)) pass0 (pa_cons (pv 0) (pa_cons pe_int pa_nil))) (fun _ _ => rfl))) (pss_cons (ps_expr (pe_m (ok_turn T.toBx) T.cl (hr.mono (by decide)) passL (pv 1) (pa_cons (pv 3) (pa_cons (pv 4) pa_nil)))) (pss_one (ps_dput hu (pv 2) (pv 3) (pe_tup (pa_cons (pv 4) (pa_cons (pv 4) (pa_cons pe_bl pa_nil)))) rfl)))) pss_nil)), ?_⟩
    obtain ⟨v, el⟩ := look_some inD
    obtain ⟨kvs, tt, hm, ev, htt⟩ := hn.get el
    refine ⟨_, rfl, _, rfl, m, _, rfl, dget_of hm ev, tt, _, 2, _, rfl, rfl, SqT.of htt, rfl, _, rfl, ?_⟩
    by_cases ho : n ∈ v.hung
    · refine if_f (by rw [decide_eq_true ho]; rfl) ?_
      exact k H S (.inl rfl) bd hn Bg (Keep.of fun _ _ z => z)
    refine if_t (by rw [decide_eq_false ho]; rfl) ?_
    refine ⟨(by show 2 ≤ sizeLine; decide), fun l1 g1 => ?_⟩
    have s1 : Same H (upd H l1 (.lst [V.str "open", V.str "shut"])) := Same.newp g1
    refine ⟨_, rfl, p, q, 2, rfl, Bg.same s1, by decide, by decide, fun u H1 v0 v1 B1 b1 => ?_⟩
    have k1 : Keep [p] (upd H l1 (.lst [V.str "open", V.str "shut"])) H1 := Keep.bag (Bg.same s1) B1 b1 (by simp)
    have K1 : Keep [p] H H1 := (Keep.of s1).trans k1
    obtain ⟨y, ey, yp⟩ : ∃ y : Str, atI [V.str "open", V.str "shut"] u = some (.str y) ∧ y ∈ posL := by
      obtain rfl | rfl : u = 0 ∨ u = 1 := by omega
      · exact ⟨"open", rfl, by simp [posL]⟩
      · exact ⟨"shut", rfl, by simp [posL]⟩
    have pn : p ∉ bms B S := bd.pbag Bg
    have pm : p ≠ m := (Bg.nd hm).1
    have bd1 := bd.keep K1 (fun x mx w => pn (by rw [← List.mem_singleton.mp mx]; exact w))
    have hn1 := NowAt.keep hn K1 (fun w => pm (List.mem_singleton.mp w).symm)
    obtain ⟨dxb, obb⟩ := id bd1.ob
    have gz := hS.dG _ inD
    refine ⟨l1, _, u, _, rfl, rfl, SqL.of (k1.flat _ _ upd_same rfl), ey, ?_⟩
    refine ⟨_, rfl, B.p, dxb, _, rfl, obb, bfl_no B (by decide +kernel), _, rfl, _, rfl, B, .str d, .str y, true, true, S, rfl, bd1, hS, NameQ.of gz, PosQ.of yp, (fun w => Bool.noConfusion w), (fun _ w => Bool.noConfusion w), fun z1 y1 ez ey1 _ _ => ?_⟩
    cases ez
    cases ey1
    have due := one.turn (p := y) el ho
    refine ⟨fun _ H2 bd2 k2 => ?_, fun f ef => by rw [due] at ef; cases ef⟩
    have hn2 := NowAt.keep hn1 k2 mB
    obtain ⟨kvs2, tt2, hm2, ev2, htt2⟩ := hn2.get el
    refine ⟨_, rfl, _, rfl, (by show 3 ≤ sizeLine; decide), fun t3 g3 => ?_⟩
    have s3 := Same.newp (o := .tup [.str y, .str y, .bl false]) g3
    have hm3 := s3 _ _ hm2
    refine ⟨_, rfl, _, rfl, m, _, rfl, DPut.k (k := Sum.inr d) hm3 (small1000 (by rw [NowAt.len hn2 hm2]; have := hS.dL; omega)), ?_⟩
    have kd : Keep [m] (upd H2 t3 (.tup [.str y, .str y, .bl false])) (upd (upd H2 t3 (.tup [.str y, .str y, .bl false])) m (.dK (putK kvs2 (Sum.inr d) (.ref t3)))) := Keep.dput hm3 (by simp)
    have nu := (NowAt.same hn2 s3).put hS.dN el (f := fun d => { d with st := y, home := y }) (t := t3) (by
      have : decide (n ∈ v.hung) = false := decide_eq_false ho
      show _ = some (HO.tup [.str y, .str y, .bl (decide (n ∈ v.hung))])
      rw [this]
      exact upd_same) hm3
    have eb : bms B (S.put (.turn d y)) = bms B S := bms_setT (f := fun d => { d with st := y, home := y }) (fun _ => rfl)
    have K4 : Keep (p :: m :: bms B S) H (upd (upd H2 t3 (.tup [.str y, .str y, .bl false])) m (.dK (putK kvs2 (Sum.inr d) (.ref t3)))) :=
      (K1.mono fun x w => by rw [List.mem_singleton.mp w]; exact .head _).trans ((k2.mono fun x w => .tail _ (.tail _ w)).trans ((Keep.of s3).trans (kd.mono fun x w => by rw [List.mem_singleton.mp w]; exact .tail _ (.head _))))
    refine k _ (S.put (.turn d y)) (.inr ⟨y, v, yp, el, ho, rfl⟩) ((bd2.same s3).keep kd fun b mb w => mB ?_) nu (((B1.kept k2 pn).same s3).kept kd (fun w => pm (List.mem_singleton.mp w))) K4
    rw [List.mem_singleton.mp mb, eb] at w
    exact w
end
end SM
/-! Part W57: k61's world, and what its phase has to do with the job's. -/
namespace SM
open PySem PySem.Spec PyProof.Rows L2
/-! every second name -/
theorem evens_cons {α : Type} (y : α) : ∀ t : List α, evens (y :: t) = y :: evens (t.drop 1)
  | [] => rfl
  | _ :: _ => rfl
theorem evens_sub {α : Type} : ∀ {xs : List α}, (evens xs).Sublist xs
  | [] => List.Sublist.refl _
  | [x] => List.Sublist.refl _
  | x :: y :: t => ((evens_sub (xs := t)).cons y).cons₂ x
theorem evens_apart {α : Type} : ∀ {xs : List α}, xs.Nodup → ∀ z ∈ evens xs, z ∉ evens (xs.drop 1)
  | [], _, _, h => nomatch h
  | [x], _, _, _ => fun w => nomatch w
  | x :: y :: t, nd, z, h => by
    have n1 := List.nodup_cons.mp nd
    have n2 := List.nodup_cons.mp n1.2
    have sub : ∀ w ∈ evens (t.drop 1), w ∈ t := fun w m => List.mem_of_mem_drop (evens_sub.subset m)
    show z ∉ evens (y :: t)
    rw [evens_cons]
    intro m
    rcases List.mem_cons.mp (show z ∈ x :: evens t from h) with e | h
    · rcases List.mem_cons.mp m with e' | m
      · exact n1.1 (by rw [← e, e']; exact .head _)
      · exact n1.1 (by rw [← e]; exact .tail _ (sub z m))
    · rcases List.mem_cons.mp m with e' | m
      · exact n2.1 (by rw [← e']; exact evens_sub.subset h)
      · exact evens_apart n2.2 z h m
/-! compared with nothing -/
theorem rws_shaped {rs : List Row} (h : ∀ r ∈ rs, RowOk r) (l : rs.length ≤ 200) : SeqAt.shaped (.list (rs.map rwD)) = true := ((rws_sm h l).fine (by decide) (by decide)).shaped
theorem eqv_nilR {ds : List PyData} : PyData.eqv (.list ds) (.list []) = ds.isEmpty := by
  cases ds with
  | nil => simp [PyData.eqv, PyData.eqvAll]
  | cons a t => simp [PyData.eqv, PyData.eqvAll]
theorem ne_rows {K : PySem.W.Frag} {H : Hp} {l e : Addr} {ts : List Addr} {rs : List Row} {Q : VK} (hl : H l = some (.lst (ts.map V.ref))) (rp : RowsP H ts rs) (he : H e = some (.lst [])) (g : ∀ r ∈ rs, RowOk r) (l2 : rs.length ≤ 200) (k : Q (.bl (!rs.isEmpty)) H) : rNeD K (.ref l) (.ref e) H Q := by
  refine ⟨.list (rs.map rwD), .list [], .lst (SqL.of hl) (rws_dp rp), .lst (SqL.of he) .nil, rws_shaped g l2, by decide, ?_⟩
  rw [eqv_nilR, List.isEmpty_map]
  exact k
theorem eq_rows {K : PySem.W.Frag} {H : Hp} {l e : Addr} {ts : List Addr} {rs : List Row} {Q : VK} (hl : H l = some (.lst (ts.map V.ref))) (rp : RowsP H ts rs) (he : H e = some (.lst [])) (g : ∀ r ∈ rs, RowOk r) (l2 : rs.length ≤ 200) (k : Q (.bl rs.isEmpty) H) : rEqD K (.ref l) (.ref e) H Q := by
  refine ⟨.list (rs.map rwD), .list [], .lst (SqL.of hl) (rws_dp rp), .lst (SqL.of he) .nil, rws_shaped g l2, by decide, ?_⟩
  rw [eqv_nilR, List.isEmpty_map]
  exact k
/-! the phases -/
def phases : List Str := ["by", "still", "given", "trial", "away"]
theorem phase_small {p : Str} (m : p ∈ phases) : smallS p = true := by
  have : p = "by" ∨ p = "still" ∨ p = "given" ∨ p = "trial" ∨ p = "away" := by simpa [phases] using m
  rcases this with rfl | rfl | rfl | rfl | rfl <;> decide +kernel
/-- the law's phase and lists, the job's -/
structure Rel (S : BS) (j : JobV) (ph : Str) (xs ys : List Str) : Prop where
  e : j.ph = ph
  mem : ph ∈ phases
  ls : ph ≠ "by" → j.sw = xs ∧ j.dr = ys
  aw : ph = "away" → stepsOf S j ≠ []
theorem Rel.steps {S : BS} {j : JobV} {ph : Str} {xs ys : List Str} (h : Rel S j ph xs ys) (aim : j.aim = "by") : stepsOf S ⟨j.nm, ph, "by", xs, ys⟩ = stepsOf S j := by
  by_cases w : ph = "by"
  · have q : ∀ J : JobV, J.ph = "by" → stepsOf S J = [] := fun J e => by
      unfold stepsOf
      rw [e, if_neg (by decide +kernel), if_neg (by decide +kernel), if_neg (by decide +kernel)]
    rw [q j (h.e.trans w), q _ w]
  · obtain ⟨a, b⟩ := h.ls w
    obtain ⟨nm, jph, jaim, sw, dr⟩ := j
    have e := h.e
    dsimp only at e aim a b ⊢
    subst e aim a b
    rfl
/-- or gone, and the law hasn't seen it yet -/
def Rel2 (S : BS) (j : JobV) (ph : Str) (xs ys : List Str) : Prop := Rel S j ph xs ys ∨ (ph = "away" ∧ j.ph = "by" ∧ stepsOf S ⟨j.nm, "away", "by", xs, ys⟩ = [])
/-- where it goes away -/
theorem Rel2.away {S : BS} {j : JobV} {xs ys : List Str} (e1 : j.ph = "away") (e2 : j.aim = "by") (e3 : j.sw = xs) (e4 : j.dr = ys) : Rel2 S (leaveJ S j) "away" xs ys := by
  obtain ⟨nm, ph, aim, sw, dr⟩ := j
  dsimp only at e1 e2 e3 e4
  subst e1 e2 e3 e4
  unfold leaveJ
  by_cases w : stepsOf S ⟨nm, "away", "by", sw, dr⟩ = []
  · rw [if_pos ⟨rfl, w⟩]
    exact .inr ⟨rfl, rfl, w⟩
  · rw [if_neg fun z => w z.2]
    exact .inl ⟨rfl, by simp [phases], fun _ => ⟨rfl, rfl⟩, fun _ => w⟩
/-- the device turned bears no tag of the job: nothing to go away from changes -/
theorem onJ_turn {S : BS} {n d z p : Str} : onJ (S.put (.turn z p)) n d = onJ S n d := by
  unfold onJ
  show ((look (setT S.devs z fun d => { d with st := p, home := p }) d).map fun v => decide (n ∈ v.hung)).getD false = _
  rw [look_setT]
  by_cases h : d = z
  · rw [if_pos h, Option.map_map]
    rfl
  · rw [if_neg h]
theorem steps_turn {S : BS} {j : JobV} {z p : Str} (h : j.ph = "away") : stepsOf (S.put (.turn z p)) j = stepsOf S j := by
  have n1 : ¬ ("away" : Str) = "still" := by decide +kernel
  have n2 : ¬ ("away" : Str) = "trial" := by decide +kernel
  unfold stepsOf
  rw [h]
  simp only [n1, n2, if_false, if_true]
  unfold stepsAway
  congr 1
  refine List.filter_congr fun d _ => ?_
  exact onJ_turn
end SM
namespace SM
open PySem PySem.Spec PyProof.Rows L2
theorem Bag.kj {ms : List Addr} {jp p q : Addr} {H H' : Hp} {C dx : Addr} {fs : List (Str × V)} (B : Bag H p q) (k : KJ ms jp H H') (hj : H jp = some (.ins C dx fs)) (hp : p ∉ ms) : Bag H' p q := by
  obtain ⟨a, b, c, ns, BI⟩ := id B
  refine B.keep ?_ ?_
  · rw [k.out _ _ BI.top hp (ne_of BI.top hj (by intro w; cases w)), BI.top]
  · rw [k.flat _ _ BI.low (by
      rw [List.all_eq_true]
      intro x m
      obtain ⟨y, _, rfl⟩ := List.mem_map.mp m
      rfl), BI.low]
/-- what k61 holds while it goes on -/
structure W6 (L LJ : Addr) (G : Hp) (B : BA) (S : BS) (J : JA) (j : JobV) (p q m na : Addr) (ns : List Str) : Prop where
  jb : JB L LJ G B S J j
  bg : Bag G p q
  nw : NowAt G m j.nm S
  mB : m ∉ bms B S
  one : OneJ S j.nm
  oh : oneHand S j
  aim : j.aim = "by"
  hns : G na = some (.lst (ns.map V.str))
  kd : keys S.devs = ns
section
variable {L LJ : Addr} {G G' : Hp} {B : BA} {S : BS} {J J' : JA} {j j' : JobV} {p q m na : Addr} {ns : List Str} {ms : List Addr}
theorem W6.pms (h : W6 L LJ G B S J j p q m na ns) : p ∉ m :: bms B S := by
  obtain ⟨kvs, hm, _⟩ := h.nw
  intro w
  rcases List.mem_cons.mp w with w | w
  · exact (h.bg.nd hm).1 w
  · exact h.jb.bd.pbag h.bg w
theorem W6.draw (h : W6 L LJ G B S J j p q m na ns) (k : Keep [p] G G') (b : Bag G' p q) : W6 L LJ G' B S J j p q m na ns := by
  have pm := h.pms
  refine ⟨h.jb.kept k fun x mx w => pm (.tail _ (by rw [← List.mem_singleton.mp mx]; exact w)), b, NowAt.keep h.nw k fun w => pm (by rw [List.mem_singleton.mp w]; exact .head _), h.mB, h.one, h.oh, h.aim, k.flat _ _ h.hns (flat_strs _), h.kd⟩
theorem W6.same (h : W6 L LJ G B S J j p q m na ns) (s : Same G G') : W6 L LJ G' B S J j p q m na ns := h.draw (Keep.of s) (h.bg.same s)
/-- the job goes on, the board doesn't -/
theorem W6.job (h : W6 L LJ G B S J j p q m na ns) (k : KJ ms J.p G G') (hms : ∀ x ∈ ms, x = p) (b : Bag G' p q) (jb : JB L LJ G' B S J' j') (e1 : j'.nm = j.nm) (e2 : j'.aim = "by") : W6 L LJ G' B S J' j' p q m na ns := by
  have pm := h.pms
  obtain ⟨dx, ob⟩ := id h.jb.jb.ob
  refine ⟨jb, b, ?_, h.mB, by rw [e1]; exact h.one, by unfold oneHand; rw [e1]; exact h.oh, e2, k.flat _ _ h.hns (flat_strs _), h.kd⟩
  rw [e1]
  exact NowAt.kj h.nw k (fun w => pm (by rw [← hms _ w]; exact .head _)) ⟨_, _, _, ob⟩
theorem W6.job0 (h : W6 L LJ G B S J j p q m na ns) (k : KJ [] J.p G G') (jb : JB L LJ G' B S J' j') (e1 : j'.nm = j.nm) (e2 : j'.aim = "by") : W6 L LJ G' B S J' j' p q m na ns := by
  obtain ⟨dx, ob⟩ := id h.jb.jb.ob
  exact h.job k (fun _ w => nomatch w) (h.bg.kj k ob (fun w => nomatch w)) jb e1 e2
theorem leaveJ_nm {S : BS} {j : JobV} : (leaveJ S j).nm = j.nm := by
  unfold leaveJ
  split <;> rfl
theorem leaveJ_aim {S : BS} {j : JobV} : (leaveJ S j).aim = j.aim := by
  unfold leaveJ
  split <;> rfl
/-- a step is done -/
theorem W6.step (h : W6 L LJ G B S J j p q m na ns) {r : Row} (k : KJ (m :: bms B S) J.p G G') (jb : JB L LJ G' B (S.put (stepD j.nm r)) J' (leaveJ (S.put (stepD j.nm r)) j)) (nw : NowAt G' m j.nm (S.put (stepD j.nm r))) : W6 L LJ G' B (S.put (stepD j.nm r)) J' (leaveJ (S.put (stepD j.nm r)) j) p q m na ns := by
  obtain ⟨dx, ob⟩ := id h.jb.jb.ob
  obtain ⟨kd, kc⟩ := stepD_keys (S := S) (n := j.nm) (r := r)
  refine ⟨jb, h.bg.kj k ob h.pms, by rw [leaveJ_nm]; exact nw, by rw [stepD_bms]; exact h.mB, by rw [leaveJ_nm]; exact h.one.step r, ?_, by rw [leaveJ_aim]; exact h.aim, k.flat _ _ h.hns (flat_strs _), by rw [kd]; exact h.kd⟩
  unfold oneHand
  rw [leaveJ_nm, kc]
  exact h.oh
/-- a device is turned -/
theorem W6.turn (h : W6 L LJ G B S J j p q m na ns) {S' : BS} {d : Str} (hS' : S' = S ∨ ∃ pos v, pos ∈ posL ∧ look S.devs d = some v ∧ j.nm ∉ v.hung ∧ S' = S.put (.turn d pos)) (bd : BdAt L G' B S') (nw : NowAt G' m j.nm S') (b : Bag G' p q) (k : Keep (p :: m :: bms B S) G G') : W6 L LJ G' B S' J j p q m na ns := by
  obtain ⟨⟨dx, ob⟩, sw, dr⟩ := id h.jb.jb
  have jat : JobAt LJ G' J j := ⟨⟨dx, k.ins _ _ _ _ ob⟩, k.flat _ _ sw (flat_strs _), k.flat _ _ dr (flat_strs _)⟩
  have hl := k.flat _ _ h.hns (flat_strs _)
  rcases hS' with rfl | ⟨pos, v, pp, el, ho, rfl⟩
  · exact ⟨⟨bd, h.jb.ok, jat, h.jb.eb, h.jb.jo⟩, b, nw, h.mB, h.one, h.oh, h.aim, hl, h.kd⟩
  · have ok : (S.put (.turn d pos)).Ok := put_okK h.jb.ok (D := .turn d pos) ⟨h.jb.ok.dG _ (look_in el), pp⟩ (h.one.turn el ho) B.p
    have kd : keys (S.put (.turn d pos)).devs = keys S.devs := keys_setT (f := fun d : DevV => ({ d with st := pos, home := pos } : DevV))
    have jo : JobOk (S.put (.turn d pos)) j := ⟨h.jb.jo.nmI, by rw [kd]; exact h.jb.jo.swI, by rw [kd]; exact h.jb.jo.drI, h.jb.jo.swN, h.jb.jo.drN⟩
    refine ⟨⟨bd, ok, jat, h.jb.eb, jo⟩, b, nw, ?_, ?_, h.oh, h.aim, hl, by rw [kd]; exact h.kd⟩
    · rw [show bms B (S.put (.turn d pos)) = bms B S from bms_setT (f := fun d => { d with st := pos, home := pos }) (fun _ => rfl)]
      exact h.mB
    · exact h.one.setT fun v a b => ⟨a, b⟩
end
theorem Rel2.turn {S S' : BS} {j : JobV} {ph d n : Str} {xs ys : List Str} (h : Rel2 S j ph xs ys) (hS' : S' = S ∨ ∃ pos v, pos ∈ posL ∧ look S.devs d = some v ∧ n ∉ v.hung ∧ S' = S.put (.turn d pos)) : Rel2 S' j ph xs ys := by
  rcases hS' with rfl | ⟨pos, v, pp, el, ho, rfl⟩
  · exact h
  · rcases h with h | ⟨a, b, c⟩
    · refine .inl ⟨h.e, h.mem, h.ls, fun w => ?_⟩
      rw [steps_turn (h.e.trans w)]
      exact h.aw w
    · refine .inr ⟨a, b, ?_⟩
      rw [steps_turn rfl]
      exact c
/-- a device that is new in the table -/
theorem NowAt.add {H : Hp} {m : Addr} {n z st : Str} {a t : Addr} {S : BS} (h : NowAt H m n S) (no : z ∉ keys S.devs) (ht : H t = some (.tup [.str st, .str st, .bl false])) {kvs : List (Key × V)} (hm : H m = some (.dK kvs)) :
    NowAt (upd H m (.dK (putK kvs (Sum.inr z) (.ref t)))) m n (S.put (.add z st a)) := by
  obtain ⟨kvs', e, b⟩ := h
  rw [hm] at e
  injection e with e
  injection e with e
  subst e
  have tup : ∀ b xs, H b = some (.tup xs) → (upd H m (.dK (putK kvs (Sum.inr z) (.ref t)))) b = some (.tup xs) := fun b xs q => (upd_ne (ne_of q hm (by intro w; cases w))).trans q
  refine ⟨_, upd_same, ?_⟩
  exact (b.mono fun w d ⟨u, e, q⟩ => ⟨u, e, tup _ _ q⟩).put (G := NowG (upd H m (.dK (putK kvs (Sum.inr z) (.ref t)))) n) (look_none.mpr no) ⟨t, rfl, tup _ _ (by
    have : decide (n ∈ ([] : List Str)) = false := by simp
    dsimp only
    rw [this]
    exact ht)⟩
/-- nothing hangs, nothing is stuck, nobody is at work -/
def Idle (S : BS) : Prop := S.crews = [] ∧ ∀ d v, look S.devs d = some v → v.stk = false ∧ v.hung = []
theorem Idle.add {S : BS} {z p : Str} {a : Addr} (h : Idle S) (no : z ∉ keys S.devs) : Idle (S.put (.add z p a)) := by
  refine ⟨h.1, fun d v e => ?_⟩
  change look (S.devs ++ [(z, (⟨p, p, false, [], a⟩ : DevV))]) d = some v at e
  rw [look_snoc no] at e
  split at e
  · cases e
    exact ⟨rfl, rfl⟩
  · exact h.2 d v e
theorem Idle.one {S : BS} {n : Str} (h : Idle S) : OneJ S n := fun d v e => ⟨(h.2 d v e).1, fun j m => by rw [(h.2 d v e).2] at m; cases m⟩
theorem Idle.due {S : BS} {z p : Str} {a : Addr} (no : z ∉ keys S.devs) (l : S.devs.length < 52) : S.due (.add z p a) = none := by
  simp only [BS.due]
  rw [if_neg no, if_neg (by omega)]
theorem BS.new_ok : BS.new.Ok := ⟨List.nodup_nil, Nat.zero_le _, List.nodup_nil, Nat.zero_le _, (fun _ m => nomatch m), (fun _ m => nomatch m), (fun _ m => nomatch m), (fun _ m => nomatch m), (fun _ m => nomatch m)⟩
end SM
namespace SM
open PySem PySem.Spec PyProof.Rows L2
structure LsOk (ns xs ys : List Str) : Prop where
  sx : ∀ d ∈ xs, d ∈ ns
  sy : ∀ d ∈ ys, d ∈ ns
  lx : xs.length ≤ 52
  ly : ys.length ≤ 52
def At6 (R : BS → JobV → Str → List Str → List Str → Prop) (L LJ : Addr) (G : Hp) (B : BA) (p q m na : Addr) (ns : List Str) (jp : Addr) (ph : Str) (a b : Addr) : Prop :=
  ∃ (S : BS) (J : JA) (j : JobV) (xs ys : List Str), J.p = jp ∧ W6 L LJ G B S J j p q m na ns ∧ R S j ph xs ys ∧ G a = some (.lst (xs.map V.str)) ∧ G b = some (.lst (ys.map V.str)) ∧ LsOk ns xs ys
theorem left_ok {S : BS} {n ph : Str} {ns xs ys : List Str} (hS : S.Ok) (kd : keys S.devs = ns) (h : LsOk ns xs ys) : (∀ r ∈ stepsOf S ⟨n, ph, "by", xs, ys⟩, RowOk r) ∧ (stepsOf S ⟨n, ph, "by", xs, ys⟩).length ≤ 200 := by
  refine ⟨fun r m => ?_, Nat.le_trans (steps_len (j := ⟨n, ph, "by", xs, ys⟩) h.lx h.ly) (by decide)⟩
  have q := steps_sub (j := ⟨n, ph, "by", xs, ys⟩) hS (by rw [kd]; exact h.sx) (by rw [kd]; exact h.sy) r m
  exact ⟨hS.dG _ q.1, q.2⟩
theorem alike6 {K : PySem.W.Frag} {H : Hp} {l1 l2 p1 p2 : Addr} {ts1 ts2 : List Addr} {rs : List Row} {ph : Str} (h1 : H l1 = some (.lst [.str ph, .ref p1])) (h2 : H l2 = some (.lst [.str ph, .ref p2])) (hp1 : H p1 = some (.lst (ts1.map V.ref))) (rp1 : RowsP H ts1 rs) (hp2 : H p2 = some (.lst (ts2.map V.ref))) (rp2 : RowsP H ts2 rs) (phm : ph ∈ phases) (g : (∀ r ∈ rs, RowOk r) ∧ rs.length ≤ 200) :
    ∃ D, Dp K H (.ref l1) D ∧ Dp K H (.ref l2) D ∧ Fine D := by
  refine ⟨.list [.str ph, .list (rs.map rwD)], .lst (SqL.of h1) (.cons (.str _) (.cons (.lst (SqL.of hp1) (rws_dp rp1)) .nil)), .lst (SqL.of h2) (.cons (.str _) (.cons (.lst (SqL.of hp2) (rws_dp rp2)) .nil)), ?_⟩
  have q := Sm.lst (SmAll.cons ((sm_str (phase_small phm)).mono (k' := 2) (w' := 7000) (by decide) (by decide)) (SmAll.cons (rws_sm g.1 g.2) SmAll.nil))
  exact q.fine (by decide) (by show 2 * 7001 ≤ 100000; decide)
theorem leaveJ_no {S : BS} {j : JobV} (h : j.ph ≠ "away") : leaveJ S j = j := by
  unfold leaveJ
  rw [if_neg fun z => h z.1]
theorem Rel.stepped {S S' : BS} {j : JobV} {ph : Str} {xs ys : List Str} (h : Rel S j ph xs ys) (aim : j.aim = "by") (nb : ph ≠ "by") : Rel2 S' (leaveJ S' j) ph xs ys := by
  obtain ⟨a, b⟩ := h.ls nb
  by_cases w : ph = "away"
  · subst w
    exact Rel2.away h.e aim a b
  · rw [leaveJ_no fun z => w (h.e.symm.trans z)]
    exact .inl ⟨h.e, h.mem, fun _ => ⟨a, b⟩, fun z => absurd z w⟩
theorem Rel.to {S : BS} {j : JobV} {ph ph' : Str} {xs ys : List Str} (h : Rel S j ph xs ys) (nb : ph ≠ "by") (m : ph' ∈ phases) (na : ph' ≠ "away") : Rel S { j with ph := ph' } ph' xs ys :=
  ⟨rfl, m, fun _ => h.ls nb, fun z => absurd z na⟩
theorem Rel.put {S : BS} {j : JobV} {ph : Str} {xs ys : List Str} (h : Rel S j ph xs ys) (nb : ph ≠ "by") : Rel2 S (leaveJ S { j with ph := "away", aim := "by" }) "away" xs ys :=
  Rel2.away rfl rfl (h.ls nb).1 (h.ls nb).2
theorem Rel.on {S : BS} {j j' : JobV} {ph ph' : Str} {xs ys : List Str} (h : Rel S j ph xs ys) (nb : ph ≠ "by") (o : onwardR S j ph' j') : Rel2 S j' ph' xs ys ∧ j'.nm = j.nm ∧ (j.aim = "by" → j'.aim = "by") := by
  rcases o with ⟨_, rfl, rfl⟩ | ⟨_, rfl, rfl⟩ | ⟨_, rfl, rfl⟩ | ⟨rfl, rfl⟩
  · exact ⟨.inl (h.to nb (by simp [phases]) (by decide +kernel)), rfl, fun z => z⟩
  · exact ⟨.inl (h.to nb (by simp [phases]) (by decide +kernel)), rfl, fun z => z⟩
  · exact ⟨.inl (h.to nb (by simp [phases]) (by decide +kernel)), rfl, fun z => z⟩
  · exact ⟨h.put nb, leaveJ_nm, fun _ => leaveJ_aim⟩
theorem Rel.three {S : BS} {j : JobV} {ph : Str} {xs ys : List Str} (h : Rel S j ph xs ys) (nb : ph ≠ "by") (na : ph ≠ "away") : j.ph = "still" ∨ j.ph = "given" ∨ j.ph = "trial" := by
  have m := h.mem
  have : ph = "by" ∨ ph = "still" ∨ ph = "given" ∨ ph = "trial" ∨ ph = "away" := by simpa [phases] using m
  rw [h.e]
  rcases this with w | w | w | w | w
  · exact absurd w nb
  · exact .inl w
  · exact .inr (.inl w)
  · exact .inr (.inr w)
  · exact absurd w na
end SM
namespace SM
open PySem PySem.Spec PyProof.Rows L2
open Evl (tCut pss_cut)
section
variable {P : Program} {w : World} {K : PySem.W.Frag} {mg : Str → Option Value} {base : Heap} {C : Nat → Addr} {M L LJ : Addr}
theorem sc_law : FnScope ["_law_script", "_law_bag_here", "_law_names_here", "_law_now", "_law_board", "_law_name_here", "_law_home", "_law_job", "_law_phase", "_law_switches", "_law_drains", "_law_turn", "_law_left_here"] ["_law_script"] (defScope s_law) := ⟨rfl, rfl, rfl, by decide +kernel, rfl, by decide +kernel, by decide +kernel⟩
theorem lo_law (T : Tx K mg C M L LJ) : OkQ P w K mg base CX0 12 "law" ["_law_script"] (spLawL K) := by
  refine T.d_law.okQ sc_law (fun _ _ _ _ _ _ us hl => match us, hl with | [_], _ => rfl) (fun vs H Q E h => ?_) (fun f cdv Ar outer st H vs Q E qa hr h => ?_)
  · obtain ⟨a, ns, rfl, _⟩ := h
    rfl
  · obtain ⟨sa, nums, rfl, hSc, hl, k⟩ := h
    have hu := hu_of hr
    have hu6 := hu64 hr
    refine ⟨_, (pss_cons (ps_set (i := 1) sc_law.nd rfl (Or.inl rfl) (pe_f (ok_bag T) (hr.mono (by decide)) pass0 (pa_cons (pv 0) pa_nil))) (pss_cons (ps_set (i := 2) sc_law.nd rfl (Or.inl rfl) (pe_f (lo_names T) (hr.mono (by decide)) pass0 (pa_cons (pv 1) (pa_cons (pe_ix ix_list (pe_lst (pa_cons pe_int (pa_cons pe_int (pa_cons pe_int (pa_cons pe_int pa_nil))))) (pe_f (ok_take T) (hr.mono (by decide)) pass0 (pa_cons (pv 1) (pa_cons pe_int pa_nil))) (fun _ _ => rfl)) pa_nil)))) (pss_cons (ps_set (i := 3) sc_law.nd rfl (Or.inl rfl) pe_dnewK) (pss_cons (ps_set (i := 4) sc_law.nd rfl (Or.inl rfl) (pe_mk0 T.mkL T.kL (ok_initB T.toBx) (hr.mono (by decide)) T.gL pass0)) (pss_cons (ps_for PassesOwn.never rfl (pi_list (pv 2)) (pg_name (i := 5) sc_law.nd rfl (Or.inl rfl)) (pss_cons (ps_set (i := 6) sc_law.nd rfl (Or.inl rfl) (pe_ix ix_list (pe_lst (pa_cons pe_str (pa_cons pe_str pa_nil))) (pe_f (ok_take T) (hr.mono (by decide)) pass0 (pa_cons (pv 1) (pa_cons pe_int pa_nil))) (fun _ _ => rfl))) (pss_cons (ps_expr (pe_m (ok_add T.toBx) T.cl (hr.mono (by decide)) passL (pv 4) (pa_cons (pv 5) (pa_cons (pv 6) pa_nil)))) (pss_one (ps_dput hu (pv 3) (pv 5) (pe_tup (pa_cons (pv 6) (pa_cons (pv 6) (pa_cons pe_bl pa_nil)))) rfl))))) (pss_cons (ps_set (i := 7) sc_law.nd rfl (Or.inl rfl) (pe_mkA T.mkJ T.kJ (oj_init T.toJx) (hr.mono (by decide)) T.gJ pass0 (pa_cons (pv 4) (pa_cons (pe_f (lo_name T) (hr.mono (by decide)) pass0 (pa_cons (pv 1) pa_nil)) (pa_cons (pe_f (lo_name T) (hr.mono (by decide)) pass0 (pa_cons (pv 1) pa_nil)) (pa_cons (pe_f (lo_names T) (hr.mono (by decide)) pass0 (pa_cons (pv 1) (pa_cons pe_int pa_nil))) pa_nil)))))) (pss_cons (ps_set (i := 8) sc_law.nd rfl (Or.inl rfl) pe_str) (pss_cons (ps_par (i := 9) (j := 10) rfl sc_law.nd rfl rfl (by decide) rfl rfl (pa_cons (pe_lst pa_nil) (pa_cons (pe_lst pa_nil) pa_nil)) (by rfl)) (pss_cons (ps_for PassesOwn.never rfl (pi_range1 rfl T.b_range (pa_cons pe_int pa_nil)) (pg_name (i := 11) sc_law.nd rfl (Or.inl rfl)) (pss_cut (ps_if (pt_cmpR op_eq (pv 8) pe_str (nomark _)) (pss_cons (ps_set (i := 9) sc_law.nd rfl (Or.inl rfl) (pe_f (lo_some T) (hr.mono (by decide)) pass0 (pa_cons (pv 1) (pa_cons (pe_stepL0 (pv 2)) pa_nil)))) (pss_cons (ps_set (i := 10) sc_law.nd rfl (Or.inl rfl) (pe_f (lo_some T) (hr.mono (by decide)) pass0 (pa_cons (pv 1) (pa_cons (pe_stepL1 (pv 2)) pa_nil)))) (pss_cons (ps_expr (pe_m (oj_begin T.toJx) T.clJ (hr.mono (by decide)) pass0 (pv 7) (pa_cons (pe_callTy call_list_of (by rfl) T.b_list (by decide +kernel) (pa_cons (pv 9) pa_nil)) (pa_cons (pe_callTy call_list_of (by rfl) T.b_list (by decide +kernel) (pa_cons (pv 10) pa_nil)) pa_nil)))) (pss_one (ps_set (i := 8) sc_law.nd rfl (Or.inl rfl) pe_str))))) pss_nil) (pss_cons (ps_set (i := 12) sc_law.nd rfl (Or.inl rfl) (pe_f (lo_left T) (hr.mono (by decide)) pass0 (pa_cons (pv 8) (pa_cons (pv 9) (pa_cons (pv 10) (pa_cons (pv 3) pa_nil)))))) (pss_cons (ps_if (pt_not (pt_val (pe_q (lo_alike T) qa (hr.mono (by decide)) pass0 (pa_cons (pe_lst (pa_cons (pe_m0 (oj_phase T.toJx) T.clJ (hr.mono (by decide)) pass0 (pv 7)) (pa_cons (pe_m0 (oj_steps T.toJx) T.clJ (hr.mono (by decide)) pass0 (pv 7)) pa_nil))) (pa_cons (pe_lst (pa_cons (pv 8) (pa_cons (pv 12) pa_nil))) pa_nil))))) (pss_one (ps_ret pe_bl)) pss_nil) (pss_cut (ps_if (PW.pt (pw_and (pt_cmpR (op_neD hu6) (pv 12) (pe_lst pa_nil) (nomark _)) (pw_and1 (pt_cmpR op_gt (pe_f (ok_take T) (hr.mono (by decide)) pass0 (pa_cons (pv 1) (pa_cons pe_int pa_nil))) pe_int (nomark _))))) (pss_one (ps_if (pt_not (pt_val (pe_q (lo_stepped T) qa (hr.mono (by decide)) pass0 (pa_cons (pv 7) (pa_cons (pv 3) (pa_cons (pv 12) pa_nil)))))) (pss_one (ps_ret pe_bl)) pss_nil)) (pss_one (ps_if (PW.pt (pw_and (pt_cmpR op_eq (pv 8) pe_str (nomark _)) (pw_and1 (pt_cmpR (op_neD hu6) (pv 12) (pe_lst pa_nil) (nomark _))))) (pss_cons (ps_expr (pe_m0 (oj_go_on T.toJx) T.clJ (hr.mono (by decide)) pass0 (pv 7))) (pss_one (ps_set (i := 8) sc_law.nd rfl (Or.inl rfl) pe_str))) (pss_one (ps_if (pt_cmpR (op_neD hu6) (pv 12) (pe_lst pa_nil) (nomark _)) (pss_cons (ps_if (pt_cmpR op_ne (pv 8) pe_str (nomark _)) (pss_one (ps_expr (pe_m0 (oj_put_by T.toJx) T.clJ (hr.mono (by decide)) pass0 (pv 7)))) pss_nil) (pss_one (ps_set (i := 8) sc_law.nd rfl (Or.inl rfl) pe_str))) (pss_one (ps_set (i := 8) sc_law.nd rfl (Or.inl rfl) (pe_f (lo_onward T) (hr.mono (by decide)) pass0 (pa_cons (pv 1) (pa_cons (pv 7) (pa_cons (pv 8) pa_nil))))))))))) (pss_cons (ps_expr (pe_f (lo_turned T) (hr.mono (by decide)) pass0 (pa_cons (pv 1) (pa_cons (pv 4) (pa_cons (pv 3) (pa_cons (pe_ix ix_list (pv 2) (pe_f (ok_take T) (hr.mono (by decide)) pass0 (pa_cons (pv 1) (pa_cons (pe_callB call_len_seq (by rfl) T.b_len PySem.boot_len (pa_cons (pv 2) pa_nil)) pa_nil))) (fun _ _ => rfl)) pa_nil)))))) (pss_one (ps_if (PW.pt (pw_and (pt_cmpR op_eq (pv 8) pe_str (nomark _)) (pw_and1 (pt_cmpR (op_eqD hu6) (pe_f (lo_left T) (hr.mono (by decide)) pass0 (pa_cons (pv 8) (pa_cons (pv 9) (pa_cons (pv 10) (pa_cons (pv 3) pa_nil))))) (pe_lst pa_nil) (nomark _))))) (pss_one (ps_set (i := 8) sc_law.nd rfl (Or.inl rfl) pe_str)) pss_nil)))))))) (pss_one (ps_ret (pe_q (lo_alike T) qa (hr.mono (by decide)) pass0 (pa_cons (pe_lst (pa_cons (pe_m0 (oj_phase T.toJx) T.clJ (hr.mono (by decide)) pass0 (pv 7)) (pa_cons (pe_m0 (oj_steps T.toJx) T.clJ (hr.mono (by decide)) pass0 (pv 7)) pa_nil))) (pa_cons (pe_lst (pa_cons (pv 8) (pa_cons (pe_f (lo_left T) (hr.mono (by decide)) pass0 (pa_cons (pv 8) (pa_cons (pv 9) (pa_cons (pv 10) (pa_cons (pv 3) pa_nil))))) pa_nil))) pa_nil)))))))))))))), ?_⟩
    refine ⟨_, rfl, sa, nums, rfl, hSc, hl, fun H1 p q s1 hp hq B1 => ?_⟩
    refine ⟨_, rfl, (by show 4 ≤ sizeLine; decide), fun l1 g1 => ?_⟩
    have s2 : Same H1 (upd H1 l1 (.lst [V.int 1, V.int 2, V.int 5, V.int 24])) := Same.newp g1
    refine ⟨_, rfl, p, q, 4, rfl, B1.same s2, by decide, by decide, fun v H2 v0 v1 B2 b2 => ?_⟩
    have k2 : Keep [p] (upd H1 l1 (.lst [V.int 1, V.int 2, V.int 5, V.int 24])) H2 := Keep.bag (B1.same s2) B2 b2 (by simp)
    obtain ⟨nn, en, n1, n24⟩ : ∃ y : Nat, atI [V.int 1, V.int 2, V.int 5, V.int 24] v = some (.int (y : Int)) ∧ 1 ≤ y ∧ y ≤ 24 := by
      obtain rfl | rfl | rfl | rfl : v = 0 ∨ v = 1 ∨ v = 2 ∨ v = 3 := by omega
      · exact ⟨1, rfl, by decide⟩
      · exact ⟨2, rfl, by decide⟩
      · exact ⟨5, rfl, by decide⟩
      · exact ⟨24, rfl, by decide⟩
    refine ⟨l1, _, v, _, rfl, rfl, SqL.of (k2.flat _ _ upd_same rfl), en, p, q, nn, rfl, B2, n1, by omega, fun na ns H3 hna nd lns okn B3 k3 _ => ?_⟩
    refine fun m gm => ?_
    have s4 : Same H3 (upd H3 m (.dK [])) := Same.newp gm
    have hm4 : (upd H3 m (.dK [])) m = some (.dK []) := upd_same
    replace hna := s4 _ _ hna
    replace B3 := B3.same s4
    generalize upd H3 m (.dK []) = H4 at s4 hm4 hna B3 ⊢
    intro x dx nx ndx nex
    refine ⟨x, dx, rfl, upd_same, fun B H5 eA hB5 kp fresh has => ⟨rfl, ?_⟩⟩
    subst eA
    have e5 : Same H4 H5 := fun b u e => kp b u (by rw [upd_ne (ne_of_none e nx), upd_ne (ne_of_none e ndx)]; exact e) (ne_of_none e nx)
    have mB : m ∉ bms B BS.new := fun w => by
      have := fresh m w
      rw [upd_ne (ne_of_none hm4 nx), upd_ne (ne_of_none hm4 ndx), hm4] at this
      cases this
    replace B3 := B3.same e5
    have hna5 := e5 _ _ hna
    have hm5 := e5 _ _ hm4
    clear s4 hna hm4 kp fresh has nx ndx nex e5 k2 b2 B2 s2 s1
    refine ⟨_, rfl, na, rfl, ⟨_, SqL.of hna5⟩, ?_⟩
    refine for_list (K := K) (a := na) (xs := ns.map V.str) (fun i σ G => (∃ x5 x6 : Option V, σ = [some (.ref sa), some (.ref p), some (.ref na), some (.ref m), some (.ref B.p), x5, x6, none, none, none, none, none, none]) ∧ ∃ S, BdAt L G B S ∧ S.Ok ∧ (∀ n, NowAt G m n S) ∧ m ∉ bms B S ∧ Idle S ∧ keys S.devs = ns.take i ∧ Bag G p q ∧ G na = some (.lst (ns.map V.str)))
      ⟨⟨_, _, rfl⟩, BS.new, hB5, BS.new_ok, (fun n => ⟨[], hm5, .nil⟩), mB, ⟨rfl, fun d v e => by cases e⟩, rfl, B3, hna5⟩ (fun i σ G _ z => by obtain ⟨_, S, _, _, _, _, _, _, _, e⟩ := z; exact SqL.of e) ?_ ?_
    · clear hB5 mB B3 hna5 hm5
      rintro i y0 σ G hi ⟨⟨x5, x6, rfl⟩, S, bd, hS, hn, mB, idle, kd, Bg, hna⟩
      rw [List.getElem?_map] at hi
      obtain ⟨z, ez, rfl⟩ := Option.map_eq_some_iff.mp hi
      have li : i < ns.length := (List.getElem?_eq_some_iff.mp ez).1
      have tk : ns.take (i + 1) = ns.take i ++ [z] := by
        rw [List.take_add_one, ez]
        rfl
      have zN : z ∉ ns.take i := fun w => by
        have := nd.sublist (List.take_sublist (i + 1) ns)
        rw [tk] at this
        exact (List.nodup_append.mp this).2.2 z w z (by simp) rfl
      have zD : z ∉ keys S.devs := by rw [kd]; exact zN
      have gz : okName z = true := okn z (List.mem_of_getElem? ez)
      have nl : S.devs.length = i := by
        have e := congrArg List.length kd
        rw [keys, List.length_map, List.length_take] at e
        omega
      refine ⟨(by show 2 ≤ sizeLine; decide), fun l hl => ?_⟩
      have s1 : Same G (upd G l (.lst [V.str "open", V.str "shut"])) := Same.newp hl
      refine ⟨_, rfl, p, q, 2, rfl, Bg.same s1, by decide, by decide, fun v G1 v0 v1 B1 b1 => ?_⟩
      have k1' : Keep [p] (upd G l (.lst [V.str "open", V.str "shut"])) G1 := Keep.bag (Bg.same s1) B1 b1 (by simp)
      have k1 : Keep [p] G G1 := (Keep.of s1).trans k1'
      obtain ⟨y, ey, my⟩ := pickP v0 v1
      have pn : p ∉ bms B S := bd.pbag Bg
      have pm : p ≠ m := by
        obtain ⟨kvs, e, _⟩ := hn z
        exact (Bg.nd e).1
      have bd1 := bd.keep k1 (fun x mx w => pn (by rw [← List.mem_singleton.mp mx]; exact w))
      have hn1 : ∀ n, NowAt G1 m n S := fun n => NowAt.keep (hn n) k1 (fun w => pm (List.mem_singleton.mp w).symm)
      obtain ⟨dxb, obb⟩ := id bd1.ob
      refine ⟨l, _, v, _, rfl, rfl, SqL.of (k1'.flat _ _ upd_same rfl), ey, ?_⟩
      refine ⟨_, rfl, B.p, dxb, _, rfl, obb, bfl_no B (by decide +kernel), _, rfl, _, rfl, B, .str z, .str y, true, true, S, rfl, bd1, hS, NameQ.of gz, PosQ.of my, (fun w => Bool.noConfusion w), (fun _ w => Bool.noConfusion w), fun z1 y1 ez1 ey1 _ _ => ?_⟩
      cases ez1
      cases ey1
      have due : ∀ a, S.due (.add z y a) = none := fun a => Idle.due zD (by omega)
      refine ⟨(fun f a ef => by rw [due a] at ef; cases ef), fun G2 a _ ga bd2 k2 => ?_⟩
      have hn2 : ∀ n, NowAt G2 m n S := fun n => NowAt.keep (hn1 n) k2 mB
      obtain ⟨kvs, hm2, kr2⟩ := hn2 z
      refine ⟨_, rfl, _, rfl, (by show 3 ≤ sizeLine; decide), fun t3 g3 => ?_⟩
      have s3 := Same.newp (o := .tup [.str y, .str y, .bl false]) g3
      have hm3 := s3 _ _ hm2
      refine ⟨_, rfl, _, rfl, m, _, rfl, DPut.k (k := Sum.inr z) hm3 (small1000 (by rw [kr2.len]; omega)), ?_⟩
      have kd3 : Keep [m] (upd G2 t3 (.tup [.str y, .str y, .bl false])) (upd (upd G2 t3 (.tup [.str y, .str y, .bl false])) m (.dK (putK kvs (Sum.inr z) (.ref t3)))) := Keep.dput hm3 (by simp)
      have eb : bms B (S.put (.add z y a)) = bms B S ++ [a] := by simp [bms, BS.put]
      have mB2 : m ∉ bms B (S.put (.add z y a)) := by
        rw [eb]
        intro w
        rcases List.mem_append.mp w with w | w
        · exact mB w
        · obtain ⟨kvs1, hm1, _⟩ := hn1 z
          rw [← List.mem_singleton.mp w, hm1] at ga
          cases ga
      have K3 := (Keep.of (ms := [m]) s3).trans kd3
      refine ⟨⟨_, _, rfl⟩, S.put (.add z y a), (bd2.same s3).keep kd3 (fun b mb w => mB2 (by rw [← List.mem_singleton.mp mb]; exact w)), add_ok hS zD (by omega) gz my, (fun n => (NowAt.same (hn2 n) s3).add zD upd_same hm3), mB2, idle.add zD, ?_, (B1.kept k2 pn).kept K3 (fun w => pm (List.mem_singleton.mp w)), K3.flat _ _ (k2.flat _ _ (k1.flat _ _ hna (flat_strs _)) (flat_strs _)) (flat_strs _)⟩
      rw [tk, ← kd]
      simp [BS.put, keys]
    clear hB5 mB B3 hna5 hm5
    rintro σ G ⟨⟨x5, x6, rfl⟩, S, bd, hS, hn, mB, idle, kd, Bg, hna⟩
    rw [List.length_map, List.take_length] at kd
    have pn : p ∉ bms B S := bd.pbag Bg
    have pm : p ≠ m := by
      obtain ⟨kvs, e, _⟩ := hn ""
      exact (Bg.nd e).1
    refine ⟨_, rfl, _, rfl, p, q, rfl, Bg, fun jn G1 gj B1 k1 => ⟨_, rfl, p, q, rfl, B1, fun hand G2 gh B2 k2 => ⟨_, rfl, p, q, 2, rfl, B2, by decide, by decide, fun sr rooms G3 hsr rnd rlen rok B3 k3 fst => ?_⟩⟩⟩
    have kk : Keep [p] G G3 := (k1.trans k2).trans k3
    have nin : ∀ x ∈ [p], x ∉ bms B S := fun x mx w => pn (by rw [← List.mem_singleton.mp mx]; exact w)
    have bd3 := bd.keep kk nin
    have hn3 : ∀ n, NowAt G3 m n S := fun n => NowAt.keep (hn n) kk (fun w => pm (List.mem_singleton.mp w).symm)
    have hna3 := kk.flat _ _ hna (flat_strs _)
    clear k1 k2 k3 B1 B2 kk
    intro x dx nx ndx nex
    have s5 : Same G3 (upd (upd G3 dx (.own x)) x (.ins LJ dx [])) := fun b u e => by
      rw [upd_ne (ne_of_none e nx), upd_ne (ne_of_none e ndx)]
      exact e
    have ic : S.crews = [] := idle.1
    have bd5 := bd3.same s5
    refine ⟨x, dx, sr, B, S, jn, hand, rooms, rfl, upd_same, bd5, hS, gj, gh, (by rw [ic]; exact fun w => nomatch w), (by rw [ic]; decide), s5 _ _ hsr, rnd, by omega, by omega, rok, fun J a G5 eJ jb kj => ⟨rfl, ?_⟩⟩
    subst eJ
    have oj : (upd (upd G3 dx (.own J.p)) J.p (.ins LJ dx [])) J.p = some (.ins LJ dx []) := upd_same
    have W : W6 L LJ G5 B (S.put (.crew jn [hand] a)) J ⟨jn, "by", "by", [], []⟩ p q m na ns := by
      refine ⟨jb, (B3.same s5).kj kj oj pn, ?_, mB, ?_, ?_, rfl, kj.flat _ _ (s5 _ _ hna3) (flat_strs _), kd⟩
      · exact NowAt.kj (NowAt.same (hn3 jn) s5) kj mB ⟨_, _, _, oj⟩
      · exact fun d v e => (Idle.one (n := jn) idle) d v e
      · refine ⟨⟨a, [hand]⟩, ?_, rfl⟩
        show look (if jn ∈ keys S.crews then setT S.crews jn fun _ => ⟨a, [hand]⟩ else S.crews ++ [(jn, ⟨a, [hand]⟩)]) jn = _
        rw [ic, if_neg (fun w => nomatch w)]
        exact look_pos rfl
    clear jb kj oj s5 bd5 bd3 hn3 hna3 B3 hsr nx ndx nex bd hn idle hS mB kd Bg hna
    have R0 : Rel (S.put (.crew jn [hand] a)) ⟨jn, "by", "by", [], []⟩ "by" [] [] := ⟨rfl, .head _, (fun w => absurd rfl w), fun w => absurd w (by decide +kernel)⟩
    generalize S.put (.crew jn [hand] a) = S at W R0 ⊢
    generalize (⟨jn, "by", "by", [], []⟩ : JobV) = j at W R0 ⊢
    clear ic
    refine ⟨(by show 0 ≤ sizeLine; decide), fun a ga => ⟨(by show 0 ≤ sizeLine; decide), fun b gb => ⟨_, _, rfl, ?_⟩⟩⟩
    have e6 := (Same.newp (o := .lst []) ga).trans (Same.newp (o := .lst []) gb)
    have ha : (upd (upd G5 a (.lst [])) b (.lst [])) a = some (.lst (([] : List Str).map V.str)) := Same.newp gb _ _ upd_same
    have hb : (upd (upd G5 a (.lst [])) b (.lst [])) b = some (.lst (([] : List Str).map V.str)) := upd_same
    replace W := W.same e6
    generalize upd (upd G5 a (.lst [])) b (.lst []) = G6 at W ha hb ⊢
    clear e6 ga gb
    have nsl : ns.length ≤ 24 := by omega
    generalize hjp : J.p = jp
    refine ⟨_, rfl, by decide, by decide, ?_⟩
    refine for_range (lo := 0) (n := 40) (fun i σ G => ∃ (ph : Str) (a b : Addr) (x11 x12 : Option V), σ = [some (.ref sa), some (.ref p), some (.ref na), some (.ref m), some (.ref B.p), x5, x6, some (.ref jp), some (.str ph), some (.ref a), some (.ref b), x11, x12] ∧ At6 Rel L LJ G B p q m na ns jp ph a b)
      ⟨_, _, _, _, _, rfl, S, J, j, [], [], hjp, W, R0, ha, hb, ⟨(fun _ w => nomatch w), (fun _ w => nomatch w), Nat.zero_le _, Nat.zero_le _⟩⟩ ?_ ?_
    · clear W R0 ha hb hjp
      rintro i σ G hi ⟨ph, a, b, x11, x12, rfl, S, J, j, xs, ys, rfl, W, R, ha, hb, lo⟩
      refine ⟨fun σ G => ∃ (ph : Str) (a b : Addr) (x11 x12 : Option V), σ = [some (.ref sa), some (.ref p), some (.ref na), some (.ref m), some (.ref B.p), x5, x6, some (.ref J.p), some (.str ph), some (.ref a), some (.ref b), x11, x12] ∧ ph ≠ "by" ∧ At6 Rel L LJ G B p q m na ns J.p ph a b, ?_, ?_⟩
      · refine ⟨_, rfl, rfl, _, rfl, ?_⟩
        by_cases nb : ph = "by"
        rotate_left
        · exact if_f (decide_eq_false fun w => nb (by injection w)) ⟨ph, a, b, _, _, rfl, nb, S, J, j, xs, ys, rfl, W, R, ha, hb, lo⟩
        refine if_t (by rw [nb]; exact decide_eq_true rfl) ⟨_, rfl, _, rfl, na, _, rfl, SqL.of W.hns, fun r1 hr1 => ?_⟩
        rw [List.drop_zero, evens_map]
        have s1 := Same.newp (o := .lst ((evens ns).map V.str)) hr1
        have W1 := W.same s1
        refine ⟨p, q, r1, evens ns, rfl, W1.bg, upd_same, nd.sublist evens_sub, by have := evens_sub (xs := ns) |>.length_le; omega, fun a' xs' G2 ha' xnd xsub B2 k2 => ?_⟩
        have W2 := W1.draw k2 B2
        refine ⟨_, rfl, _, rfl, na, _, rfl, SqL.of W2.hns, fun r2 hr2 => ?_⟩
        rw [← List.map_drop, evens_map]
        have s3 := Same.newp (o := .lst ((evens (ns.drop 1)).map V.str)) hr2
        have W3 := W2.same s3
        have sub2 : (evens (ns.drop 1)).Sublist ns := evens_sub.trans (List.drop_sublist 1 ns)
        refine ⟨p, q, r2, evens (ns.drop 1), rfl, W3.bg, upd_same, nd.sublist sub2, by have := sub2.length_le; omega, fun b' ys' G4 hb' ynd ysub B4 k4 => ?_⟩
        have W4 := W3.draw k4 B4
        have ha4 := k4.flat _ _ (s3 _ _ ha') (flat_strs _)
        obtain ⟨dx, ob⟩ := id W4.jb.jb.ob
        refine ⟨_, rfl, J.p, dx, _, rfl, ob, jfl_no J j (by decide +kernel), _, rfl, a', _, rfl, .inl (SqL.of ha4), fun l1 hl1 => ?_⟩
        have s5 := Same.newp (o := .lst (xs'.map V.str)) hl1
        refine ⟨_, rfl, b', _, rfl, .inl (SqL.of (s5 _ _ hb')), fun l2 hl2 => ?_⟩
        have s6 := s5.trans (Same.newp (o := .lst (ys'.map V.str)) hl2)
        have W6 := W4.same s6
        have lo' : LsOk ns xs' ys' := ⟨fun d m => evens_sub.subset (xsub d m), fun d m => sub2.subset (ysub d m), by have := nodup_len xnd (ys := ns) (fun d m => evens_sub.subset (xsub d m)); omega, by have := nodup_len ynd (ys := ns) (fun d m => sub2.subset (ysub d m)); omega⟩
        refine ⟨B, S, J, j, l1, l2, xs', ys', rfl, W6.jb, R.e.trans nb, (Same.newp hl2) _ _ upd_same, upd_same, (by rw [W6.kd]; exact lo'.sx), (by rw [W6.kd]; exact lo'.sy), xnd, ynd, (fun d m1 m2 => evens_apart nd d (xsub d m1) (ysub d m2)), fun G7 J7 jb7 eJ7 k7 => ?_⟩
        exact ⟨"still", a', b', _, _, rfl, (by decide +kernel), S, J7, _, xs', ys', eJ7, W6.job0 k7 jb7 rfl W6.aim, ⟨rfl, by simp [phases], fun _ => ⟨rfl, rfl⟩, fun w => absurd w (by decide +kernel)⟩, k7.flat _ _ (s6 _ _ ha4) (flat_strs _), k7.flat _ _ (s6 _ _ hb') (flat_strs _), lo'⟩
      clear W R ha hb lo
      generalize J.p = jp
      rintro σ G ⟨ph, a, b, x11, x12, rfl, nb, S, J, j, xs, ys, rfl, W, R, ha, hb, lo⟩
      have hx : ∀ d ∈ xs, d ∈ keys S.devs := by rw [W.kd]; exact lo.sx
      have hy : ∀ d ∈ ys, d ∈ keys S.devs := by rw [W.kd]; exact lo.sy
      refine ⟨_, rfl, _, rfl, _, rfl, _, rfl, m, a, b, ph, j.nm, xs, ys, S, rfl, W.nw, W.jb.ok, ha, hb, hx, hy, lo.lx, lo.ly, fun G1 lp ts s1 _ hlp rp => ?_⟩
      have gd := left_ok (n := j.nm) (ph := ph) W.jb.ok W.kd lo
      have est := R.steps W.aim
      rw [est] at rp gd
      have W1 := W.same s1
      have ha1 := s1 _ _ ha
      have hb1 := s1 _ _ hb
      clear W ha hb s1
      obtain ⟨dx, ob⟩ := id W1.jb.jb.ob
      refine ⟨_, rfl, J.p, dx, _, rfl, ob, jfl_no J j (by decide +kernel), J, j, rfl, W1.jb.jb, _, rfl, J.p, dx, _, rfl, ob, jfl_no J j (by decide +kernel), B, S, J, j, rfl, W1.jb, fun G2 p2 ts2 s2 _ hp2 rp2 => ⟨(by show 2 ≤ sizeLine; decide), fun l1 g1 => ⟨_, rfl, _, rfl, (by show 2 ≤ sizeLine; decide), fun l2 g2 => ?_⟩⟩⟩
      rw [R.e] at g2 ⊢
      have sa1 := Same.newp (o := .lst [.str ph, .ref p2]) g1
      have sb1 := Same.newp (o := .lst [.str ph, .ref lp]) g2
      have s12 := sa1.trans sb1
      have s3 := s2.trans s12
      obtain ⟨D, d1, d2, fD⟩ := alike6 (K := K) (H := upd (upd G2 l1 (.lst [.str ph, .ref p2])) l2 (.lst [.str ph, .ref lp])) (l1 := l1) (l2 := l2) (sb1 _ _ upd_same) upd_same (s12 _ _ hp2) (rp2.same s12) (s3 _ _ hlp) (rp.same s3) R.mem gd
      refine ⟨_, _, D, rfl, d1, d2, fD, _, rfl, if_f rfl ?_⟩
      replace hlp := s3 _ _ hlp
      replace rp := rp.same s3
      replace W1 := W1.same s3
      replace ha1 := s3 _ _ ha1
      replace hb1 := s3 _ _ hb1
      clear d1 d2 fD hp2 rp2 s2 sa1 sb1 s12
      generalize upd (upd G2 l1 (.lst [.str ph, .ref p2])) l2 (.lst [.str ph, .ref lp]) = G3 at s3 hlp rp W1 ha1 hb1 ⊢
      clear s3 g1 g2 ob
      refine ⟨fun σ G => ∃ (ph : Str) (a b : Addr) (x11 x12 : Option V), σ = [some (.ref sa), some (.ref p), some (.ref na), some (.ref m), some (.ref B.p), x5, x6, some (.ref J.p), some (.str ph), some (.ref a), some (.ref b), x11, x12] ∧ At6 Rel2 L LJ G B p q m na ns J.p ph a b, ?_, ?_⟩
      · refine ⟨_, rfl, (by show 0 ≤ sizeLine; decide), fun e0 he0 => ne_rows ((Same.newp he0) _ _ hlp) (rp.same (Same.newp he0)) upd_same gd.1 gd.2 ⟨_, rfl, ?_⟩⟩
        have s4 := Same.newp (o := .lst []) he0
        have W4 := W1.same s4
        have ha4 := s4 _ _ ha1
        have hb4 := s4 _ _ hb1
        have hlp4 := s4 _ _ hlp
        have rp4 := rp.same s4
        clear W1 ha1 hb1 hlp rp
        generalize upd G3 e0 (.lst []) = G4 at s4 W4 ha4 hb4 hlp4 rp4 ⊢
        clear s4 he0
        obtain ⟨dx, ob⟩ := id W4.jb.jb.ob
        cases est : stepsOf S j with
        | nil =>
          rw [est] at rp4 gd
          have naw : ph ≠ "away" := fun w => R.aw w est
          refine if_f rfl (if_f rfl ⟨_, rfl, rfl, _, rfl, ?_⟩)
          by_cases nt : ph = "trial"
          · refine if_t (by rw [nt]; exact decide_eq_true rfl) ⟨_, rfl, (by show 0 ≤ sizeLine; decide), fun e1 he1 => ne_rows ((Same.newp he1) _ _ hlp4) (rp4.same (Same.newp he1)) upd_same gd.1 gd.2 ⟨_, rfl, if_f rfl ?_⟩⟩
            have s5 := Same.newp (o := .lst []) he1
            have W5 := W4.same s5
            have ha5 := s5 _ _ ha4
            have hb5 := s5 _ _ hb4
            have hlp5 := s5 _ _ hlp4
            have rp5 := rp4.same s5
            clear W4 ha4 hb4 hlp4 rp4
            refine ⟨_, rfl, (by show 0 ≤ sizeLine; decide), fun e3 he3 => ne_rows ((Same.newp he3) _ _ hlp5) (rp5.same (Same.newp he3)) upd_same gd.1 gd.2 ⟨_, rfl, if_f rfl ?_⟩⟩
            have W6' := W5.same (Same.newp (o := .lst []) he3)
            have ha6 := (Same.newp (o := .lst []) he3) _ _ ha5
            have hb6 := (Same.newp (o := .lst []) he3) _ _ hb5
            refine ⟨_, rfl, _, rfl, _, rfl, p, q, B, S, J, j, (by rw [R.e]; rfl), W6'.bg, W6'.jb, R.three nb naw, est, W6'.oh, fun G7 J7 ph7 j7 o7 jb7 eJ7 B7 k7 => ?_⟩
            obtain ⟨r7, en7, ea7⟩ := R.on nb o7
            exact ⟨ph7, a, b, _, _, rfl, S, J7, j7, xs, ys, eJ7, W6'.job k7 (fun x w => List.mem_singleton.mp w) B7 jb7 en7 (ea7 W6'.aim), r7, k7.flat _ _ ha6 (flat_strs _), k7.flat _ _ hb6 (flat_strs _), lo⟩
          · refine if_f (decide_eq_false fun w => nt (by injection w)) (if_f rfl ?_)
            have W5 := W4
            have ha5 := ha4
            have hb5 := hb4
            have hlp5 := hlp4
            have rp5 := rp4
            refine ⟨_, rfl, (by show 0 ≤ sizeLine; decide), fun e3 he3 => ne_rows ((Same.newp he3) _ _ hlp5) (rp5.same (Same.newp he3)) upd_same gd.1 gd.2 ⟨_, rfl, if_f rfl ?_⟩⟩
            have W6' := W5.same (Same.newp (o := .lst []) he3)
            have ha6 := (Same.newp (o := .lst []) he3) _ _ ha5
            have hb6 := (Same.newp (o := .lst []) he3) _ _ hb5
            refine ⟨_, rfl, _, rfl, _, rfl, p, q, B, S, J, j, (by rw [R.e]; rfl), W6'.bg, W6'.jb, R.three nb naw, est, W6'.oh, fun G7 J7 ph7 j7 o7 jb7 eJ7 B7 k7 => ?_⟩
            obtain ⟨r7, en7, ea7⟩ := R.on nb o7
            exact ⟨ph7, a, b, _, _, rfl, S, J7, j7, xs, ys, eJ7, W6'.job k7 (fun x w => List.mem_singleton.mp w) B7 jb7 en7 (ea7 W6'.aim), r7, k7.flat _ _ ha6 (flat_strs _), k7.flat _ _ hb6 (flat_strs _), lo⟩
        | cons r rest =>
          rw [est] at rp4 gd
          refine if_t rfl ⟨_, rfl, p, q, 9, rfl, W4.bg, by decide, by decide, fun v G5 v0 v1 B5 b5 => ⟨_, _, rfl, rfl, _, rfl, ?_⟩⟩
          have k5 : Keep [p] G4 G5 := Keep.bag W4.bg B5 b5 (by simp)
          have W5 := W4.draw k5 B5
          have ha5 := k5.flat _ _ ha4 (flat_strs _)
          have hb5 := k5.flat _ _ hb4 (flat_strs _)
          have hlp5 : G5 lp = some (.lst (ts.map V.ref)) := k5.out _ _ hlp4 (fun w => W4.bg.norefs hlp4 (List.mem_singleton.mp w))
          have rp5 : RowsP G5 ts (r :: rest) := Paired.mono (fun _ _ h => k5.tup _ _ h) rp4
          clear W4 ha4 hb4 hlp4 rp4 b5 k5 ob
          obtain ⟨dx, ob⟩ := id W5.jb.jb.ob
          by_cases w0 : 0 < v
          · refine if_t (decide_eq_true w0) ⟨_, rfl, _, rfl, _, rfl, B, S, J, j, m, lp, r, rest, ts, rfl, W5.jb, W5.nw, W5.mB, W5.one, W5.aim, est, hlp5, rp5, fun G6 J6 jb6 eJ6 nw6 k6 => ⟨_, rfl, if_f rfl ?_⟩⟩
            exact ⟨ph, a, b, _, _, rfl, _, J6, _, xs, ys, eJ6, W5.step k6 jb6 nw6, R.stepped W5.aim nb, k6.flat _ _ ha5 (flat_strs _), k6.flat _ _ hb5 (flat_strs _), lo⟩
          refine if_f (decide_eq_false w0) ⟨_, rfl, rfl, _, rfl, ?_⟩
          by_cases nt : ph = "trial"
          · refine if_t (by rw [nt]; exact decide_eq_true rfl) ⟨_, rfl, (by show 0 ≤ sizeLine; decide), fun e1 he1 => ne_rows ((Same.newp he1) _ _ hlp5) (rp5.same (Same.newp he1)) upd_same gd.1 gd.2 ⟨_, rfl, if_t rfl ?_⟩⟩
            have s6 := Same.newp (o := .lst []) he1
            have W6 := W5.same s6
            refine ⟨_, rfl, J.p, dx, _, rfl, s6 _ _ ob, jfl_no J j (by decide +kernel), B, S, J, j, rfl, W6.jb, R.e.trans nt, fun G7 J7 jb7 eJ7 k7 => ?_⟩
            exact ⟨"still", a, b, _, _, rfl, S, J7, _, xs, ys, eJ7, W6.job0 k7 jb7 rfl W6.aim, .inl (R.to nb (by simp [phases]) (by decide +kernel)), k7.flat _ _ (s6 _ _ ha5) (flat_strs _), k7.flat _ _ (s6 _ _ hb5) (flat_strs _), lo⟩
          refine if_f (decide_eq_false fun w => nt (by injection w)) (if_f rfl ⟨_, rfl, (by show 0 ≤ sizeLine; decide), fun e1 he1 => ne_rows ((Same.newp he1) _ _ hlp5) (rp5.same (Same.newp he1)) upd_same gd.1 gd.2 ⟨_, rfl, if_t rfl ⟨_, rfl, rfl, _, rfl, ?_⟩⟩⟩)
          have s6 := Same.newp (o := .lst []) he1
          have W6 := W5.same s6
          by_cases naw : ph = "away"
          · refine if_f (by rw [naw]; decide +kernel) ?_
            exact ⟨"away", a, b, _, _, rfl, S, J, j, xs, ys, rfl, W6, .inl (by rw [← naw]; exact R), s6 _ _ ha5, s6 _ _ hb5, lo⟩
          · refine if_t (by show (!decide (V.str ph = V.str "away")) = true; simp [naw]) ?_
            refine ⟨_, rfl, J.p, dx, _, rfl, s6 _ _ ob, jfl_no J j (by decide +kernel), B, S, J, j, rfl, W6.jb, ⟨R.three nb naw, W6.oh⟩, fun G7 J7 jb7 eJ7 k7 => ?_⟩
            exact ⟨"away", a, b, _, _, rfl, S, J7, _, xs, ys, eJ7, W6.job0 k7 jb7 leaveJ_nm leaveJ_aim, R.put nb, k7.flat _ _ (s6 _ _ ha5) (flat_strs _), k7.flat _ _ (s6 _ _ hb5) (flat_strs _), lo⟩
      clear W1 R ha1 hb1 hlp rp gd est lo hx hy
      generalize J.p = jp
      rintro σ G ⟨ph, a, b, x11, x12, rfl, S, J, j, xs, ys, rfl, W, R, ha, hb, lo⟩
      refine ⟨_, rfl, _, rfl, _, rfl, _, rfl, _, rfl, _, rfl, na, _, rfl, .inl (SqL.of W.hns), p, q, _, rfl, W.bg, by rw [List.length_map]; omega, by rw [List.length_map]; omega, fun v G1 v0 v1 B1 b1 => ?_⟩
      rw [List.length_map] at v1
      have k1 : Keep [p] G G1 := Keep.bag W.bg B1 b1 (by simp)
      have W1 := W.draw k1 B1
      obtain ⟨d, ed, az⟩ := atI_strs (rs := ns) v0 v1
      have inD : d ∈ keys S.devs := by rw [W.kd]; exact List.mem_of_getElem? ed
      refine ⟨na, _, v, _, rfl, rfl, SqL.of W1.hns, az, p, q, m, B, S, j.nm, d, rfl, W1.bg, W1.jb.bd, W1.jb.ok, W1.nw, W1.mB, W1.one, inD, fun G2 S' hS' bd' nw' B2 k2 => ?_⟩
      have W2 := W1.turn hS' bd' nw' B2 k2
      have R2 := R.turn hS'
      have ha2 := k2.flat _ _ (k1.flat _ _ ha (flat_strs _)) (flat_strs _)
      have hb2 := k2.flat _ _ (k1.flat _ _ hb (flat_strs _)) (flat_strs _)
      clear W W1 R ha hb k1 k2 hS' bd' nw' inD az B1 b1 B2
      refine ⟨_, rfl, rfl, _, rfl, ?_⟩
      by_cases naw : ph = "away"
      rotate_left
      · refine if_f (decide_eq_false fun w => naw (by injection w)) (if_f rfl ?_)
        refine ⟨ph, a, b, _, _, rfl, S', J, j, xs, ys, rfl, W2, ?_, ha2, hb2, lo⟩
        rcases R2 with r | ⟨w, _⟩
        · exact r
        · exact absurd w naw
      have hx : ∀ d ∈ xs, d ∈ keys S'.devs := by rw [W2.kd]; exact lo.sx
      have hy : ∀ d ∈ ys, d ∈ keys S'.devs := by rw [W2.kd]; exact lo.sy
      refine if_t (by rw [naw]; exact decide_eq_true rfl) ⟨_, rfl, _, rfl, _, rfl, _, rfl, m, a, b, ph, j.nm, xs, ys, S', rfl, W2.nw, W2.jb.ok, ha2, hb2, hx, hy, lo.lx, lo.ly, fun G3 lp ts s3 _ hlp rp => ⟨(by show 0 ≤ sizeLine; decide), fun e1 he1 => ?_⟩⟩
      have gd := left_ok (n := j.nm) (ph := ph) W2.jb.ok W2.kd lo
      have s4 := Same.newp (o := .lst []) he1
      refine eq_rows (s4 _ _ hlp) (rp.same s4) upd_same gd.1 gd.2 ⟨_, rfl, ?_⟩
      have s5 := s3.trans s4
      have W5 := W2.same s5
      rcases R2 with r | ⟨w, e1, e2⟩
      · have ne := r.aw naw
        rw [← r.steps W5.aim] at ne
        refine if_f (by rw [List.isEmpty_eq_false_iff]; exact ne) ?_
        exact ⟨ph, a, b, _, _, rfl, S', J, j, xs, ys, rfl, W5, r, s5 _ _ ha2, s5 _ _ hb2, lo⟩
      · refine if_t (by rw [naw, e2]; rfl) ?_
        exact ⟨"by", a, b, _, _, rfl, S', J, j, xs, ys, rfl, W5, ⟨e1, .head _, fun w => absurd rfl w, fun w => absurd w (by decide +kernel)⟩, s5 _ _ ha2, s5 _ _ hb2, lo⟩
    clear W R0 ha hb hjp
    rintro σ G ⟨ph, a, b, x11, x12, rfl, S, J, j, xs, ys, rfl, W, R, ha, hb, lo⟩
    obtain ⟨dx, ob⟩ := id W.jb.jb.ob
    refine ⟨_, rfl, J.p, dx, _, rfl, ob, jfl_no J j (by decide +kernel), J, j, rfl, W.jb.jb, _, rfl, J.p, dx, _, rfl, ob, jfl_no J j (by decide +kernel), B, S, J, j, rfl, W.jb, fun G2 p2 ts2 s2 _ hp2 rp2 => ⟨(by show 2 ≤ sizeLine; decide), fun l1 g1 => ?_⟩⟩
    have s3 := s2.trans (Same.newp (o := .lst [.str j.ph, .ref p2]) g1)
    have W3 := W.same s3
    have hx : ∀ d ∈ xs, d ∈ keys S.devs := by rw [W.kd]; exact lo.sx
    have hy : ∀ d ∈ ys, d ∈ keys S.devs := by rw [W.kd]; exact lo.sy
    refine ⟨_, rfl, _, rfl, _, rfl, _, rfl, _, rfl, m, a, b, ph, j.nm, xs, ys, S, rfl, W3.nw, W3.jb.ok, s3 _ _ ha, s3 _ _ hb, hx, hy, lo.lx, lo.ly, fun G4 lp ts s4 _ hlp rp => ⟨(by show 2 ≤ sizeLine; decide), fun l2 g2 => ?_⟩⟩
    have gd := left_ok (n := j.nm) (ph := ph) W3.jb.ok W3.kd lo
    have est := R.steps W3.aim
    rw [est] at rp gd
    have s5 := s4.trans (Same.newp (o := .lst [.str ph, .ref lp]) g2)
    have s6 := (Same.newp (o := .lst [.str j.ph, .ref p2]) g1).trans s5
    obtain ⟨D, d1, d2, fD⟩ := alike6 (K := K) (H := upd G4 l2 (.lst [.str ph, .ref lp])) (l1 := l1) (l2 := l2) (p1 := p2) (s5 _ _ (by rw [← R.e]; exact upd_same)) upd_same (s6 _ _ hp2) (rp2.same s6) (Same.newp g2 _ _ hlp) (rp.same (Same.newp g2)) R.mem gd
    exact ⟨_, _, D, rfl, d1, d2, fD, k _⟩
end
end SM
namespace SM
open PySem PySem.Spec PyProof.Rows L2
theorem all_mk {K : PySem.W.Frag} {h : Heap} {mg : Str → Option Value} (X : K.In h) (G : h.Ns mainGlobals mg)
    {fd0 : Addr} {fod0 kVd0 dcd0 pmd0 cdd0 ctd0 : Value} {odd0 and0 : Option Addr} {sld0 : Array (Option Value)}
    {fd1 : Addr} {fod1 kVd1 dcd1 pmd1 cdd1 ctd1 : Value} {odd1 and1 : Option Addr} {sld1 : Array (Option Value)}
    {fd2 : Addr} {fod2 kVd2 dcd2 pmd2 cdd2 ctd2 : Value} {odd2 and2 : Option Addr} {sld2 : Array (Option Value)}
    {fd3 : Addr} {fod3 kVd3 dcd3 pmd3 cdd3 ctd3 : Value} {odd3 and3 : Option Addr} {sld3 : Array (Option Value)}
    {fd4 : Addr} {fod4 kVd4 dcd4 pmd4 cdd4 ctd4 : Value} {odd4 and4 : Option Addr} {sld4 : Array (Option Value)}
    {fd5 : Addr} {fod5 kVd5 dcd5 pmd5 cdd5 ctd5 : Value} {odd5 and5 : Option Addr} {sld5 : Array (Option Value)}
    {fd6 : Addr} {fod6 kVd6 dcd6 pmd6 cdd6 ctd6 : Value} {odd6 and6 : Option Addr} {sld6 : Array (Option Value)}
    {fd7 : Addr} {fod7 kVd7 dcd7 pmd7 cdd7 ctd7 : Value} {odd7 and7 : Option Addr} {sld7 : Array (Option Value)}
    {fd8 : Addr} {fod8 kVd8 dcd8 pmd8 cdd8 ctd8 : Value} {odd8 and8 : Option Addr} {sld8 : Array (Option Value)}
    {fd9 : Addr} {fod9 kVd9 dcd9 pmd9 cdd9 ctd9 : Value} {odd9 and9 : Option Addr} {sld9 : Array (Option Value)}
    {fd10 : Addr} {fod10 kVd10 dcd10 pmd10 cdd10 ctd10 : Value} {odd10 and10 : Option Addr} {sld10 : Array (Option Value)}
    {fd11 : Addr} {fod11 kVd11 dcd11 pmd11 cdd11 ctd11 : Value} {odd11 and11 : Option Addr} {sld11 : Array (Option Value)}
    {fd12 : Addr} {fod12 kVd12 dcd12 pmd12 cdd12 ctd12 : Value} {odd12 and12 : Option Addr} {sld12 : Array (Option Value)}
    {fd13 : Addr} {fod13 kVd13 dcd13 pmd13 cdd13 ctd13 : Value} {odd13 and13 : Option Addr} {sld13 : Array (Option Value)}
    {fd14 : Addr} {fod14 kVd14 dcd14 pmd14 cdd14 ctd14 : Value} {odd14 and14 : Option Addr} {sld14 : Array (Option Value)}
    {fd15 : Addr} {fod15 kVd15 dcd15 pmd15 cdd15 ctd15 : Value} {odd15 and15 : Option Addr} {sld15 : Array (Option Value)}
    {fd16 : Addr} {fod16 kVd16 dcd16 pmd16 cdd16 ctd16 : Value} {odd16 and16 : Option Addr} {sld16 : Array (Option Value)}
    {fd17 : Addr} {fod17 kVd17 dcd17 pmd17 cdd17 ctd17 : Value} {odd17 and17 : Option Addr} {sld17 : Array (Option Value)}
    {CL : Addr}
    {fm0 : Addr} {fom0 kVm0 dcm0 pmm0 cdm0 ctm0 : Value} {odm0 anm0 : Option Addr} {slm0 : Array (Option Value)}
    {fm1 : Addr} {fom1 kVm1 dcm1 pmm1 cdm1 ctm1 : Value} {odm1 anm1 : Option Addr} {slm1 : Array (Option Value)}
    {fm2 : Addr} {fom2 kVm2 dcm2 pmm2 cdm2 ctm2 : Value} {odm2 anm2 : Option Addr} {slm2 : Array (Option Value)}
    {fm3 : Addr} {fom3 kVm3 dcm3 pmm3 cdm3 ctm3 : Value} {odm3 anm3 : Option Addr} {slm3 : Array (Option Value)}
    {fm4 : Addr} {fom4 kVm4 dcm4 pmm4 cdm4 ctm4 : Value} {odm4 anm4 : Option Addr} {slm4 : Array (Option Value)}
    {fm5 : Addr} {fom5 kVm5 dcm5 pmm5 cdm5 ctm5 : Value} {odm5 anm5 : Option Addr} {slm5 : Array (Option Value)}
    {fm6 : Addr} {fom6 kVm6 dcm6 pmm6 cdm6 ctm6 : Value} {odm6 anm6 : Option Addr} {slm6 : Array (Option Value)}
    {fm7 : Addr} {fom7 kVm7 dcm7 pmm7 cdm7 ctm7 : Value} {odm7 anm7 : Option Addr} {slm7 : Array (Option Value)}
    {fm8 : Addr} {fom8 kVm8 dcm8 pmm8 cdm8 ctm8 : Value} {odm8 anm8 : Option Addr} {slm8 : Array (Option Value)}
    {fm9 : Addr} {fom9 kVm9 dcm9 pmm9 cdm9 ctm9 : Value} {odm9 anm9 : Option Addr} {slm9 : Array (Option Value)}
    {fm10 : Addr} {fom10 kVm10 dcm10 pmm10 cdm10 ctm10 : Value} {odm10 anm10 : Option Addr} {slm10 : Array (Option Value)}
    {fm11 : Addr} {fom11 kVm11 dcm11 pmm11 cdm11 ctm11 : Value} {odm11 anm11 : Option Addr} {slm11 : Array (Option Value)}
    {fm12 : Addr} {fom12 kVm12 dcm12 pmm12 cdm12 ctm12 : Value} {odm12 anm12 : Option Addr} {slm12 : Array (Option Value)}
    {fm13 : Addr} {fom13 kVm13 dcm13 pmm13 cdm13 ctm13 : Value} {odm13 anm13 : Option Addr} {slm13 : Array (Option Value)}
    {fm14 : Addr} {fom14 kVm14 dcm14 pmm14 cdm14 ctm14 : Value} {odm14 anm14 : Option Addr} {slm14 : Array (Option Value)}
    {fm15 : Addr} {fom15 kVm15 dcm15 pmm15 cdm15 ctm15 : Value} {odm15 anm15 : Option Addr} {slm15 : Array (Option Value)}
    {fm16 : Addr} {fom16 kVm16 dcm16 pmm16 cdm16 ctm16 : Value} {odm16 anm16 : Option Addr} {slm16 : Array (Option Value)}
    {fm17 : Addr} {fom17 kVm17 dcm17 pmm17 cdm17 ctm17 : Value} {odm17 anm17 : Option Addr} {slm17 : Array (Option Value)}
    {fm18 : Addr} {fom18 kVm18 dcm18 pmm18 cdm18 ctm18 : Value} {odm18 anm18 : Option Addr} {slm18 : Array (Option Value)}
    {fm19 : Addr} {fom19 kVm19 dcm19 pmm19 cdm19 ctm19 : Value} {odm19 anm19 : Option Addr} {slm19 : Array (Option Value)}
    {CJ : Addr}
    {fj0 : Addr} {foj0 kVj0 dcj0 pmj0 cdj0 ctj0 : Value} {odj0 anj0 : Option Addr} {slj0 : Array (Option Value)}
    {fj1 : Addr} {foj1 kVj1 dcj1 pmj1 cdj1 ctj1 : Value} {odj1 anj1 : Option Addr} {slj1 : Array (Option Value)}
    {fj2 : Addr} {foj2 kVj2 dcj2 pmj2 cdj2 ctj2 : Value} {odj2 anj2 : Option Addr} {slj2 : Array (Option Value)}
    {fj3 : Addr} {foj3 kVj3 dcj3 pmj3 cdj3 ctj3 : Value} {odj3 anj3 : Option Addr} {slj3 : Array (Option Value)}
    {fj4 : Addr} {foj4 kVj4 dcj4 pmj4 cdj4 ctj4 : Value} {odj4 anj4 : Option Addr} {slj4 : Array (Option Value)}
    {fj5 : Addr} {foj5 kVj5 dcj5 pmj5 cdj5 ctj5 : Value} {odj5 anj5 : Option Addr} {slj5 : Array (Option Value)}
    {fj6 : Addr} {foj6 kVj6 dcj6 pmj6 cdj6 ctj6 : Value} {odj6 anj6 : Option Addr} {slj6 : Array (Option Value)}
    {fj7 : Addr} {foj7 kVj7 dcj7 pmj7 cdj7 ctj7 : Value} {odj7 anj7 : Option Addr} {slj7 : Array (Option Value)}
    {fj8 : Addr} {foj8 kVj8 dcj8 pmj8 cdj8 ctj8 : Value} {odj8 anj8 : Option Addr} {slj8 : Array (Option Value)}
    {fj9 : Addr} {foj9 kVj9 dcj9 pmj9 cdj9 ctj9 : Value} {odj9 anj9 : Option Addr} {slj9 : Array (Option Value)}
    {fj10 : Addr} {foj10 kVj10 dcj10 pmj10 cdj10 ctj10 : Value} {odj10 anj10 : Option Addr} {slj10 : Array (Option Value)}
    {fj11 : Addr} {foj11 kVj11 dcj11 pmj11 cdj11 ctj11 : Value} {odj11 anj11 : Option Addr} {slj11 : Array (Option Value)}
    {fj12 : Addr} {foj12 kVj12 dcj12 pmj12 cdj12 ctj12 : Value} {odj12 anj12 : Option Addr} {slj12 : Array (Option Value)}
    {fj13 : Addr} {foj13 kVj13 dcj13 pmj13 cdj13 ctj13 : Value} {odj13 anj13 : Option Addr} {slj13 : Array (Option Value)}
    {fj14 : Addr} {foj14 kVj14 dcj14 pmj14 cdj14 ctj14 : Value} {odj14 anj14 : Option Addr} {slj14 : Array (Option Value)}
    {fj15 : Addr} {foj15 kVj15 dcj15 pmj15 cdj15 ctj15 : Value} {odj15 anj15 : Option Addr} {slj15 : Array (Option Value)}
    {fj16 : Addr} {foj16 kVj16 dcj16 pmj16 cdj16 ctj16 : Value} {odj16 anj16 : Option Addr} {slj16 : Array (Option Value)}
    {fj17 : Addr} {foj17 kVj17 dcj17 pmj17 cdj17 ctj17 : Value} {odj17 anj17 : Option Addr} {slj17 : Array (Option Value)}
    {fj18 : Addr} {foj18 kVj18 dcj18 pmj18 cdj18 ctj18 : Value} {odj18 anj18 : Option Addr} {slj18 : Array (Option Value)}
    {fj19 : Addr} {foj19 kVj19 dcj19 pmj19 cdj19 ctj19 : Value} {odj19 anj19 : Option Addr} {slj19 : Array (Option Value)}
    {fj20 : Addr} {foj20 kVj20 dcj20 pmj20 cdj20 ctj20 : Value} {odj20 anj20 : Option Addr} {slj20 : Array (Option Value)}
    {fj21 : Addr} {foj21 kVj21 dcj21 pmj21 cdj21 ctj21 : Value} {odj21 anj21 : Option Addr} {slj21 : Array (Option Value)}
    {fj22 : Addr} {foj22 kVj22 dcj22 pmj22 cdj22 ctj22 : Value} {odj22 anj22 : Option Addr} {slj22 : Array (Option Value)}
    {t_MOST_IN_STRETCH : Tok}
    {t_LONGEST_NAME : Tok}
    {t_MOST_NAMES : Tok}
    {t_MOST_IN_CREW : Tok}
    {t_MOST_DEVICES : Tok}
    {t_MOST_JOBS : Tok}
    {CM NM : Addr} {nmM qM : Str} {bsM sbM : List Value} {snM : List Str} {abM : Bool} {coM : Option Bool} {ddM : Option Addr} {mM zM yM xM wM : Option Value}
    {C0 N0 : Addr} {nm0 q0 : Str} {bs0 sb0 : List Value} {sn0 : List Str} {ab0 : Bool} {co0 : Option Bool} {dd0 : Option Addr} {m0 z0 y0 x0 w0 : Option Value}
    {C1 N1 : Addr} {nm1 q1 : Str} {bs1 sb1 : List Value} {sn1 : List Str} {ab1 : Bool} {co1 : Option Bool} {dd1 : Option Addr} {m1 z1 y1 x1 w1 : Option Value}
    {C2 N2 : Addr} {nm2 q2 : Str} {bs2 sb2 : List Value} {sn2 : List Str} {ab2 : Bool} {co2 : Option Bool} {dd2 : Option Addr} {m2 z2 y2 x2 w2 : Option Value}
    {C3 N3 : Addr} {nm3 q3 : Str} {bs3 sb3 : List Value} {sn3 : List Str} {ab3 : Bool} {co3 : Option Bool} {dd3 : Option Addr} {m3 z3 y3 x3 w3 : Option Value}
    {C4 N4 : Addr} {nm4 q4 : Str} {bs4 sb4 : List Value} {sn4 : List Str} {ab4 : Bool} {co4 : Option Bool} {dd4 : Option Addr} {m4 z4 y4 x4 w4 : Option Value}
    {C5 N5 : Addr} {nm5 q5 : Str} {bs5 sb5 : List Value} {sn5 : List Str} {ab5 : Bool} {co5 : Option Bool} {dd5 : Option Addr} {m5 z5 y5 x5 w5 : Option Value}
    {C6 N6 : Addr} {nm6 q6 : Str} {bs6 sb6 : List Value} {sn6 : List Str} {ab6 : Bool} {co6 : Option Bool} {dd6 : Option Addr} {m6 z6 y6 x6 w6 : Option Value}
    {g0 : Addr} {go0 gV0 gc0 gm0 gd0 gt0 : Value} {gO0 gA0 : Option Addr} {gs0 : Array (Option Value)}
    {g1 : Addr} {go1 gV1 gc1 gm1 gd1 gt1 : Value} {gO1 gA1 : Option Addr} {gs1 : Array (Option Value)}
    {g2 : Addr} {go2 gV2 gc2 gm2 gd2 gt2 : Value} {gO2 gA2 : Option Addr} {gs2 : Array (Option Value)}
    {g3 : Addr} {go3 gV3 gc3 gm3 gd3 gt3 : Value} {gO3 gA3 : Option Addr} {gs3 : Array (Option Value)}
    {g4 : Addr} {go4 gV4 gc4 gm4 gd4 gt4 : Value} {gO4 gA4 : Option Addr} {gs4 : Array (Option Value)}
    {g5 : Addr} {go5 gV5 gc5 gm5 gd5 gt5 : Value} {gO5 gA5 : Option Addr} {gs5 : Array (Option Value)}
    {g6 : Addr} {go6 gV6 gc6 gm6 gd6 gt6 : Value} {gO6 gA6 : Option Addr} {gs6 : Array (Option Value)}
    {PO : Addr} {odP : Option Addr} {nP : Nat} {tP1 tP2 : Tok} {slP : Array (Option Value)}
    (ad0 : PySem.W.nsIn K mainGlobals "need" = some (some (.ref fd0)))
    (ld0 : K.lookup fd0 = some ⟨fod0, odd0, .func (PySem.W.fnOf "need" "need" (defArgs s_need) (defBody s_need) (defScope s_need) .none kVd0 dcd0 pmd0 and0 cdd0 ctd0), sld0⟩)
    (cd0 : PySem.W.codeIn K cdd0 "need" = true) (kd0 : PySem.W.keepIn K (.ref fd0) = true)
    (ad1 : PySem.W.nsIn K mainGlobals "is_name" = some (some (.ref fd1)))
    (ld1 : K.lookup fd1 = some ⟨fod1, odd1, .func (PySem.W.fnOf "is_name" "is_name" (defArgs s_is_name) (defBody s_is_name) (defScope s_is_name) .none kVd1 dcd1 pmd1 and1 cdd1 ctd1), sld1⟩)
    (cd1 : PySem.W.codeIn K cdd1 "is_name" = true) (kd1 : PySem.W.keepIn K (.ref fd1) = true)
    (ad2 : PySem.W.nsIn K mainGlobals "is_position" = some (some (.ref fd2)))
    (ld2 : K.lookup fd2 = some ⟨fod2, odd2, .func (PySem.W.fnOf "is_position" "is_position" (defArgs s_is_position) (defBody s_is_position) (defScope s_is_position) .none kVd2 dcd2 pmd2 and2 cdd2 ctd2), sld2⟩)
    (cd2 : PySem.W.codeIn K cdd2 "is_position" = true) (kd2 : PySem.W.keepIn K (.ref fd2) = true)
    (ad3 : PySem.W.nsIn K mainGlobals "are_names" = some (some (.ref fd3)))
    (ld3 : K.lookup fd3 = some ⟨fod3, odd3, .func (PySem.W.fnOf "are_names" "are_names" (defArgs s_are_names) (defBody s_are_names) (defScope s_are_names) .none kVd3 dcd3 pmd3 and3 cdd3 ctd3), sld3⟩)
    (cd3 : PySem.W.codeIn K cdd3 "are_names" = true) (kd3 : PySem.W.keepIn K (.ref fd3) = true)
    (ad4 : PySem.W.nsIn K mainGlobals "is_crew" = some (some (.ref fd4)))
    (ld4 : K.lookup fd4 = some ⟨fod4, odd4, .func (PySem.W.fnOf "is_crew" "is_crew" (defArgs s_is_crew) (defBody s_is_crew) (defScope s_is_crew) .none kVd4 dcd4 pmd4 and4 cdd4 ctd4), sld4⟩)
    (cd4 : PySem.W.codeIn K cdd4 "is_crew" = true) (kd4 : PySem.W.keepIn K (.ref fd4) = true)
    (ad5 : PySem.W.nsIn K mainGlobals "is_stretch" = some (some (.ref fd5)))
    (ld5 : K.lookup fd5 = some ⟨fod5, odd5, .func (PySem.W.fnOf "is_stretch" "is_stretch" (defArgs s_is_stretch) (defBody s_is_stretch) (defScope s_is_stretch) .none kVd5 dcd5 pmd5 and5 cdd5 ctd5), sld5⟩)
    (cd5 : PySem.W.codeIn K cdd5 "is_stretch" = true) (kd5 : PySem.W.keepIn K (.ref fd5) = true)
    (ad6 : PySem.W.nsIn K mainGlobals "_have_one_in_common" = some (some (.ref fd6)))
    (ld6 : K.lookup fd6 = some ⟨fod6, odd6, .func (PySem.W.fnOf "_have_one_in_common" "_have_one_in_common" (defArgs s__have_one_in_common) (defBody s__have_one_in_common) (defScope s__have_one_in_common) .none kVd6 dcd6 pmd6 and6 cdd6 ctd6), sld6⟩)
    (cd6 : PySem.W.codeIn K cdd6 "_have_one_in_common" = true) (kd6 : PySem.W.keepIn K (.ref fd6) = true)
    (ad7 : PySem.W.nsIn K mainGlobals "_law_bag" = some (some (.ref fd7)))
    (ld7 : K.lookup fd7 = some ⟨fod7, odd7, .func (PySem.W.fnOf "_law_bag" "_law_bag" (defArgs s__law_bag) (defBody s__law_bag) (defScope s__law_bag) .none kVd7 dcd7 pmd7 and7 cdd7 ctd7), sld7⟩)
    (cd7 : PySem.W.codeIn K cdd7 "_law_bag" = true) (kd7 : PySem.W.keepIn K (.ref fd7) = true)
    (ad8 : PySem.W.nsIn K mainGlobals "_law_take" = some (some (.ref fd8)))
    (ld8 : K.lookup fd8 = some ⟨fod8, odd8, .func (PySem.W.fnOf "_law_take" "_law_take" (defArgs s__law_take) (defBody s__law_take) (defScope s__law_take) .none kVd8 dcd8 pmd8 and8 cdd8 ctd8), sld8⟩)
    (cd8 : PySem.W.codeIn K cdd8 "_law_take" = true) (kd8 : PySem.W.keepIn K (.ref fd8) = true)
    (ad9 : PySem.W.nsIn K mainGlobals "_law_alike" = some (some (.ref fd9)))
    (ld9 : K.lookup fd9 = some ⟨fod9, odd9, .func (PySem.W.fnOf "_law_alike" "_law_alike" (defArgs s__law_alike) (defBody s__law_alike) (defScope s__law_alike) .none kVd9 dcd9 pmd9 and9 cdd9 ctd9), sld9⟩)
    (cd9 : PySem.W.codeIn K cdd9 "_law_alike" = true) (kd9 : PySem.W.keepIn K (.ref fd9) = true)
    (ad10 : PySem.W.nsIn K mainGlobals "_law_name" = some (some (.ref fd10)))
    (ld10 : K.lookup fd10 = some ⟨fod10, odd10, .func (PySem.W.fnOf "_law_name" "_law_name" (defArgs s__law_name) (defBody s__law_name) (defScope s__law_name) .none kVd10 dcd10 pmd10 and10 cdd10 ctd10), sld10⟩)
    (cd10 : PySem.W.codeIn K cdd10 "_law_name" = true) (kd10 : PySem.W.keepIn K (.ref fd10) = true)
    (ad11 : PySem.W.nsIn K mainGlobals "_law_names" = some (some (.ref fd11)))
    (ld11 : K.lookup fd11 = some ⟨fod11, odd11, .func (PySem.W.fnOf "_law_names" "_law_names" (defArgs s__law_names) (defBody s__law_names) (defScope s__law_names) .none kVd11 dcd11 pmd11 and11 cdd11 ctd11), sld11⟩)
    (cd11 : PySem.W.codeIn K cdd11 "_law_names" = true) (kd11 : PySem.W.keepIn K (.ref fd11) = true)
    (ad12 : PySem.W.nsIn K mainGlobals "_law_some" = some (some (.ref fd12)))
    (ld12 : K.lookup fd12 = some ⟨fod12, odd12, .func (PySem.W.fnOf "_law_some" "_law_some" (defArgs s__law_some) (defBody s__law_some) (defScope s__law_some) .none kVd12 dcd12 pmd12 and12 cdd12 ctd12), sld12⟩)
    (cd12 : PySem.W.codeIn K cdd12 "_law_some" = true) (kd12 : PySem.W.keepIn K (.ref fd12) = true)
    (ad13 : PySem.W.nsIn K mainGlobals "_law_left" = some (some (.ref fd13)))
    (ld13 : K.lookup fd13 = some ⟨fod13, odd13, .func (PySem.W.fnOf "_law_left" "_law_left" (defArgs s__law_left) (defBody s__law_left) (defScope s__law_left) .none kVd13 dcd13 pmd13 and13 cdd13 ctd13), sld13⟩)
    (cd13 : PySem.W.codeIn K cdd13 "_law_left" = true) (kd13 : PySem.W.keepIn K (.ref fd13) = true)
    (ad14 : PySem.W.nsIn K mainGlobals "_law_stepped" = some (some (.ref fd14)))
    (ld14 : K.lookup fd14 = some ⟨fod14, odd14, .func (PySem.W.fnOf "_law_stepped" "_law_stepped" (defArgs s__law_stepped) (defBody s__law_stepped) (defScope s__law_stepped) .none kVd14 dcd14 pmd14 and14 cdd14 ctd14), sld14⟩)
    (cd14 : PySem.W.codeIn K cdd14 "_law_stepped" = true) (kd14 : PySem.W.keepIn K (.ref fd14) = true)
    (ad15 : PySem.W.nsIn K mainGlobals "_law_onward" = some (some (.ref fd15)))
    (ld15 : K.lookup fd15 = some ⟨fod15, odd15, .func (PySem.W.fnOf "_law_onward" "_law_onward" (defArgs s__law_onward) (defBody s__law_onward) (defScope s__law_onward) .none kVd15 dcd15 pmd15 and15 cdd15 ctd15), sld15⟩)
    (cd15 : PySem.W.codeIn K cdd15 "_law_onward" = true) (kd15 : PySem.W.keepIn K (.ref fd15) = true)
    (ad16 : PySem.W.nsIn K mainGlobals "_law_turned" = some (some (.ref fd16)))
    (ld16 : K.lookup fd16 = some ⟨fod16, odd16, .func (PySem.W.fnOf "_law_turned" "_law_turned" (defArgs s__law_turned) (defBody s__law_turned) (defScope s__law_turned) .none kVd16 dcd16 pmd16 and16 cdd16 ctd16), sld16⟩)
    (cd16 : PySem.W.codeIn K cdd16 "_law_turned" = true) (kd16 : PySem.W.keepIn K (.ref fd16) = true)
    (ad17 : PySem.W.nsIn K mainGlobals "law" = some (some (.ref fd17)))
    (ld17 : K.lookup fd17 = some ⟨fod17, odd17, .func (PySem.W.fnOf "law" "law" (defArgs s_law) (defBody s_law) (defScope s_law) .none kVd17 dcd17 pmd17 and17 cdd17 ctd17), sld17⟩)
    (cd17 : PySem.W.codeIn K cdd17 "law" = true) (kd17 : PySem.W.keepIn K (.ref fd17) = true)
    (aCL : PySem.W.nsIn K mainGlobals "Board" = some (some (.ref CL)))
    (am0 : PySem.W.findIn K (.ref CL) "__init__" = some (some (.ref fm0))) (im0 : PySem.W.isFn K (.ref fm0) = true)
    (lm0 : K.lookup fm0 = some ⟨fom0, odm0, .func (PySem.W.fnOf "__init__" "Board.__init__" (defArgs s_Board___init__) (defBody s_Board___init__) (defScope s_Board___init__) .none kVm0 dcm0 pmm0 anm0 cdm0 ctm0), slm0⟩)
    (cm0 : PySem.W.codeIn K cdm0 "Board.__init__" = true) (km0 : PySem.W.keepIn K (.ref fm0) = true)
    (am1 : PySem.W.findIn K (.ref CL) "add" = some (some (.ref fm1))) (im1 : PySem.W.isFn K (.ref fm1) = true)
    (lm1 : K.lookup fm1 = some ⟨fom1, odm1, .func (PySem.W.fnOf "add" "Board.add" (defArgs s_Board_add) (defBody s_Board_add) (defScope s_Board_add) .none kVm1 dcm1 pmm1 anm1 cdm1 ctm1), slm1⟩)
    (cm1 : PySem.W.codeIn K cdm1 "Board.add" = true) (km1 : PySem.W.keepIn K (.ref fm1) = true)
    (am2 : PySem.W.findIn K (.ref CL) "crew" = some (some (.ref fm2))) (im2 : PySem.W.isFn K (.ref fm2) = true)
    (lm2 : K.lookup fm2 = some ⟨fom2, odm2, .func (PySem.W.fnOf "crew" "Board.crew" (defArgs s_Board_crew) (defBody s_Board_crew) (defScope s_Board_crew) .none kVm2 dcm2 pmm2 anm2 cdm2 ctm2), slm2⟩)
    (cm2 : PySem.W.codeIn K cdm2 "Board.crew" = true) (km2 : PySem.W.keepIn K (.ref fm2) = true)
    (am3 : PySem.W.findIn K (.ref CL) "leave" = some (some (.ref fm3))) (im3 : PySem.W.isFn K (.ref fm3) = true)
    (lm3 : K.lookup fm3 = some ⟨fom3, odm3, .func (PySem.W.fnOf "leave" "Board.leave" (defArgs s_Board_leave) (defBody s_Board_leave) (defScope s_Board_leave) .none kVm3 dcm3 pmm3 anm3 cdm3 ctm3), slm3⟩)
    (cm3 : PySem.W.codeIn K cdm3 "Board.leave" = true) (km3 : PySem.W.keepIn K (.ref fm3) = true)
    (am4 : PySem.W.findIn K (.ref CL) "turn" = some (some (.ref fm4))) (im4 : PySem.W.isFn K (.ref fm4) = true)
    (lm4 : K.lookup fm4 = some ⟨fom4, odm4, .func (PySem.W.fnOf "turn" "Board.turn" (defArgs s_Board_turn) (defBody s_Board_turn) (defScope s_Board_turn) .none kVm4 dcm4 pmm4 anm4 cdm4 ctm4), slm4⟩)
    (cm4 : PySem.W.codeIn K cdm4 "Board.turn" = true) (km4 : PySem.W.keepIn K (.ref fm4) = true)
    (am5 : PySem.W.findIn K (.ref CL) "hold" = some (some (.ref fm5))) (im5 : PySem.W.isFn K (.ref fm5) = true)
    (lm5 : K.lookup fm5 = some ⟨fom5, odm5, .func (PySem.W.fnOf "hold" "Board.hold" (defArgs s_Board_hold) (defBody s_Board_hold) (defScope s_Board_hold) .none kVm5 dcm5 pmm5 anm5 cdm5 ctm5), slm5⟩)
    (cm5 : PySem.W.codeIn K cdm5 "Board.hold" = true) (km5 : PySem.W.keepIn K (.ref fm5) = true)
    (am6 : PySem.W.findIn K (.ref CL) "free" = some (some (.ref fm6))) (im6 : PySem.W.isFn K (.ref fm6) = true)
    (lm6 : K.lookup fm6 = some ⟨fom6, odm6, .func (PySem.W.fnOf "free" "Board.free" (defArgs s_Board_free) (defBody s_Board_free) (defScope s_Board_free) .none kVm6 dcm6 pmm6 anm6 cdm6 ctm6), slm6⟩)
    (cm6 : PySem.W.codeIn K cdm6 "Board.free" = true) (km6 : PySem.W.keepIn K (.ref fm6) = true)
    (am7 : PySem.W.findIn K (.ref CL) "devices" = some (some (.ref fm7))) (im7 : PySem.W.isFn K (.ref fm7) = true)
    (lm7 : K.lookup fm7 = some ⟨fom7, odm7, .func (PySem.W.fnOf "devices" "Board.devices" (defArgs s_Board_devices) (defBody s_Board_devices) (defScope s_Board_devices) .none kVm7 dcm7 pmm7 anm7 cdm7 ctm7), slm7⟩)
    (cm7 : PySem.W.codeIn K cdm7 "Board.devices" = true) (km7 : PySem.W.keepIn K (.ref fm7) = true)
    (am8 : PySem.W.findIn K (.ref CL) "jobs" = some (some (.ref fm8))) (im8 : PySem.W.isFn K (.ref fm8) = true)
    (lm8 : K.lookup fm8 = some ⟨fom8, odm8, .func (PySem.W.fnOf "jobs" "Board.jobs" (defArgs s_Board_jobs) (defBody s_Board_jobs) (defScope s_Board_jobs) .none kVm8 dcm8 pmm8 anm8 cdm8 ctm8), slm8⟩)
    (cm8 : PySem.W.codeIn K cdm8 "Board.jobs" = true) (km8 : PySem.W.keepIn K (.ref fm8) = true)
    (am9 : PySem.W.findIn K (.ref CL) "stands" = some (some (.ref fm9))) (im9 : PySem.W.isFn K (.ref fm9) = true)
    (lm9 : K.lookup fm9 = some ⟨fom9, odm9, .func (PySem.W.fnOf "stands" "Board.stands" (defArgs s_Board_stands) (defBody s_Board_stands) (defScope s_Board_stands) .none kVm9 dcm9 pmm9 anm9 cdm9 ctm9), slm9⟩)
    (cm9 : PySem.W.codeIn K cdm9 "Board.stands" = true) (km9 : PySem.W.keepIn K (.ref fm9) = true)
    (am10 : PySem.W.findIn K (.ref CL) "home" = some (some (.ref fm10))) (im10 : PySem.W.isFn K (.ref fm10) = true)
    (lm10 : K.lookup fm10 = some ⟨fom10, odm10, .func (PySem.W.fnOf "home" "Board.home" (defArgs s_Board_home) (defBody s_Board_home) (defScope s_Board_home) .none kVm10 dcm10 pmm10 anm10 cdm10 ctm10), slm10⟩)
    (cm10 : PySem.W.codeIn K cdm10 "Board.home" = true) (km10 : PySem.W.keepIn K (.ref fm10) = true)
    (am11 : PySem.W.findIn K (.ref CL) "jobs_on" = some (some (.ref fm11))) (im11 : PySem.W.isFn K (.ref fm11) = true)
    (lm11 : K.lookup fm11 = some ⟨fom11, odm11, .func (PySem.W.fnOf "jobs_on" "Board.jobs_on" (defArgs s_Board_jobs_on) (defBody s_Board_jobs_on) (defScope s_Board_jobs_on) .none kVm11 dcm11 pmm11 anm11 cdm11 ctm11), slm11⟩)
    (cm11 : PySem.W.codeIn K cdm11 "Board.jobs_on" = true) (km11 : PySem.W.keepIn K (.ref fm11) = true)
    (am12 : PySem.W.findIn K (.ref CL) "tags" = some (some (.ref fm12))) (im12 : PySem.W.isFn K (.ref fm12) = true)
    (lm12 : K.lookup fm12 = some ⟨fom12, odm12, .func (PySem.W.fnOf "tags" "Board.tags" (defArgs s_Board_tags) (defBody s_Board_tags) (defScope s_Board_tags) .none kVm12 dcm12 pmm12 anm12 cdm12 ctm12), slm12⟩)
    (cm12 : PySem.W.codeIn K cdm12 "Board.tags" = true) (km12 : PySem.W.keepIn K (.ref fm12) = true)
    (am13 : PySem.W.findIn K (.ref CL) "crew_of" = some (some (.ref fm13))) (im13 : PySem.W.isFn K (.ref fm13) = true)
    (lm13 : K.lookup fm13 = some ⟨fom13, odm13, .func (PySem.W.fnOf "crew_of" "Board.crew_of" (defArgs s_Board_crew_of) (defBody s_Board_crew_of) (defScope s_Board_crew_of) .none kVm13 dcm13 pmm13 anm13 cdm13 ctm13), slm13⟩)
    (cm13 : PySem.W.codeIn K cdm13 "Board.crew_of" = true) (km13 : PySem.W.keepIn K (.ref fm13) = true)
    (am14 : PySem.W.findIn K (.ref CL) "_refuse_no_device" = some (some (.ref fm14))) (im14 : PySem.W.isFn K (.ref fm14) = true)
    (lm14 : K.lookup fm14 = some ⟨fom14, odm14, .func (PySem.W.fnOf "_refuse_no_device" "Board._refuse_no_device" (defArgs s_Board__refuse_no_device) (defBody s_Board__refuse_no_device) (defScope s_Board__refuse_no_device) .none kVm14 dcm14 pmm14 anm14 cdm14 ctm14), slm14⟩)
    (cm14 : PySem.W.codeIn K cdm14 "Board._refuse_no_device" = true) (km14 : PySem.W.keepIn K (.ref fm14) = true)
    (am15 : PySem.W.findIn K (.ref CL) "_refuse_no_job" = some (some (.ref fm15))) (im15 : PySem.W.isFn K (.ref fm15) = true)
    (lm15 : K.lookup fm15 = some ⟨fom15, odm15, .func (PySem.W.fnOf "_refuse_no_job" "Board._refuse_no_job" (defArgs s_Board__refuse_no_job) (defBody s_Board__refuse_no_job) (defScope s_Board__refuse_no_job) .none kVm15 dcm15 pmm15 anm15 cdm15 ctm15), slm15⟩)
    (cm15 : PySem.W.codeIn K cdm15 "Board._refuse_no_job" = true) (km15 : PySem.W.keepIn K (.ref fm15) = true)
    (am16 : PySem.W.findIn K (.ref CL) "_refuse_held" = some (some (.ref fm16))) (im16 : PySem.W.isFn K (.ref fm16) = true)
    (lm16 : K.lookup fm16 = some ⟨fom16, odm16, .func (PySem.W.fnOf "_refuse_held" "Board._refuse_held" (defArgs s_Board__refuse_held) (defBody s_Board__refuse_held) (defScope s_Board__refuse_held) .none kVm16 dcm16 pmm16 anm16 cdm16 ctm16), slm16⟩)
    (cm16 : PySem.W.codeIn K cdm16 "Board._refuse_held" = true) (km16 : PySem.W.keepIn K (.ref fm16) = true)
    (am17 : PySem.W.findIn K (.ref CL) "_move" = some (some (.ref fm17))) (im17 : PySem.W.isFn K (.ref fm17) = true)
    (lm17 : K.lookup fm17 = some ⟨fom17, odm17, .func (PySem.W.fnOf "_move" "Board._move" (defArgs s_Board__move) (defBody s_Board__move) (defScope s_Board__move) .none kVm17 dcm17 pmm17 anm17 cdm17 ctm17), slm17⟩)
    (cm17 : PySem.W.codeIn K cdm17 "Board._move" = true) (km17 : PySem.W.keepIn K (.ref fm17) = true)
    (am18 : PySem.W.findIn K (.ref CL) "_hands_on" = some (some (.ref fm18))) (im18 : PySem.W.isFn K (.ref fm18) = true)
    (lm18 : K.lookup fm18 = some ⟨fom18, odm18, .func (PySem.W.fnOf "_hands_on" "Board._hands_on" (defArgs s_Board__hands_on) (defBody s_Board__hands_on) (defScope s_Board__hands_on) .none kVm18 dcm18 pmm18 anm18 cdm18 ctm18), slm18⟩)
    (cm18 : PySem.W.codeIn K cdm18 "Board._hands_on" = true) (km18 : PySem.W.keepIn K (.ref fm18) = true)
    (am19 : PySem.W.findIn K (.ref CL) "_held" = some (some (.ref fm19))) (im19 : PySem.W.isFn K (.ref fm19) = true)
    (lm19 : K.lookup fm19 = some ⟨fom19, odm19, .func (PySem.W.fnOf "_held" "Board._held" (defArgs s_Board__held) (defBody s_Board__held) (defScope s_Board__held) .none kVm19 dcm19 pmm19 anm19 cdm19 ctm19), slm19⟩)
    (cm19 : PySem.W.codeIn K cdm19 "Board._held" = true) (km19 : PySem.W.keepIn K (.ref fm19) = true)
    (pg : PySem.W.plainGet K CL Str.empty = true) (hdL : PySem.W.hasDictIn K CL = true) (po : PySem.W.plainOver K CL = true) (sa : PySem.W.findIn K (.ref CL) "__setattr__" = some (some (.builtin "object.__setattr__"))) (mkL : PySem.W.makesIn K CL = true) (kL : PySem.W.keepIn K (.ref CL) = true)
    (nA_stands : PySem.W.findIn K (.ref CL) "_stands" = some none)
    (nA_homes : PySem.W.findIn K (.ref CL) "_homes" = some none)
    (nA_stuck : PySem.W.findIn K (.ref CL) "_stuck" = some none)
    (nA_hung : PySem.W.findIn K (.ref CL) "_hung" = some none)
    (nA_crews : PySem.W.findIn K (.ref CL) "_crews" = some none)
    (aCJ : PySem.W.nsIn K mainGlobals "Job" = some (some (.ref CJ)))
    (aj0 : PySem.W.findIn K (.ref CJ) "__init__" = some (some (.ref fj0))) (ij0 : PySem.W.isFn K (.ref fj0) = true)
    (lj0 : K.lookup fj0 = some ⟨foj0, odj0, .func (PySem.W.fnOf "__init__" "Job.__init__" (defArgs s_Job___init__) (defBody s_Job___init__) (defScope s_Job___init__) .none kVj0 dcj0 pmj0 anj0 cdj0 ctj0), slj0⟩)
    (cj0 : PySem.W.codeIn K cdj0 "Job.__init__" = true) (kj0 : PySem.W.keepIn K (.ref fj0) = true)
    (aj1 : PySem.W.findIn K (.ref CJ) "begin" = some (some (.ref fj1))) (ij1 : PySem.W.isFn K (.ref fj1) = true)
    (lj1 : K.lookup fj1 = some ⟨foj1, odj1, .func (PySem.W.fnOf "begin" "Job.begin" (defArgs s_Job_begin) (defBody s_Job_begin) (defScope s_Job_begin) .none kVj1 dcj1 pmj1 anj1 cdj1 ctj1), slj1⟩)
    (cj1 : PySem.W.codeIn K cdj1 "Job.begin" = true) (kj1 : PySem.W.keepIn K (.ref fj1) = true)
    (aj2 : PySem.W.findIn K (.ref CJ) "step" = some (some (.ref fj2))) (ij2 : PySem.W.isFn K (.ref fj2) = true)
    (lj2 : K.lookup fj2 = some ⟨foj2, odj2, .func (PySem.W.fnOf "step" "Job.step" (defArgs s_Job_step) (defBody s_Job_step) (defScope s_Job_step) .none kVj2 dcj2 pmj2 anj2 cdj2 ctj2), slj2⟩)
    (cj2 : PySem.W.codeIn K cdj2 "Job.step" = true) (kj2 : PySem.W.keepIn K (.ref fj2) = true)
    (aj3 : PySem.W.findIn K (.ref CJ) "give" = some (some (.ref fj3))) (ij3 : PySem.W.isFn K (.ref fj3) = true)
    (lj3 : K.lookup fj3 = some ⟨foj3, odj3, .func (PySem.W.fnOf "give" "Job.give" (defArgs s_Job_give) (defBody s_Job_give) (defScope s_Job_give) .none kVj3 dcj3 pmj3 anj3 cdj3 ctj3), slj3⟩)
    (cj3 : PySem.W.codeIn K cdj3 "Job.give" = true) (kj3 : PySem.W.keepIn K (.ref fj3) = true)
    (aj4 : PySem.W.findIn K (.ref CJ) "try_out" = some (some (.ref fj4))) (ij4 : PySem.W.isFn K (.ref fj4) = true)
    (lj4 : K.lookup fj4 = some ⟨foj4, odj4, .func (PySem.W.fnOf "try_out" "Job.try_out" (defArgs s_Job_try_out) (defBody s_Job_try_out) (defScope s_Job_try_out) .none kVj4 dcj4 pmj4 anj4 cdj4 ctj4), slj4⟩)
    (cj4 : PySem.W.codeIn K cdj4 "Job.try_out" = true) (kj4 : PySem.W.keepIn K (.ref fj4) = true)
    (aj5 : PySem.W.findIn K (.ref CJ) "go_on" = some (some (.ref fj5))) (ij5 : PySem.W.isFn K (.ref fj5) = true)
    (lj5 : K.lookup fj5 = some ⟨foj5, odj5, .func (PySem.W.fnOf "go_on" "Job.go_on" (defArgs s_Job_go_on) (defBody s_Job_go_on) (defScope s_Job_go_on) .none kVj5 dcj5 pmj5 anj5 cdj5 ctj5), slj5⟩)
    (cj5 : PySem.W.codeIn K cdj5 "Job.go_on" = true) (kj5 : PySem.W.keepIn K (.ref fj5) = true)
    (aj6 : PySem.W.findIn K (.ref CJ) "put_by" = some (some (.ref fj6))) (ij6 : PySem.W.isFn K (.ref fj6) = true)
    (lj6 : K.lookup fj6 = some ⟨foj6, odj6, .func (PySem.W.fnOf "put_by" "Job.put_by" (defArgs s_Job_put_by) (defBody s_Job_put_by) (defScope s_Job_put_by) .none kVj6 dcj6 pmj6 anj6 cdj6 ctj6), slj6⟩)
    (cj6 : PySem.W.codeIn K cdj6 "Job.put_by" = true) (kj6 : PySem.W.keepIn K (.ref fj6) = true)
    (aj7 : PySem.W.findIn K (.ref CJ) "called" = some (some (.ref fj7))) (ij7 : PySem.W.isFn K (.ref fj7) = true)
    (lj7 : K.lookup fj7 = some ⟨foj7, odj7, .func (PySem.W.fnOf "called" "Job.called" (defArgs s_Job_called) (defBody s_Job_called) (defScope s_Job_called) .none kVj7 dcj7 pmj7 anj7 cdj7 ctj7), slj7⟩)
    (cj7 : PySem.W.codeIn K cdj7 "Job.called" = true) (kj7 : PySem.W.keepIn K (.ref fj7) = true)
    (aj8 : PySem.W.findIn K (.ref CJ) "phase" = some (some (.ref fj8))) (ij8 : PySem.W.isFn K (.ref fj8) = true)
    (lj8 : K.lookup fj8 = some ⟨foj8, odj8, .func (PySem.W.fnOf "phase" "Job.phase" (defArgs s_Job_phase) (defBody s_Job_phase) (defScope s_Job_phase) .none kVj8 dcj8 pmj8 anj8 cdj8 ctj8), slj8⟩)
    (cj8 : PySem.W.codeIn K cdj8 "Job.phase" = true) (kj8 : PySem.W.keepIn K (.ref fj8) = true)
    (aj9 : PySem.W.findIn K (.ref CJ) "stretch" = some (some (.ref fj9))) (ij9 : PySem.W.isFn K (.ref fj9) = true)
    (lj9 : K.lookup fj9 = some ⟨foj9, odj9, .func (PySem.W.fnOf "stretch" "Job.stretch" (defArgs s_Job_stretch) (defBody s_Job_stretch) (defScope s_Job_stretch) .none kVj9 dcj9 pmj9 anj9 cdj9 ctj9), slj9⟩)
    (cj9 : PySem.W.codeIn K cdj9 "Job.stretch" = true) (kj9 : PySem.W.keepIn K (.ref fj9) = true)
    (aj10 : PySem.W.findIn K (.ref CJ) "switches" = some (some (.ref fj10))) (ij10 : PySem.W.isFn K (.ref fj10) = true)
    (lj10 : K.lookup fj10 = some ⟨foj10, odj10, .func (PySem.W.fnOf "switches" "Job.switches" (defArgs s_Job_switches) (defBody s_Job_switches) (defScope s_Job_switches) .none kVj10 dcj10 pmj10 anj10 cdj10 ctj10), slj10⟩)
    (cj10 : PySem.W.codeIn K cdj10 "Job.switches" = true) (kj10 : PySem.W.keepIn K (.ref fj10) = true)
    (aj11 : PySem.W.findIn K (.ref CJ) "drains" = some (some (.ref fj11))) (ij11 : PySem.W.isFn K (.ref fj11) = true)
    (lj11 : K.lookup fj11 = some ⟨foj11, odj11, .func (PySem.W.fnOf "drains" "Job.drains" (defArgs s_Job_drains) (defBody s_Job_drains) (defScope s_Job_drains) .none kVj11 dcj11 pmj11 anj11 cdj11 ctj11), slj11⟩)
    (cj11 : PySem.W.codeIn K cdj11 "Job.drains" = true) (kj11 : PySem.W.keepIn K (.ref fj11) = true)
    (aj12 : PySem.W.findIn K (.ref CJ) "crew_now" = some (some (.ref fj12))) (ij12 : PySem.W.isFn K (.ref fj12) = true)
    (lj12 : K.lookup fj12 = some ⟨foj12, odj12, .func (PySem.W.fnOf "crew_now" "Job.crew_now" (defArgs s_Job_crew_now) (defBody s_Job_crew_now) (defScope s_Job_crew_now) .none kVj12 dcj12 pmj12 anj12 cdj12 ctj12), slj12⟩)
    (cj12 : PySem.W.codeIn K cdj12 "Job.crew_now" = true) (kj12 : PySem.W.keepIn K (.ref fj12) = true)
    (aj13 : PySem.W.findIn K (.ref CJ) "steps" = some (some (.ref fj13))) (ij13 : PySem.W.isFn K (.ref fj13) = true)
    (lj13 : K.lookup fj13 = some ⟨foj13, odj13, .func (PySem.W.fnOf "steps" "Job.steps" (defArgs s_Job_steps) (defBody s_Job_steps) (defScope s_Job_steps) .none kVj13 dcj13 pmj13 anj13 cdj13 ctj13), slj13⟩)
    (cj13 : PySem.W.codeIn K cdj13 "Job.steps" = true) (kj13 : PySem.W.keepIn K (.ref fj13) = true)
    (aj14 : PySem.W.findIn K (.ref CJ) "is_ready" = some (some (.ref fj14))) (ij14 : PySem.W.isFn K (.ref fj14) = true)
    (lj14 : K.lookup fj14 = some ⟨foj14, odj14, .func (PySem.W.fnOf "is_ready" "Job.is_ready" (defArgs s_Job_is_ready) (defBody s_Job_is_ready) (defScope s_Job_is_ready) .none kVj14 dcj14 pmj14 anj14 cdj14 ctj14), slj14⟩)
    (cj14 : PySem.W.codeIn K cdj14 "Job.is_ready" = true) (kj14 : PySem.W.keepIn K (.ref fj14) = true)
    (aj15 : PySem.W.findIn K (.ref CJ) "_refuse_unless_in" = some (some (.ref fj15))) (ij15 : PySem.W.isFn K (.ref fj15) = true)
    (lj15 : K.lookup fj15 = some ⟨foj15, odj15, .func (PySem.W.fnOf "_refuse_unless_in" "Job._refuse_unless_in" (defArgs s_Job__refuse_unless_in) (defBody s_Job__refuse_unless_in) (defScope s_Job__refuse_unless_in) .none kVj15 dcj15 pmj15 anj15 cdj15 ctj15), slj15⟩)
    (cj15 : PySem.W.codeIn K cdj15 "Job._refuse_unless_in" = true) (kj15 : PySem.W.keepIn K (.ref fj15) = true)
    (aj16 : PySem.W.findIn K (.ref CJ) "_refuse_company" = some (some (.ref fj16))) (ij16 : PySem.W.isFn K (.ref fj16) = true)
    (lj16 : K.lookup fj16 = some ⟨foj16, odj16, .func (PySem.W.fnOf "_refuse_company" "Job._refuse_company" (defArgs s_Job__refuse_company) (defBody s_Job__refuse_company) (defScope s_Job__refuse_company) .none kVj16 dcj16 pmj16 anj16 cdj16 ctj16), slj16⟩)
    (cj16 : PySem.W.codeIn K cdj16 "Job._refuse_company" = true) (kj16 : PySem.W.keepIn K (.ref fj16) = true)
    (aj17 : PySem.W.findIn K (.ref CJ) "_go_away" = some (some (.ref fj17))) (ij17 : PySem.W.isFn K (.ref fj17) = true)
    (lj17 : K.lookup fj17 = some ⟨foj17, odj17, .func (PySem.W.fnOf "_go_away" "Job._go_away" (defArgs s_Job__go_away) (defBody s_Job__go_away) (defScope s_Job__go_away) .none kVj17 dcj17 pmj17 anj17 cdj17 ctj17), slj17⟩)
    (cj17 : PySem.W.codeIn K cdj17 "Job._go_away" = true) (kj17 : PySem.W.keepIn K (.ref fj17) = true)
    (aj18 : PySem.W.findIn K (.ref CJ) "_leave_away" = some (some (.ref fj18))) (ij18 : PySem.W.isFn K (.ref fj18) = true)
    (lj18 : K.lookup fj18 = some ⟨foj18, odj18, .func (PySem.W.fnOf "_leave_away" "Job._leave_away" (defArgs s_Job__leave_away) (defBody s_Job__leave_away) (defScope s_Job__leave_away) .none kVj18 dcj18 pmj18 anj18 cdj18 ctj18), slj18⟩)
    (cj18 : PySem.W.codeIn K cdj18 "Job._leave_away" = true) (kj18 : PySem.W.keepIn K (.ref fj18) = true)
    (aj19 : PySem.W.findIn K (.ref CJ) "_has_tags_on" = some (some (.ref fj19))) (ij19 : PySem.W.isFn K (.ref fj19) = true)
    (lj19 : K.lookup fj19 = some ⟨foj19, odj19, .func (PySem.W.fnOf "_has_tags_on" "Job._has_tags_on" (defArgs s_Job__has_tags_on) (defBody s_Job__has_tags_on) (defScope s_Job__has_tags_on) .none kVj19 dcj19 pmj19 anj19 cdj19 ctj19), slj19⟩)
    (cj19 : PySem.W.codeIn K cdj19 "Job._has_tags_on" = true) (kj19 : PySem.W.keepIn K (.ref fj19) = true)
    (aj20 : PySem.W.findIn K (.ref CJ) "_steps_to" = some (some (.ref fj20))) (ij20 : PySem.W.isFn K (.ref fj20) = true)
    (lj20 : K.lookup fj20 = some ⟨foj20, odj20, .func (PySem.W.fnOf "_steps_to" "Job._steps_to" (defArgs s_Job__steps_to) (defBody s_Job__steps_to) (defScope s_Job__steps_to) .none kVj20 dcj20 pmj20 anj20 cdj20 ctj20), slj20⟩)
    (cj20 : PySem.W.codeIn K cdj20 "Job._steps_to" = true) (kj20 : PySem.W.keepIn K (.ref fj20) = true)
    (aj21 : PySem.W.findIn K (.ref CJ) "_steps_of_trial" = some (some (.ref fj21))) (ij21 : PySem.W.isFn K (.ref fj21) = true)
    (lj21 : K.lookup fj21 = some ⟨foj21, odj21, .func (PySem.W.fnOf "_steps_of_trial" "Job._steps_of_trial" (defArgs s_Job__steps_of_trial) (defBody s_Job__steps_of_trial) (defScope s_Job__steps_of_trial) .none kVj21 dcj21 pmj21 anj21 cdj21 ctj21), slj21⟩)
    (cj21 : PySem.W.codeIn K cdj21 "Job._steps_of_trial" = true) (kj21 : PySem.W.keepIn K (.ref fj21) = true)
    (aj22 : PySem.W.findIn K (.ref CJ) "_last_to_first" = some (some (.ref fj22))) (ij22 : PySem.W.isFn K (.ref fj22) = true)
    (lj22 : K.lookup fj22 = some ⟨foj22, odj22, .func (PySem.W.fnOf "_last_to_first" "Job._last_to_first" (defArgs s_Job__last_to_first) (defBody s_Job__last_to_first) (defScope s_Job__last_to_first) .none kVj22 dcj22 pmj22 anj22 cdj22 ctj22), slj22⟩)
    (cj22 : PySem.W.codeIn K cdj22 "Job._last_to_first" = true) (kj22 : PySem.W.keepIn K (.ref fj22) = true)
    (pgJ : PySem.W.plainGet K CJ Str.empty = true) (hdLJ : PySem.W.hasDictIn K CJ = true) (poJ : PySem.W.plainOver K CJ = true) (saJ : PySem.W.findIn K (.ref CJ) "__setattr__" = some (some (.builtin "object.__setattr__"))) (mkJ : PySem.W.makesIn K CJ = true) (kJ : PySem.W.keepIn K (.ref CJ) = true)
    (nJ_board : PySem.W.findIn K (.ref CJ) "_board" = some none)
    (nJ_name : PySem.W.findIn K (.ref CJ) "_name" = some none)
    (nJ_stretch : PySem.W.findIn K (.ref CJ) "_stretch" = some none)
    (nJ_phase : PySem.W.findIn K (.ref CJ) "_phase" = some none)
    (nJ_aim : PySem.W.findIn K (.ref CJ) "_aim" = some none)
    (nJ_switches : PySem.W.findIn K (.ref CJ) "_switches" = some none)
    (nJ_drains : PySem.W.findIn K (.ref CJ) "_drains" = some none)
    (g_MOST_IN_STRETCH : PySem.W.nsIn K mainGlobals "MOST_IN_STRETCH" = some (some (.int 24 t_MOST_IN_STRETCH)))
    (g_LONGEST_NAME : PySem.W.nsIn K mainGlobals "LONGEST_NAME" = some (some (.int 8 t_LONGEST_NAME)))
    (g_MOST_NAMES : PySem.W.nsIn K mainGlobals "MOST_NAMES" = some (some (.int 60 t_MOST_NAMES)))
    (g_MOST_IN_CREW : PySem.W.nsIn K mainGlobals "MOST_IN_CREW" = some (some (.int 6 t_MOST_IN_CREW)))
    (g_MOST_DEVICES : PySem.W.nsIn K mainGlobals "MOST_DEVICES" = some (some (.int 52 t_MOST_DEVICES)))
    (g_MOST_JOBS : PySem.W.nsIn K mainGlobals "MOST_JOBS" = some (some (.int 8 t_MOST_JOBS)))
    (z_any : PySem.W.nsIn K mainGlobals "any" = some none)
    (z_len : PySem.W.nsIn K mainGlobals "len" = some none)
    (z_all : PySem.W.nsIn K mainGlobals "all" = some none)
    (z_isinstance : PySem.W.nsIn K mainGlobals "isinstance" = some none)
    (z_str : PySem.W.nsIn K mainGlobals "str" = some none)
    (z_sorted : PySem.W.nsIn K mainGlobals "sorted" = some none)
    (z_list : PySem.W.nsIn K mainGlobals "list" = some none)
    (z_set : PySem.W.nsIn K mainGlobals "set" = some none)
    (z_abs : PySem.W.nsIn K mainGlobals "abs" = some none)
    (z_range : PySem.W.nsIn K mainGlobals "range" = some none)
    (z_repr : PySem.W.nsIn K mainGlobals "repr" = some none)
    (z_enumerate : PySem.W.nsIn K mainGlobals "enumerate" = some none)
    (z_ValueError : PySem.W.nsIn K mainGlobals "ValueError" = some none)
    (eAM : PySem.W.nsIn K mainGlobals "MainsError" = some (some (.ref CM)))
    (eLM : K.lookup CM = some (excClassObj nmM qM CM NM bsM [.type "ValueError", .type "Exception", .type "BaseException", .type "object"] true snM sbM abM coM ddM mM zM yM xM wM "ValueError.__new__"))
    (eSM : PySem.W.findIn K (.ref CM) "__setattr__" = some (some (.builtin "object.__setattr__"))) (eGM : PySem.W.findIn K (.ref CM) "__getattribute__" = some (some (.builtin "BaseException.__getattribute__")))
    (eHM : PySem.W.findIn K (.ref CM) "__getattr__" = some none) (eCM : PySem.W.findIn K (.ref CM) "__class__" = some (some (.builtin "object.__class__")))
    (eKM : PySem.W.keepIn K (.ref CM) = true) (eDM : PySem.W.hasDictIn K CM = true)
    (eA0 : PySem.W.nsIn K mainGlobals "Wrong" = some (some (.ref C0)))
    (eL0 : K.lookup C0 = some (excClassObj nm0 q0 C0 N0 bs0 (bmM CM) true sn0 sb0 ab0 co0 dd0 m0 z0 y0 x0 w0 "ValueError.__new__"))
    (eS0 : PySem.W.findIn K (.ref C0) "__setattr__" = some (some (.builtin "object.__setattr__"))) (eG0 : PySem.W.findIn K (.ref C0) "__getattribute__" = some (some (.builtin "BaseException.__getattribute__")))
    (eH0 : PySem.W.findIn K (.ref C0) "__getattr__" = some none) (eC0 : PySem.W.findIn K (.ref C0) "__class__" = some (some (.builtin "object.__class__")))
    (eK0 : PySem.W.keepIn K (.ref C0) = true) (eD0 : PySem.W.hasDictIn K C0 = true)
    (eA1 : PySem.W.nsIn K mainGlobals "There" = some (some (.ref C1)))
    (eL1 : K.lookup C1 = some (excClassObj nm1 q1 C1 N1 bs1 (bmM CM) true sn1 sb1 ab1 co1 dd1 m1 z1 y1 x1 w1 "ValueError.__new__"))
    (eS1 : PySem.W.findIn K (.ref C1) "__setattr__" = some (some (.builtin "object.__setattr__"))) (eG1 : PySem.W.findIn K (.ref C1) "__getattribute__" = some (some (.builtin "BaseException.__getattribute__")))
    (eH1 : PySem.W.findIn K (.ref C1) "__getattr__" = some none) (eC1 : PySem.W.findIn K (.ref C1) "__class__" = some (some (.builtin "object.__class__")))
    (eK1 : PySem.W.keepIn K (.ref C1) = true) (eD1 : PySem.W.hasDictIn K C1 = true)
    (eA2 : PySem.W.nsIn K mainGlobals "Lacks" = some (some (.ref C2)))
    (eL2 : K.lookup C2 = some (excClassObj nm2 q2 C2 N2 bs2 (bmM CM) true sn2 sb2 ab2 co2 dd2 m2 z2 y2 x2 w2 "ValueError.__new__"))
    (eS2 : PySem.W.findIn K (.ref C2) "__setattr__" = some (some (.builtin "object.__setattr__"))) (eG2 : PySem.W.findIn K (.ref C2) "__getattribute__" = some (some (.builtin "BaseException.__getattribute__")))
    (eH2 : PySem.W.findIn K (.ref C2) "__getattr__" = some none) (eC2 : PySem.W.findIn K (.ref C2) "__class__" = some (some (.builtin "object.__class__")))
    (eK2 : PySem.W.keepIn K (.ref C2) = true) (eD2 : PySem.W.hasDictIn K C2 = true)
    (eA3 : PySem.W.nsIn K mainGlobals "TooMany" = some (some (.ref C3)))
    (eL3 : K.lookup C3 = some (excClassObj nm3 q3 C3 N3 bs3 (bmM CM) true sn3 sb3 ab3 co3 dd3 m3 z3 y3 x3 w3 "ValueError.__new__"))
    (eS3 : PySem.W.findIn K (.ref C3) "__setattr__" = some (some (.builtin "object.__setattr__"))) (eG3 : PySem.W.findIn K (.ref C3) "__getattribute__" = some (some (.builtin "BaseException.__getattribute__")))
    (eH3 : PySem.W.findIn K (.ref C3) "__getattr__" = some none) (eC3 : PySem.W.findIn K (.ref C3) "__class__" = some (some (.builtin "object.__class__")))
    (eK3 : PySem.W.keepIn K (.ref C3) = true) (eD3 : PySem.W.hasDictIn K C3 = true)
    (eA4 : PySem.W.nsIn K mainGlobals "InUse" = some (some (.ref C4)))
    (eL4 : K.lookup C4 = some (excClassObj nm4 q4 C4 N4 bs4 (bmM CM) true sn4 sb4 ab4 co4 dd4 m4 z4 y4 x4 w4 "ValueError.__new__"))
    (eS4 : PySem.W.findIn K (.ref C4) "__setattr__" = some (some (.builtin "object.__setattr__"))) (eG4 : PySem.W.findIn K (.ref C4) "__getattribute__" = some (some (.builtin "BaseException.__getattribute__")))
    (eH4 : PySem.W.findIn K (.ref C4) "__getattr__" = some none) (eC4 : PySem.W.findIn K (.ref C4) "__class__" = some (some (.builtin "object.__class__")))
    (eK4 : PySem.W.keepIn K (.ref C4) = true) (eD4 : PySem.W.hasDictIn K C4 = true)
    (eA5 : PySem.W.nsIn K mainGlobals "Held" = some (some (.ref C5)))
    (eL5 : K.lookup C5 = some (excClassObj nm5 q5 C5 N5 bs5 (bmM CM) true sn5 sb5 ab5 co5 dd5 m5 z5 y5 x5 w5 "ValueError.__new__"))
    (eS5 : PySem.W.findIn K (.ref C5) "__setattr__" = some (some (.builtin "object.__setattr__"))) (eG5 : PySem.W.findIn K (.ref C5) "__getattribute__" = some (some (.builtin "BaseException.__getattribute__")))
    (eH5 : PySem.W.findIn K (.ref C5) "__getattr__" = some none) (eC5 : PySem.W.findIn K (.ref C5) "__class__" = some (some (.builtin "object.__class__")))
    (eK5 : PySem.W.keepIn K (.ref C5) = true) (eD5 : PySem.W.hasDictIn K C5 = true)
    (eA6 : PySem.W.nsIn K mainGlobals "Stuck" = some (some (.ref C6)))
    (eL6 : K.lookup C6 = some (excClassObj nm6 q6 C6 N6 bs6 (bmM CM) true sn6 sb6 ab6 co6 dd6 m6 z6 y6 x6 w6 "ValueError.__new__"))
    (eS6 : PySem.W.findIn K (.ref C6) "__setattr__" = some (some (.builtin "object.__setattr__"))) (eG6 : PySem.W.findIn K (.ref C6) "__getattribute__" = some (some (.builtin "BaseException.__getattribute__")))
    (eH6 : PySem.W.findIn K (.ref C6) "__getattr__" = some none) (eC6 : PySem.W.findIn K (.ref C6) "__class__" = some (some (.builtin "object.__class__")))
    (eK6 : PySem.W.keepIn K (.ref C6) = true) (eD6 : PySem.W.hasDictIn K C6 = true)
    (nF0 : PySem.W.findIn K (.ref C0) "at" = some none)
    (iF0 : PySem.W.findIn K (.ref C0) "__init__" = some (some (.ref g0))) (iT0 : PySem.W.typeIn K (.ref g0) = some (.type "function"))
    (iL0 : K.lookup g0 = some ⟨go0, gO0, .func (PySem.W.fnOf "__init__" "Wrong.__init__" (defArgs (inClass (topS 3) 0)) (defBody (inClass (topS 3) 0)) (defScope (inClass (topS 3) 0)) .none gV0 gc0 gm0 gA0 gd0 gt0), gs0⟩)
    (iC0 : PySem.W.codeIn K gd0 "Wrong.__init__" = true) (iK0 : PySem.W.keepIn K (.ref g0) = true)
    (nF1 : PySem.W.findIn K (.ref C1) "name" = some none)
    (iF1 : PySem.W.findIn K (.ref C1) "__init__" = some (some (.ref g1))) (iT1 : PySem.W.typeIn K (.ref g1) = some (.type "function"))
    (iL1 : K.lookup g1 = some ⟨go1, gO1, .func (PySem.W.fnOf "__init__" "There.__init__" (defArgs (inClass (topS 4) 0)) (defBody (inClass (topS 4) 0)) (defScope (inClass (topS 4) 0)) .none gV1 gc1 gm1 gA1 gd1 gt1), gs1⟩)
    (iC1 : PySem.W.codeIn K gd1 "There.__init__" = true) (iK1 : PySem.W.keepIn K (.ref g1) = true)
    (nF2 : PySem.W.findIn K (.ref C2) "name" = some none)
    (iF2 : PySem.W.findIn K (.ref C2) "__init__" = some (some (.ref g2))) (iT2 : PySem.W.typeIn K (.ref g2) = some (.type "function"))
    (iL2 : K.lookup g2 = some ⟨go2, gO2, .func (PySem.W.fnOf "__init__" "Lacks.__init__" (defArgs (inClass (topS 5) 0)) (defBody (inClass (topS 5) 0)) (defScope (inClass (topS 5) 0)) .none gV2 gc2 gm2 gA2 gd2 gt2), gs2⟩)
    (iC2 : PySem.W.codeIn K gd2 "Lacks.__init__" = true) (iK2 : PySem.W.keepIn K (.ref g2) = true)
    (nF3 : PySem.W.findIn K (.ref C3) "most" = some none)
    (iF3 : PySem.W.findIn K (.ref C3) "__init__" = some (some (.ref g3))) (iT3 : PySem.W.typeIn K (.ref g3) = some (.type "function"))
    (iL3 : K.lookup g3 = some ⟨go3, gO3, .func (PySem.W.fnOf "__init__" "TooMany.__init__" (defArgs (inClass (topS 6) 0)) (defBody (inClass (topS 6) 0)) (defScope (inClass (topS 6) 0)) .none gV3 gc3 gm3 gA3 gd3 gt3), gs3⟩)
    (iC3 : PySem.W.codeIn K gd3 "TooMany.__init__" = true) (iK3 : PySem.W.keepIn K (.ref g3) = true)
    (nF4 : PySem.W.findIn K (.ref C4) "name" = some none)
    (iF4 : PySem.W.findIn K (.ref C4) "__init__" = some (some (.ref g4))) (iT4 : PySem.W.typeIn K (.ref g4) = some (.type "function"))
    (iL4 : K.lookup g4 = some ⟨go4, gO4, .func (PySem.W.fnOf "__init__" "InUse.__init__" (defArgs (inClass (topS 7) 0)) (defBody (inClass (topS 7) 0)) (defScope (inClass (topS 7) 0)) .none gV4 gc4 gm4 gA4 gd4 gt4), gs4⟩)
    (iC4 : PySem.W.codeIn K gd4 "InUse.__init__" = true) (iK4 : PySem.W.keepIn K (.ref g4) = true)
    (nF5 : PySem.W.findIn K (.ref C5) "hands" = some none)
    (iF5 : PySem.W.findIn K (.ref C5) "__init__" = some (some (.ref g5))) (iT5 : PySem.W.typeIn K (.ref g5) = some (.type "function"))
    (iL5 : K.lookup g5 = some ⟨go5, gO5, .func (PySem.W.fnOf "__init__" "Held.__init__" (defArgs (inClass (topS 8) 0)) (defBody (inClass (topS 8) 0)) (defScope (inClass (topS 8) 0)) .none gV5 gc5 gm5 gA5 gd5 gt5), gs5⟩)
    (iC5 : PySem.W.codeIn K gd5 "Held.__init__" = true) (iK5 : PySem.W.keepIn K (.ref g5) = true)
    (nF6 : PySem.W.findIn K (.ref C6) "name" = some none)
    (iF6 : PySem.W.findIn K (.ref C6) "__init__" = some (some (.ref g6))) (iT6 : PySem.W.typeIn K (.ref g6) = some (.type "function"))
    (iL6 : K.lookup g6 = some ⟨go6, gO6, .func (PySem.W.fnOf "__init__" "Stuck.__init__" (defArgs (inClass (topS 9) 0)) (defBody (inClass (topS 9) 0)) (defScope (inClass (topS 9) 0)) .none gV6 gc6 gm6 gA6 gd6 gt6), gs6⟩)
    (iC6 : PySem.W.codeIn K gd6 "Stuck.__init__" = true) (iK6 : PySem.W.keepIn K (.ref g6) = true)
    (gS : PySem.W.specialIn K (.builtin "object.__class__") "__get__" = some (some (.builtin "getset_descriptor.__get__"))) (gT : PySem.W.takesIn K (.builtin "object.__class__") = some true)
    (iHa : PySem.W.findIn K (.ref CL) "__class__" = some (some (.builtin "object.__class__"))) (iHm : PySem.W.mroIn K CL (.type "object") = some true)
    (aPO : PySem.W.nsIn K mainGlobals "POSITIONS" = some (some (.ref PO))) (lPO : K.lookup PO = some ⟨.type "tuple", odP, .seq #[.str "open" tP1, .str "shut" tP2] nP, slP⟩)
    (nD : ([CM, C0, C1, C2, C3, C4, C5, C6] : List Addr).Nodup) :
    ∃ (C : Nat → Addr) (M L LJ : Addr), Tx K mg C M L LJ := by
  refine ⟨fun n => ([C0, C1, C2, C3, C4, C5, C6] : List Addr).getD n 0, CM, CL, CJ, ?_⟩
  exact
    { d_need := ⟨fd0, _, fun_mk (st := s_need) ld0 cd0 kd0, PySem.W.mg_of X G ad0⟩
      d_is_name := ⟨fd1, _, fun_mk (st := s_is_name) ld1 cd1 kd1, PySem.W.mg_of X G ad1⟩
      d_is_position := ⟨fd2, _, fun_mk (st := s_is_position) ld2 cd2 kd2, PySem.W.mg_of X G ad2⟩
      d_are_names := ⟨fd3, _, fun_mk (st := s_are_names) ld3 cd3 kd3, PySem.W.mg_of X G ad3⟩
      d_is_crew := ⟨fd4, _, fun_mk (st := s_is_crew) ld4 cd4 kd4, PySem.W.mg_of X G ad4⟩
      d_is_stretch := ⟨fd5, _, fun_mk (st := s_is_stretch) ld5 cd5 kd5, PySem.W.mg_of X G ad5⟩
      d_have_one_in_common := ⟨fd6, _, fun_mk (st := s__have_one_in_common) ld6 cd6 kd6, PySem.W.mg_of X G ad6⟩
      d_bag := ⟨fd7, _, fun_mk (st := s__law_bag) ld7 cd7 kd7, PySem.W.mg_of X G ad7⟩
      d_take := ⟨fd8, _, fun_mk (st := s__law_take) ld8 cd8 kd8, PySem.W.mg_of X G ad8⟩
      d_alike := ⟨fd9, _, fun_mk (st := s__law_alike) ld9 cd9 kd9, PySem.W.mg_of X G ad9⟩
      d_name := ⟨fd10, _, fun_mk (st := s__law_name) ld10 cd10 kd10, PySem.W.mg_of X G ad10⟩
      d_names := ⟨fd11, _, fun_mk (st := s__law_names) ld11 cd11 kd11, PySem.W.mg_of X G ad11⟩
      d_some := ⟨fd12, _, fun_mk (st := s__law_some) ld12 cd12 kd12, PySem.W.mg_of X G ad12⟩
      d_left := ⟨fd13, _, fun_mk (st := s__law_left) ld13 cd13 kd13, PySem.W.mg_of X G ad13⟩
      d_stepped := ⟨fd14, _, fun_mk (st := s__law_stepped) ld14 cd14 kd14, PySem.W.mg_of X G ad14⟩
      d_onward := ⟨fd15, _, fun_mk (st := s__law_onward) ld15 cd15 kd15, PySem.W.mg_of X G ad15⟩
      d_turned := ⟨fd16, _, fun_mk (st := s__law_turned) ld16 cd16 kd16, PySem.W.mg_of X G ad16⟩
      d_law := ⟨fd17, _, fun_mk (st := s_law) ld17 cd17 kd17, PySem.W.mg_of X G ad17⟩
      m_init := ⟨fm0, _, fun_mk (st := s_Board___init__) lm0 cm0 km0, ⟨am0, im0, km0⟩⟩
      m_add := ⟨fm1, _, fun_mk (st := s_Board_add) lm1 cm1 km1, ⟨am1, im1, km1⟩⟩
      m_crew := ⟨fm2, _, fun_mk (st := s_Board_crew) lm2 cm2 km2, ⟨am2, im2, km2⟩⟩
      m_leave := ⟨fm3, _, fun_mk (st := s_Board_leave) lm3 cm3 km3, ⟨am3, im3, km3⟩⟩
      m_turn := ⟨fm4, _, fun_mk (st := s_Board_turn) lm4 cm4 km4, ⟨am4, im4, km4⟩⟩
      m_hold := ⟨fm5, _, fun_mk (st := s_Board_hold) lm5 cm5 km5, ⟨am5, im5, km5⟩⟩
      m_free := ⟨fm6, _, fun_mk (st := s_Board_free) lm6 cm6 km6, ⟨am6, im6, km6⟩⟩
      m_devices := ⟨fm7, _, fun_mk (st := s_Board_devices) lm7 cm7 km7, ⟨am7, im7, km7⟩⟩
      m_jobs := ⟨fm8, _, fun_mk (st := s_Board_jobs) lm8 cm8 km8, ⟨am8, im8, km8⟩⟩
      m_stands := ⟨fm9, _, fun_mk (st := s_Board_stands) lm9 cm9 km9, ⟨am9, im9, km9⟩⟩
      m_home := ⟨fm10, _, fun_mk (st := s_Board_home) lm10 cm10 km10, ⟨am10, im10, km10⟩⟩
      m_jobs_on := ⟨fm11, _, fun_mk (st := s_Board_jobs_on) lm11 cm11 km11, ⟨am11, im11, km11⟩⟩
      m_tags := ⟨fm12, _, fun_mk (st := s_Board_tags) lm12 cm12 km12, ⟨am12, im12, km12⟩⟩
      m_crew_of := ⟨fm13, _, fun_mk (st := s_Board_crew_of) lm13 cm13 km13, ⟨am13, im13, km13⟩⟩
      m__refuse_no_device := ⟨fm14, _, fun_mk (st := s_Board__refuse_no_device) lm14 cm14 km14, ⟨am14, im14, km14⟩⟩
      m__refuse_no_job := ⟨fm15, _, fun_mk (st := s_Board__refuse_no_job) lm15 cm15 km15, ⟨am15, im15, km15⟩⟩
      m__refuse_held := ⟨fm16, _, fun_mk (st := s_Board__refuse_held) lm16 cm16 km16, ⟨am16, im16, km16⟩⟩
      m__move := ⟨fm17, _, fun_mk (st := s_Board__move) lm17 cm17 km17, ⟨am17, im17, km17⟩⟩
      m__hands_on := ⟨fm18, _, fun_mk (st := s_Board__hands_on) lm18 cm18 km18, ⟨am18, im18, km18⟩⟩
      m__held := ⟨fm19, _, fun_mk (st := s_Board__held) lm19 cm19 km19, ⟨am19, im19, km19⟩⟩
      mkL := mkL
      kL := kL
      gL := PySem.W.mg_of X G aCL
      cl := ⟨pg, hdL, po, sa⟩
      n_stands := nA_stands
      n_homes := nA_homes
      n_stuck := nA_stuck
      n_hung := nA_hung
      n_crews := nA_crews
      j_init := ⟨fj0, _, fun_mk (st := s_Job___init__) lj0 cj0 kj0, ⟨aj0, ij0, kj0⟩⟩
      j_begin := ⟨fj1, _, fun_mk (st := s_Job_begin) lj1 cj1 kj1, ⟨aj1, ij1, kj1⟩⟩
      j_step := ⟨fj2, _, fun_mk (st := s_Job_step) lj2 cj2 kj2, ⟨aj2, ij2, kj2⟩⟩
      j_give := ⟨fj3, _, fun_mk (st := s_Job_give) lj3 cj3 kj3, ⟨aj3, ij3, kj3⟩⟩
      j_try_out := ⟨fj4, _, fun_mk (st := s_Job_try_out) lj4 cj4 kj4, ⟨aj4, ij4, kj4⟩⟩
      j_go_on := ⟨fj5, _, fun_mk (st := s_Job_go_on) lj5 cj5 kj5, ⟨aj5, ij5, kj5⟩⟩
      j_put_by := ⟨fj6, _, fun_mk (st := s_Job_put_by) lj6 cj6 kj6, ⟨aj6, ij6, kj6⟩⟩
      j_called := ⟨fj7, _, fun_mk (st := s_Job_called) lj7 cj7 kj7, ⟨aj7, ij7, kj7⟩⟩
      j_phase := ⟨fj8, _, fun_mk (st := s_Job_phase) lj8 cj8 kj8, ⟨aj8, ij8, kj8⟩⟩
      j_stretch := ⟨fj9, _, fun_mk (st := s_Job_stretch) lj9 cj9 kj9, ⟨aj9, ij9, kj9⟩⟩
      j_switches := ⟨fj10, _, fun_mk (st := s_Job_switches) lj10 cj10 kj10, ⟨aj10, ij10, kj10⟩⟩
      j_drains := ⟨fj11, _, fun_mk (st := s_Job_drains) lj11 cj11 kj11, ⟨aj11, ij11, kj11⟩⟩
      j_crew_now := ⟨fj12, _, fun_mk (st := s_Job_crew_now) lj12 cj12 kj12, ⟨aj12, ij12, kj12⟩⟩
      j_steps := ⟨fj13, _, fun_mk (st := s_Job_steps) lj13 cj13 kj13, ⟨aj13, ij13, kj13⟩⟩
      j_is_ready := ⟨fj14, _, fun_mk (st := s_Job_is_ready) lj14 cj14 kj14, ⟨aj14, ij14, kj14⟩⟩
      j__refuse_unless_in := ⟨fj15, _, fun_mk (st := s_Job__refuse_unless_in) lj15 cj15 kj15, ⟨aj15, ij15, kj15⟩⟩
      j__refuse_company := ⟨fj16, _, fun_mk (st := s_Job__refuse_company) lj16 cj16 kj16, ⟨aj16, ij16, kj16⟩⟩
      j__go_away := ⟨fj17, _, fun_mk (st := s_Job__go_away) lj17 cj17 kj17, ⟨aj17, ij17, kj17⟩⟩
      j__leave_away := ⟨fj18, _, fun_mk (st := s_Job__leave_away) lj18 cj18 kj18, ⟨aj18, ij18, kj18⟩⟩
      j__has_tags_on := ⟨fj19, _, fun_mk (st := s_Job__has_tags_on) lj19 cj19 kj19, ⟨aj19, ij19, kj19⟩⟩
      j__steps_to := ⟨fj20, _, fun_mk (st := s_Job__steps_to) lj20 cj20 kj20, ⟨aj20, ij20, kj20⟩⟩
      j__steps_of_trial := ⟨fj21, _, fun_mk (st := s_Job__steps_of_trial) lj21 cj21 kj21, ⟨aj21, ij21, kj21⟩⟩
      j__last_to_first := ⟨fj22, _, fun_mk (st := s_Job__last_to_first) lj22 cj22 kj22, ⟨aj22, ij22, kj22⟩⟩
      mkJ := mkJ
      kJ := kJ
      gJ := PySem.W.mg_of X G aCJ
      clJ := ⟨pgJ, hdLJ, poJ, saJ⟩
      nj_board := nJ_board
      nj_name := nJ_name
      nj_stretch := nJ_stretch
      nj_phase := nJ_phase
      nj_aim := nJ_aim
      nj_switches := nJ_switches
      nj_drains := nJ_drains
      g_MOST_IN_STRETCH := ⟨_, PySem.W.mg_of X G g_MOST_IN_STRETCH⟩
      g_LONGEST_NAME := ⟨_, PySem.W.mg_of X G g_LONGEST_NAME⟩
      g_MOST_NAMES := ⟨_, PySem.W.mg_of X G g_MOST_NAMES⟩
      g_MOST_IN_CREW := ⟨_, PySem.W.mg_of X G g_MOST_IN_CREW⟩
      g_MOST_DEVICES := ⟨_, PySem.W.mg_of X G g_MOST_DEVICES⟩
      g_MOST_JOBS := ⟨_, PySem.W.mg_of X G g_MOST_JOBS⟩
      b_any := PySem.W.mg_none_of X G z_any
      b_len := PySem.W.mg_none_of X G z_len
      b_all := PySem.W.mg_none_of X G z_all
      b_isinstance := PySem.W.mg_none_of X G z_isinstance
      b_str := PySem.W.mg_none_of X G z_str
      b_sorted := PySem.W.mg_none_of X G z_sorted
      b_list := PySem.W.mg_none_of X G z_list
      b_set := PySem.W.mg_none_of X G z_set
      b_abs := PySem.W.mg_none_of X G z_abs
      b_range := PySem.W.mg_none_of X G z_range
      b_repr := PySem.W.mg_none_of X G z_repr
      b_enumerate := PySem.W.mg_none_of X G z_enumerate
      b_ValueError := PySem.W.mg_none_of X G z_ValueError
      i_ha := iHa
      i_hn := gS
      i_ht := gT
      i_hm := iHm
      g_POSITIONS := ⟨PO, PySem.W.mg_of X G aPO, fun _ => .inr ⟨_, _, _, lPO, rfl, rfl, (by show 2 ≤ sizeLine; decide), .cons ⟨_, rfl⟩ (.cons ⟨_, rfl⟩ .nil)⟩⟩
      gM := PySem.W.mg_of X G eAM
      eM := ⟨⟨_, _, _, _, _, _, _, _, _, _, _, _, _, _, eLM⟩, by decide +kernel, eSM, eGM, eHM, eCM, eKM, eDM⟩
      e := fun n hn => match n, hn with
      | 0, _ => ⟨⟨_, _, _, _, _, _, _, _, _, _, _, _, _, _, eL0⟩, rfl, eS0, eG0, eH0, eC0, eK0, eD0⟩
      | 1, _ => ⟨⟨_, _, _, _, _, _, _, _, _, _, _, _, _, _, eL1⟩, rfl, eS1, eG1, eH1, eC1, eK1, eD1⟩
      | 2, _ => ⟨⟨_, _, _, _, _, _, _, _, _, _, _, _, _, _, eL2⟩, rfl, eS2, eG2, eH2, eC2, eK2, eD2⟩
      | 3, _ => ⟨⟨_, _, _, _, _, _, _, _, _, _, _, _, _, _, eL3⟩, rfl, eS3, eG3, eH3, eC3, eK3, eD3⟩
      | 4, _ => ⟨⟨_, _, _, _, _, _, _, _, _, _, _, _, _, _, eL4⟩, rfl, eS4, eG4, eH4, eC4, eK4, eD4⟩
      | 5, _ => ⟨⟨_, _, _, _, _, _, _, _, _, _, _, _, _, _, eL5⟩, rfl, eS5, eG5, eH5, eC5, eK5, eD5⟩
      | 6, _ => ⟨⟨_, _, _, _, _, _, _, _, _, _, _, _, _, _, eL6⟩, rfl, eS6, eG6, eH6, eC6, eK6, eD6⟩
      | n + 7, hn => absurd hn (by omega)
      gc := ⟨gS, gT⟩
      nd := nD
      g0 := PySem.W.mg_of X G eA0
      n0 := nF0
      t0 := ⟨g0, _, fun_mk (st := (inClass (topS 3) 0)) iL0 iC0 iK0, iF0, iT0⟩
      g1 := PySem.W.mg_of X G eA1
      n1 := nF1
      t1 := ⟨g1, _, fun_mk (st := (inClass (topS 4) 0)) iL1 iC1 iK1, iF1, iT1⟩
      g2 := PySem.W.mg_of X G eA2
      n2 := nF2
      t2 := ⟨g2, _, fun_mk (st := (inClass (topS 5) 0)) iL2 iC2 iK2, iF2, iT2⟩
      g3 := PySem.W.mg_of X G eA3
      n3 := nF3
      t3 := ⟨g3, _, fun_mk (st := (inClass (topS 6) 0)) iL3 iC3 iK3, iF3, iT3⟩
      g4 := PySem.W.mg_of X G eA4
      n4 := nF4
      t4 := ⟨g4, _, fun_mk (st := (inClass (topS 7) 0)) iL4 iC4 iK4, iF4, iT4⟩
      g5 := PySem.W.mg_of X G eA5
      n5 := nF5
      t5 := ⟨g5, _, fun_mk (st := (inClass (topS 8) 0)) iL5 iC5 iK5, iF5, iT5⟩
      g6 := PySem.W.mg_of X G eA6
      n6 := nF6
      t6 := ⟨g6, _, fun_mk (st := (inClass (topS 9) 0)) iL6 iC6 iK6, iF6, iT6⟩ }
end SM
open PySem PySem.W PyProof.Rows
set_option maxRecDepth 100000 in
set_option maxHeartbeats 0 in
theorem PySem.Challenge.cw_stillmain_k61_steps_told_holds : PySem.Challenge.rw_stillmain_k61_steps_told.Holds := by
  w_on; o_law; k_head; (case hw => w_witness2)
  k_fill
  refine SM.walkG (l := PySem.Challenge.rw_stillmain_k61_steps_told) (n := 63) (k := 12) (x := "_law_script") (sp := SM.spLawL) rfl (by decide) rfl ⟨rfl, by decide, by decide⟩ (fun w h Y => PySem.W.kIn_of Y) ?F (fun K H a ns hl hS => ⟨a, ns, rfl, hS, hl, fun _ => rfl⟩)
  case F =>
    intro w mg fa h KX G hmg base hKb hNb
    suffices T : ∃ (C : Nat → Addr) (M L LJ : Addr), SM.Tx _ mg C M L LJ from by
      obtain ⟨C, M, L, LJ, T⟩ := T
      exact SM.lo_law T
    refine' SM.all_mk KX G ?ad0 ?ld0 ?cd0 ?kd0 ?ad1 ?ld1 ?cd1 ?kd1 ?ad2 ?ld2 ?cd2 ?kd2 ?ad3 ?ld3 ?cd3 ?kd3 ?ad4 ?ld4 ?cd4 ?kd4 ?ad5 ?ld5 ?cd5 ?kd5 ?ad6 ?ld6 ?cd6 ?kd6 ?ad7 ?ld7 ?cd7 ?kd7 ?ad8 ?ld8 ?cd8 ?kd8 ?ad9 ?ld9 ?cd9 ?kd9 ?ad10 ?ld10 ?cd10 ?kd10 ?ad11 ?ld11 ?cd11 ?kd11 ?ad12 ?ld12 ?cd12 ?kd12 ?ad13 ?ld13 ?cd13 ?kd13 ?ad14 ?ld14 ?cd14 ?kd14 ?ad15 ?ld15 ?cd15 ?kd15 ?ad16 ?ld16 ?cd16 ?kd16 ?ad17 ?ld17 ?cd17 ?kd17 ?aCL ?am0 ?im0 ?lm0 ?cm0 ?km0 ?am1 ?im1 ?lm1 ?cm1 ?km1 ?am2 ?im2 ?lm2 ?cm2 ?km2 ?am3 ?im3 ?lm3 ?cm3 ?km3 ?am4 ?im4 ?lm4 ?cm4 ?km4 ?am5 ?im5 ?lm5 ?cm5 ?km5 ?am6 ?im6 ?lm6 ?cm6 ?km6 ?am7 ?im7 ?lm7 ?cm7 ?km7 ?am8 ?im8 ?lm8 ?cm8 ?km8 ?am9 ?im9 ?lm9 ?cm9 ?km9 ?am10 ?im10 ?lm10 ?cm10 ?km10 ?am11 ?im11 ?lm11 ?cm11 ?km11 ?am12 ?im12 ?lm12 ?cm12 ?km12 ?am13 ?im13 ?lm13 ?cm13 ?km13 ?am14 ?im14 ?lm14 ?cm14 ?km14 ?am15 ?im15 ?lm15 ?cm15 ?km15 ?am16 ?im16 ?lm16 ?cm16 ?km16 ?am17 ?im17 ?lm17 ?cm17 ?km17 ?am18 ?im18 ?lm18 ?cm18 ?km18 ?am19 ?im19 ?lm19 ?cm19 ?km19 ?pg ?hdL ?po ?sa ?mkL ?kL ?nA_stands ?nA_homes ?nA_stuck ?nA_hung ?nA_crews ?aCJ ?aj0 ?ij0 ?lj0 ?cj0 ?kj0 ?aj1 ?ij1 ?lj1 ?cj1 ?kj1 ?aj2 ?ij2 ?lj2 ?cj2 ?kj2 ?aj3 ?ij3 ?lj3 ?cj3 ?kj3 ?aj4 ?ij4 ?lj4 ?cj4 ?kj4 ?aj5 ?ij5 ?lj5 ?cj5 ?kj5 ?aj6 ?ij6 ?lj6 ?cj6 ?kj6 ?aj7 ?ij7 ?lj7 ?cj7 ?kj7 ?aj8 ?ij8 ?lj8 ?cj8 ?kj8 ?aj9 ?ij9 ?lj9 ?cj9 ?kj9 ?aj10 ?ij10 ?lj10 ?cj10 ?kj10 ?aj11 ?ij11 ?lj11 ?cj11 ?kj11 ?aj12 ?ij12 ?lj12 ?cj12 ?kj12 ?aj13 ?ij13 ?lj13 ?cj13 ?kj13 ?aj14 ?ij14 ?lj14 ?cj14 ?kj14 ?aj15 ?ij15 ?lj15 ?cj15 ?kj15 ?aj16 ?ij16 ?lj16 ?cj16 ?kj16 ?aj17 ?ij17 ?lj17 ?cj17 ?kj17 ?aj18 ?ij18 ?lj18 ?cj18 ?kj18 ?aj19 ?ij19 ?lj19 ?cj19 ?kj19 ?aj20 ?ij20 ?lj20 ?cj20 ?kj20 ?aj21 ?ij21 ?lj21 ?cj21 ?kj21 ?aj22 ?ij22 ?lj22 ?cj22 ?kj22 ?pgJ ?hdLJ ?poJ ?saJ ?mkJ ?kJ ?nJ_board ?nJ_name ?nJ_stretch ?nJ_phase ?nJ_aim ?nJ_switches ?nJ_drains ?g_MOST_IN_STRETCH ?g_LONGEST_NAME ?g_MOST_NAMES ?g_MOST_IN_CREW ?g_MOST_DEVICES ?g_MOST_JOBS ?z_any ?z_len ?z_all ?z_isinstance ?z_str ?z_sorted ?z_list ?z_set ?z_abs ?z_range ?z_repr ?z_enumerate ?z_ValueError ?eAM ?eLM ?eSM ?eGM ?eHM ?eCM ?eKM ?eDM ?eA0 ?eL0 ?eS0 ?eG0 ?eH0 ?eC0 ?eK0 ?eD0 ?eA1 ?eL1 ?eS1 ?eG1 ?eH1 ?eC1 ?eK1 ?eD1 ?eA2 ?eL2 ?eS2 ?eG2 ?eH2 ?eC2 ?eK2 ?eD2 ?eA3 ?eL3 ?eS3 ?eG3 ?eH3 ?eC3 ?eK3 ?eD3 ?eA4 ?eL4 ?eS4 ?eG4 ?eH4 ?eC4 ?eK4 ?eD4 ?eA5 ?eL5 ?eS5 ?eG5 ?eH5 ?eC5 ?eK5 ?eD5 ?eA6 ?eL6 ?eS6 ?eG6 ?eH6 ?eC6 ?eK6 ?eD6 ?nF0 ?iF0 ?iT0 ?iL0 ?iC0 ?iK0 ?nF1 ?iF1 ?iT1 ?iL1 ?iC1 ?iK1 ?nF2 ?iF2 ?iT2 ?iL2 ?iC2 ?iK2 ?nF3 ?iF3 ?iT3 ?iL3 ?iC3 ?iK3 ?nF4 ?iF4 ?iT4 ?iL4 ?iC4 ?iK4 ?nF5 ?iF5 ?iT5 ?iL5 ?iC5 ?iK5 ?nF6 ?iF6 ?iT6 ?iL6 ?iC6 ?iK6 ?gS ?gT ?iHa ?iHm ?aPO ?lPO ?nD
    (case ad0 => k_is)
    (case ld0 => k_is)
    (case cd0 => k_is)
    (case kd0 => k_is)
    (case ad1 => k_is)
    (case ld1 => k_is)
    (case cd1 => k_is)
    (case kd1 => k_is)
    (case ad2 => k_is)
    (case ld2 => k_is)
    (case cd2 => k_is)
    (case kd2 => k_is)
    (case ad3 => k_is)
    (case ld3 => k_is)
    (case cd3 => k_is)
    (case kd3 => k_is)
    (case ad4 => k_is)
    (case ld4 => k_is)
    (case cd4 => k_is)
    (case kd4 => k_is)
    (case ad5 => k_is)
    (case ld5 => k_is)
    (case cd5 => k_is)
    (case kd5 => k_is)
    (case ad6 => k_is)
    (case ld6 => k_is)
    (case cd6 => k_is)
    (case kd6 => k_is)
    (case ad7 => k_is)
    (case ld7 => k_is)
    (case cd7 => k_is)
    (case kd7 => k_is)
    (case ad8 => k_is)
    (case ld8 => k_is)
    (case cd8 => k_is)
    (case kd8 => k_is)
    (case ad9 => k_is)
    (case ld9 => k_is)
    (case cd9 => k_is)
    (case kd9 => k_is)
    (case ad10 => k_is)
    (case ld10 => k_is)
    (case cd10 => k_is)
    (case kd10 => k_is)
    (case ad11 => k_is)
    (case ld11 => k_is)
    (case cd11 => k_is)
    (case kd11 => k_is)
    (case ad12 => k_is)
    (case ld12 => k_is)
    (case cd12 => k_is)
    (case kd12 => k_is)
    (case ad13 => k_is)
    (case ld13 => k_is)
    (case cd13 => k_is)
    (case kd13 => k_is)
    (case ad14 => k_is)
    (case ld14 => k_is)
    (case cd14 => k_is)
    (case kd14 => k_is)
    (case ad15 => k_is)
    (case ld15 => k_is)
    (case cd15 => k_is)
    (case kd15 => k_is)
    (case ad16 => k_is)
    (case ld16 => k_is)
    (case cd16 => k_is)
    (case kd16 => k_is)
    (case ad17 => k_is)
    (case ld17 => k_is)
    (case cd17 => k_is)
    (case kd17 => k_is)
    (case aCL => k_is)
    (case am0 => k_is)
    (case im0 => k_is)
    (case lm0 => k_is)
    (case cm0 => k_is)
    (case km0 => k_is)
    (case am1 => k_is)
    (case im1 => k_is)
    (case lm1 => k_is)
    (case cm1 => k_is)
    (case km1 => k_is)
    (case am2 => k_is)
    (case im2 => k_is)
    (case lm2 => k_is)
    (case cm2 => k_is)
    (case km2 => k_is)
    (case am3 => k_is)
    (case im3 => k_is)
    (case lm3 => k_is)
    (case cm3 => k_is)
    (case km3 => k_is)
    (case am4 => k_is)
    (case im4 => k_is)
    (case lm4 => k_is)
    (case cm4 => k_is)
    (case km4 => k_is)
    (case am5 => k_is)
    (case im5 => k_is)
    (case lm5 => k_is)
    (case cm5 => k_is)
    (case km5 => k_is)
    (case am6 => k_is)
    (case im6 => k_is)
    (case lm6 => k_is)
    (case cm6 => k_is)
    (case km6 => k_is)
    (case am7 => k_is)
    (case im7 => k_is)
    (case lm7 => k_is)
    (case cm7 => k_is)
    (case km7 => k_is)
    (case am8 => k_is)
    (case im8 => k_is)
    (case lm8 => k_is)
    (case cm8 => k_is)
    (case km8 => k_is)
    (case am9 => k_is)
    (case im9 => k_is)
    (case lm9 => k_is)
    (case cm9 => k_is)
    (case km9 => k_is)
    (case am10 => k_is)
    (case im10 => k_is)
    (case lm10 => k_is)
    (case cm10 => k_is)
    (case km10 => k_is)
    (case am11 => k_is)
    (case im11 => k_is)
    (case lm11 => k_is)
    (case cm11 => k_is)
    (case km11 => k_is)
    (case am12 => k_is)
    (case im12 => k_is)
    (case lm12 => k_is)
    (case cm12 => k_is)
    (case km12 => k_is)
    (case am13 => k_is)
    (case im13 => k_is)
    (case lm13 => k_is)
    (case cm13 => k_is)
    (case km13 => k_is)
    (case am14 => k_is)
    (case im14 => k_is)
    (case lm14 => k_is)
    (case cm14 => k_is)
    (case km14 => k_is)
    (case am15 => k_is)
    (case im15 => k_is)
    (case lm15 => k_is)
    (case cm15 => k_is)
    (case km15 => k_is)
    (case am16 => k_is)
    (case im16 => k_is)
    (case lm16 => k_is)
    (case cm16 => k_is)
    (case km16 => k_is)
    (case am17 => k_is)
    (case im17 => k_is)
    (case lm17 => k_is)
    (case cm17 => k_is)
    (case km17 => k_is)
    (case am18 => k_is)
    (case im18 => k_is)
    (case lm18 => k_is)
    (case cm18 => k_is)
    (case km18 => k_is)
    (case am19 => k_is)
    (case im19 => k_is)
    (case lm19 => k_is)
    (case cm19 => k_is)
    (case km19 => k_is)
    (case pg => k_is)
    (case hdL => k_is)
    (case po => k_is)
    (case sa => k_is)
    (case mkL => k_is)
    (case kL => k_is)
    (case nA_stands => k_is)
    (case nA_homes => k_is)
    (case nA_stuck => k_is)
    (case nA_hung => k_is)
    (case nA_crews => k_is)
    (case aCJ => k_is)
    (case aj0 => k_is)
    (case ij0 => k_is)
    (case lj0 => k_is)
    (case cj0 => k_is)
    (case kj0 => k_is)
    (case aj1 => k_is)
    (case ij1 => k_is)
    (case lj1 => k_is)
    (case cj1 => k_is)
    (case kj1 => k_is)
    (case aj2 => k_is)
    (case ij2 => k_is)
    (case lj2 => k_is)
    (case cj2 => k_is)
    (case kj2 => k_is)
    (case aj3 => k_is)
    (case ij3 => k_is)
    (case lj3 => k_is)
    (case cj3 => k_is)
    (case kj3 => k_is)
    (case aj4 => k_is)
    (case ij4 => k_is)
    (case lj4 => k_is)
    (case cj4 => k_is)
    (case kj4 => k_is)
    (case aj5 => k_is)
    (case ij5 => k_is)
    (case lj5 => k_is)
    (case cj5 => k_is)
    (case kj5 => k_is)
    (case aj6 => k_is)
    (case ij6 => k_is)
    (case lj6 => k_is)
    (case cj6 => k_is)
    (case kj6 => k_is)
    (case aj7 => k_is)
    (case ij7 => k_is)
    (case lj7 => k_is)
    (case cj7 => k_is)
    (case kj7 => k_is)
    (case aj8 => k_is)
    (case ij8 => k_is)
    (case lj8 => k_is)
    (case cj8 => k_is)
    (case kj8 => k_is)
    (case aj9 => k_is)
    (case ij9 => k_is)
    (case lj9 => k_is)
    (case cj9 => k_is)
    (case kj9 => k_is)
    (case aj10 => k_is)
    (case ij10 => k_is)
    (case lj10 => k_is)
    (case cj10 => k_is)
    (case kj10 => k_is)
    (case aj11 => k_is)
    (case ij11 => k_is)
    (case lj11 => k_is)
    (case cj11 => k_is)
    (case kj11 => k_is)
    (case aj12 => k_is)
    (case ij12 => k_is)
    (case lj12 => k_is)
    (case cj12 => k_is)
    (case kj12 => k_is)
    (case aj13 => k_is)
    (case ij13 => k_is)
    (case lj13 => k_is)
    (case cj13 => k_is)
    (case kj13 => k_is)
    (case aj14 => k_is)
    (case ij14 => k_is)
    (case lj14 => k_is)
    (case cj14 => k_is)
    (case kj14 => k_is)
    (case aj15 => k_is)
    (case ij15 => k_is)
    (case lj15 => k_is)
    (case cj15 => k_is)
    (case kj15 => k_is)
    (case aj16 => k_is)
    (case ij16 => k_is)
    (case lj16 => k_is)
    (case cj16 => k_is)
    (case kj16 => k_is)
    (case aj17 => k_is)
    (case ij17 => k_is)
    (case lj17 => k_is)
    (case cj17 => k_is)
    (case kj17 => k_is)
    (case aj18 => k_is)
    (case ij18 => k_is)
    (case lj18 => k_is)
    (case cj18 => k_is)
    (case kj18 => k_is)
    (case aj19 => k_is)
    (case ij19 => k_is)
    (case lj19 => k_is)
    (case cj19 => k_is)
    (case kj19 => k_is)
    (case aj20 => k_is)
    (case ij20 => k_is)
    (case lj20 => k_is)
    (case cj20 => k_is)
    (case kj20 => k_is)
    (case aj21 => k_is)
    (case ij21 => k_is)
    (case lj21 => k_is)
    (case cj21 => k_is)
    (case kj21 => k_is)
    (case aj22 => k_is)
    (case ij22 => k_is)
    (case lj22 => k_is)
    (case cj22 => k_is)
    (case kj22 => k_is)
    (case pgJ => k_is)
    (case hdLJ => k_is)
    (case poJ => k_is)
    (case saJ => k_is)
    (case mkJ => k_is)
    (case kJ => k_is)
    (case nJ_board => k_is)
    (case nJ_name => k_is)
    (case nJ_stretch => k_is)
    (case nJ_phase => k_is)
    (case nJ_aim => k_is)
    (case nJ_switches => k_is)
    (case nJ_drains => k_is)
    (case g_MOST_IN_STRETCH => k_is)
    (case g_LONGEST_NAME => k_is)
    (case g_MOST_NAMES => k_is)
    (case g_MOST_IN_CREW => k_is)
    (case g_MOST_DEVICES => k_is)
    (case g_MOST_JOBS => k_is)
    (case z_any => k_is)
    (case z_len => k_is)
    (case z_all => k_is)
    (case z_isinstance => k_is)
    (case z_str => k_is)
    (case z_sorted => k_is)
    (case z_list => k_is)
    (case z_set => k_is)
    (case z_abs => k_is)
    (case z_range => k_is)
    (case z_repr => k_is)
    (case z_enumerate => k_is)
    (case z_ValueError => k_is)
    (case eAM => k_is)
    (case eLM => k_is)
    (case eSM => k_is)
    (case eGM => k_is)
    (case eHM => k_is)
    (case eCM => k_is)
    (case eKM => k_is)
    (case eDM => k_is)
    (case eA0 => k_is)
    (case eL0 => k_is)
    (case eS0 => k_is)
    (case eG0 => k_is)
    (case eH0 => k_is)
    (case eC0 => k_is)
    (case eK0 => k_is)
    (case eD0 => k_is)
    (case eA1 => k_is)
    (case eL1 => k_is)
    (case eS1 => k_is)
    (case eG1 => k_is)
    (case eH1 => k_is)
    (case eC1 => k_is)
    (case eK1 => k_is)
    (case eD1 => k_is)
    (case eA2 => k_is)
    (case eL2 => k_is)
    (case eS2 => k_is)
    (case eG2 => k_is)
    (case eH2 => k_is)
    (case eC2 => k_is)
    (case eK2 => k_is)
    (case eD2 => k_is)
    (case eA3 => k_is)
    (case eL3 => k_is)
    (case eS3 => k_is)
    (case eG3 => k_is)
    (case eH3 => k_is)
    (case eC3 => k_is)
    (case eK3 => k_is)
    (case eD3 => k_is)
    (case eA4 => k_is)
    (case eL4 => k_is)
    (case eS4 => k_is)
    (case eG4 => k_is)
    (case eH4 => k_is)
    (case eC4 => k_is)
    (case eK4 => k_is)
    (case eD4 => k_is)
    (case eA5 => k_is)
    (case eL5 => k_is)
    (case eS5 => k_is)
    (case eG5 => k_is)
    (case eH5 => k_is)
    (case eC5 => k_is)
    (case eK5 => k_is)
    (case eD5 => k_is)
    (case eA6 => k_is)
    (case eL6 => k_is)
    (case eS6 => k_is)
    (case eG6 => k_is)
    (case eH6 => k_is)
    (case eC6 => k_is)
    (case eK6 => k_is)
    (case eD6 => k_is)
    (case nF0 => k_is)
    (case iF0 => k_is)
    (case iT0 => k_is)
    (case iL0 => k_is)
    (case iC0 => k_is)
    (case iK0 => k_is)
    (case nF1 => k_is)
    (case iF1 => k_is)
    (case iT1 => k_is)
    (case iL1 => k_is)
    (case iC1 => k_is)
    (case iK1 => k_is)
    (case nF2 => k_is)
    (case iF2 => k_is)
    (case iT2 => k_is)
    (case iL2 => k_is)
    (case iC2 => k_is)
    (case iK2 => k_is)
    (case nF3 => k_is)
    (case iF3 => k_is)
    (case iT3 => k_is)
    (case iL3 => k_is)
    (case iC3 => k_is)
    (case iK3 => k_is)
    (case nF4 => k_is)
    (case iF4 => k_is)
    (case iT4 => k_is)
    (case iL4 => k_is)
    (case iC4 => k_is)
    (case iK4 => k_is)
    (case nF5 => k_is)
    (case iF5 => k_is)
    (case iT5 => k_is)
    (case iL5 => k_is)
    (case iC5 => k_is)
    (case iK5 => k_is)
    (case nF6 => k_is)
    (case iF6 => k_is)
    (case iT6 => k_is)
    (case iL6 => k_is)
    (case iC6 => k_is)
    (case iK6 => k_is)
    (case gS => k_is)
    (case gT => k_is)
    (case iHa => k_is)
    (case iHm => k_is)
    (case aPO => k_is)
    (case lPO => k_is)
    (case nD => decide)
