import PyProof.Rows.All
import Wide.All
import OpenK.AllK
import Wide.FinOn
import HandS.Base
import HandS.Call
import HandS.List
import HandS.Comp
import HandS.Ends
import HandS.Dict
import HandS.Iter
import HandS.Text
import HandS.Words
import HandS.WordsList
import HandS.WordsDict
import HandS.Exc
import HandS.TryOnly
import HandS.ExcOwn
import HandS.ExcInit
import HandS.WordsExc
import HandS.HotCalls
import KE.KExcIs
import PyProof.ReprRoads
import PyProof.ReprLen
import HandS.More
import HandS.IsInst
import HandS.Walk
import HandS.ListItems
import HandS.Wide
import HandS.Strs
import KE.KSetAt
import HandS.DictComp
import HandS.Style
import HandS.Deep
import KE.DataMinMax
import HandS.Evl
import PySem.Challenge.RW_stillmain_k32_way_fewest_first
set_option Elab.async false
set_option linter.all false
set_option maxRecDepth 100000
set_option maxHeartbeats 4000000
/-! Part 1: a def that runs where no guard stands (G), so that repr of data may be told. -/
namespace SM
open PySem PySem.Spec PyProof.Rows L2
/-- nothing is being shown around -/
abbrev Quiet (A : Around) : Prop := A.guards = some []
theorem quiet_deeper {A : Around} (q : Quiet A) (env : Env) : Quiet (A.deeper env) := q
/-- a def's promise, where nothing is being shown around -/
structure FnG (P : Program) (w : World) (K : PySem.W.Frag) (mg : Str → Option Value) (base : Heap) (CX : CXT) (k : Nat) (f : Addr) (fd : FuncData) (ps : List Str) (sp : Sp) : Prop where
  len : ∀ vs H Q E, sp vs H Q E → vs.length = ps.length
  go : ∀ (A : Around) (outer : List Env) (s : Shared) (H : Hp) (args : Args) (us : List Value) (vs : List V) (Q : VK) (E : XK), Quiet A → Room k A → Env0 P w K mg base A outer s H → BindsTo s fd args (ps.zip us) → Vals vs us → sp vs H Q E →
    codeAny (model P w) A (.call (.ref f) args) (CR CX outer P w H s Q E) s
section
variable {P : Program} {w : World} {K : PySem.W.Frag} {mg : Str → Option Value} {base : Heap} {CX : CXT} {k : Nat} {f : Addr} {fd : FuncData} {ps : List Str} {sp : Sp}
theorem FnG.of (F : FnOk P w K mg base CX k f fd ps sp) : FnG P w K mg base CX k f fd ps sp :=
  ⟨F.len, fun A outer s H args us vs Q E _ hr e0 hb r h => F.run A outer s H args us vs Q E hr e0 hb r h⟩
theorem FnG.up {j : Nat} (F : FnG P w K mg base CX j f fd ps sp) (h : j ≤ k) : FnG P w K mg base CX k f fd ps sp :=
  ⟨F.len, fun A outer s H args us vs Q E q hr => F.go A outer s H args us vs Q E q (hr.mono h)⟩
end
section
variable {CX : CXT} {P : Program} {w : World} {K : PySem.W.Frag} {mg : Str → Option Value} {base : Heap}
/-- a quiet def by its body -/
theorem fnG_body {k : Nat} {f : Addr} {name qual : Str} {params : Arguments} {body : List Stmt} {scope : Scope} {dV kV doc pm cdv ct oc : Value} {an od : Option Addr} {osl : Array (Option Value)} {N ps : List Str} {sp : Sp}
    (lk : K.lookup f = some ⟨oc, od, .func (PySem.W.fnOf name qual params body scope dV kV doc pm an cdv ct), osl⟩) (hcd : PySem.W.codeIn K cdv qual = true) (S : FnScope N ps scope) (len : ∀ vs H Q E, sp vs H Q E → vs.length = ps.length)
    (bd : ∀ (A : Around) (outer : List Env) (s : Shared) (H : Hp) (vs : List V) (Q : VK) (E : XK), Quiet A → Room k (A.deeper (envOfC qual scope s.heap.objs.size f cdv)) → sp vs H Q E →
      ∃ t, PSs (cxOf CX P w K mg base N qual scope f cdv A outer s H E) body t ∧ t { nx := fun _ H' => Q .non H', rt := Q } (L2.start N vs) H) :
    FnG P w K mg base CX (k + 1) f (PySem.W.fnOf name qual params body scope dV kV doc pm an cdv ct) ps sp where
  len := len
  go A outer s H args us vs Q E qa hr e0 hb r hsp := by
    have hvl := len vs H Q E hsp
    have kIn : K.In s.heap := e0.mod.kin.keeps fun b o z => (e0.bs b o z).1
    have noLim : s.heap.NoLimit := e0.mod.nolimit.keeps fun b o z => (e0.bs b o z).1
    have kinds : ∀ y ∈ ps.zip us, scope.names.lookup y.1 = some .local ∨ (scope.names.lookup y.1 = some .cell ∧ ((cellsFrom (s.heap.objs.size + 1) scope.names []).lookup y.1).isSome = true) := by
      rintro ⟨n, v⟩ hy
      exact (S.par n (List.of_mem_zip hy).1).imp id fun q => ⟨q, PySem.W.cellsFrom_some _ _ _ (.inl q)⟩
    refine codeAny_call_function hr.depth (kIn f _ lk) rfl S.co S.gen rfl (PySem.W.codeRec_of kIn hcd) (hb _ _ _ _ ?_)
    refine wpAny_newFunctionEnv_cells S.kind kinds fun env he s1 x => ?_
    subst he
    obtain ⟨t, ht, hq⟩ := bd A outer s H vs Q E qa (hr.deeper _) hsp
    have J : Inv (cxOf CX P w K mg base N qual scope f cdv A outer s H E) [] (L2.start N vs) H s1 := inv_start S hr.hd e0 hvl r x
    refine ⟨noLim.keeps x.toInCall.keep, codeAny_func (wpAny_mono (ht.run [] s1 _ H _ J hq) ?_ fun _ _ hs => hs)⟩
    intro fl s2 hs
    cases fl with
    | ret u =>
      obtain ⟨v, σ2, H2, J2, rv, q⟩ := hs
      exact ⟨v, H2, J2.os, J2.bare, J2.base, J2.hok, rv, q⟩
    | next =>
      obtain ⟨σ2, H2, J2, q⟩ := hs
      exact ⟨V.non, H2, J2.os, J2.bare, J2.base, J2.hok, rfl, q⟩
    | brk =>
      obtain ⟨_, _, _, z⟩ := hs
      exact z.elim
    | cont =>
      obtain ⟨_, _, _, z⟩ := hs
      exact z.elim
/-- the same of a def of the text, nothing is let out -/
theorem Fun.okG {x qual : Str} {st : Stmt} {f : Addr} {fd : FuncData} {N ps : List Str} {k : Nat} {sp : Sp} (F : L2.Fun K x qual st f fd) (S : FnScope N ps (defScope st)) (len : ∀ vs H Q E, sp vs H Q E → vs.length = ps.length)
    (bd : ∀ (cdv : Value) (A : Around) (outer : List Env) (s : Shared) (H : Hp) (vs : List V) (Q : VK) (E : XK), Quiet A → Room k (A.deeper (envOfC qual (defScope st) s.heap.objs.size f cdv)) → sp vs H Q E →
      ∃ t, PSs (cxOf CX0 P w K mg base N qual (defScope st) f cdv A outer s H E).nox (defBody st) t ∧ t { nx := fun _ H' => Q .non H', rt := Q } (L2.start N vs) H) : FnG P w K mg base CX0 (k + 1) f fd ps sp := by
  obtain ⟨oc, od, kV, doc, pm, an, cdv, ct, osl, rfl, lk, hcd⟩ := F.ex
  refine fnG_body lk hcd S len fun A outer s H vs Q E qa hr hsp => ?_
  obtain ⟨t, ht, hq⟩ := bd cdv A outer s H vs Q E qa hr hsp
  exact ⟨t, ht.nox, hq⟩
end
section
variable {X : Cx} {CX : CXT} {k : Nat} {f : Addr} {fd : FuncData} {ps : List Str} {sp : Sp} {E : XK} {x : Str} {p pos : Pos} {e : Expr} {es : List Expr} {t : TA}
theorem runG {pins : List (Addr × Obj)} {σ : L2.St} {H : Hp} {s : Shared} {Q : VK} {us : List Value} {vs : List V} (F : FnG X.prog X.w X.K X.mg X.base CX k f fd ps sp) (qa : Quiet X.A) (hr : Room k X.A) (hb : Binds X.K fd ps []) (hx : Passes CX X E)
    (I : Inv X pins σ H s) (r : Vals vs us) (h : sp vs H Q E) : wpAny (model X.prog X.w) X.A (call (.ref f) us) (EP X pins σ Q) X.xe s := by
  have el : us.length = ps.length := r.length.symm.trans (F.len vs H Q E h)
  have bb := hb s us I.kIn (by rw [List.append_nil]; exact el)
  rw [List.append_nil] at bb
  refine wpAny_call (codeAny_mono (F.go X.A X.stack s H ⟨us, []⟩ us vs Q E qa hr I.env0 bb r h) ?_)
  intro res s2 hq
  match res, hq with
  | .error er, hq => exact hx pins σ H s er s2 I hq
  | .ok (.ret u), hq => exact I.after hq
  | .ok .next, hq => exact False.elim hq
  | .ok .brk, hq => exact False.elim hq
  | .ok .cont, hq => exact False.elim hq
/-- f(e, ..), f a quiet def, called where it is quiet -/
theorem pe_callG (F : FnG X.prog X.w X.K X.mg X.base CX k f fd ps sp) (qa : Quiet X.A) (hr : Room k X.A) (hg : Gl X x) (hm : X.mg x = some (.ref f)) (hk : PySem.W.keepIn X.K (.ref f) = true) (hb : Binds X.K fd ps []) (hx : Passes CX X E)
    (ha : PA X (e :: es) t) (hdb : (x == ("__debug__" : Str)) = false := by decide) (he : starEach (e :: es) X.env = (false, eval e X.env) :: starEach es X.env := by rfl) (hpl : (backTo pos (starEach es X.env)).any (·.1) = false := by rfl) :
    PE X (.Call (.Name x p) (e :: es) [] pos) (tCall sp [] E t) := by
  refine ⟨fun pins s σ H Q I h => wpAny_Call_Name_kw (ld_glob I hg hm ?_ hdb)⟩
  refine PySem.W.callWith_K (h₀ := X.base) I.ok.mod.kin hk (thn (ha.run pos pins s σ H _ I h) ?_) he hpl
  rintro us s1 ⟨vs, H1, I1, r, q⟩
  rw [List.append_nil] at q
  exact ⟨I1.kIn, runG F qa hr hb hx I1 r q⟩
end
end SM
/-! Part F: defs by name, no address told. -/
namespace SM
open PySem PySem.Spec PyProof.Rows L2
/-- the def st stands at the module's name x -/
def DefAt (K : PySem.W.Frag) (mg : Str → Option Value) (x : Str) (st : Stmt) : Prop := ∃ f fd, L2.Fun K x x st f fd ∧ mg x = some (.ref f)
/-- whoever calls x by its name has the promise sp -/
def OkF (P : Program) (w : World) (K : PySem.W.Frag) (mg : Str → Option Value) (base : Heap) (CX : CXT) (k : Nat) (x : Str) (ps : List Str) (sp : Sp) : Prop :=
  ∃ f fd, mg x = some (.ref f) ∧ PySem.W.keepIn K (.ref f) = true ∧ Binds K fd ps [] ∧ FnOk P w K mg base CX k f fd ps sp
/-- .. where it is quiet -/
def OkQ (P : Program) (w : World) (K : PySem.W.Frag) (mg : Str → Option Value) (base : Heap) (CX : CXT) (k : Nat) (x : Str) (ps : List Str) (sp : Sp) : Prop :=
  ∃ f fd, mg x = some (.ref f) ∧ PySem.W.keepIn K (.ref f) = true ∧ Binds K fd ps [] ∧ FnG P w K mg base CX k f fd ps sp
section
variable {P : Program} {w : World} {K : PySem.W.Frag} {mg : Str → Option Value} {base : Heap} {CX : CXT} {k : Nat} {x : Str} {ps : List Str} {sp : Sp}
theorem OkF.up {j : Nat} (F : OkF P w K mg base CX j x ps sp) (h : j ≤ k) : OkF P w K mg base CX k x ps sp :=
  let ⟨f, fd, a, b, c, d⟩ := F; ⟨f, fd, a, b, c, d.mono h⟩
theorem OkQ.up {j : Nat} (F : OkQ P w K mg base CX j x ps sp) (h : j ≤ k) : OkQ P w K mg base CX k x ps sp :=
  let ⟨f, fd, a, b, c, d⟩ := F; ⟨f, fd, a, b, c, d.up h⟩
theorem OkF.q (F : OkF P w K mg base CX k x ps sp) : OkQ P w K mg base CX k x ps sp :=
  let ⟨f, fd, a, b, c, d⟩ := F; ⟨f, fd, a, b, c, .of d⟩
/-- binding of written parameters -/
abbrev BindsBy (x : Str) (st : Stmt) (ps : List Str) : Prop := ∀ (kV doc pm : Value) (an : Option Addr) (cdv ct : Value) (us : List Value), us.length = ps.length →
  bindArgs (PySem.W.fnOf x x (defArgs st) (defBody st) (defScope st) .none kV doc pm an cdv ct) ⟨us, []⟩ = pure (ps.zip us)
/-- a def that lets nothing out -/
theorem DefAt.ok {st : Stmt} {N : List Str} (D : DefAt K mg x st) (S : FnScope N ps (defScope st)) (b : BindsBy x st ps) (len : ∀ vs H Q E, sp vs H Q E → vs.length = ps.length)
    (bd : ∀ (f : Addr) (cdv : Value) (A : Around) (outer : List Env) (s : Shared) (H : Hp) (vs : List V) (Q : VK) (E : XK), Room k (A.deeper (envOfC x (defScope st) s.heap.objs.size f cdv)) → sp vs H Q E →
      ∃ t, PSs (cxOf CX0 P w K mg base N x (defScope st) f cdv A outer s H E).nox (defBody st) t ∧ t { nx := fun _ H' => Q .non H', rt := Q } (L2.start N vs) H) : OkF P w K mg base CX0 (k + 1) x ps sp := by
  obtain ⟨f, fd, F, g⟩ := D
  exact ⟨f, fd, g, F.kp, F.binds b, F.ok S len fun cdv A outer s H vs Q E hr h => bd f cdv A outer s H vs Q E hr h⟩
/-- .. that may raise -/
theorem DefAt.okX {st : Stmt} {N : List Str} (D : DefAt K mg x st) (S : FnScope N ps (defScope st)) (b : BindsBy x st ps) (len : ∀ vs H Q E, sp vs H Q E → vs.length = ps.length)
    (bd : ∀ (f : Addr) (cdv : Value) (A : Around) (outer : List Env) (s : Shared) (H : Hp) (vs : List V) (Q : VK) (E : XK), Room k (A.deeper (envOfC x (defScope st) s.heap.objs.size f cdv)) → sp vs H Q E →
      ∃ t, PSs (cxOf (L2.CX P w) P w K mg base N x (defScope st) f cdv A outer s H E) (defBody st) t ∧ t { nx := fun _ H' => Q .non H', rt := Q } (L2.start N vs) H) : OkF P w K mg base (L2.CX P w) (k + 1) x ps sp := by
  obtain ⟨f, fd, F, g⟩ := D
  exact ⟨f, fd, g, F.kp, F.binds b, F.okX S len fun cdv A outer s H vs Q E hr h => bd f cdv A outer s H vs Q E hr h⟩
/-- .. that wants it quiet -/
theorem DefAt.okQ {st : Stmt} {N : List Str} (D : DefAt K mg x st) (S : FnScope N ps (defScope st)) (b : BindsBy x st ps) (len : ∀ vs H Q E, sp vs H Q E → vs.length = ps.length)
    (bd : ∀ (f : Addr) (cdv : Value) (A : Around) (outer : List Env) (s : Shared) (H : Hp) (vs : List V) (Q : VK) (E : XK), Quiet A → Room k (A.deeper (envOfC x (defScope st) s.heap.objs.size f cdv)) → sp vs H Q E →
      ∃ t, PSs (cxOf CX0 P w K mg base N x (defScope st) f cdv A outer s H E).nox (defBody st) t ∧ t { nx := fun _ H' => Q .non H', rt := Q } (L2.start N vs) H) : OkQ P w K mg base CX0 (k + 1) x ps sp := by
  obtain ⟨f, fd, F, g⟩ := D
  exact ⟨f, fd, g, F.kp, F.binds b, Fun.okG F S len fun cdv A outer s H vs Q E qa hr h => bd f cdv A outer s H vs Q E qa hr h⟩
end
section
variable {X : Cx} {CX : CXT} {k : Nat} {ps : List Str} {sp : Sp} {E : XK} {x : Str} {p pos : Pos} {e : Expr} {es : List Expr} {t : TA}
theorem pe_f (F : OkF X.prog X.w X.K X.mg X.base CX k x ps sp) (hr : Room k X.A) (hx : Passes CX X E) (ha : PA X (e :: es) t) (hg : Gl X x := by rfl) (hdb : (x == ("__debug__" : Str)) = false := by decide)
    (he : starEach (e :: es) X.env = (false, eval e X.env) :: starEach es X.env := by rfl) (hpl : (backTo pos (starEach es X.env)).any (·.1) = false := by rfl) : PE X (.Call (.Name x p) (e :: es) [] pos) (tCall sp [] E t) := by
  obtain ⟨f, fd, a, b, c, d⟩ := F
  exact pe_call d hr hg a b c .nil hx ha hdb he hpl
theorem pe_q (F : OkQ X.prog X.w X.K X.mg X.base CX k x ps sp) (qa : Quiet X.A) (hr : Room k X.A) (hx : Passes CX X E) (ha : PA X (e :: es) t) (hg : Gl X x := by rfl) (hdb : (x == ("__debug__" : Str)) = false := by decide)
    (he : starEach (e :: es) X.env = (false, eval e X.env) :: starEach es X.env := by rfl) (hpl : (backTo pos (starEach es X.env)).any (·.1) = false := by rfl) : PE X (.Call (.Name x p) (e :: es) [] pos) (tCall sp [] E t) := by
  obtain ⟨f, fd, a, b, c, d⟩ := F
  exact pe_callG d qa hr hg a b c hx ha hdb he hpl
/-- in a try's body: what is raised is wished for at the slots as they stand -/
theorem pe_fS {E : L2.St → XK} (F : OkF X.prog X.w X.K X.mg X.base CX k x ps sp) (hr : Room k X.A) (hx : ∀ σ, PassesAt CX X σ (E σ)) (ha : PA X (e :: es) t) (hg : Gl X x := by rfl) (hdb : (x == ("__debug__" : Str)) = false := by decide)
    (he : starEach (e :: es) X.env = (false, eval e X.env) :: starEach es X.env := by rfl) (hpl : (backTo pos (starEach es X.env)).any (·.1) = false := by rfl) : PE X (.Call (.Name x p) (e :: es) [] pos) (tCallS sp E t) := by
  obtain ⟨f, fd, a, b, c, d⟩ := F
  exact pe_callS d hr hg a b c hx ha hdb he hpl
end
/-! ### small facts -/
theorem if_t {c : Bool} {A B : Prop} (hc : c = true) (h : A) : if c = true then A else B := by
  rw [if_pos hc]
  exact h
theorem if_f {c : Bool} {A B : Prop} (hc : c = false) (h : B) : if c = true then A else B := by
  rw [hc, if_neg Bool.false_ne_true]
  exact h
theorem hu64 {A : Around} {k : Nat} (hr : Room k A) : A.units + 64 < cLine := hr.units
theorem hu0 {A : Around} {k : Nat} (hr : Room k A) : A.units < cLine := hr.units0
/-- what was tracked stays, a new thing beside -/
theorem Same.newp {H : Hp} {p : Addr} {o : HO} (h : H p = none) : Same H (upd H p o) := fun b u e => by
  rw [upd_ne (ne_of_none e h)]
  exact e
theorem Same.seqT {K : PySem.W.Frag} {H H' : Hp} {a : Addr} {xs : List V} (e : Same H H') (h : SqT K H a xs) : SqT K H' a xs := by
  rcases h with (h | ⟨o, h⟩) | h
  · exact .inl (.inl (e _ _ h))
  · exact .inl (.inr ⟨o, e _ _ h⟩)
  · exact .inr h
mutual
theorem dp_same {K : PySem.W.Frag} {H H' : Hp} (e : Same H H') : ∀ (d : PyData) (v : V), Dp K H v d → Dp K H' v d
  | .none, _, h => by cases h; exact .non
  | .bool _, _, h => by cases h; exact .bl _
  | .int _, _, h => by cases h; exact .int _
  | .str _, _, h => by cases h; exact .str _
  | .list ds, _, h => by cases h with | lst s t => exact .lst (L2.Same.seq e s) (dps_same e ds _ t)
  | .tuple ds, _, h => by cases h with | tup s t => exact .tup (Same.seqT e s) (dps_same e ds _ t)
  | .dict _, _, h => by cases h
theorem dps_same {K : PySem.W.Frag} {H H' : Hp} (e : Same H H') : ∀ (ds : List PyData) (vs : List V), DpAll K H vs ds → DpAll K H' vs ds
  | [], _, h => by cases h; exact .nil
  | d :: ds, _, h => by cases h with | cons a b => exact .cons (dp_same e d _ a) (dps_same e ds _ b)
end
end SM
/-! Part G: the bag of draws. -/
namespace SM
open PySem PySem.Spec PyProof.Rows L2
/-- l[i], i not below nought, for l[i] op= e -/
def gL (K : PySem.W.Frag) : V → V → Hp → VK → Prop := fun x y H Q => ∃ (p : Addr) (xs : List V) (i : Int) (v : V), x = .ref p ∧ y = .int i ∧ SqL K H p xs ∧ 0 ≤ i ∧ xs[i.toNat]? = some v ∧ Q v H
theorem get_list {X : Cx} : PGet X (gL X.K) := by
  intro pins s σ H o i ov iv Q I ro ri h
  obtain ⟨p, xs, n, v, rfl, rfl, sq, h0, hx, q⟩ := h
  obtain rfl : ov = Value.ref p := ro
  obtain ⟨t, rfl⟩ := ri
  obtain ⟨its, rv, pl, hz⟩ := I.list sq
  obtain ⟨u, eu, ru⟩ := rv.get hx
  have hi : n.toNat < xs.length := (List.getElem?_eq_some_iff.mp hx).1
  have l63 := line63
  exact wpAny_getItem_list pl.isList h0 (by omega) (by simpa using eu) ⟨v, H, I, ru, q⟩
/-- the bag at p: three numbers and the cells at q -/
structure BagIs (H : Hp) (p q : Addr) (a b c : Int) (ns : List Int) : Prop where
  top : H p = some (.lst [.int a, .int b, .int c, .ref q])
  low : H q = some (.lst (ns.map V.int))
  a0 : 0 ≤ a
  b0 : 0 ≤ b
  b1 : b < 2147483647
  c0 : 0 ≤ c
  nn : ∀ n ∈ ns, 0 ≤ n
def Bag (H : Hp) (p q : Addr) : Prop := ∃ a b c ns, BagIs H p q a b c ns
theorem Bag.ne {H : Hp} {p q : Addr} (B : Bag H p q) : p ≠ q := by
  obtain ⟨a, b, c, ns, B⟩ := B
  intro e
  subst e
  have z := B.top.symm.trans B.low
  have z2 := congrArg (fun o => match o with | some (HO.lst xs) => xs | _ => []) z
  have z3 : ([.int a, .int b, .int c, .ref p] : List V) = ns.map V.int := z2
  have z4 : V.ref p ∈ ns.map V.int := by rw [← z3]; simp
  obtain ⟨n, _, hn⟩ := List.mem_map.mp z4
  cases hn
/-- but for what stands at p all is as it was -/
def But (p : Addr) (H H' : Hp) : Prop := ∀ b, b ≠ p → H' b = H b
theorem But.refl (p : Addr) (H : Hp) : But p H H := fun _ _ => rfl
theorem But.trans {p : Addr} {H H1 H2 : Hp} (x : But p H H1) (y : But p H1 H2) : But p H H2 := fun b hb => (y b hb).trans (x b hb)
theorem But.upd {p : Addr} {H : Hp} {o : HO} : But p H (L2.upd H p o) := fun _ hb => upd_ne hb
theorem Bag.keep {H H' : Hp} {p q : Addr} (B : Bag H p q) (ep : H' p = H p) (eq : H' q = H q) : Bag H' p q := by
  obtain ⟨a, b, c, ns, B⟩ := B
  exact ⟨a, b, c, ns, ep.trans B.top, eq.trans B.low, B.a0, B.b0, B.b1, B.c0, B.nn⟩
theorem Bag.same {H H' : Hp} {p q : Addr} (B : Bag H p q) (e : Same H H') : Bag H' p q := by
  obtain ⟨a, b, c, ns, B⟩ := B
  exact ⟨a, b, c, ns, e _ _ B.top, e _ _ B.low, B.a0, B.b0, B.b1, B.c0, B.nn⟩
theorem Bag.there {H : Hp} {p q : Addr} (B : Bag H p q) : H p ≠ none ∧ H q ≠ none := by
  obtain ⟨a, b, c, ns, B⟩ := B
  refine ⟨fun z => ?_, fun z => ?_⟩
  · rw [B.top] at z
    cases z
  · rw [B.low] at z
    cases z
/-- _law_bag(script): a new bag -/
def spBag (K : PySem.W.Frag) : Sp := fun vs H Q _ => ∃ (a : Addr) (ns : List Int), vs = [.ref a] ∧ SqL K H a (ns.map V.int) ∧ ns.length ≤ 63 ∧
  ∀ (H' : Hp) (p q : Addr), Same H H' → H p = none → H q = none → Bag H' p q → Q (.ref p) H'
/-- _law_take(bag, m): a number from 0 to m - 1; the bag's own list alone is changed -/
def spTake : Sp := fun vs H Q _ => ∃ (p q : Addr) (m : Int), vs = [.ref p, .int m] ∧ Bag H p q ∧ 0 < m ∧ m < 1073741824 ∧
  ∀ (v : Int) (H' : Hp), 0 ≤ v → v < m → Bag H' p q → But p H H' → Q (.int v) H'
/-! the mathematics of a draw -/
theorem fst_ok {b : Int} (h0 : 0 ≤ b) (h1 : b < 2147483647) : 0 ≤ (b + 1) * 39373 % 1000000007 ∧ (b + 1) * 39373 % 1000000007 < 1000000007 := by
  constructor <;> omega
theorem snd_ok (z : Int) : 0 ≤ z % 998244353 ∧ z % 998244353 < 998244353 := by
  constructor <;> omega
theorem atI_some {α : Type} {xs : List α} {v : Int} (h0 : 0 ≤ v) (h1 : v < xs.length) : ∃ y, y ∈ xs ∧ atI xs v = some y := by
  have lt : v.toNat < xs.length := by omega
  refine ⟨xs[v.toNat], List.getElem_mem _, ?_⟩
  have e := atI_nat (xs := xs) (j := v.toNat) (v := xs[v.toNat]) (List.getElem?_eq_getElem lt)
  rw [Int.toNat_of_nonneg h0] at e
  exact e
theorem pos31 : (0 : Int) < 2147483647 := by decide
theorem posA : (0 : Int) < 1000000007 := by decide
theorem posB : (0 : Int) < 998244353 := by decide
end SM
/-! Part X: the program's errors: made with a field, raised, caught, asked. -/
namespace SM
open PySem PySem.Spec PyProof.Rows L2
/-- a class of errors, by what the top has written: C, its bases' chain bm -/
structure ErrC (K : PySem.W.Frag) (C : Addr) (bm : List Value) : Prop where
  look : ∃ nm q N bs sn sub ab col dd k0 k1 k2 k3 k5, K.lookup C = some (excClassObj nm q C N bs bm true sn sub ab col dd k0 k1 k2 k3 k5 "ValueError.__new__")
  ve : PySem.HandSPX.refsVE bm = true
  sa : PySem.W.findIn K (.ref C) "__setattr__" = some (some (.builtin "object.__setattr__"))
  ga : PySem.W.findIn K (.ref C) "__getattribute__" = some (some (.builtin "BaseException.__getattribute__"))
  gg : PySem.W.findIn K (.ref C) "__getattr__" = some none
  ac : PySem.W.findIn K (.ref C) "__class__" = some (some (.builtin "object.__class__"))
  kC : PySem.W.keepIn K (.ref C) = true
  hd : PySem.W.hasDictIn K C = true
/-- what holds of object.__class__ -/
structure ClsGet (K : PySem.W.Frag) : Prop where
  sp : PySem.W.specialIn K (.builtin "object.__class__") "__get__" = some (some (.builtin "getset_descriptor.__get__"))
  tk : PySem.W.takesIn K (.builtin "object.__class__") = some true
section
variable {K : PySem.W.Frag} {C D : Addr} {bm bmD : List Value}
theorem ErrC.cls (T : ErrC K C bm) : ∃ cd, PySem.W.clsIn K C = some cd ∧ cd.mro = .ref C :: bm := by
  obtain ⟨nm, q, N, bs, sn, sub, ab, col, dd, k0, k1, k2, k3, k5, e⟩ := T.look
  refine ⟨{ name := nm, bases := bs, mro := .ref C :: bm, ns := N, qualname := q, hasDict := true, slotNames := sn, subclasses := sub, abstract := ab, collection := col, hasDel := false }, ?_, rfl⟩
  unfold PySem.W.clsIn
  rw [e] <;> rfl
theorem ErrC.some (T : ErrC K C bm) : (PySem.W.clsIn K C).isSome = true := by
  obtain ⟨cd, e, _⟩ := T.cls
  rw [e]
  rfl
theorem ErrC.mro (T : ErrC K C bm) (b : Value) : PySem.W.mroIn K C b = Option.some ((Value.ref C :: bm).contains b) := by
  obtain ⟨cd, e, em⟩ := T.cls
  unfold PySem.W.mroIn
  rw [e, Option.bind_some, em]
  rfl
theorem ErrC.ty (T : ErrC K C bm) : PySem.W.typeIn K (.ref C) = Option.some (.type "type") := by
  obtain ⟨nm, q, N, bs, sn, sub, ab, col, dd, k0, k1, k2, k3, k5, e⟩ := T.look
  show (K.lookup C).map (·.cls) = _
  rw [e]
  rfl
theorem ErrC.base (T : ErrC K C bm) (x : String) (h : PySem.HandSPX.veTail.contains (.type x) = true) : PySem.W.subIn K (.ref C) (.type x) = Option.some true := by
  show PySem.W.mroIn K C (.type x) = _
  rw [T.mro]
  have e := PySem.HandSPX.refsVE_contains x bm T.ve
  rw [h] at e
  show Option.some ((Value.type x == Value.ref C) || bm.contains (.type x)) = _
  rw [e, Bool.or_true]
theorem ErrC.bexc (T : ErrC K C bm) : PySem.W.subIn K (.ref C) (.type "BaseException") = Option.some true := T.base "BaseException" (by decide +kernel)
theorem ErrC.oex (T : ErrC K C bm) : OexC K C := by
  obtain ⟨nm, q, N, bs, sn, sub, ab, col, dd, k0, k1, k2, k3, k5, e⟩ := T.look
  exact ⟨⟨nm, q, N, bs, bm, sn, sub, ab, col, dd, k0, k1, k2, k3, k5, e, T.ve⟩, T.sa, T.bexc, T.ty, T.kC⟩
/-- is the error of C one of D's? -/
theorem ErrC.kit (T : ErrC K C bm) (U : ErrC K D bmD) : PySem.W.kitOne K (.ref C) (.ref D) = Option.some ((Value.ref C :: bm).contains (.ref D)) := by
  unfold PySem.W.kitOne
  by_cases h : (Value.ref C == Value.ref D) = true
  · rw [if_pos h]
    have e : C = D := Value.ref.inj (beq_iff_eq.mp h)
    subst e
    simp
  · rw [if_neg h]
    show (if ((PySem.W.clsIn K D).isSome && PySem.W.typeIn K (.ref D) == Option.some (.type "type")) = true then PySem.W.mroIn K C (.ref D) else none) = _
    rw [U.some, U.ty, T.mro, if_pos (by decide)]
theorem ErrC.kitV (T : ErrC K C bm) (x : String) (h : PySem.HandSPX.veTail.contains (.type x) = true) (m : PySem.W.kitMeta x = true) : PySem.W.kitOne K (.ref C) (.type x) = Option.some true := by
  unfold PySem.W.kitOne
  rw [if_neg (show ¬ ((Value.ref C == Value.type x) = true) from fun z => Bool.noConfusion z)]
  show (if PySem.W.kitMeta x = true then PySem.W.subIn K (.ref C) (.type x) else none) = _
  rw [if_pos m, T.base x h]
theorem ErrC.exm (T : ErrC K C bm) (U : ErrC K D bmD) : PySem.W.exmOne K (.ref C) (.ref D) = Option.some ((Value.ref C :: bm).contains (.ref D)) := by
  unfold PySem.W.exmOne
  rw [U.bexc, if_pos (by decide)]
  show (if ((PySem.W.clsIn K D).isSome && PySem.W.typeIn K (.ref D) == Option.some (.type "type")) = true then PySem.W.mroIn K C (.ref D) else none) = _
  rw [U.some, U.ty, T.mro, if_pos (by decide)]
end
theorem nodup_ix' {α : Type} {l : List α} (hN : l.Nodup) {i j : Nat} {x : α} (a : l[i]? = Option.some x) (b : l[j]? = Option.some x) : i = j := by
  obtain ⟨h1, e1⟩ := List.getElem?_eq_some_iff.mp a
  obtain ⟨h2, e2⟩ := List.getElem?_eq_some_iff.mp b
  exact (List.getElem_inj hN).mp (e1.trans e2.symm)
/-! ### an error with one field, made and raised -/
/-- __init__(self, f): self.f = f, of an error that is being made -/
def spExc (C : Addr) (f : Str) : Sp := fun vs H Q _ => ∃ (a : Addr) (y : V), vs = [.ref a, y] ∧ H a = Option.some (exo a C Option.none) ∧
  ∀ dx, H dx = Option.none → dx ≠ a → Q .non (upd (upd H dx (exd dx [(f, y)])) a (exo a C (Option.some dx)))
/-- the class's __init__ as the top has written it -/
def InitAt (K : PySem.W.Frag) (C : Addr) (q : Str) (st : Stmt) : Prop := ∃ (fI : Addr) (fd : FuncData), L2.Fun K "__init__" q st fI fd ∧ PySem.W.findIn K (.ref C) "__init__" = Option.some (Option.some (.ref fI)) ∧ PySem.W.typeIn K (.ref fI) = Option.some (.type "function")
def InitOk (P : Program) (w : World) (K : PySem.W.Frag) (mg : Str → Option Value) (base : Heap) (C : Addr) (f : Str) : Prop :=
  ∃ (fI : Addr) (fd : FuncData), PySem.W.findIn K (.ref C) "__init__" = Option.some (Option.some (.ref fI)) ∧ PySem.W.typeIn K (.ref fI) = Option.some (.type "function") ∧ Binds K fd [("self" : Str), f] [] ∧ FnOk P w K mg base CX0 1 fI fd [("self" : Str), f] (spExc C f)
theorem init_ok {P : Program} {w : World} {K : PySem.W.Frag} {mg : Str → Option Value} {base : Heap} {C fI : Addr} {bm : List Value} {f q : Str} {st : Stmt} {fd : FuncData} (F : L2.Fun K "__init__" q st fI fd) (T : ErrC K C bm) (no : PySem.W.findIn K (.ref C) f = Option.some Option.none)
    (S : FnScope [("self" : Str), f] [("self" : Str), f] (defScope st))
    (hb : ∀ (cdv : Value) (A : Around) (outer : List Env) (s : Shared) (H : Hp) (E : XK), PSs (cxOf CX0 P w K mg base [("self" : Str), f] q (defScope st) fI cdv A outer s H E).nox (defBody st) (tOst K f (tVar 0) (tVar 1))) : FnOk P w K mg base CX0 1 fI fd [("self" : Str), f] (spExc C f) := by
  refine F.ok S (fun vs H Q E h => ?_) (fun cdv A outer s H vs Q E hr h => ⟨tOst K f (tVar 0) (tVar 1), hb cdv A outer s H E, ?_⟩)
  · obtain ⟨a, y, rfl, _⟩ := h
    rfl
  · obtain ⟨a, y, rfl, ha, k⟩ := h
    exact ⟨y, rfl, .ref a, rfl, a, C, rfl, T.oex, no, .inl ⟨ha, k⟩⟩
theorem PS.imp {X : Cx} {st : Stmt} {t t' : TS} (h : PS X st t) (i : ∀ D σ H, t' D σ H → t D σ H) : PS X st t' := ⟨fun pins s σ H D I q => h.run pins s σ H D I (i D σ H q)⟩
/-- what raise C(e) asks: see raise1 -/
def tRaise1 (C : Addr) (f : Str) (W : WX) (te : TE) : TS := fun _ σ H => tMkO C (spExc C f) [] (tCons te tNil) σ H fun cls d H' => W cls d σ H'
theorem made_eq {H : Hp} {a dx : Addr} {o1 o2 o3 : HO} {u : HO} (ha : H a = Option.none) (n : dx ≠ a) : upd (L2.del (upd (upd (upd H a o1) dx o2) a o3) a) dx u = upd H dx u := by
  funext b
  by_cases h1 : b = dx
  · subst h1
    rw [upd_same, upd_same]
  · rw [upd_ne h1, upd_ne h1]
    by_cases h2 : b = a
    · subst h2
      rw [L2.del_same, ha]
    · rw [L2.del_ne h2, upd_ne h2, upd_ne h1, upd_ne h2]
theorem ps_raise1 {X : Cx} {C : Addr} {bm : List Value} {f x : Str} {W : WX} {e : Expr} {te : TE} {p pos pos2 : Pos} (hc : X.calm = true) (T : ErrC X.K C bm) (IO : InitOk X.prog X.w X.K X.mg X.base C f) (gC : X.mg x = Option.some (.ref C)) (hr : Room 2 X.A) (tk : Takes X W) (he : PE X e te)
    (hg : Gl X x := by rfl) (hdb : (x == ("__debug__" : Str)) = false := by decide) (hs : starEach (e :: []) X.env = (false, eval e X.env) :: starEach [] X.env := by rfl) (hpl : (backTo pos (starEach [] X.env)).any (·.1) = false := by rfl) :
    PS X (.Raise (Option.some (.Call (.Name x p) [e] [] pos)) Option.none pos2) (tRaise1 C f W te) := by
  obtain ⟨fI, fd, iC, tI, hb, F1⟩ := IO
  exact ps_raise hc tk (pmk_oex (k := 1) T.oex iC tI F1 hr hb .nil pass0 hg gC (pa_cons he pa_nil hs) hdb hs hpl)
/-- .. for each new dict of the error, with the field's value -/
theorem raise1 {C : Addr} {f : Str} {y : V} {H1 : Hp} {Q : XK} (k : ∀ d, H1 d = Option.none → Q (.ref C) (Option.some d) (upd H1 d (.xd [(f, y)]))) :
    [y].length ≤ 1000 ∧ ∀ a, H1 a = Option.none → spExc C f (.ref a :: ([y] ++ [])) (upd H1 a (exo a C Option.none))
      (fun v H2 => v = .non ∧ ∃ (d : Addr) (fs : List (Str × V)), H2 a = Option.some (exo a C (Option.some d)) ∧ H2 d = Option.some (exd d fs) ∧ H1 d = Option.none ∧ Q (.ref C) (Option.some d) (upd (L2.del H2 a) d (.xd fs))) (fun _ _ _ => False) := by
  refine ⟨by show 1 ≤ 1000; decide, fun a ha => ⟨a, y, rfl, upd_same, fun dx hd nd => ⟨rfl, dx, [(f, y)], upd_same, ?_, ?_, ?_⟩⟩⟩
  · rw [upd_ne nd, upd_same]
  · rw [upd_ne nd] at hd
    exact hd
  · rw [upd_ne nd] at hd
    rw [made_eq ha nd]
    exact k dx hd
/-- raise C(), C without a field -/
theorem pmk_own0 {X : Cx} {C : Addr} {bmB : List Value} {B newId initId : String} {x : Str} {p pos : Pos} (F : ExcBaseFacts B newId initId bmB) (q : PySem.W.excIn X.K C bmB newId = true) (gC : X.mg x = Option.some (.ref C)) (kC : PySem.W.keepIn X.K (.ref C) = true) (r : Raises X (.ref C)) (hg : Gl X x := by rfl)
    (hdb : (x == ("__debug__" : Str)) = false := by decide) : PMk X (.Call (.Name x p) [] [] pos) (fun _ H Q => Q (.ref C) Option.none H) := by
  intro pins s σ H Q I h
  refine wpAny_Call_Name_kw (ld_glob I hg gC ?_ hdb)
  obtain ⟨bm, N, nm, qn, bs, hdct, sn, sub, ab, col, dd, k0, k1, k2, k3, k5, mN, hC, hN, hni, T⟩ := exc_obj I.kIn q
  refine PySem.W.callWith_K0 I.kIn kC (wpAny_call_exc_subT F T hC hN hni (fun h' e hm => ?_) (by show 0 ≤ sizeLine; exact Nat.zero_le _))
  exact mk_of I hm r h (I.hok.gone hm.new)
/-! ### an error that is handled: asked in a def that is called from the clause -/
/-- the context bears the error's object oe, at a; its class cls, its own dict d -/
structure Bears (X : Cx) (a : Addr) (oe : Obj) (cls : Value) (d : Option Addr) : Prop where
  mem : (a, oe) ∈ X.pn
  z : Zc cls d oe
  fl : ∃ vs, oe.data = .fields vs
/-- the error's own dict, where it has one, stands -/
def DictOk (d : Option Addr) (H : Hp) : Prop := ∀ dd, d = Option.some dd → ∃ fs, H dd = Option.some (.xd fs)
theorem dictOk_none (H : Hp) : DictOk Option.none H := fun _ z => nomatch z
theorem dictOk_new {H : Hp} {d : Addr} {fs : List (Str × V)} : DictOk (Option.some d) (upd H d (.xd fs)) := fun dd z => by
  cases z
  exact ⟨fs, upd_same⟩
theorem DictOk.same {d : Option Addr} {H H' : Hp} (h : DictOk d H) (e : Same H H') : DictOk d H' := fun dd z => let ⟨fs, q⟩ := h dd z; ⟨fs, e _ _ q⟩
section
variable {X : Cx} {pins : List (Addr × Obj)} {σ : L2.St} {H : Hp} {s : Shared} {a C : Addr} {oe : Obj} {d : Option Addr} {bm : List Value}
theorem inst_of (I : Inv X pins σ H s) (b : Bears X a oe (.ref C) d) (hd : DictOk d H) : ∃ od, PySem.W.InstAt s.heap a oe C od ∧ ∀ dd, d = Option.some dd → ∃ o, od = Option.some o ∧ s.heap.get? dd = Option.some o := by
  have ha : s.heap.get? a = Option.some oe := (I.pin (a, oe) (List.mem_append_left _ b.mem)).1
  obtain ⟨vs, hv⟩ := b.fl
  have no : PySem.W.notCls oe = true := by
    unfold PySem.W.notCls
    rw [hv] <;> rfl
  cases hdd : d with
  | none =>
    refine ⟨Option.none, ⟨ha, b.z.1, no, ?_⟩, fun dd z => nomatch z⟩
    rw [b.z.2, hdd]
    trivial
  | some dd =>
    obtain ⟨fs, hx⟩ := hd dd hdd
    obtain ⟨mA, hns, _⟩ := (show ObjOk X.prog X.w H s.heap dd (.xd fs) from I.hok dd _ hx)
    obtain ⟨od, ho, _⟩ := lookIn_ns hns
    refine ⟨Option.some od, ⟨ha, b.z.1, no, ?_⟩, fun d2 z => ?_⟩
    · rw [b.z.2, hdd]
      exact ho
    · cases z
      exact ⟨od, rfl, ho⟩
/-- isinstance(e, c), e the error -/
def rIsX (K : PySem.W.Frag) (C a : Addr) (d : Option Addr) : List V → Hp → VK → Prop := fun xs H Q => ∃ (c : V) (cv : Value) (b : Bool), xs = [.ref a, c] ∧ (∀ u, RelV c u → u = cv) ∧ PySem.W.kitOne K (.ref C) cv = Option.some b ∧ DictOk d H ∧ Q (.bl b) H
theorem call_isX (g : ClsGet X.K) (T : ErrC X.K C bm) (b : Bears X a oe (.ref C) d) : CallR X (.builtin "isinstance") (rIsX X.K C a d) := by
  intro pins s σ H xs us Q I r h
  obtain ⟨c, cv, k, rfl, hcv, e, hd, q⟩ := h
  obtain ⟨u1, u2, rfl, r1, r2⟩ := vals2 r
  obtain rfl : u1 = Value.ref a := r1
  have e2 := hcv _ r2
  subst e2
  obtain ⟨od, J, _⟩ := inst_of I b hd
  have mo : PySem.W.mroIn X.K C (.type "object") = Option.some true := T.base "object" (by decide +kernel)
  refine PySem.W.kia_one (PySem.W.kitx_exc T.some T.ga T.gg T.bexc T.ac g.sp g.tk mo) I.kIn J e (fun z => nomatch z) fun tk => ?_
  exact ⟨.bl k, H, I.tok tk, rfl, q⟩
/-- e.f, e the error -/
def tXfB (a : Addr) (d : Option Addr) (f : Str) (te : TE) : TE := fun σ H Q => te σ H fun x H1 => x = .ref a ∧ ∃ (dd : Addr) (fs : List (Str × V)) (v : V), d = Option.some dd ∧ H1 dd = Option.some (.xd fs) ∧ fs.lookup f = Option.some v ∧ Q v H1
theorem pe_xfB {e : Expr} {te : TE} {pos : Pos} {f : Str} (T : ErrC X.K C bm) (b : Bears X a oe (.ref C) d) (no : PySem.W.findIn X.K (.ref C) f = Option.some Option.none) (he : PE X e te) (hb : attributeBase e f X.env (eval e X.env) = eval e X.env := by rfl) :
    PE X (.Attribute e f pos) (tXfB a d f te) := by
  refine ⟨fun pins s σ H Q I h => attr_of hb (thn (he.run pins s σ H _ I h) ?_)⟩
  rintro u s1 ⟨x, H1, I1, rx, rfl, dd, fs, v, ed, ex, l, q⟩
  obtain rfl : u = Value.ref a := rx
  obtain ⟨od, J, hod⟩ := inst_of I1 b (fun d2 z => by rw [ed] at z; cases z; exact ⟨fs, ex⟩)
  obtain ⟨o, rfl, ho⟩ := hod dd ed
  obtain ⟨mA, hns, hr⟩ := (show ObjOk X.prog X.w H1 s1.heap dd (.xd fs) from I1.hok dd _ ex)
  obtain ⟨o2, ho2, hl⟩ := lookIn_ns hns
  rw [ho] at ho2
  cases ho2
  obtain ⟨w, hw, rw_⟩ := RelO.some_of (v := v) (o := mA f) (by rw [← l]; exact hr f)
  exact PySem.HandSPX.exc_get I1.kIn J T.ga T.gg T.bexc (PySem.W.findObj_own T.hd no rfl (by rw [hl, hw])) (handed_of rw_) ⟨v, H1, I1.tok _, rw_, q⟩
end
/-- a def that is called from a clause, the error handed in: its promise speaks of the error too -/
structure FnX (P : Program) (w : World) (K : PySem.W.Frag) (mg : Str → Option Value) (base : Heap) (k : Nat) (f : Addr) (fd : FuncData) (ps : List Str) (sp : Addr → Value → Option Addr → Sp) : Prop where
  len : ∀ a c d vs H Q E, sp a c d vs H Q E → vs.length = ps.length
  go : ∀ (A : Around) (outer : List Env) (s : Shared) (H : Hp) (args : Args) (us : List Value) (vs : List V) (Q : VK) (E : XK) (a : Addr) (oe : Obj) (c : Value) (d : Option Addr), L2H.RoomH k A → A.handled = Option.some (.ref a) → L2H.PinOk outer H s (a, oe) →
    Zc c d oe → (∃ vs, oe.data = .fields vs) → Env0 P w K mg base A outer s H → BindsTo s fd args (ps.zip us) → Vals vs us → sp a c d vs H Q E → codeAny (model P w) A (.call (.ref f) args) (CR CX0 outer P w H s Q E) s
section
variable {P : Program} {w : World} {K : PySem.W.Frag} {mg : Str → Option Value} {base : Heap}
theorem fnX_body {x qual : Str} {st : Stmt} {f : Addr} {fd : FuncData} {N ps : List Str} {k : Nat} {sp : Addr → Value → Option Addr → Sp} (F : L2.Fun K x qual st f fd) (S : FnScope N ps (defScope st)) (len : ∀ a c d vs H Q E, sp a c d vs H Q E → vs.length = ps.length)
    (bd : ∀ (cdv : Value) (A : Around) (outer : List Env) (s : Shared) (H : Hp) (vs : List V) (Q : VK) (E : XK) (a : Addr) (oe : Obj) (c : Value) (d : Option Addr), Zc c d oe → (∃ vs, oe.data = .fields vs) → L2H.RoomH k (A.deeper (envOfC qual (defScope st) s.heap.objs.size f cdv)) → sp a c d vs H Q E →
      ∃ t, PSs (L2H.cxH CX0 P w K mg base N qual (defScope st) f cdv A outer s H E (a, oe)).nox (defBody st) t ∧ t { nx := fun _ H' => Q .non H', rt := Q } (L2.start N vs) H) : FnX P w K mg base (k + 1) f fd ps sp where
  len := len
  go A outer s H args us vs Q E a oe c d hr hh hpin hz hf e0 hb r hsp := by
    obtain ⟨oc, od, kV, doc, pm, an, cdv, ct, osl, rfl, lk, hcd⟩ := F.ex
    have hvl := len a c d vs H Q E hsp
    have kIn : K.In s.heap := e0.mod.kin.keeps fun b o z => (e0.bs b o z).1
    have noLim : s.heap.NoLimit := e0.mod.nolimit.keeps fun b o z => (e0.bs b o z).1
    have kinds : ∀ y ∈ ps.zip us, (defScope st).names.lookup y.1 = Option.some .local ∨ ((defScope st).names.lookup y.1 = Option.some .cell ∧ ((cellsFrom (s.heap.objs.size + 1) (defScope st).names []).lookup y.1).isSome = true) := by
      rintro ⟨n, v⟩ hy
      exact (S.par n (List.of_mem_zip hy).1).imp id fun q => ⟨q, PySem.W.cellsFrom_some _ _ _ (.inl q)⟩
    refine codeAny_call_function hr.depth (kIn f _ lk) rfl S.co S.gen rfl (PySem.W.codeRec_of kIn hcd) (hb _ _ _ _ ?_)
    refine wpAny_newFunctionEnv_cells S.kind kinds fun env he s1 x1 => ?_
    subst he
    obtain ⟨t, ht, hq⟩ := bd cdv A outer s H vs Q E a oe c d hz hf (hr.deeper _) hsp
    have J : Inv (L2H.cxH CX0 P w K mg base N qual (defScope st) f cdv A outer s H E (a, oe)) [] (L2.start N vs) H s1 := L2H.inv_startH S hpin e0 hvl r x1
    refine ⟨noLim.keeps x1.toInCall.keep, codeAny_func (wpAny_mono (ht.nox.run [] s1 _ H _ J hq) ?_ fun _ _ hs => hs)⟩
    intro fl s2 hs
    cases fl with
    | ret u =>
      obtain ⟨v, σ2, H2, J2, rv, q⟩ := hs
      exact ⟨v, H2, J2.os, J2.bare, J2.base, J2.hok, rv, q⟩
    | next =>
      obtain ⟨σ2, H2, J2, q⟩ := hs
      exact ⟨V.non, H2, J2.os, J2.bare, J2.base, J2.hok, rfl, q⟩
    | brk =>
      obtain ⟨_, _, _, z⟩ := hs
      exact z.elim
    | cont =>
      obtain ⟨_, _, _, z⟩ := hs
      exact z.elim
def OkX (P : Program) (w : World) (K : PySem.W.Frag) (mg : Str → Option Value) (base : Heap) (k : Nat) (x : Str) (ps : List Str) (sp : Addr → Value → Option Addr → Sp) : Prop :=
  ∃ f fd, mg x = Option.some (.ref f) ∧ PySem.W.keepIn K (.ref f) = true ∧ Binds K fd ps [] ∧ FnX P w K mg base k f fd ps sp
theorem DefAt.okH {x : Str} {ps : List Str} {k : Nat} {st : Stmt} {N : List Str} {sp : Addr → Value → Option Addr → Sp} (D : DefAt K mg x st) (S : FnScope N ps (defScope st)) (b : BindsBy x st ps) (len : ∀ a c d vs H Q E, sp a c d vs H Q E → vs.length = ps.length)
    (bd : ∀ (f : Addr) (cdv : Value) (A : Around) (outer : List Env) (s : Shared) (H : Hp) (vs : List V) (Q : VK) (E : XK) (a : Addr) (oe : Obj) (c : Value) (d : Option Addr), Zc c d oe → (∃ vs, oe.data = .fields vs) → L2H.RoomH k (A.deeper (envOfC x (defScope st) s.heap.objs.size f cdv)) → sp a c d vs H Q E →
      ∃ t, PSs (L2H.cxH CX0 P w K mg base N x (defScope st) f cdv A outer s H E (a, oe)).nox (defBody st) t ∧ t { nx := fun _ H' => Q .non H', rt := Q } (L2.start N vs) H) : OkX P w K mg base (k + 1) x ps sp := by
  obtain ⟨f, fd, F, g⟩ := D
  exact ⟨f, fd, g, F.kp, F.binds b, fnX_body F S len fun cdv A outer s H vs Q E a oe c d hz hf hr h => bd f cdv A outer s H vs Q E a oe c d hz hf hr h⟩
end
section
variable {Y : Cx} {k : Nat} {ps : List Str} {sp : Addr → Value → Option Addr → Sp} {x : Str} {p pos : Pos} {e : Expr} {es : List Expr} {t : TA} {a : Addr} {oe : Obj} {c : Value} {d : Option Addr} {pn : List (Addr × Obj)}
/-- f(e, ..) in a clause -/
theorem pe_x (F : OkX Y.prog Y.w Y.K Y.mg Y.base k x ps sp) (hr : Room k Y.A) (hz : Zc c d oe) (hf : ∃ vs, oe.data = .fields vs) (ha : PA (Y.suite a ((a, oe) :: pn)) (e :: es) t) (hg : Gl Y x := by rfl) (hdb : (x == ("__debug__" : Str)) = false := by decide)
    (he : starEach (e :: es) Y.env = (false, eval e Y.env) :: starEach es Y.env := by rfl) (hpl : (backTo pos (starEach es Y.env)).any (·.1) = false := by rfl) : PE (Y.suite a ((a, oe) :: pn)) (.Call (.Name x p) (e :: es) [] pos) (tCall (sp a c d) [] E0 t) := by
  obtain ⟨f, fd, g, kp, hb, F⟩ := F
  refine ⟨fun pins s σ H Q I h => wpAny_Call_Name_kw (ld_glob I hg g ?_ hdb)⟩
  refine PySem.W.callWith_K (h₀ := Y.base) I.ok.mod.kin kp (thn (ha.run pos pins s σ H _ I h) ?_) he hpl
  rintro us s1 ⟨vs, H1, I1, r, q⟩
  rw [List.append_nil] at q
  refine ⟨I1.kIn, ?_⟩
  have el : us.length = ps.length := r.length.symm.trans (F.len _ _ _ vs H1 Q _ q)
  have bb := hb s1 us I1.kIn (by rw [List.append_nil]; exact el)
  rw [List.append_nil] at bb
  have pin := I1.pin (a, oe) (List.mem_append_left _ List.mem_cons_self)
  have pk : L2H.PinOk (Y.suite a ((a, oe) :: pn)).stack H1 s1 (a, oe) := ⟨pin.1, pin.2.1, fun hm => (List.mem_cons.mp (I1.stkSub a hm)).elim pin.2.2.1 pin.2.2.2.1, pin.2.2.2.2⟩
  have rh : L2H.RoomH k (Y.A.mark (Option.some (.ref a))) := ⟨hr.dp, hr.un⟩
  have hh : (Y.A.mark (Option.some (.ref a))).handled = Option.some (.ref a) := rfl
  refine wpAny_call (codeAny_mono (F.go _ _ s1 H1 ⟨us, []⟩ us vs Q E0 a oe c d rh hh pk hz hf I1.env0 bb r q) ?_)
  intro res s2 hq
  match res, hq with
  | .error er, hq => exact False.elim hq
  | .ok (.ret u), hq => exact I1.after hq
  | .ok .next, hq => exact False.elim hq
  | .ok .brk, hq => exact False.elim hq
  | .ok .cont, hq => exact False.elim hq
end
end SM
/-! Part D: data: equal to itself, shown. -/
namespace SM
open PySem PySem.Spec PyProof.Rows L2
mutual
theorem eqv_self : ∀ d : PyData, d.canLay0 = true → PyData.eqv d d = true
  | .none, _ => by simp only [PyData.eqv]
  | .bool b, _ => by simp [PyData.eqv]
  | .int i, _ => by simp [PyData.eqv]
  | .str x, _ => by simp [PyData.eqv]
  | .list xs, h => by
    simp only [PyData.eqv]
    exact eqvAll_self xs (by simpa only [PyData.canLay0] using h)
  | .tuple xs, h => by
    simp only [PyData.eqv]
    exact eqvAll_self xs (by simpa only [PyData.canLay0] using h)
  | .dict _, h => by simp only [PyData.canLay0] at h; exact Bool.noConfusion h
theorem eqvAll_self : ∀ ds : List PyData, PyData.canLayAll0 ds = true → PyData.eqvAll ds ds = true
  | [], _ => by simp only [PyData.eqvAll]
  | d :: ds, h => by
    have h' : d.canLay0 = true ∧ PyData.canLayAll0 ds = true := by simpa only [PyData.canLayAll0, Bool.and_eq_true] using h
    simp only [PyData.eqvAll, eqv_self d h'.1, eqvAll_self ds h'.2, Bool.and_self]
end
/-- data that may be compared and shown -/
structure Fine (d : PyData) : Prop where
  lay : d.canLay0 = true
  dep : d.depth ≤ 50
  ish : d.intsShort 64 = true
  show_ : d.showable = true
  wt : d.weight ≤ 100000
theorem Fine.shaped {d : PyData} (h : Fine d) : SeqAt.shaped d = true := by
  show (d.canLay0 && decide (d.depth ≤ 64)) = true
  rw [h.lay, Bool.true_and]
  exact decide_eq_true (Nat.le_trans h.dep (by decide))
theorem Fine.len {d : PyData} (h : Fine d) : d.shown.length ≤ sizeLine := by
  have e := PyData.shown_le 64 (by decide) d (PyData.leavesShort_of_canLay0 64 d h.lay h.ish)
  have w := h.wt
  have m : (64 + 2) * d.weight ≤ 66 * 100000 := Nat.mul_le_mul (by decide) w
  rw [sizeLine_eq]
  omega
section
variable {X : Cx}
/-- repr(x) of data, where it is quiet -/
def rReprD (K : PySem.W.Frag) : List V → Hp → VK → Prop := fun xs H Q => ∃ (x : V) (d : PyData), xs = [x] ∧ Dp K H x d ∧ Fine d ∧ Q (.str d.shown) H
theorem call_reprD {k : Nat} (qa : Quiet X.A) (hr : Room k X.A) : CallR X (.builtin "repr") (rReprD X.K) := by
  intro pins s σ H xs us Q I r h
  obtain ⟨x, d, rfl, hd, hf, q⟩ := h
  obtain ⟨u, rfl, ru⟩ := vals1 r
  have hu := hr.units
  obtain ⟨as, rd⟩ := Dp.reads I d x u hd ru
  have noD : d.hasDict = true → sysModules ∉ as := PyData.noDict_hsm (PyData.hasDict_of_canLay d hf.lay)
  have room : X.A.units + (d.depth + 1) < cLine := by have := hf.dep; omega
  cases hd with
  | non =>
    obtain rfl : u = Value.none := ru
    exact PySem.P.repr_of_none ⟨V.str _, H, I.tok _, ⟨_, rfl⟩, q⟩
  | bl b =>
    obtain rfl : u = Value.bool b := ru
    exact PySem.P.repr_of_bool ⟨V.str _, H, I.tok _, ⟨_, rfl⟩, q⟩
  | int i =>
    obtain ⟨t, rfl⟩ := ru
    have hs := hf.show_
    simp only [PyData.showable, decide_eq_true_eq] at hs
    exact PySem.P.repr_of_int hs ⟨V.str _, H, I.tok _, ⟨_, rfl⟩, q⟩
  | str z =>
    obtain ⟨t, rfl⟩ := ru
    exact PySem.P.repr_of_str ⟨V.str _, H, I.tok _, ⟨_, rfl⟩, q⟩ hf.len
  | lst s1 s2 =>
    rename_i a xs ds
    obtain rfl : u = Value.ref a := ru
    exact repr_of_reads' rd hf.show_ noD qa room (fun _ _ e => e) (fun h' u tk k => ⟨V.str _, H, I.kept (t' := tk) k, ⟨_, rfl⟩, q⟩) hf.len
  | tup s1 s2 =>
    rename_i a xs ds
    obtain rfl : u = Value.ref a := ru
    exact repr_of_reads' rd hf.show_ noD qa room (fun _ _ e => e) (fun h' u tk k => ⟨V.str _, H, I.kept (t' := tk) k, ⟨_, rfl⟩, q⟩) hf.len
end
theorem dps_bools {K : PySem.W.Frag} {H : Hp} : ∀ bs : List Bool, DpAll K H (bs.map V.bl) (bs.map PyData.bool)
  | [] => .nil
  | b :: bs => .cons (.bl b) (dps_bools bs)
theorem dps_ints {K : PySem.W.Frag} {H : Hp} : ∀ bs : List Int, DpAll K H (bs.map V.int) (bs.map PyData.int)
  | [] => .nil
  | b :: bs => .cons (.int b) (dps_ints bs)
theorem dps_strs {K : PySem.W.Frag} {H : Hp} : ∀ bs : List Str, DpAll K H (bs.map V.str) (bs.map PyData.str)
  | [] => .nil
  | b :: bs => .cons (.str b) (dps_strs bs)
theorem lay_bools : ∀ bs : List Bool, PyData.canLayAll0 (bs.map PyData.bool) = true
  | [] => by simp only [List.map_nil, PyData.canLayAll0]
  | b :: bs => by simp only [List.map_cons, PyData.canLayAll0, PyData.canLay0, lay_bools bs, Bool.and_self]
theorem dep_bools : ∀ bs : List Bool, PyData.depthAll (bs.map PyData.bool) = 0
  | [] => by simp only [List.map_nil, PyData.depthAll]
  | b :: bs => by simp only [List.map_cons, PyData.depthAll, PyData.depth, dep_bools bs, Nat.max_self]
theorem shaped_bools (bs : List Bool) : SeqAt.shaped (.list (bs.map PyData.bool)) = true := by
  show ((PyData.list (bs.map PyData.bool)).canLay0 && decide ((PyData.list (bs.map PyData.bool)).depth ≤ 64)) = true
  simp only [PyData.canLay0, PyData.depth, lay_bools, dep_bools]
  decide
end SM
/-! Part E: the end of a law whose def is quiet. -/
namespace SM
open PySem PySem.Spec PyProof.Rows L2
section
variable {P : Program} {w : World} {K : PySem.W.Frag} {mg mb : Str → Option Value} {k : Nat} {fa a : Addr} {x nm : Str} {sp : Sp} {s1 : Shared} {vs : List Value} {ns : List Int}
/-- what the caller wants of the law's call -/
abbrev LawEnd (s1 : Shared) (r : Result) (s2 : Shared) : Prop := r = .ok (.ret (.bool true)) ∧ OldK s1.heap s2.heap ∧ s2.os = s1.os ∧ AllBare s2.gens
/-- from a heap in which the script alone may stand -/
theorem law_from (H : Hp) (only : Only H) (one : ∀ b, H b ≠ none → b = a) (apart : H a ≠ none → K.lookup a = none) (hok : HOk P w H s1.heap) (sq : SqL K H a (ns.map V.int))
    (kIn : K.In s1.heap) (gl : s1.heap.Ns mainGlobals mg) (bl : s1.heap.Ns builtinsNs mb) (bb : ∀ x : Str, x ≠ "__name__" → mb x = bootBuiltins x) (lim : s1.heap.NoLimit) (gens : s1.gens = #[])
    (obj : s1.heap.get? a = some { cls := .type "list", data := .seq vs.toArray }) (hr : Room k callerA)
    (F : ∀ base : Heap, K.In base → base.Ns mainGlobals mg → OkQ P w K mg base CX0 k nm [x] sp) (hm : mg nm = some (.ref fa))
    (hsp : sp [.ref a] H (fun v _ => v = .bl true) fun _ _ _ => False) : codeAny (model P w) callerA (.call (.ref fa) ⟨[.ref a], []⟩) (LawEnd s1) s1 := by
  have stays : ∀ {b : Addr} {o : Obj}, s1.heap.get? b = some o → (H b ≠ none → False) → (hidT s1.heap H).get? b = some o := fun {b o} e n => by
    refine hidT_get e ?_
    cases q : H b with
    | none => rfl
    | some u => exact (n (by rw [q]; exact fun z => nomatch z)).elim
  have isA : ∀ {b : Addr} {o : Obj}, s1.heap.get? b = some o → H b ≠ none → b = a ∧ o.data = .seq vs.toArray := fun {b o} e n => by
    have eb := one b n
    subst eb
    rw [obj] at e
    exact ⟨rfl, by cases e; rfl⟩
  have nsOf : ∀ {b : Addr} {m : Str → Option Value}, s1.heap.Ns b m → (hidT s1.heap H).Ns b m := by
    rintro b m ⟨o, es, ep, e, d, r⟩
    refine ⟨o, es, ep, stays e fun n => ?_, d, r⟩
    have z := (isA e n).2
    rw [d] at z
    cases z
  have kBase : K.In (hidT s1.heap H) := fun b o e => stays (kIn b o e) fun n => by
    have eb := one b n
    subst eb
    rw [apart n] at e
    cases e
  obtain ⟨mc, l1, l2⟩ := lim
  have M : Mod K mg (hidT s1.heap H) := ⟨kBase, nsOf gl, ⟨mb, nsOf bl, bb⟩, ⟨mc, nsOf l1, l2⟩⟩
  have none_ : ∀ b ∈ frs ([] : List Env), H b = none := fun b hb => absurd (show b ∈ ([] : List Addr) from hb) List.not_mem_nil
  have e0 : Env0 P w K mg (hidT s1.heap H) callerA [] s1 H := ⟨rfl, M, fun b o e => of_hidT e, Nat.le_of_eq (hidT_size _ _), trivial, none_, hok, .of_eq gens⟩
  obtain ⟨f2, fd, g2, _, bind, G2⟩ := F _ kBase (nsOf gl)
  rw [hm] at g2
  cases g2
  refine codeAny_mono (G2.go callerA [] s1 H ⟨[.ref a], []⟩ [.ref a] [.ref a] _ _ rfl hr e0 (bind s1 [.ref a] kIn rfl) (.cons rfl .nil) hsp) ?_
  intro r s2 q
  match r, q with
  | .error _, q => exact False.elim q
  | .ok .next, q => exact False.elim q
  | .ok .brk, q => exact False.elim q
  | .ok .cont, q => exact False.elim q
  | .ok (.ret u), ⟨v, H2, os, bare, un, hok2, rv, qv⟩ =>
    have qv' : v = .bl true := qv
    subst qv'
    have eu : u = Value.bool true := rv
    subst eu
    refine ⟨rfl, OldK.of_keep fun b o e => ?_, os, bare⟩
    have nofr : b ∉ frs ([] : List Env) := fun z => absurd (show b ∈ ([] : List Addr) from z) List.not_mem_nil
    cases q : H b with
    | none => exact un.keep b o e q nofr List.not_mem_nil
    | some u2 =>
      obtain z | ⟨ob, xs, z⟩ := only b
      · rw [q] at z
        cases z
      · have z1 := (hok b _ z).1
        rw [e] at z1
        cases z1
        exact (hok2 b _ (un.frzs b _ _ z)).1
theorem law_callG (kIn : K.In s1.heap) (gl : s1.heap.Ns mainGlobals mg) (bl : s1.heap.Ns builtinsNs mb) (bb : ∀ x : Str, x ≠ "__name__" → mb x = bootBuiltins x) (lim : s1.heap.NoLimit) (gens : s1.gens = #[])
    (obj : s1.heap.get? a = some { cls := .type "list", data := .seq vs.toArray }) (hi : IntsAre vs ns) (hl : ns.length ≤ sizeLine) (hr : Room k callerA)
    (F : ∀ base : Heap, K.In base → base.Ns mainGlobals mg → OkQ P w K mg base CX0 k nm [x] sp) (hm : mg nm = some (.ref fa))
    (hsp : ∀ H : Hp, SqL K H a (ns.map V.int) → sp [.ref a] H (fun v _ => v = .bl true) fun _ _ _ => False) : codeAny (model P w) callerA (.call (.ref fa) ⟨[.ref a], []⟩) (LawEnd s1) s1 := by
  have rv : Vals (ns.map V.int) vs := vals_of_ints hi
  have ln : (ns.map V.int).length = vs.length := rv.length
  rw [List.length_map] at ln
  by_cases hk : K.lookup a = none
  · have at_ : (fun b => if b = a then some (HO.frz { cls := .type "list", data := .seq vs.toArray } (.lst (ns.map V.int))) else none : Hp) a = some (HO.frz { cls := .type "list", data := .seq vs.toArray } (.lst (ns.map V.int))) := if_pos rfl
    refine law_from (fun b => if b = a then some (HO.frz { cls := .type "list", data := .seq vs.toArray } (.lst (ns.map V.int))) else none) (fun b => ?_) (fun b n => ?_) (fun _ => hk) (fun b u e => ?_) (.inl (.inr ⟨_, at_⟩)) kIn gl bl bb lim gens obj hr F hm (hsp _ (.inl (.inr ⟨_, at_⟩)))
    · by_cases hb : b = a
      · exact .inr ⟨_, _, if_pos hb⟩
      · exact .inl (if_neg hb)
    · by_cases hb : b = a
      · exact hb
      · exact absurd (if_neg hb) n
    · by_cases hb : b = a
      · subst hb
        have e' := at_.symm.trans e
        cases e'
        exact ⟨obj, by rw [List.length_map]; exact hl, vs, _, rv, obj⟩
      · have e' := (if_neg hb).symm.trans e
        cases e'
  · obtain ⟨o, ho⟩ := Option.ne_none_iff_exists'.mp hk
    have eo := kIn a o ho
    rw [obj] at eo
    cases eo
    have sq : SqL K (fun _ => none) a (ns.map V.int) := .inr ⟨_, vs.toArray, _, ho, rfl, rfl, rfl, by rw [List.size_toArray, ← ln]; exact hl, by simpa using rv⟩
    exact law_from (fun _ => none) (fun _ => .inl rfl) (fun b n => absurd rfl n) (fun n => absurd rfl n) (fun b u z => by cases z) sq kIn gl bl bb lim gens obj hr F hm (hsp _ sq)
end
/-- what the head leaves to be shown, from a quiet def -/
theorem walkG {l : PySem.W.OpenLaw} {n k : Nat} {q : Program} {loose : List Str} {XP : (Str → Option Value) → Heap → Prop} {YP : World → Heap → Prop} {d : DefRec} {K : Params → PySem.W.Frag} {sp : PySem.W.Frag → Sp} {x : Str}
    (hn : l.most = some n) (hn2 : n ≤ sizeLine) (hdf : d.params.defaults = []) (hr : Room k callerA) (hY : ∀ (w : World) (h : Heap), YP w h → (K w.params).In h)
    (F : ∀ (w : World) (mg : Str → Option Value) (fa : Addr) (h : Heap), (K w.params).In h → h.Ns mainGlobals mg → mg d.name = some (.ref fa) →
      ∀ base : Heap, (K w.params).In base → base.Ns mainGlobals mg → OkQ l.prog w (K w.params) mg base CX0 k d.name [x] (sp (K w.params)))
    (hsp : ∀ (K : PySem.W.Frag) (H : Hp) (a : Addr) (ns : List Int), ns.length ≤ n → SqL K H a (ns.map V.int) → sp K [.ref a] H (fun v _ => v = .bl true) fun _ _ _ => False) :
    PySem.W.WalkO q loose XP YP l.row.toRowW d [] (fun f vs => PySem.call f vs) := by
  refine Att.attach_call hn hdf ?_
  intro w s0 s1 mg mb fa o pm cd doc a vs ns G Y ho hd hcd hmg hobj hints hlen hg
  exact law_callG (hY w _ Y) G.T.g G.T.b G.T.builtins G.T.nolimit hg hobj hints (Nat.le_trans hlen hn2) hr (F w mg fa _ (hY w _ Y) G.T.g hmg) hmg (fun H hS => hsp _ H a ns hlen hS)
end SM
/-! Part L: refusals, kinds, tables, the layout as it stands in the heap. -/
namespace SM
open PySem PySem.Spec PyProof.Rows L2
/-! ### refusals -/
/-- the field of the n-th error's class -/
def fldN : Nat → Str
  | 0 => "at"
  | 1 => "name"
  | 2 => "name"
  | 3 => "most"
  | 4 => "name"
  | 5 => "hands"
  | 6 => "name"
  | 7 => "way"
  | 8 => "job"
  | 9 => "damp"
  | _ => "number"
/-- the n-th error, made of y, goes out; nothing that stood is changed -/
def Ref (C : Nat → Addr) (n : Nat) (y : V) (H : Hp) (E : XK) : Prop := ∀ d H', Same H H' → H d = none → H' d = some (.xd [(fldN n, y)]) → E (.ref (C n)) (some d) H'
section
variable {C : Nat → Addr} {n : Nat} {y : V} {H H1 : Hp} {E : XK}
theorem Ref.along (R : Ref C n y H E) (s : Same H H1) : Ref C n y H1 E := fun d H' s1 e x => R d H' (s.trans s1) (s.free e) x
theorem Ref.out (R : Ref C n y H E) {d : Addr} (hd : H d = none) : E (.ref (C n)) (some d) (upd H d (.xd [(fldN n, y)])) := R d _ (Same.newp hd) hd upd_same
end
/-! ### kinds of values -/
theorem tyOf_same {K : PySem.W.Frag} {H H' : Hp} {x : V} {t : Value} (h : TyOf K H x t) (e : Same H H') : TyOf K H' x t := by
  cases h with
  | non => exact .non
  | bl b => exact .bl b
  | int i => exact .int i
  | str z => exact .str z
  | flt z => exact .flt z
  | lst q => exact .lst (e _ _ q)
  | frz q => exact .frz (e _ _ q)
  | tup q => exact .tup (e _ _ q)
  | dK q => exact .dK (e _ _ q)
  | dT q => exact .dT (e _ _ q)
  | ins q a b c d f => exact .ins (e _ _ q) a b c d f
theorem tyX_same {K : PySem.W.Frag} {H H' : Hp} {x : V} {t : Value} (h : TyX K H x t) (e : Same H H') : TyX K H' x t := by
  cases h with
  | base b => exact .base (tyOf_same b e)
  | byt b => exact .byt b
  | set q => exact .set (e _ _ q)
  | kList a b => exact .kList a b
  | kTuple a b => exact .kTuple a b
  | kDict a b => exact .kDict a b
  | fTuple q => exact .fTuple (e _ _ q)
  | fDict q => exact .fDict (e _ _ q)
def sgA : Str := "a"
def sgZ : Str := "z"
def okSign (c : Nat) : Bool := !decide ([c] < sgA.cps.toList) && !decide (sgZ.cps.toList < [c])
def okName (z : Str) : Bool := decide (1 ≤ z.cps.size) && decide (z.cps.size ≤ 8) && z.cps.toList.all okSign
/-- is it a name: b -/
def NameQ (K : PySem.W.Frag) (H : Hp) (x : V) (b : Bool) : Prop := (∃ z : Str, x = .str z ∧ z.cps.size ≤ sizeLine ∧ b = okName z) ∨ (b = false ∧ ∃ t, TyX K H x t ∧ PySem.W.kitOne K t (.type "str") = some false)
theorem NameQ.same {K : PySem.W.Frag} {H H' : Hp} {x : V} {b : Bool} (h : NameQ K H x b) (e : Same H H') : NameQ K H' x b := by
  rcases h with h | ⟨h, t, ty, q⟩
  · exact .inl h
  · exact .inr ⟨h, t, tyX_same ty e, q⟩
theorem NameQ.yes {K : PySem.W.Frag} {H : Hp} {x : V} (h : NameQ K H x true) : ∃ z : Str, x = .str z ∧ okName z = true := by
  rcases h with ⟨z, e, _, q⟩ | ⟨h, _⟩
  · exact ⟨z, e, q.symm⟩
  · cases h
theorem NameQ.of {K : PySem.W.Frag} {H : Hp} {z : Str} (h : okName z = true) : NameQ K H (.str z) true := by
  refine .inl ⟨z, rfl, ?_, h.symm⟩
  simp only [okName, Bool.and_eq_true, decide_eq_true_eq] at h
  exact Nat.le_trans h.1.2 (by decide)
/-- is it a whole number: b -/
def WholeQ (K : PySem.W.Frag) (H : Hp) (x : V) (b : Bool) : Prop := ∃ t i j, TyX K H x t ∧ PySem.W.kitOne K t (.type "int") = some i ∧ PySem.W.kitOne K t (.type "bool") = some j ∧ b = (i && !j)
theorem WholeQ.int {K : PySem.W.Frag} {H : Hp} (i : Int) : WholeQ K H (.int i) true := ⟨_, true, false, .base (.int i), kit_ty (by decide +kernel), kit_ty (by decide +kernel), rfl⟩
theorem WholeQ.same {K : PySem.W.Frag} {H H' : Hp} {x : V} {b : Bool} (h : WholeQ K H x b) (e : Same H H') : WholeQ K H' x b := by
  obtain ⟨t, i, j, a, c, d, f⟩ := h
  exact ⟨t, i, j, tyX_same a e, c, d, f⟩
def okCost (i : Int) : Bool := decide (0 ≤ i) && decide (i ≤ 99)
/-- is it a cost: b -/
def CostQ (K : PySem.W.Frag) (H : Hp) (x : V) (b : Bool) : Prop := (∃ i : Int, x = .int i ∧ b = okCost i) ∨ (b = false ∧ WholeQ K H x false)
theorem CostQ.same {K : PySem.W.Frag} {H H' : Hp} {x : V} {b : Bool} (h : CostQ K H x b) (e : Same H H') : CostQ K H' x b := by
  rcases h with h | ⟨h, q⟩
  · exact .inl h
  · exact .inr ⟨h, q.same e⟩
theorem CostQ.yes {K : PySem.W.Frag} {H : Hp} {x : V} (h : CostQ K H x true) : ∃ i : Int, x = .int i ∧ okCost i = true := by
  rcases h with ⟨z, e, q⟩ | ⟨h, _⟩
  · exact ⟨z, e, q.symm⟩
  · cases h
/-! ### tables: a dict with text keys beside a list of pairs -/
section
variable {α : Type}
def look (tab : List (Str × α)) (k : Str) : Option α := (tab.find? fun e => decide (e.1 = k)).map (·.2)
def del (tab : List (Str × α)) (k : Str) : List (Str × α) := tab.filter fun e => decide (e.1 ≠ k)
def keys (tab : List (Str × α)) : List Str := tab.map (·.1)
/-- the dict's pairs kvs beside the list tab -/
abbrev Kr (G : V → α → Prop) : List (Key × V) → List (Str × α) → Prop := Paired fun p q => p.1 = Sum.inr q.1 ∧ G p.2 q.2
def RelA (G : V → α → Prop) : Option V → Option α → Prop
  | some v, some a => G v a
  | none, none => True
  | _, _ => False
theorem look_pos {p : Str × α} {r : List (Str × α)} {k : Str} (e : p.1 = k) : look (p :: r) k = some p.2 := by simp [look, List.find?_cons, e]
theorem look_neg {p : Str × α} {r : List (Str × α)} {k : Str} (e : ¬ p.1 = k) : look (p :: r) k = look r k := by simp [look, List.find?_cons, e]
theorem Kr.val {G : V → α → Prop} {k : Str} : ∀ {kvs : List (Key × V)} {tab : List (Str × α)}, Kr G kvs tab → RelA G (valV kvs (Sum.inr k)) (look tab k)
  | _, _, .nil => True.intro
  | p :: ps, q :: qs, .cons h t => by
    by_cases e : q.1 = k
    · rw [look_pos e, valV_pos (h.1.trans (congrArg Sum.inr e))]
      exact h.2
    · have e' : ¬ p.1 = Sum.inr k := fun z => e (Sum.inr.inj (h.1.symm.trans z))
      rw [look_neg e, valV_neg e']
      exact Kr.val t
theorem Kr.has {G : V → α → Prop} {k : Str} {kvs : List (Key × V)} {tab : List (Str × α)} (h : Kr G kvs tab) : (valV kvs (Sum.inr k)).isSome = (look tab k).isSome := by
  have z := h.val (k := k)
  cases e1 : valV kvs (Sum.inr k) <;> cases e2 : look tab k <;> rw [e1, e2] at z <;> first | rfl | exact z.elim
theorem Kr.get {G : V → α → Prop} {k : Str} {kvs : List (Key × V)} {tab : List (Str × α)} {a : α} (h : Kr G kvs tab) (e : look tab k = some a) : ∃ v, valV kvs (Sum.inr k) = some v ∧ G v a := by
  have z := h.val (k := k)
  rw [e] at z
  cases e1 : valV kvs (Sum.inr k) with
  | none => rw [e1] at z; exact z.elim
  | some v => rw [e1] at z; exact ⟨v, rfl, z⟩
theorem Kr.no {G : V → α → Prop} {k : Str} {kvs : List (Key × V)} {tab : List (Str × α)} (h : Kr G kvs tab) (e : look tab k = none) : valV kvs (Sum.inr k) = none := by
  have z := h.val (k := k)
  rw [e] at z
  cases e1 : valV kvs (Sum.inr k) with
  | none => rfl
  | some v => rw [e1] at z; exact z.elim
theorem Kr.mono {G G' : V → α → Prop} (i : ∀ v a, G v a → G' v a) : ∀ {kvs : List (Key × V)} {tab : List (Str × α)}, Kr G kvs tab → Kr G' kvs tab
  | _, _, .nil => .nil
  | _, _, .cons h t => .cons ⟨h.1, i _ _ h.2⟩ (Kr.mono i t)
theorem Kr.snoc {G : V → α → Prop} {k : Str} {v : V} {a : α} (g : G v a) : ∀ {kvs : List (Key × V)} {tab : List (Str × α)}, Kr G kvs tab → Kr G (kvs ++ [(Sum.inr k, v)]) (tab ++ [(k, a)])
  | _, _, .nil => .cons ⟨rfl, g⟩ .nil
  | _, _, .cons h t => .cons h (Kr.snoc g t)
theorem Kr.put {G : V → α → Prop} {k : Str} {v : V} {a : α} {kvs : List (Key × V)} {tab : List (Str × α)} (h : Kr G kvs tab) (e : look tab k = none) (g : G v a) : Kr G (putK kvs (Sum.inr k) v) (tab ++ [(k, a)]) := by
  rw [putK_new v (h.no e)]
  exact h.snoc g
theorem Kr.drop {G : V → α → Prop} {k : Str} : ∀ {kvs : List (Key × V)} {tab : List (Str × α)}, Kr G kvs tab → Kr G (dropK kvs (Sum.inr k)) (del tab k)
  | _, _, .nil => .nil
  | p :: ps, q :: qs, .cons h t => by
    by_cases e : q.1 = k
    · have e' : p.1 = Sum.inr k := h.1.trans (congrArg Sum.inr e)
      rw [dropK_pos e', show del (q :: qs) k = del qs k by simp [del, e]]
      exact Kr.drop t
    · have e' : ¬ p.1 = Sum.inr k := fun z => e (Sum.inr.inj (h.1.symm.trans z))
      rw [dropK_neg e', show del (q :: qs) k = q :: del qs k by simp [del, e]]
      exact .cons h (Kr.drop t)
theorem Kr.len {G : V → α → Prop} {kvs : List (Key × V)} {tab : List (Str × α)} (h : Kr G kvs tab) : kvs.length = tab.length := Paired.length h
theorem Kr.names {G : V → α → Prop} : ∀ {kvs : List (Key × V)} {tab : List (Str × α)}, Kr G kvs tab → kvs.map (·.1) = (keys tab).map Sum.inr
  | _, _, .nil => rfl
  | _, _, .cons h t => by
    have e := Kr.names t
    simp only [SM.keys, List.map_cons, List.map_map] at e ⊢
    rw [h.1, e]
theorem look_isSome {tab : List (Str × α)} {k : Str} : (look tab k).isSome = decide (k ∈ keys tab) := by
  induction tab with
  | nil => rfl
  | cons p r ih =>
    by_cases e : p.1 = k
    · rw [look_pos e]
      simp [keys, e]
    · rw [look_neg e, ih]
      have e' : ¬ k = p.1 := fun z => e z.symm
      simp only [keys, List.map_cons, List.mem_cons, e', false_or]
      exact decide_eq_decide.mpr Iff.rfl
theorem look_none {tab : List (Str × α)} {k : Str} : look tab k = none ↔ k ∉ keys tab := by
  have z := look_isSome (tab := tab) (k := k)
  cases e : look tab k with
  | none =>
    rw [e] at z
    have z' : false = decide (k ∈ keys tab) := z
    simpa using z'.symm
  | some v =>
    rw [e] at z
    have z' : true = decide (k ∈ keys tab) := z
    simpa using z'.symm
theorem keys_snoc {tab : List (Str × α)} {k : Str} {a : α} : keys (tab ++ [(k, a)]) = keys tab ++ [k] := by simp [keys]
theorem keys_del {tab : List (Str × α)} {k : Str} : keys (del tab k) = (keys tab).filter fun x => decide (x ≠ k) := by
  unfold keys del
  rw [List.filter_map]
  rfl
end
/-- names alone as a table -/
def uT (xs : List Str) : List (Str × Unit) := xs.map fun x => (x, ())
theorem keys_uT (xs : List Str) : keys (uT xs) = xs := by simp [keys, uT, Function.comp_def]
theorem uT_snoc (xs : List Str) (x : Str) : uT xs ++ [(x, ())] = uT (xs ++ [x]) := by simp [uT]
theorem uT_del (xs : List Str) (x : Str) : del (uT xs) x = uT (xs.filter fun y => decide (y ≠ x)) := by
  unfold uT del
  rw [List.filter_map]
  rfl
theorem uT_len (xs : List Str) : (uT xs).length = xs.length := by simp [uT]
theorem uT_look {xs : List Str} {k : Str} : (look (uT xs) k).isSome = decide (k ∈ xs) := by rw [look_isSome, keys_uT]
theorem uT_none {xs : List Str} {k : Str} : look (uT xs) k = none ↔ k ∉ xs := by rw [look_none, keys_uT]
/-! ### the layout's state, its deeds and what is due -/
abbrev LineV := Str × Str × Int
structure LS where
  rooms : List Str
  lines : List (Str × LineV)
  drains : List (Str × Str)
  sources : List Str
def LS.new : LS := ⟨[], [], [], []⟩
/-- the lines that end in a room -/
def LS.at (S : LS) (x : Str) : List Str := keys (S.lines.filter fun e => decide (x = e.2.1) || decide (x = e.2.2.1))
structure LS.Ok (S : LS) : Prop where
  rN : S.rooms.Nodup
  rL : S.rooms.length ≤ 24
  lN : (keys S.lines).Nodup
  lL : S.lines.length ≤ 40
  dN : (keys S.drains).Nodup
  dL : S.drains.length ≤ 12
  sN : S.sources.Nodup
  sI : ∀ x ∈ S.sources, x ∈ S.rooms
  lI : ∀ e ∈ S.lines, e.2.1 ∈ S.rooms ∧ e.2.2.1 ∈ S.rooms ∧ e.2.1 ≠ e.2.2.1 ∧ okCost e.2.2.2 = true
  dI : ∀ e ∈ S.drains, e.2 ∈ S.rooms
  rG : ∀ x ∈ S.rooms, okName x = true
  lG : ∀ x ∈ keys S.lines, okName x = true
  dG : ∀ x ∈ keys S.drains, okName x = true
inductive Deed where
  | addRoom (x : Str)
  | addLine (x a b : Str) (c : Int)
  | addDrain (x r : Str)
  | addSource (x : Str)
  | takeRoom (x : Str)
  | takeLine (x : Str)
  | takeDrain (x : Str)
  | takeSource (x : Str)
/-- what is refused, and with what -/
inductive Rf where
  | there (x : Str)
  | lacks (x : Str)
  | tooMany (n : Int)
  | inUse (x : Str)
def Rf.cls : Rf → Nat
  | .there _ => 1
  | .lacks _ => 2
  | .tooMany _ => 3
  | .inUse _ => 4
def Rf.val : Rf → V
  | .there x => .str x
  | .lacks x => .str x
  | .tooMany n => .int n
  | .inUse x => .str x
def LS.taken (S : LS) (x : Str) : Bool := decide (x ∈ keys S.lines) || decide (x ∈ keys S.drains)
def LS.used (S : LS) (x : Str) : Bool := decide (x ∈ S.sources) || decide (x ∈ S.drains.map (·.2)) || decide (0 < (S.at x).length)
def LS.due (S : LS) : Deed → Option Rf
  | .addRoom x => if x ∈ S.rooms then some (.there x) else if 24 ≤ S.rooms.length then some (.tooMany 24) else none
  | .addLine x a b _ => if S.taken x = true then some (.there x) else if a ∉ S.rooms then some (.lacks a) else if b ∉ S.rooms then some (.lacks b) else if 40 ≤ S.lines.length then some (.tooMany 40) else none
  | .addDrain x r => if S.taken x = true then some (.there x) else if r ∉ S.rooms then some (.lacks r) else if 12 ≤ S.drains.length then some (.tooMany 12) else none
  | .addSource x => if x ∉ S.rooms then some (.lacks x) else if x ∈ S.sources then some (.there x) else none
  | .takeRoom x => if x ∉ S.rooms then some (.lacks x) else if S.used x = true then some (.inUse x) else none
  | .takeLine x => if x ∉ keys S.lines then some (.lacks x) else none
  | .takeDrain x => if x ∉ keys S.drains then some (.lacks x) else none
  | .takeSource x => if x ∉ S.sources then some (.lacks x) else none
def LS.put (S : LS) : Deed → LS
  | .addRoom x => { S with rooms := S.rooms ++ [x] }
  | .addLine x a b c => { S with lines := S.lines ++ [(x, a, b, c)] }
  | .addDrain x r => { S with drains := S.drains ++ [(x, r)] }
  | .addSource x => { S with sources := S.sources ++ [x] }
  | .takeRoom x => { S with rooms := S.rooms.filter fun y => decide (y ≠ x) }
  | .takeLine x => { S with lines := del S.lines x }
  | .takeDrain x => { S with drains := del S.drains x }
  | .takeSource x => { S with sources := S.sources.filter fun y => decide (y ≠ x) }
/-- what is handed in is as told -/
def Deed.Good : Deed → Prop
  | .addRoom x => okName x = true
  | .addLine x a b c => okName x = true ∧ okName a = true ∧ okName b = true ∧ a ≠ b ∧ okCost c = true
  | .addDrain x r => okName x = true ∧ okName r = true
  | .addSource x => okName x = true
  | .takeRoom x => okName x = true
  | .takeLine x => okName x = true
  | .takeDrain x => okName x = true
  | .takeSource x => okName x = true
theorem nd_snocS {l : List Str} {k : Str} (h : l.Nodup) (n : k ∉ l) : (l ++ [k]).Nodup := nd_snoc h n
theorem nodup_filter {l : List Str} {p : Str → Bool} (h : l.Nodup) : (l.filter p).Nodup := List.Pairwise.filter p h
theorem len_sub : ∀ {xs ys : List Str}, xs.Nodup → (∀ x ∈ xs, x ∈ ys) → xs.length ≤ ys.length
  | [], _, _, _ => Nat.zero_le _
  | x :: xs, ys, h, s => by
    have hx := s x List.mem_cons_self
    have h' := List.nodup_cons.mp h
    have ih := len_sub (xs := xs) (ys := ys.erase x) h'.2 fun y hy => by
      have ne : y ≠ x := fun z => h'.1 (z ▸ hy)
      exact (List.mem_erase_of_ne ne).mpr (s y (List.mem_cons_of_mem _ hy))
    rw [List.length_erase_of_mem hx] at ih
    have := List.length_pos_of_mem hx
    rw [List.length_cons]
    omega
theorem LS.Ok.sL {S : LS} (o : S.Ok) : S.sources.length ≤ 24 := Nat.le_trans (len_sub o.sN o.sI) o.rL
theorem LS.new_ok : LS.new.Ok := by
  refine ⟨List.nodup_nil, by decide, List.nodup_nil, by decide, List.nodup_nil, by decide, List.nodup_nil, ?_, ?_, ?_, ?_, ?_, ?_⟩ <;> (intro x h; cases h)
theorem mem_at {S : LS} {x : Str} {e : Str × LineV} (he : e ∈ S.lines) (h : x = e.2.1 ∨ x = e.2.2.1) : 0 < (S.at x).length := by
  unfold LS.at keys
  rw [List.length_map]
  refine List.length_pos_of_mem (a := e) (List.mem_filter.mpr ⟨he, ?_⟩)
  rcases h with h | h
  · simp [h]
  · simp [h]
/-- a deed that is let by keeps the state sound -/
theorem LS.Ok.put {S : LS} (o : S.Ok) {D : Deed} (g : D.Good) (h : S.due D = none) : (S.put D).Ok := by
  obtain ⟨rN, rL, lN, lL, dN, dL, sN, sI, lI, dI, rG, lG, dG⟩ := o
  cases D with
  | addRoom x =>
    simp only [LS.due] at h
    split at h
    · cases h
    split at h
    · cases h
    rename_i h1 h2
    refine ⟨nd_snocS rN h1, by show (S.rooms ++ [x]).length ≤ 24; rw [List.length_append, List.length_singleton]; omega, lN, lL, dN, dL, sN, fun y hy => List.mem_append_left _ (sI y hy), fun e he => ?_, fun e he => List.mem_append_left _ (dI e he), fun y hy => ?_, lG, dG⟩
    · obtain ⟨a, b, c⟩ := lI e he
      exact ⟨List.mem_append_left _ a, List.mem_append_left _ b, c⟩
    · rcases List.mem_append.mp hy with z | z
      · exact rG y z
      · rw [List.mem_singleton.mp z]
        exact g
  | addLine x a b c =>
    simp only [LS.due] at h
    split at h
    · cases h
    split at h
    · cases h
    split at h
    · cases h
    split at h
    · cases h
    rename_i h1 h2 h3 h4
    have nx : x ∉ keys S.lines := fun z => h1 (by simp [LS.taken, z])
    refine ⟨rN, rL, ?_, by show (S.lines ++ [(x, a, b, c)]).length ≤ 40; rw [List.length_append, List.length_singleton]; omega, dN, dL, sN, sI, fun e he => ?_, dI, rG, fun y hy => ?_, dG⟩
    · show (keys (S.lines ++ [(x, a, b, c)])).Nodup
      rw [keys_snoc]
      exact nd_snocS lN nx
    · rcases List.mem_append.mp he with z | z
      · exact lI e z
      · rw [List.mem_singleton.mp z]
        exact ⟨Classical.not_not.mp h2, Classical.not_not.mp h3, g.2.2.2.1, g.2.2.2.2⟩
    · have hy' : y ∈ keys (S.lines ++ [(x, a, b, c)]) := hy
      rw [keys_snoc] at hy'
      rcases List.mem_append.mp hy' with z | z
      · exact lG y z
      · rw [List.mem_singleton.mp z]
        exact g.1
  | addDrain x r =>
    simp only [LS.due] at h
    split at h
    · cases h
    split at h
    · cases h
    split at h
    · cases h
    rename_i h1 h2 h3
    have nx : x ∉ keys S.drains := fun z => h1 (by simp [LS.taken, z])
    refine ⟨rN, rL, lN, lL, ?_, by show (S.drains ++ [(x, r)]).length ≤ 12; rw [List.length_append, List.length_singleton]; omega, sN, sI, lI, fun e he => ?_, rG, lG, fun y hy => ?_⟩
    · show (keys (S.drains ++ [(x, r)])).Nodup
      rw [keys_snoc]
      exact nd_snocS dN nx
    · rcases List.mem_append.mp he with z | z
      · exact dI e z
      · rw [List.mem_singleton.mp z]
        exact Classical.not_not.mp h2
    · have hy' : y ∈ keys (S.drains ++ [(x, r)]) := hy
      rw [keys_snoc] at hy'
      rcases List.mem_append.mp hy' with z | z
      · exact dG y z
      · rw [List.mem_singleton.mp z]
        exact g.1
  | addSource x =>
    simp only [LS.due] at h
    split at h
    · cases h
    split at h
    · cases h
    rename_i h1 h2
    refine ⟨rN, rL, lN, lL, dN, dL, nd_snocS sN h2, fun y hy => ?_, lI, dI, rG, lG, dG⟩
    rcases List.mem_append.mp hy with z | z
    · exact sI y z
    · rw [List.mem_singleton.mp z]
      exact Classical.not_not.mp h1
  | takeRoom x =>
    simp only [LS.due] at h
    split at h
    · cases h
    split at h
    · cases h
    rename_i h1 h2
    have nu : x ∉ S.sources ∧ x ∉ S.drains.map (·.2) ∧ ¬ 0 < (S.at x).length := by
      refine ⟨fun z => h2 ?_, fun z => h2 ?_, fun z => h2 ?_⟩
      · simp only [LS.used, decide_eq_true z, Bool.true_or]
      · simp only [LS.used, decide_eq_true z, Bool.true_or, Bool.or_true]
      · simp only [LS.used, decide_eq_true z, Bool.or_true]
    have keep : ∀ y, y ∈ S.rooms → y ≠ x → y ∈ S.rooms.filter fun y => decide (y ≠ x) := fun y hy n => List.mem_filter.mpr ⟨hy, decide_eq_true n⟩
    refine ⟨nodup_filter rN, Nat.le_trans (List.length_filter_le _ _) rL, lN, lL, dN, dL, sN, fun y hy => keep y (sI y hy) fun z => nu.1 (z ▸ hy), fun e he => ?_, fun e he => keep _ (dI e he) fun z => nu.2.1 (z ▸ List.mem_map_of_mem he), fun y hy => rG y (List.mem_filter.mp hy).1, lG, dG⟩
    obtain ⟨a, b, c⟩ := lI e he
    exact ⟨keep _ a fun z => nu.2.2 (mem_at he (.inl z.symm)), keep _ b fun z => nu.2.2 (mem_at he (.inr z.symm)), c⟩
  | takeLine x =>
    refine ⟨rN, rL, ?_, Nat.le_trans (List.length_filter_le _ _) lL, dN, dL, sN, sI, fun e he => lI e (List.mem_filter.mp he).1, dI, rG, fun y hy => ?_, dG⟩
    · show (keys (del S.lines x)).Nodup
      rw [keys_del]
      exact nodup_filter lN
    · have hy' : y ∈ keys (del S.lines x) := hy
      rw [keys_del] at hy'
      exact lG y (List.mem_filter.mp hy').1
  | takeDrain x =>
    refine ⟨rN, rL, lN, lL, ?_, Nat.le_trans (List.length_filter_le _ _) dL, sN, sI, lI, fun e he => dI e (List.mem_filter.mp he).1, rG, lG, fun y hy => ?_⟩
    · show (keys (del S.drains x)).Nodup
      rw [keys_del]
      exact nodup_filter dN
    · have hy' : y ∈ keys (del S.drains x) := hy
      rw [keys_del] at hy'
      exact dG y (List.mem_filter.mp hy').1
  | takeSource x => exact ⟨rN, rL, lN, lL, dN, dL, nodup_filter sN, fun y hy => sI y (List.mem_filter.mp hy).1, lI, dI, rG, lG, dG⟩
end SM
/-! Part M: methods by name; the layout in the heap. -/
namespace SM
open PySem PySem.Spec PyProof.Rows L2
/-- the method m of the class at L is the text st -/
def MethAt (K : PySem.W.Frag) (L : Addr) (m q : Str) (st : Stmt) : Prop := ∃ f fd, L2.Fun K m q st f fd ∧ Meth K L m f
def OkM (P : Program) (w : World) (K : PySem.W.Frag) (mg : Str → Option Value) (base : Heap) (CX : CXT) (k : Nat) (L : Addr) (m : Str) (ps : List Str) (sp : Sp) : Prop :=
  ∃ f fd, Meth K L m f ∧ Binds K fd ps [] ∧ FnOk P w K mg base CX k f fd ps sp
section
variable {P : Program} {w : World} {K : PySem.W.Frag} {mg : Str → Option Value} {base : Heap} {CX : CXT} {k : Nat} {L : Addr} {m q : Str} {ps : List Str} {sp : Sp}
theorem OkM.up {j : Nat} (F : OkM P w K mg base CX j L m ps sp) (h : j ≤ k) : OkM P w K mg base CX k L m ps sp :=
  let ⟨f, fd, a, b, c⟩ := F; ⟨f, fd, a, b, c.mono h⟩
abbrev BindsBy2 (x q : Str) (st : Stmt) (ps : List Str) : Prop := ∀ (kV doc pm : Value) (an : Option Addr) (cdv ct : Value) (us : List Value), us.length = ps.length →
  bindArgs (PySem.W.fnOf x q (defArgs st) (defBody st) (defScope st) .none kV doc pm an cdv ct) ⟨us, []⟩ = pure (ps.zip us)
theorem MethAt.ok {st : Stmt} {N : List Str} (D : MethAt K L m q st) (S : FnScope N ps (defScope st)) (b : BindsBy2 m q st ps) (len : ∀ vs H Q E, sp vs H Q E → vs.length = ps.length)
    (bd : ∀ (f : Addr) (cdv : Value) (A : Around) (outer : List Env) (s : Shared) (H : Hp) (vs : List V) (Q : VK) (E : XK), Room k (A.deeper (envOfC q (defScope st) s.heap.objs.size f cdv)) → sp vs H Q E →
      ∃ t, PSs (cxOf CX0 P w K mg base N q (defScope st) f cdv A outer s H E).nox (defBody st) t ∧ t { nx := fun _ H' => Q .non H', rt := Q } (L2.start N vs) H) : OkM P w K mg base CX0 (k + 1) L m ps sp := by
  obtain ⟨f, fd, F, g⟩ := D
  exact ⟨f, fd, g, F.binds b, F.ok S len fun cdv A outer s H vs Q E hr h => bd f cdv A outer s H vs Q E hr h⟩
theorem MethAt.okX {st : Stmt} {N : List Str} (D : MethAt K L m q st) (S : FnScope N ps (defScope st)) (b : BindsBy2 m q st ps) (len : ∀ vs H Q E, sp vs H Q E → vs.length = ps.length)
    (bd : ∀ (f : Addr) (cdv : Value) (A : Around) (outer : List Env) (s : Shared) (H : Hp) (vs : List V) (Q : VK) (E : XK), Room k (A.deeper (envOfC q (defScope st) s.heap.objs.size f cdv)) → sp vs H Q E →
      ∃ t, PSs (cxOf (L2.CX P w) P w K mg base N q (defScope st) f cdv A outer s H E) (defBody st) t ∧ t { nx := fun _ H' => Q .non H', rt := Q } (L2.start N vs) H) : OkM P w K mg base (L2.CX P w) (k + 1) L m ps sp := by
  obtain ⟨f, fd, F, g⟩ := D
  exact ⟨f, fd, g, F.binds b, F.okX S len fun cdv A outer s H vs Q E hr h => bd f cdv A outer s H vs Q E hr h⟩
end
section
variable {X : Cx} {CX : CXT} {k : Nat} {L : Addr} {ps : List Str} {sp : Sp} {E : XK} {m : Str} {o e : Expr} {es : List Expr} {ta : TE} {t : TA} {pos apos : Pos} {pl : Sem Bool}
theorem pe_m (F : OkM X.prog X.w X.K X.mg X.base CX k L m ps sp) (c : Cls X.K L) (hr : Room k X.A) (hx : Passes CX X E) (he : PE X o ta) (ha : PA X (e :: es) t)
    (hst : starEach (e :: es) X.env = (false, eval e X.env) :: starEach es X.env := by rfl) (hpl : (backTo pos (starEach es X.env)).any (·.1) = false := by rfl)
    (ht : eval (.Call (.Attribute o m apos) (e :: es) [] pos) X.env = (do
      let ov ← eval o X.env
      standAt apos.atName
      let (f, first) ← holding [ov] (getMethod ov m pl)
      callWith pos f first (backTo pos (starEach (e :: es) X.env)) (backToKw pos (keywordEach [] X.env))) := by rfl) :
    PE X (.Call (.Attribute o m apos) (e :: es) [] pos) (tMeth L m sp [] E ta t) := by
  obtain ⟨f, fd, a, b, d⟩ := F
  exact pe_meth (pl := pl) he c a d hr b .nil hx ha hst hpl ht
theorem pe_m0 (F : OkM X.prog X.w X.K X.mg X.base CX k L m ps sp) (c : Cls X.K L) (hr : Room k X.A) (hx : Passes CX X E) (he : PE X o ta)
    (ht : eval (.Call (.Attribute o m apos) [] [] pos) X.env = (do
      let ov ← eval o X.env
      standAt apos.atName
      let (f, first) ← holding [ov] (getMethod ov m pl)
      callWith pos f first (backTo pos (starEach [] X.env)) (backToKw pos (keywordEach [] X.env))) := by rfl) :
    PE X (.Call (.Attribute o m apos) [] [] pos) (tMeth L m sp [] E ta tNil) := by
  obtain ⟨f, fd, a, b, d⟩ := F
  exact pe_meth0 (pl := pl) he c a d hr b .nil hx ht
end
/-! ### what stays -/
/-- but for what stands at ms all is as it was; tuples, instances and lists of flat things stay anyhow -/
structure Keep (ms : List Addr) (H H' : Hp) : Prop where
  out : ∀ b u, H b = some u → b ∉ ms → H' b = some u
  tup : ∀ b xs, H b = some (.tup xs) → H' b = some (.tup xs)
  ins : ∀ b C dx fs, H b = some (.ins C dx fs) → H' b = some (.ins C dx fs)
  flat : ∀ b xs, H b = some (.lst xs) → xs.all flatV = true → H' b = some (.lst xs)
  has : ∀ b, H' b = none → H b = none
section
variable {ms ms' : List Addr} {H H1 H2 : Hp}
theorem Keep.refl : Keep ms H H := ⟨fun _ _ e _ => e, fun _ _ e => e, fun _ _ _ _ e => e, fun _ _ e _ => e, fun _ e => e⟩
theorem Keep.of (s : Same H H1) : Keep ms H H1 := ⟨fun b u e _ => s b u e, fun b xs e => s b _ e, fun b _ _ _ e => s b _ e, fun b _ e _ => s b _ e, fun b e => s.free e⟩
theorem Keep.trans (a : Keep ms H H1) (b : Keep ms H1 H2) : Keep ms H H2 :=
  ⟨fun x u e n => b.out x u (a.out x u e n) n, fun x xs e => b.tup x xs (a.tup x xs e), fun x c d f e => b.ins x c d f (a.ins x c d f e), fun x xs e f => b.flat x xs (a.flat x xs e f) f, fun x e => a.has x (b.has x e)⟩
theorem Keep.mono (a : Keep ms H H1) (h : ∀ x ∈ ms, x ∈ ms') : Keep ms' H H1 := ⟨fun x u e n => a.out x u e fun z => n (h x z), a.tup, a.ins, a.flat, a.has⟩
theorem Keep.at {d : Addr} {u u' : HO} (h : H d = some u) (m : d ∈ ms) (h1 : ∀ xs, u ≠ .tup xs) (h2 : ∀ C dx fs, u ≠ .ins C dx fs) (h3 : ∀ xs, u = .lst xs → xs.all flatV = false) : Keep ms H (upd H d u') := by
  refine ⟨fun b v e n => ?_, fun b xs e => ?_, fun b c x f e => ?_, fun b xs e f => ?_, fun b e => ?_⟩
  · rw [upd_ne (show b ≠ d from fun z => n (by rw [z]; exact m))]
    exact e
  · by_cases z : b = d
    · rw [z, h] at e
      exact absurd (Option.some.inj e) (h1 xs)
    · rw [upd_ne z]
      exact e
  · by_cases z : b = d
    · rw [z, h] at e
      exact absurd (Option.some.inj e) (h2 c x f)
    · rw [upd_ne z]
      exact e
  · by_cases z : b = d
    · rw [z, h] at e
      rw [h3 xs (Option.some.inj e)] at f
      cases f
    · rw [upd_ne z]
      exact e
  · by_cases z : b = d
    · rw [z, upd_same] at e
      cases e
    · rw [upd_ne z] at e
      exact e
theorem Keep.dput {d : Addr} {kvs kvs' : List (Key × V)} (h : H d = some (.dK kvs)) (m : d ∈ ms) : Keep ms H (upd H d (.dK kvs')) :=
  Keep.at h m (fun _ z => by cases z) (fun _ _ _ z => by cases z) fun _ z => by cases z
/-- a draw -/
theorem Keep.bag {p q : Addr} (B : Bag H p q) (B1 : Bag H1 p q) (b : But p H H1) (m : p ∈ ms) : Keep ms H H1 := by
  obtain ⟨x, y, c, ns, B⟩ := B
  have top := B.top
  refine ⟨fun b' v e n => ?_, fun b' xs e => ?_, fun b' c x f e => ?_, fun b' xs e f => ?_, fun b' e => ?_⟩
  · exact (b b' fun z => n (by rw [z]; exact m)).trans e
  · exact (b b' (ne_of e top (by intro z; cases z))).trans e
  · exact (b b' (ne_of e top (by intro z; cases z))).trans e
  · refine (b b' fun z => ?_).trans e
    rw [z, top] at e
    cases e
    exact Bool.noConfusion f
  · by_cases z : b' = p
    · rw [z] at e
      exact absurd e B1.there.1
    · exact (b b' z).symm.trans e
theorem Bag.kept {p q : Addr} (B : Bag H p q) (k : Keep ms H H1) (n : p ∉ ms) : Bag H1 p q := by
  obtain ⟨x, y, c, ns, B⟩ := B
  exact ⟨x, y, c, ns, k.out _ _ B.top n, k.flat _ _ B.low (by rw [List.all_map]; exact List.all_eq_true.mpr fun _ _ => rfl), B.a0, B.b0, B.b1, B.c0, B.nn⟩
end
/-! ### the layout -/
/-- where a layout's parts stand -/
structure LA where
  p : Addr
  r : Addr
  l : Addr
  d : Addr
  s : Addr
def LA.ms (A : LA) : List Addr := [A.r, A.l, A.d, A.s]
def lfl (A : LA) : List (Str × V) := [("_rooms", .ref A.r), ("_lines", .ref A.l), ("_drains", .ref A.d), ("_sources", .ref A.s)]
theorem nRL : (("_lines" : Str) == "_rooms") = false := by decide +kernel
theorem nRD : (("_drains" : Str) == "_rooms") = false := by decide +kernel
theorem nRS : (("_sources" : Str) == "_rooms") = false := by decide +kernel
theorem nLD : (("_drains" : Str) == "_lines") = false := by decide +kernel
theorem nLS : (("_sources" : Str) == "_lines") = false := by decide +kernel
theorem nDS : (("_sources" : Str) == "_drains") = false := by decide +kernel
theorem lfl_r (A : LA) : (lfl A).lookup ("_rooms" : Str) = some (.ref A.r) := by simp only [lfl, List.lookup_cons, beq_self_eq_true]
theorem lfl_l (A : LA) : (lfl A).lookup ("_lines" : Str) = some (.ref A.l) := by simp only [lfl, List.lookup_cons, beq_self_eq_true, nRL]
theorem lfl_d (A : LA) : (lfl A).lookup ("_drains" : Str) = some (.ref A.d) := by simp only [lfl, List.lookup_cons, beq_self_eq_true, nRD, nLD]
theorem lfl_s (A : LA) : (lfl A).lookup ("_sources" : Str) = some (.ref A.s) := by simp only [lfl, List.lookup_cons, beq_self_eq_true, nRS, nLS, nDS]
theorem lfl_no (A : LA) {m : Str} (h : ([("_rooms" : Str), "_lines", "_drains", "_sources"]).contains m = false) : (lfl A).lookup m = none := by
  simp only [List.contains_cons, Bool.or_eq_false_iff, List.contains_nil] at h
  simp only [lfl, List.lookup_cons, h.1, h.2.1, h.2.2.1, h.2.2.2.1, List.lookup_nil]
theorem kRL : ¬ (("_rooms" : Str) = "_lines") := by decide +kernel
theorem kRD : ¬ (("_rooms" : Str) = "_drains") := by decide +kernel
theorem kRS : ¬ (("_rooms" : Str) = "_sources") := by decide +kernel
theorem kLD : ¬ (("_lines" : Str) = "_drains") := by decide +kernel
theorem kLS : ¬ (("_lines" : Str) = "_sources") := by decide +kernel
theorem kDS : ¬ (("_drains" : Str) = "_sources") := by decide +kernel
theorem putF_skip {f g : Str} {v x : V} {r : List (Str × V)} (h : ¬ g = f) : putF f v ((g, x) :: r) = (g, x) :: putF f v r := by
  show (if g = f then (g, v) :: r else (g, x) :: putF f v r) = _
  rw [if_neg h]
theorem putF_nil {f : Str} {v : V} : putF f v [] = [(f, v)] := rfl
theorem pf2 (x y : V) : putF "_lines" y (putF "_rooms" x []) = ([("_rooms", x), ("_lines", y)] : List (Str × V)) := by
  rw [putF_nil, putF_skip kRL, putF_nil]
theorem pf3 (x y z : V) : putF "_drains" z ([("_rooms", x), ("_lines", y)] : List (Str × V)) = ([("_rooms", x), ("_lines", y), ("_drains", z)] : List (Str × V)) := by
  rw [putF_skip kRD, putF_skip kLD, putF_nil]
theorem pf4 (x y z u : V) : putF "_sources" u ([("_rooms", x), ("_lines", y), ("_drains", z)] : List (Str × V)) = ([("_rooms", x), ("_lines", y), ("_drains", z), ("_sources", u)] : List (Str × V)) := by
  rw [putF_skip kRS, putF_skip kLS, putF_skip kDS, putF_nil]
def LineG (H : Hp) (v : V) (e : LineV) : Prop := ∃ t, v = .ref t ∧ H t = some (.tup [.str e.1, .str e.2.1, .int e.2.2])
abbrev TrueG (v : V) (_ : Unit) : Prop := v = .bl true
abbrev StrG (v : V) (x : Str) : Prop := v = .str x
/-- a layout stands at A, its state is S -/
structure LayAt (L : Addr) (H : Hp) (A : LA) (S : LS) : Prop where
  ob : ∃ dx, H A.p = some (.ins L dx (lfl A))
  rm : ∃ kvs, H A.r = some (.dK kvs) ∧ Kr TrueG kvs (uT S.rooms)
  ln : ∃ kvs, H A.l = some (.dK kvs) ∧ Kr (LineG H) kvs S.lines
  dr : ∃ kvs, H A.d = some (.dK kvs) ∧ Kr StrG kvs S.drains
  sc : ∃ kvs, H A.s = some (.dK kvs) ∧ Kr TrueG kvs (uT S.sources)
  nd : A.ms.Nodup
section
variable {L : Addr} {H H' : Hp} {A : LA} {S : LS} {ms : List Addr}
theorem LayAt.keep (h : LayAt L H A S) (k : Keep ms H H') (n : ∀ b ∈ ms, b ∉ A.ms) : LayAt L H' A S := by
  obtain ⟨⟨dx, ob⟩, ⟨k1, r1, r2⟩, ⟨k2, l1, l2⟩, ⟨k3, d1, d2⟩, ⟨k4, s1, s2⟩, nd⟩ := h
  have off : ∀ {b u}, b ∈ A.ms → H b = some u → H' b = some u := fun {b u} hb e => k.out b u e fun z => n b z hb
  exact ⟨⟨dx, k.ins _ _ _ _ ob⟩, ⟨k1, off (by simp [LA.ms]) r1, r2⟩, ⟨k2, off (by simp [LA.ms]) l1, l2.mono fun v a ⟨t, e, ht⟩ => ⟨t, e, k.tup t _ ht⟩⟩, ⟨k3, off (by simp [LA.ms]) d1, d2⟩, ⟨k4, off (by simp [LA.ms]) s1, s2⟩, nd⟩
theorem LayAt.same (h : LayAt L H A S) (s : Same H H') : LayAt L H' A S := h.keep (ms := []) (Keep.of s) fun b z => (nomatch z)
theorem LayAt.ne (h : LayAt L H A S) : A.r ≠ A.l ∧ A.r ≠ A.d ∧ A.r ≠ A.s ∧ A.l ≠ A.d ∧ A.l ≠ A.s ∧ A.d ≠ A.s := by
  have n := h.nd
  simp only [LA.ms, List.nodup_cons, List.mem_cons, List.not_mem_nil, or_false, not_or] at n
  exact ⟨n.1.1, n.1.2.1, n.1.2.2, n.2.1.1, n.2.1.2, n.2.2.1⟩
theorem LayAt.dp (h : LayAt L H A S) : A.p ≠ A.r ∧ A.p ≠ A.l ∧ A.p ≠ A.d ∧ A.p ≠ A.s := by
  obtain ⟨⟨dx, ob⟩, ⟨k1, r1, r2⟩, ⟨k2, l1, l2⟩, ⟨k3, d1, d2⟩, ⟨k4, s1, s2⟩, nd⟩ := h
  exact ⟨ne_of ob r1 (by intro z; cases z), ne_of ob l1 (by intro z; cases z), ne_of ob d1 (by intro z; cases z), ne_of ob s1 (by intro z; cases z)⟩
theorem LineG.put {kvs kvs' : List (Key × V)} {d : Addr} (hd : H d = some (.dK kvs)) {v : V} {e : LineV} (h : LineG H v e) : LineG (upd H d (.dK kvs')) v e := by
  obtain ⟨t, e, ht⟩ := h
  exact ⟨t, e, by rw [upd_ne (ne_of ht hd (by intro z; cases z))]; exact ht⟩
theorem LayAt.setR (h : LayAt L H A S) {kvs : List (Key × V)} {xs : List Str} (k : Kr TrueG kvs (uT xs)) : LayAt L (upd H A.r (.dK kvs)) A { S with rooms := xs } := by
  have n := h.ne
  have q := h.dp
  obtain ⟨⟨dx, ob⟩, ⟨k1, r1, r2⟩, ⟨k2, l1, l2⟩, ⟨k3, d1, d2⟩, ⟨k4, s1, s2⟩, nd⟩ := h
  exact ⟨⟨dx, (upd_ne q.1).trans ob⟩, ⟨kvs, upd_same, k⟩, ⟨k2, (upd_ne n.1.symm).trans l1, l2.mono fun v a g => g.put r1⟩, ⟨k3, (upd_ne n.2.1.symm).trans d1, d2⟩, ⟨k4, (upd_ne n.2.2.1.symm).trans s1, s2⟩, nd⟩
theorem LayAt.setL (h : LayAt L H A S) {kvs : List (Key × V)} {xs : List (Str × LineV)} (k : Kr (LineG H) kvs xs) : LayAt L (upd H A.l (.dK kvs)) A { S with lines := xs } := by
  have n := h.ne
  have q := h.dp
  obtain ⟨⟨dx, ob⟩, ⟨k1, r1, r2⟩, ⟨k2, l1, l2⟩, ⟨k3, d1, d2⟩, ⟨k4, s1, s2⟩, nd⟩ := h
  exact ⟨⟨dx, (upd_ne q.2.1).trans ob⟩, ⟨k1, (upd_ne n.1).trans r1, r2⟩, ⟨kvs, upd_same, k.mono fun v a g => g.put l1⟩, ⟨k3, (upd_ne n.2.2.2.1.symm).trans d1, d2⟩, ⟨k4, (upd_ne n.2.2.2.2.1.symm).trans s1, s2⟩, nd⟩
theorem LayAt.setD (h : LayAt L H A S) {kvs : List (Key × V)} {xs : List (Str × Str)} (k : Kr StrG kvs xs) : LayAt L (upd H A.d (.dK kvs)) A { S with drains := xs } := by
  have n := h.ne
  have q := h.dp
  obtain ⟨⟨dx, ob⟩, ⟨k1, r1, r2⟩, ⟨k2, l1, l2⟩, ⟨k3, d1, d2⟩, ⟨k4, s1, s2⟩, nd⟩ := h
  exact ⟨⟨dx, (upd_ne q.2.2.1).trans ob⟩, ⟨k1, (upd_ne n.2.1).trans r1, r2⟩, ⟨k2, (upd_ne n.2.2.2.1).trans l1, l2.mono fun v a g => g.put d1⟩, ⟨kvs, upd_same, k⟩, ⟨k4, (upd_ne n.2.2.2.2.2.symm).trans s1, s2⟩, nd⟩
theorem LayAt.setS (h : LayAt L H A S) {kvs : List (Key × V)} {xs : List Str} (k : Kr TrueG kvs (uT xs)) : LayAt L (upd H A.s (.dK kvs)) A { S with sources := xs } := by
  have n := h.ne
  have q := h.dp
  obtain ⟨⟨dx, ob⟩, ⟨k1, r1, r2⟩, ⟨k2, l1, l2⟩, ⟨k3, d1, d2⟩, ⟨k4, s1, s2⟩, nd⟩ := h
  exact ⟨⟨dx, (upd_ne q.2.2.2).trans ob⟩, ⟨k1, (upd_ne n.2.2.1).trans r1, r2⟩, ⟨k2, (upd_ne n.2.2.2.2.1).trans l1, l2.mono fun v a g => g.put s1⟩, ⟨k3, (upd_ne n.2.2.2.2.2).trans d1, d2⟩, ⟨kvs, upd_same, k⟩, nd⟩
end
/-! ### the promises -/
theorem inV_strs (z : Str) : ∀ xs : List Str, inV (.str z) (xs.map V.str) = decide (z ∈ xs)
  | [] => rfl
  | x :: xs => by
    have ih := inV_strs z xs
    unfold inV at ih ⊢
    rw [List.map_cons, List.any_cons, ih]
    show ((x == z) || decide (z ∈ xs)) = _
    by_cases e : x = z
    · subst e
      simp
    · have e' : ¬ z = x := fun q => e q.symm
      simp [e, e']
theorem flat_strs (xs : List Str) : (xs.map V.str).all flatV = true := by
  rw [List.all_map]
  exact List.all_eq_true.mpr fun x _ => rfl
theorem Kr.strs : ∀ {kvs : List (Key × V)} {tab : List (Str × Str)}, Kr StrG kvs tab → kvs.map (·.2) = (tab.map (·.2)).map V.str
  | _, _, .nil => rfl
  | _, _, .cons h t => by
    have e := Kr.strs t
    have h2 : _ = V.str _ := h.2
    rw [List.map_cons, List.map_cons, List.map_cons, h2, e]
theorem Kr.at {α : Type} {G : V → α → Prop} : ∀ {kvs : List (Key × V)} {tab : List (Str × α)}, Kr G kvs tab → ∀ {i : Nat} {p : Key × V}, kvs[i]? = some p → ∃ q, tab[i]? = some q ∧ p.1 = Sum.inr q.1 ∧ G p.2 q.2
  | _, _, .nil, i, p, e => by simp at e
  | a :: as, b :: bs, .cons h t, 0, p, e => by
    have e' : a = p := by simpa using e
    subst e'
    exact ⟨b, rfl, h⟩
  | a :: as, b :: bs, .cons h t, i + 1, p, e => by
    obtain ⟨q, e1, e2⟩ := Kr.at t (i := i) (p := p) (by simpa using e)
    exact ⟨q, by simpa using e1, e2⟩
section
variable (K : PySem.W.Frag) (C : Nat → Addr) (L : Addr)
def spNeed : Sp := fun vs H Q E => ∃ (y : V) (b : Bool), vs = [y, .bl b] ∧ (b = true → Q .non H) ∧ (b = false → Ref C 0 y H E)
def spIsName : Sp := fun vs H Q _ => ∃ (x : V) (b : Bool), vs = [x] ∧ NameQ K H x b ∧ ∀ H', Same H H' → Q (.bl b) H'
def spIsWhole : Sp := fun vs H Q _ => ∃ (x : V) (b : Bool), vs = [x] ∧ WholeQ K H x b ∧ Q (.bl b) H
def spIsCost : Sp := fun vs H Q _ => ∃ (x : V) (b : Bool), vs = [x] ∧ CostQ K H x b ∧ Q (.bl b) H
/-- what a deed does: it is let by, or refused -/
def Does (D : Deed) (A : LA) (S : LS) (H : Hp) (Q : VK) (E : XK) : Prop :=
  (S.due D = none → ∀ H', LayAt L H' A (S.put D) → Keep A.ms H H' → Q .non H') ∧ ∀ f, S.due D = some f → Ref C f.cls f.val H E
/-- a deed of one name -/
def spOne (D : Str → Deed) : Sp := fun vs H Q E => ∃ (A : LA) (x : V) (b : Bool) (S : LS), vs = [.ref A.p, x] ∧ LayAt L H A S ∧ S.Ok ∧ NameQ K H x b ∧ (b = false → Ref C 0 (.int 0) H E) ∧ ∀ z, x = .str z → okName z = true → Does C L (D z) A S H Q E
def spAddDrain : Sp := fun vs H Q E => ∃ (A : LA) (x y : V) (b c : Bool) (S : LS), vs = [.ref A.p, x, y] ∧ LayAt L H A S ∧ S.Ok ∧ NameQ K H x b ∧ NameQ K H y c ∧ (b = false → Ref C 0 (.int 0) H E) ∧ (b = true → c = false → Ref C 0 (.int 1) H E) ∧
  ∀ z r, x = .str z → y = .str r → okName z = true → okName r = true → Does C L (.addDrain z r) A S H Q E
def spAddLine : Sp := fun vs H Q E => ∃ (A : LA) (x y z u : V) (b1 b2 b3 b4 : Bool) (S : LS), vs = [.ref A.p, x, y, z, u] ∧ LayAt L H A S ∧ S.Ok ∧ NameQ K H x b1 ∧ NameQ K H y b2 ∧ NameQ K H z b3 ∧ CostQ K H u b4 ∧
  (b1 = false → Ref C 0 (.int 0) H E) ∧ (b1 = true → b2 = false → Ref C 0 (.int 1) H E) ∧ (b1 = true → b2 = true → (b3 = false ∨ z = y) → Ref C 0 (.int 2) H E) ∧ (b1 = true → b2 = true → b3 = true → z ≠ y → b4 = false → Ref C 0 (.int 3) H E) ∧
  ∀ n o p c, x = .str n → y = .str o → z = .str p → u = .int c → okName n = true → okName o = true → okName p = true → o ≠ p → okCost c = true → Does C L (.addLine n o p c) A S H Q E
/-- rooms(), lines(), drains(), sources() -/
def spSorted (f : LS → List Str) : Sp := fun vs H Q _ => ∃ (A : LA) (S : LS), vs = [.ref A.p] ∧ LayAt L H A S ∧ S.Ok ∧ ∀ (H' : Hp) (p : Addr) (ys : List Str), ys.Perm (f S) → sortedS ys = true → Same H H' → H p = none → H' p = some (.lst (ys.map V.str)) → Q (.ref p) H'
/-- a question of one name; ans: None where it is lacking -/
def spAsk {α : Type} (ans : LS → Str → Option α) (told : α → V → Hp → Hp → Prop) : Sp := fun vs H Q E => ∃ (A : LA) (x : V) (b : Bool) (S : LS), vs = [.ref A.p, x] ∧ LayAt L H A S ∧ S.Ok ∧ NameQ K H x b ∧ (b = false → Ref C 0 (.int 0) H E) ∧
  ∀ z, x = .str z → okName z = true → (ans S z = none → Ref C 2 (.str z) H E) ∧ ∀ a, ans S z = some a → ∀ H' v, Same H H' → told a v H H' → Q v H'
/-- self._refuse_..(name): refused where the test holds -/
def spRefuse (n : Nat) (f : LS → Str → Bool) : Sp := fun vs H Q E => ∃ (A : LA) (z : Str) (S : LS), vs = [.ref A.p, .str z] ∧ LayAt L H A S ∧ (f S z = true → Ref C n (.str z) H E) ∧ (f S z = false → Q .non H)
/-- self._ending_at(room) -/
def spEnding : Sp := fun vs H Q _ => ∃ (A : LA) (z : Str) (S : LS), vs = [.ref A.p, .str z] ∧ LayAt L H A S ∧ S.Ok ∧ ∀ H' p, Same H H' → H p = none → H' p = some (.lst ((S.at z).map V.str)) → Q (.ref p) H'
def spInUse : Sp := fun vs H Q _ => ∃ (A : LA) (z : Str) (S : LS), vs = [.ref A.p, .str z] ∧ LayAt L H A S ∧ S.Ok ∧ ∀ H', Same H H' → Q (.bl (S.used z)) H'
/-- Layout(): __init__ -/
def spInitL : Sp := fun vs H Q _ => ∃ (p dx : Addr), vs = [.ref p] ∧ H p = some (.ins L dx []) ∧ ∀ (A : LA) (H' : Hp), A.p = p → LayAt L H' A LS.new → (∀ b u, H b = some u → b ≠ p → H' b = some u) → (∀ b ∈ A.ms, H b = none) → (∀ b, H' b = none → H b = none) → Q .non H'
end
end SM
/-! Part V: list(d.values()). -/
namespace SM
open PySem PySem.Spec PyProof.Rows L2
def rValuesL : V → Hp → VK → Prop := fun x H Q => ∃ (d : Addr) (kvs : List (Key × V)), x = .ref d ∧ H d = some (.dK kvs) ∧ ∀ p, H p = none → Q (.ref p) (upd H p (.lst (kvs.map (·.2))))
def tListValues (te : TE) : TE := fun σ H Q => te σ H fun x H1 => rValuesL x H1 Q
theorem vals_kv : ∀ {kvs : List (Key × V)} {vs : List (Key × Value)} {us : List Value}, KV kvs vs → us.length = vs.length → (∀ (j : Nat) (v : Value), us[j]? = some v → ∃ k : Key, vs[j]? = some (k, v)) → Vals (kvs.map (·.2)) us
  | [], [], [], _, _, _ => .nil
  | _, _, u :: us, .cons h t, hl, hu => by
    obtain ⟨k, e⟩ := hu 0 u rfl
    have e' := Option.some.inj e
    refine .cons ?_ (vals_kv t (by simpa using hl) fun j v q => ?_)
    · have r := h.2
      rw [e'] at r
      exact r
    · obtain ⟨k2, e2⟩ := hu (j + 1) v (by simpa using q)
      exact ⟨k2, by simpa using e2⟩
  | _, _, [], .cons _ _, hl, _ => by simp at hl
  | _, _, _ :: _, .nil, hl, _ => by simp at hl
section
variable {X : Cx} {e : Expr} {te : TE} {p apos cpos pos : Pos}
/-- list(e.values()) -/
theorem pe_listValues (hc : X.calm = true) (he : PE X e te) (hg : Gl X "list") (hm : X.mg "list" = none) (hv : bootBuiltins "list" = some (.type "list")) (hbase : attributeBase e "values" X.env (eval e X.env) = eval e X.env := by rfl) (hline : (apos.endLine == cpos.line) = true := by rfl)
    (hs : starEach [.Call (.Attribute e "values" apos) [] [] cpos] X.env = (false, eval (.Call (.Attribute e "values" apos) [] [] cpos) X.env) :: starEach [] X.env := by rfl) :
    PE X (.Call (.Name "list" p) [.Call (.Attribute e "values" apos) [] [] cpos] [] pos) (tListValues te) := by
  refine ⟨fun pins s σ H Q I hq => ?_⟩
  refine wpAny_Call_Name_kw (ld_blt I hg hm hv ?_)
  refine PyProof.Rows.callWith_type1 ?_ hs rfl
  rw [hs]
  show wpAny _ _ (spliced ((false, eval (.Call (.Attribute e "values" apos) [] [] cpos) X.env) :: backTo pos (starEach [] X.env))) _ _ s
  refine Calls.spliced_cons ?_
  refine wpAny_Call_method (T := "dict") (id := "dict.values") hbase rfl hline F.plainAttrs_dict F.slot_dict_values F.type_dict_values (thn (he.run pins s σ H _ I hq) fun u s1 ⟨x, H1, I1, rx, d, kvs, ex, hd, q⟩ => ?_)
  subst ex
  obtain rfl : u = Value.ref d := rx
  obtain ⟨hz, hs0, vs, kv, hdo⟩ := I1.hok d _ hd
  obtain ⟨ep, hat⟩ := hdo.dictAt
  have lk : kvs.length = vs.length := Paired.length kv
  have I2 : Inv X pins σ H1 { s1 with heap := s1.heap.push { cls := .type "dict_values", data := .fields #[.ref d] } } := I1.kept (t' := s1.toks) fun b ob q => Heap.get?_push_of_some _ q
  refine ⟨hdo.typeIs, hdo.mapOf.noDict, ?_⟩
  show wpAny _ _ (callWith cpos (.builtin "dict.values") [.ref d] [] []) _ X.xe s1
  refine method_meetsIn F.slot_dict_values F.entry_dict_values rfl (PySem.evalArgs_none ⟨rfl, hdo.typeIs, F.args_dict_values_1 _, _, meets_dict_values (mixKind X.prog X.w) d hs0, ⟨vs, hdo⟩, ?_⟩)
  refine Calls.spliced_nil ?_
  refine PySem.W.kdl_call (PySem.W.kdl_values (knd := mixKind X.prog X.w) (kvs := vs) (ep := ep)) (I1.ok.hd hc) ⟨⟨_, Heap.get?_push_size _ rfl, rfl, rfl⟩, hat.push _⟩ (by omega) fun h' tk acc c hk hS hacc => ?_
  have hvs : Vals (kvs.map (·.2)) acc.toList := vals_kv kv (by rw [Array.length_toList]; exact hacc.1) fun j v e => hacc.2 j v (by rw [← Array.getElem?_toList]; exact e)
  exact ⟨.ref _, upd H1 _ (.lst (kvs.map (·.2))), I2.laid (t' := tk) hk (Nat.le_refl _)
    (show ObjOk X.prog X.w _ _ _ (.lst (kvs.map (·.2))) from ⟨by rw [List.length_map]; exact hz, acc.toList, c, hvs, by rw [Array.toArray_toList]; exact hS⟩), rfl, q _ (I2.hok.fresh (Nat.le_refl _))⟩
end
section
variable {X : Cx} {K : PySem.W.Frag}
theorem op_in_seqK (h : X.K = K) : OpR X (compareOp .In) (rIn K false) := by
  subst h
  exact op_in_seq
theorem op_notIn_seqK (h : X.K = K) : OpR X (compareOp .NotIn) (rIn K true) := by
  subst h
  exact op_notIn_seq
theorem ix_listK (h : X.K = K) : IxR X (rIxL K) := by
  subst h
  exact ix_list
theorem pg_tupK {es : List Expr} {k : Nat} {t : TGs} {n : Nat} {pos : Pos} (hK : X.K = K) (hc : X.calm = true) (h : PGs X es t)
    (hn : (assignEach es X.env).length = n := by rfl) (hst : (assignEach es X.env).findIdx? (·.1) = none := by rfl) : PG X (.Tuple es k pos) (gTup K n t) := by
  subst hK
  exact pg_tup hc h hn hst
end
end SM
/-! Part K: what a law holds of a layout: sorted lists, data, its own book. -/
namespace SM
open PySem PySem.Spec PyProof.Rows L2
/-! ### sorted lists of texts: one arrangement -/
theorem lt_anti : ∀ {a b : List Nat}, ltCps b a = false → ltCps a b = false → a = b
  | [], [], _, _ => rfl
  | [], _ :: _, _, h => by cases h
  | _ :: _, [], h, _ => by cases h
  | x :: xs, y :: ys, h1, h2 => by
    simp only [ltCps, Bool.or_eq_false_iff, decide_eq_false_iff_not] at h1 h2
    have e : x = y := by omega
    subst e
    have h1' : ltCps ys xs = false := by simpa using h1.2
    have h2' : ltCps xs ys = false := by simpa using h2.2
    rw [lt_anti h1' h2']
theorem le_tr : ∀ {a b c : List Nat}, ltCps b a = false → ltCps c b = false → ltCps c a = false
  | [], _, [], _, _ => rfl
  | [], [], _ :: _, _, _ => rfl
  | [], _ :: _, _ :: _, _, _ => rfl
  | _ :: _, [], _, h, _ => by cases h
  | _ :: _, _ :: _, [], _, h => by cases h
  | x :: xs, y :: ys, z :: zs, h1, h2 => by
    simp only [ltCps, Bool.or_eq_false_iff, decide_eq_false_iff_not] at h1 h2 ⊢
    refine ⟨by omega, ?_⟩
    by_cases e : z = x
    · have e1 : y = x := by omega
      subst e1
      subst e
      have h1' : ltCps ys xs = false := by simpa using h1.2
      have h2' : ltCps zs ys = false := by simpa using h2.2
      rw [le_tr h1' h2', Bool.and_false]
    · rw [beq_false_of_ne e, Bool.false_and]
abbrev leS (a b : Str) : Prop := ltCps b.cps.toList a.cps.toList = false
theorem leS_anti {a b : Str} (h1 : leS a b) (h2 : leS b a) : a = b := by
  have e := lt_anti h1 h2
  obtain ⟨⟨x⟩⟩ := a
  obtain ⟨⟨y⟩⟩ := b
  have e' : x = y := e
  rw [e']
theorem rising_pw : ∀ {l : List Str} {p : Str}, risingS p l = true → (p :: l).Pairwise leS
  | [], p, _ => List.pairwise_singleton _ _
  | x :: r, p, h => by
    have h' : (!ltCps x.cps.toList p.cps.toList) = true ∧ risingS x r = true := by
      have z : (!ltCps x.cps.toList p.cps.toList && risingS x r) = true := h
      simpa using z
    have ih := rising_pw h'.2
    have px : leS p x := by simpa using h'.1
    refine List.pairwise_cons.mpr ⟨fun y hy => ?_, ih⟩
    rcases List.mem_cons.mp hy with e | hy
    · rw [e]
      exact px
    · exact le_tr px ((List.pairwise_cons.mp ih).1 y hy)
theorem sorted_pw : ∀ {l : List Str}, sortedS l = true → l.Pairwise leS
  | [], _ => List.Pairwise.nil
  | _ :: _, h => rising_pw h
theorem sorted_one {xs ys zs : List Str} (p : ys.Perm xs) (q : zs.Perm xs) (s : sortedS ys = true) (t : sortedS zs = true) : ys = zs :=
  List.Perm.eq_of_pairwise (fun a b _ _ h1 h2 => leS_anti h1 h2) (sorted_pw s) (sorted_pw t) (p.trans q.symm)
/-! ### xs.count(y), all flat -/
theorem countP_eqU {x : V} : ∀ {xs : List V} {us : List Value}, Vals xs us → xs.all flatV = true → us.countP (eqU x) = xs.countP fun y => eqV y x
  | _, _, .nil, _ => rfl
  | y :: xs, u :: us, .cons r t, f => by
    rw [List.all_cons, Bool.and_eq_true] at f
    rw [List.countP_cons, List.countP_cons, eqU_of r f.1, countP_eqU t f.2]
def rCntF (K : PySem.W.Frag) : V → List V → Hp → VK → Prop := fun x vs H Q => ∃ (p : Addr) (xs : List V) (y : V), x = .ref p ∧ vs = [y] ∧ SqL K H p xs ∧ flatV y = true ∧ xs.all flatV = true ∧ Q (.int (xs.countP fun z => eqV z y : Nat)) H
theorem mt_countF {X : Cx} : MtR X "list.count" (rCntF X.K) := by
  intro pins s σ H x vs v us Q I rx rxs h
  obtain ⟨p, xs, y, rfl, rfl, hs, fy, fx, q⟩ := h
  cases rx
  obtain ⟨u, rfl, ru⟩ := rxs.one
  obtain ⟨its, rv, ⟨⟨cls, dd, data, sl⟩, n, ho, hc, hdn, hd⟩, hlen⟩ := I.list hs
  simp only at hc hd
  subst hc hd
  refine call_meets PySem.F.slot_list_count ⟨_, ho, rfl⟩ PySem.F.entry_list_count (PySem.F.args_list_count_2 _ _)
    (SeqAt.list_countAt p its.toArray n dd sl u (eqU y)) ⟨ho, fun z hz => mem_eqAt ru fy rv fx z (by simpa using hz), ?_⟩
  have ec : its.toArray.toList.countP (eqU y) = xs.countP fun z => eqV z y := countP_eqU rv fx
  refine ⟨.int (xs.countP fun z => eqV z y : Nat), H, I.tok _, ⟨s.toks, ?_⟩, q⟩
  show Value.int ((its.toArray.toList.countP (eqU y) : Nat) : Int) s.toks = Value.int ((xs.countP fun z => eqV z y : Nat) : Int) s.toks
  rw [ec]
/-! ### small data -/
structure Sm (k w : Nat) (d : PyData) : Prop where
  lay : d.canLay0 = true
  dep : d.depth ≤ k
  ish : d.intsShort 64 = true
  sho : d.showable = true
  wt : d.weight ≤ w
structure SmAll (k w : Nat) (ds : List PyData) : Prop where
  lay : PyData.canLayAll0 ds = true
  dep : PyData.depthAll ds ≤ k
  ish : PyData.intsShortAll 64 ds = true
  sho : PyData.showableAll ds = true
  wt : PyData.weightAll ds ≤ ds.length * (w + 1)
theorem SmAll.nil {k w : Nat} : SmAll k w [] := ⟨by simp only [PyData.canLayAll0], by simp only [PyData.depthAll]; omega, by simp only [PyData.intsShortAll], by simp only [PyData.showableAll], by simp only [PyData.weightAll]; omega⟩
theorem SmAll.cons {k w : Nat} {d : PyData} {ds : List PyData} (h : Sm k w d) (t : SmAll k w ds) : SmAll k w (d :: ds) := by
  refine ⟨?_, ?_, ?_, ?_, ?_⟩
  · simp only [PyData.canLayAll0, h.lay, t.lay, Bool.and_self]
  · simp only [PyData.depthAll]
    have := h.dep
    have := t.dep
    omega
  · simp only [PyData.intsShortAll, h.ish, t.ish, Bool.and_self]
  · simp only [PyData.showableAll, h.sho, t.sho, Bool.and_self]
  · simp only [PyData.weightAll, List.length_cons, Nat.succ_mul]
    have := h.wt
    have := t.wt
    omega
theorem SmAll.map {α : Type} {k w : Nat} (f : α → PyData) : ∀ {xs : List α}, (∀ x ∈ xs, Sm k w (f x)) → SmAll k w (xs.map f)
  | [], _ => .nil
  | _ :: _, h => .cons (h _ List.mem_cons_self) (SmAll.map f fun x hx => h x (List.mem_cons_of_mem _ hx))
theorem Sm.lst {k w : Nat} {ds : List PyData} (h : SmAll k w ds) : Sm (k + 1) (ds.length * (w + 1)) (.list ds) := by
  refine ⟨?_, ?_, ?_, ?_, ?_⟩
  · simp only [PyData.canLay0, h.lay]
  · simp only [PyData.depth]
    have := h.dep
    omega
  · simp only [PyData.intsShort, h.ish]
  · simp only [PyData.showable, h.sho]
  · simp only [PyData.weight]
    exact h.wt
theorem Sm.tup {k w : Nat} {ds : List PyData} (h : SmAll k w ds) : Sm (k + 1) (ds.length * (w + 1)) (.tuple ds) := by
  refine ⟨?_, ?_, ?_, ?_, ?_⟩
  · simp only [PyData.canLay0, h.lay]
  · simp only [PyData.depth]
    have := h.dep
    omega
  · simp only [PyData.intsShort, h.ish]
  · simp only [PyData.showable, h.sho]
  · simp only [PyData.weight]
    exact h.wt
theorem Sm.mono {k k' w w' : Nat} {d : PyData} (h : Sm k w d) (a : k ≤ k') (b : w ≤ w') : Sm k' w' d := ⟨h.lay, Nat.le_trans h.dep a, h.ish, h.sho, Nat.le_trans h.wt b⟩
theorem Sm.fine {k w : Nat} {d : PyData} (h : Sm k w d) (a : k ≤ 50) (b : w ≤ 100000) : Fine d := ⟨h.lay, Nat.le_trans h.dep a, h.ish, h.sho, Nat.le_trans h.wt b⟩
def smallS (z : Str) : Bool := PyData.strOk z && decide (z.cps.size ≤ 16)
theorem sm_str {z : Str} (h : smallS z = true) : Sm 0 16 (.str z) := by
  simp only [smallS, Bool.and_eq_true, decide_eq_true_eq] at h
  exact ⟨by simp only [PyData.canLay0, h.1], by simp only [PyData.depth]; omega, by simp only [PyData.intsShort], by simp only [PyData.showable], by simp only [PyData.weight]; exact h.2⟩
theorem sm_none : Sm 0 16 .none := ⟨by simp only [PyData.canLay0], by simp only [PyData.depth]; omega, by simp only [PyData.intsShort], by simp only [PyData.showable], by simp only [PyData.weight]; omega⟩
theorem sm_int {i : Int} (h0 : 0 ≤ i) (h1 : i ≤ 99) : Sm 0 16 (.int i) := by
  obtain ⟨n, rfl⟩ : ∃ n : Nat, i = n := ⟨i.toNat, by omega⟩
  have hn : n ≤ 99 := by omega
  have key : ∀ m : Nat, m < 100 → (PyData.intsShort 64 (.int (m : Int)) && PyData.showable (.int (m : Int)) && decide (PyData.weight (.int (m : Int)) ≤ 16)) = true := by decide +kernel
  have k := key n (by omega)
  simp only [Bool.and_eq_true, decide_eq_true_eq] at k
  exact ⟨by simp only [PyData.canLay0], by simp only [PyData.depth]; omega, k.1.1, k.1.2, k.2⟩
theorem lexlt_cons {c d : Nat} : ([c] < [d]) ↔ c < d := by
  constructor
  · intro h
    cases h with
    | rel h => exact h
    | cons h => cases h
  · intro h
    exact List.Lex.rel h
theorem sgA_eq : sgA.cps.toList = [97] := by decide +kernel
theorem sgZ_eq : sgZ.cps.toList = [122] := by decide +kernel
theorem okSign_iff {c : Nat} : okSign c = true ↔ 97 ≤ c ∧ c ≤ 122 := by
  unfold okSign
  rw [sgA_eq, sgZ_eq]
  simp only [Bool.and_eq_true, Bool.not_eq_true', decide_eq_false_iff_not, lexlt_cons]
  omega
theorem okName_small {z : Str} (h : okName z = true) : smallS z = true := by
  simp only [okName, Bool.and_eq_true, decide_eq_true_eq] at h
  simp only [smallS, PyData.strOk, Bool.and_eq_true, decide_eq_true_eq]
  refine ⟨?_, by omega⟩
  rw [Array.all_eq_true']
  intro c hc
  have := okSign_iff.mp (List.all_eq_true.mp h.2 c (by simpa using hc))
  exact decide_eq_true (by omega)
theorem okName_iff {z : Str} : okName z = true ↔ 1 ≤ z.cps.size ∧ z.cps.size ≤ 8 ∧ ∀ c ∈ z.cps.toList, okSign c = true := by
  simp only [okName, Bool.and_eq_true, decide_eq_true_eq, List.all_eq_true]
  exact ⟨fun h => ⟨h.1.1, h.1.2, h.2⟩, fun h => ⟨⟨h.1, h.2.1⟩, h.2.2⟩⟩
/-! ### a law's deeds -/
def Deed.vs : Deed → List V
  | .addRoom x => [.str "add_room", .str x]
  | .addLine x a b c => [.str "add_line", .str x, .str a, .str b, .int c]
  | .addDrain x r => [.str "add_drain", .str x, .str r]
  | .addSource x => [.str "add_source", .str x]
  | .takeRoom x => [.str "take_room", .str x]
  | .takeLine x => [.str "take_line", .str x]
  | .takeDrain x => [.str "take_drain", .str x]
  | .takeSource x => [.str "take_source", .str x]
def Rf.word : Rf → Str
  | .there _ => "There"
  | .lacks _ => "Lacks"
  | .tooMany _ => "TooMany"
  | .inUse _ => "InUse"
def Rf.data : Rf → PyData
  | .there x => .str x
  | .lacks x => .str x
  | .tooMany n => .int n
  | .inUse x => .str x
/-- what is due as a value -/
def DueV (H : Hp) (v : V) : Option Rf → Prop
  | none => v = .non
  | some f => ∃ t, v = .ref t ∧ H t = some (.tup [.str f.word, f.val])
theorem DueV.keep {ms : List Addr} {H H' : Hp} {v : V} {o : Option Rf} (h : DueV H v o) (k : Keep ms H H') : DueV H' v o := by
  cases o with
  | none => exact h
  | some f =>
    obtain ⟨t, e, q⟩ := h
    exact ⟨t, e, k.tup _ _ q⟩
/-- what is said: as data -/
def saidD : Option Rf → PyData
  | none => .tuple [.str "told", .none]
  | some f => .tuple [.str "refused", .tuple [.str f.word, f.data]]
theorem Rf.dp {K : PySem.W.Frag} {H : Hp} (f : Rf) : Dp K H f.val f.data := by
  cases f with
  | there x => exact .str x
  | lacks x => exact .str x
  | tooMany n => exact .int n
  | inUse x => exact .str x
/-- a refusal that a layout makes of names -/
def Rf.Good : Rf → Prop
  | .there x => okName x = true
  | .lacks x => okName x = true
  | .tooMany n => 0 ≤ n ∧ n ≤ 99
  | .inUse x => okName x = true
theorem Rf.Good.sm {f : Rf} (g : f.Good) : Sm 0 16 f.data := by
  cases f with
  | there x => exact sm_str (okName_small g)
  | lacks x => exact sm_str (okName_small g)
  | tooMany n => exact sm_int g.1 g.2
  | inUse x => exact sm_str (okName_small g)
theorem Rf.word_small : ∀ f : Rf, smallS f.word = true
  | .there _ => (by decide +kernel : smallS "There" = true)
  | .lacks _ => (by decide +kernel : smallS "Lacks" = true)
  | .tooMany _ => (by decide +kernel : smallS "TooMany" = true)
  | .inUse _ => (by decide +kernel : smallS "InUse" = true)
theorem said_fine {o : Option Rf} (g : ∀ f, o = some f → f.Good) : Fine (saidD o) := by
  cases o with
  | none =>
    exact (Sm.tup (.cons (sm_str (by decide +kernel)) (.cons sm_none .nil))).fine (by decide) (show 2 * (16 + 1) ≤ 100000 by decide)
  | some f =>
    have i := Sm.tup (SmAll.cons (sm_str f.word_small) (.cons (g f rfl).sm .nil))
    exact (Sm.tup (.cons ((sm_str (z := "refused") (by decide +kernel)).mono (k' := 1) (w' := 34) (by decide) (by decide)) (.cons (i.mono (k' := 1) (w' := 34) (by decide) (Nat.le_refl _)) .nil))).fine (by decide) (show 2 * (34 + 1) ≤ 100000 by decide)
theorem due_good {S : LS} {D : Deed} (g : D.Good) {f : Rf} (h : S.due D = some f) : f.Good := by
  cases D with
  | addRoom x => simp only [LS.due] at h; split at h <;> (try split at h) <;> first | (cases h; exact g) | (cases h; exact ⟨by decide, by decide⟩) | cases h
  | addLine x a b c => simp only [LS.due] at h; split at h <;> (try split at h) <;> (try split at h) <;> (try split at h) <;> first | (cases h; exact g.1) | (cases h; exact g.2.1) | (cases h; exact g.2.2.1) | (cases h; exact ⟨by decide, by decide⟩) | cases h
  | addDrain x r => simp only [LS.due] at h; split at h <;> (try split at h) <;> (try split at h) <;> first | (cases h; exact g.1) | (cases h; exact g.2) | (cases h; exact ⟨by decide, by decide⟩) | cases h
  | addSource x => simp only [LS.due] at h; split at h <;> (try split at h) <;> first | (cases h; exact g) | cases h
  | takeRoom x => simp only [LS.due] at h; split at h <;> (try split at h) <;> first | (cases h; exact g) | cases h
  | takeLine x => simp only [LS.due] at h; split at h <;> first | (cases h; exact g) | cases h
  | takeDrain x => simp only [LS.due] at h; split at h <;> first | (cases h; exact g) | cases h
  | takeSource x => simp only [LS.due] at h; split at h <;> first | (cases h; exact g) | cases h
/-! ### a law's book of a layout -/
structure MA where
  m : Addr
  l : Addr
  d : Addr
  tw : Bool
def MA.ms (A : MA) : List Addr := [A.m, A.l, A.d]
def mtop (A : MA) (a b : Addr) : List (Key × V) := if A.tw = true then ([(Sum.inr "rooms", .ref a), (Sum.inr "sources", .ref b), (Sum.inr "lines", .ref A.l), (Sum.inr "drains", .ref A.d)] : List (Key × V)) else [(Sum.inr "rooms", .ref a), (Sum.inr "lines", .ref A.l), (Sum.inr "drains", .ref A.d), (Sum.inr "sources", .ref b)]
theorem mtop_t {A : MA} {a b : Addr} (h : A.tw = true) : mtop A a b = ([(Sum.inr "rooms", .ref a), (Sum.inr "sources", .ref b), (Sum.inr "lines", .ref A.l), (Sum.inr "drains", .ref A.d)] : List (Key × V)) := if_pos h
theorem mtop_f {A : MA} {a b : Addr} (h : ¬ A.tw = true) : mtop A a b = ([(Sum.inr "rooms", .ref a), (Sum.inr "lines", .ref A.l), (Sum.inr "drains", .ref A.d), (Sum.inr "sources", .ref b)] : List (Key × V)) := if_neg h
theorem mtop_len (A : MA) (a b : Addr) : (mtop A a b).length ≤ 1000 := by
  by_cases h : A.tw = true
  · rw [mtop_t h]
    show 4 ≤ 1000
    decide
  · rw [mtop_f h]
    show 4 ≤ 1000
    decide
/-- a sorted list of xs stands at a -/
def SortAt (H : Hp) (a : Addr) (xs : List Str) : Prop := ∃ ys : List Str, ys.Perm xs ∧ sortedS ys = true ∧ H a = some (.lst (ys.map V.str))
structure MdAt (H : Hp) (A : MA) (S : LS) : Prop where
  top : ∃ a b, H A.m = some (.dK (mtop A a b)) ∧ SortAt H a S.rooms ∧ SortAt H b S.sources
  ln : ∃ kvs, H A.l = some (.dK kvs) ∧ Kr (LineG H) kvs S.lines
  dr : ∃ kvs, H A.d = some (.dK kvs) ∧ Kr StrG kvs S.drains
  nd : A.ms.Nodup
section
variable {H H' : Hp} {A : MA} {S : LS} {ms : List Addr}
theorem SortAt.keep {a : Addr} {xs : List Str} (h : SortAt H a xs) (k : Keep ms H H') : SortAt H' a xs := by
  obtain ⟨ys, p, s, e⟩ := h
  exact ⟨ys, p, s, k.flat _ _ e (flat_strs _)⟩
theorem MdAt.keep (h : MdAt H A S) (k : Keep ms H H') (n : ∀ b ∈ ms, b ∉ A.ms) : MdAt H' A S := by
  obtain ⟨⟨a, b, e1, e2, e3⟩, ⟨k2, l1, l2⟩, ⟨k3, d1, d2⟩, nd⟩ := h
  have off : ∀ {b u}, b ∈ A.ms → H b = some u → H' b = some u := fun {b u} hb e => k.out b u e fun z => n b z hb
  exact ⟨⟨a, b, off (by simp [MA.ms]) e1, e2.keep k, e3.keep k⟩, ⟨k2, off (by simp [MA.ms]) l1, l2.mono fun v a ⟨t, e, ht⟩ => ⟨t, e, k.tup t _ ht⟩⟩, ⟨k3, off (by simp [MA.ms]) d1, d2⟩, nd⟩
theorem MdAt.same (h : MdAt H A S) (s : Same H H') : MdAt H' A S := h.keep (ms := []) (Keep.of s) fun b z => (nomatch z)
theorem MdAt.ne (h : MdAt H A S) : A.m ≠ A.l ∧ A.m ≠ A.d ∧ A.l ≠ A.d := by
  have n := h.nd
  simp only [MA.ms, List.nodup_cons, List.mem_cons, List.not_mem_nil, or_false, not_or] at n
  exact ⟨n.1.1, n.1.2, n.2.1⟩
end
theorem kq1 : ¬ (Sum.inr ("rooms" : Str) : Key) = Sum.inr ("lines" : Str) := by decide +kernel
theorem kq2 : ¬ (Sum.inr ("rooms" : Str) : Key) = Sum.inr ("drains" : Str) := by decide +kernel
theorem kq3 : ¬ (Sum.inr ("rooms" : Str) : Key) = Sum.inr ("sources" : Str) := by decide +kernel
theorem kq4 : ¬ (Sum.inr ("lines" : Str) : Key) = Sum.inr ("drains" : Str) := by decide +kernel
theorem kq5 : ¬ (Sum.inr ("lines" : Str) : Key) = Sum.inr ("sources" : Str) := by decide +kernel
theorem kq6 : ¬ (Sum.inr ("drains" : Str) : Key) = Sum.inr ("sources" : Str) := by decide +kernel
theorem mtop_r (A : MA) (a b : Addr) : valV (mtop A a b) (Sum.inr "rooms") = some (.ref a) := by
  by_cases h : A.tw = true
  · rw [mtop_t h, valV_pos rfl]
  · rw [mtop_f h, valV_pos rfl]
theorem mtop_l (A : MA) (a b : Addr) : valV (mtop A a b) (Sum.inr "lines") = some (.ref A.l) := by
  by_cases h : A.tw = true
  · rw [mtop_t h, valV_neg kq1, valV_neg (Ne.symm kq5), valV_pos rfl]
  · rw [mtop_f h, valV_neg kq1, valV_pos rfl]
theorem mtop_d (A : MA) (a b : Addr) : valV (mtop A a b) (Sum.inr "drains") = some (.ref A.d) := by
  by_cases h : A.tw = true
  · rw [mtop_t h, valV_neg kq2, valV_neg (Ne.symm kq6), valV_neg kq4, valV_pos rfl]
  · rw [mtop_f h, valV_neg kq2, valV_neg kq4, valV_pos rfl]
theorem mtop_s (A : MA) (a b : Addr) : valV (mtop A a b) (Sum.inr "sources") = some (.ref b) := by
  by_cases h : A.tw = true
  · rw [mtop_t h, valV_neg kq3, valV_pos rfl]
  · rw [mtop_f h, valV_neg kq3, valV_neg kq5, valV_neg kq6, valV_pos rfl]
theorem mtop_setR (A : MA) (a b c : Addr) : putK (mtop A a b) (Sum.inr "rooms") (.ref c) = mtop A c b := by
  unfold putK
  rw [valV_any, mtop_r, if_pos (show (some (V.ref a)).isSome = true from rfl)]
  by_cases h : A.tw = true
  · rw [mtop_t h, mtop_t h]
    simp only [List.map_cons, List.map_nil, if_neg (Ne.symm kq1), if_neg (Ne.symm kq2), if_neg (Ne.symm kq3), if_true]
  · rw [mtop_f h, mtop_f h]
    simp only [List.map_cons, List.map_nil, if_neg (Ne.symm kq1), if_neg (Ne.symm kq2), if_neg (Ne.symm kq3), if_true]
theorem mtop_setS (A : MA) (a b c : Addr) : putK (mtop A a b) (Sum.inr "sources") (.ref c) = mtop A a c := by
  unfold putK
  rw [valV_any, mtop_s, if_pos (show (some (V.ref b)).isSome = true from rfl)]
  by_cases h : A.tw = true
  · rw [mtop_t h, mtop_t h]
    simp only [List.map_cons, List.map_nil, if_neg kq3, if_neg kq5, if_neg kq6, if_true]
  · rw [mtop_f h, mtop_f h]
    simp only [List.map_cons, List.map_nil, if_neg kq3, if_neg kq5, if_neg kq6, if_true]
theorem dget_of {H : Hp} {d : Addr} {kvs : List (Key × V)} {z : Str} {v : V} (h : H d = some (.dK kvs)) (e : valV kvs (Sum.inr z) = some v) : DGet H d (.str z) (some v) := by
  have g := DGet.k (k := Sum.inr z) h
  rw [e] at g
  exact g
/-- .. read under a lock, too -/
theorem dget_rd {H : Hp} {d : Addr} {kvs : List (Key × V)} {z : Str} {v : V} (h : Rd H d (.dK kvs)) (e : valV kvs (Sum.inr z) = some v) : DGet H d (.str z) (some v) := .inl ⟨kvs, Sum.inr z, h, rfl, e.symm⟩
end SM
namespace SM
open PySem PySem.Spec PyProof.Rows L2
theorem joinL_single : ∀ cs : List Nat, TL.joinL [] (cs.map fun c => [c]) = cs
  | [] => rfl
  | [c] => rfl
  | c :: d :: r => by
    have e := joinL_single (d :: r)
    simp only [List.map_cons] at e ⊢
    show [c] ++ ([] ++ TL.joinL [] ([d] :: r.map fun c => [c])) = c :: d :: r
    rw [e]
    rfl
theorem okName_join {cs : List Nat} (h1 : 1 ≤ cs.length) (h8 : cs.length ≤ 8) (h : ∀ c ∈ cs, okSign c = true) : okName (Txt.join "" (cs.map fun c => (⟨#[c]⟩ : Str))) = true := by
  have e : (Txt.join "" (cs.map fun c => (⟨#[c]⟩ : Str))).cps.toList = cs := by
    rw [TL.join_eq]
    have t := TL.tl_join "" (cs.map fun c => (⟨#[c]⟩ : Str))
    have e0 : TL.tl "" = [] := by decide +kernel
    rw [e0, List.map_map] at t
    exact t.trans (joinL_single cs)
  refine okName_iff.mpr ⟨?_, ?_, ?_⟩
  · rw [← Array.length_toList, e]
    exact h1
  · rw [← Array.length_toList, e]
    exact h8
  · rw [e]
    exact h
/-! ### promises of a law's own defs -/
def spAlike (K : PySem.W.Frag) : Sp := fun vs H Q _ => ∃ (x y : V) (d : PyData), vs = [x, y] ∧ Dp K H x d ∧ Dp K H y d ∧ Fine d ∧ Q (.bl true) H
def spNameL : Sp := fun vs H Q _ => ∃ (p q : Addr), vs = [.ref p] ∧ Bag H p q ∧ ∀ (z : Str) (H' : Hp), okName z = true → Bag H' p q → Keep [p] H H' → Q (.str z) H'
/-- a list of names -/
def NamesAt (H : Hp) (a : Addr) (ys : List Str) : Prop := H a = some (.lst (ys.map V.str)) ∧ 0 < ys.length ∧ ys.length ≤ 30 ∧ ∀ y ∈ ys, okName y = true
theorem NamesAt.keep {ms : List Addr} {H H' : Hp} {a : Addr} {ys : List Str} (h : NamesAt H a ys) (k : Keep ms H H') : NamesAt H' a ys := ⟨k.flat _ _ h.1 (flat_strs _), h.2⟩
def spNamesL : Sp := fun vs H Q _ => ∃ (p q : Addr) (n : Int), vs = [.ref p, .int n] ∧ Bag H p q ∧ 1 ≤ n ∧ n ≤ 30 ∧ ∀ (a : Addr) (ys : List Str) (H' : Hp), NamesAt H' a ys → Bag H' p q → Keep [p] H H' → Q (.ref a) H'
def spNewL : Sp := fun vs H Q _ => vs = [] ∧ ∀ (A : MA) (H' : Hp), MdAt H' A LS.new → Same H H' → (∀ b ∈ A.ms, H b = none) → Q (.ref A.m) H'
def spCostL : Sp := fun vs H Q _ => ∃ (p q : Addr), vs = [.ref p] ∧ Bag H p q ∧ ∀ (i : Int) (H' : Hp), okCost i = true → Bag H' p q → Keep [p] H H' → Q (.int i) H'
/-- a deed's tuple, of good names -/
def DeedAt (H : Hp) (v : V) (D : Deed) : Prop := ∃ t, v = .ref t ∧ H t = some (.tup D.vs)
theorem DeedAt.keep {ms : List Addr} {H H' : Hp} {v : V} {D : Deed} (h : DeedAt H v D) (k : Keep ms H H') : DeedAt H' v D := by
  obtain ⟨t, e, q⟩ := h
  exact ⟨t, e, k.tup _ _ q⟩
def spAddLineL : Sp := fun vs H Q _ => ∃ (p q a b : Addr) (rs ds : List Str), vs = [.ref p, .ref a, .ref b] ∧ Bag H p q ∧ NamesAt H a rs ∧ NamesAt H b ds ∧ ∀ (D : Deed) (v : V) (H' : Hp), D.Good → DeedAt H' v D → Bag H' p q → Keep [p] H H' → Q v H'
/-- a law's deed of words ws -/
def spDeedL : Sp := fun vs H Q _ => ∃ (p q a b c : Addr) (rs ds ws : List Str), vs = [.ref p, .ref a, .ref b, .ref c] ∧ Bag H p q ∧ NamesAt H a rs ∧ NamesAt H b ds ∧ H c = some (.lst (ws.map V.str)) ∧ 0 < ws.length ∧ ws.length ≤ 30 ∧
  (∀ x ∈ ws, x ∈ (["add_room", "add_line", "add_drain", "add_source", "take_room", "take_line", "take_drain", "take_source"] : List Str)) ∧ ∀ (D : Deed) (v : V) (H' : Hp), D.Good → DeedAt H' v D → Bag H' p q → Keep [p] H H' → Q v H'
def spDueL : Sp := fun vs H Q _ => ∃ (A : MA) (S : LS) (v : V) (D : Deed), vs = [.ref A.m, v] ∧ MdAt H A S ∧ S.Ok ∧ DeedAt H v D ∧ D.Good ∧ ∀ (u : V) (H' : Hp), DueV H' u (S.due D) → Same H H' → Q u H'
def spDoL : Sp := fun vs H Q _ => ∃ (A : MA) (S : LS) (v : V) (D : Deed), vs = [.ref A.m, v] ∧ MdAt H A S ∧ S.Ok ∧ DeedAt H v D ∧ S.due D = none ∧ ∀ (H' : Hp), MdAt H' A (S.put D) → Keep A.ms H H' → Q .non H'
def spCallL (C : Nat → Addr) (L : Addr) : Sp := fun vs H Q E => ∃ (A : LA) (S : LS) (v : V) (D : Deed), vs = [.ref A.p, v] ∧ LayAt L H A S ∧ S.Ok ∧ DeedAt H v D ∧ D.Good ∧ Does C L D A S H Q E
def spClassL (C : Nat → Addr) : Addr → Value → Option Addr → Sp := fun a c d vs H Q _ => ∃ (f : Rf) (dd : Addr), c = .ref (C f.cls) ∧ d = some dd ∧ H dd = some (.xd [(fldN f.cls, f.val)]) ∧ vs = [.ref a] ∧
  ∀ (H' : Hp) (t : Addr), Same H H' → H' t = some (.tup [.str f.word, f.val]) → Q (.ref t) H'
/-- what is said of a deed -/
def SaidV (H : Hp) (v : V) : Option Rf → Prop
  | none => ∃ t, v = .ref t ∧ H t = some (.tup [.str "told", .non])
  | some f => ∃ t t2, v = .ref t ∧ H t = some (.tup [.str "refused", .ref t2]) ∧ H t2 = some (.tup [.str f.word, f.val])
theorem SaidV.keep {ms : List Addr} {H H' : Hp} {v : V} {o : Option Rf} (h : SaidV H v o) (k : Keep ms H H') : SaidV H' v o := by
  cases o with
  | none =>
    obtain ⟨t, e, q⟩ := h
    exact ⟨t, e, k.tup _ _ q⟩
  | some f =>
    obtain ⟨t, t2, e, q, q2⟩ := h
    exact ⟨t, t2, e, k.tup _ _ q, k.tup _ _ q2⟩
theorem SaidV.dp {K : PySem.W.Frag} {H : Hp} {v : V} {o : Option Rf} (h : SaidV H v o) : Dp K H v (saidD o) := by
  cases o with
  | none =>
    obtain ⟨t, rfl, q⟩ := h
    exact .tup (SqT.of q) (.cons (.str _) (.cons .non .nil))
  | some f =>
    obtain ⟨t, t2, rfl, q, q2⟩ := h
    exact .tup (SqT.of q) (.cons (.str _) (.cons (.tup (SqT.of q2) (.cons (.str _) (.cons f.dp .nil))) .nil))
def spSayL (C : Nat → Addr) (L : Addr) : Sp := fun vs H Q _ => ∃ (A : LA) (S : LS) (v : V) (D : Deed), vs = [.ref A.p, v] ∧ LayAt L H A S ∧ S.Ok ∧ DeedAt H v D ∧ D.Good ∧
  ∀ (u : V) (H' : Hp), SaidV H' u (S.due D) → LayAt L H' A (if S.due D = none then S.put D else S) → Keep A.ms H H' → Q u H'
/-- the layout and the law's book of it: one state -/
structure Both (L : Addr) (H : Hp) (A : LA) (B : MA) (S : LS) : Prop where
  lay : LayAt L H A S
  md : MdAt H B S
  ok : S.Ok
  apart : ∀ b ∈ A.ms, b ∉ B.ms
def LS.step (S : LS) (D : Deed) : LS := if S.due D = none then S.put D else S
theorem LS.Ok.step {S : LS} (o : S.Ok) {D : Deed} (g : D.Good) : (S.step D).Ok := by
  unfold LS.step
  split
  · rename_i h
    exact o.put g h
  · exact o
def spStepL (L : Addr) : Sp := fun vs H Q _ => ∃ (A : LA) (B : MA) (S : LS) (v : V) (D : Deed), vs = [.ref A.p, .ref B.m, v] ∧ Both L H A B S ∧ DeedAt H v D ∧ D.Good ∧
  ∀ (H' : Hp), Both L H' A B (S.step D) → Keep (A.ms ++ B.ms) H H' → Q (.bl true) H'
/-- asked whether all is alike -/
def spAskL (L : Addr) : Sp := fun vs H Q _ => ∃ (A : LA) (B : MA) (S : LS), vs = [.ref A.p, .ref B.m] ∧ Both L H A B S ∧ ∀ (H' : Hp), Same H H' → Q (.bl true) H'
def spSameL (L : Addr) : Sp := fun vs H Q _ => ∃ (A : LA) (B : MA) (S : LS) (n : Int), vs = [.ref A.p, .ref B.m, .int n] ∧ 0 ≤ n ∧ Both L H A B S ∧ ∀ (H' : Hp), Same H H' → Q (.bl true) H'
theorem Both.keep {L : Addr} {H H' : Hp} {A : LA} {B : MA} {S : LS} {ms : List Addr} (h : Both L H A B S) (k : Keep ms H H') (n : ∀ b ∈ ms, b ∉ A.ms ∧ b ∉ B.ms) : Both L H' A B S :=
  ⟨h.lay.keep k fun b hb => (n b hb).1, h.md.keep k fun b hb => (n b hb).2, h.ok, h.apart⟩
theorem Both.same {L : Addr} {H H' : Hp} {A : LA} {B : MA} {S : LS} (h : Both L H A B S) (s : Same H H') : Both L H' A B S := ⟨h.lay.same s, h.md.same s, h.ok, h.apart⟩
end SM
namespace SM
open PySem PySem.Spec PyProof.Rows L2
theorem mtop_merge (m l d a b : Addr) : mergeK [] (mtop ⟨m, l, d, false⟩ a b) = mtop ⟨m, l, d, false⟩ a b := by
  rw [mtop_f (A := ⟨m, l, d, false⟩) (fun z => Bool.noConfusion z)]
  have n0 : valV ([] : List (Key × V)) (Sum.inr "rooms") = none := rfl
  have n1 : valV ([(Sum.inr "rooms", .ref a)] : List (Key × V)) (Sum.inr "lines") = none := by rw [valV_neg kq1]; rfl
  have n2 : valV ([(Sum.inr "rooms", .ref a), (Sum.inr "lines", .ref l)] : List (Key × V)) (Sum.inr "drains") = none := by rw [valV_neg kq2, valV_neg kq4]; rfl
  have n3 : valV ([(Sum.inr "rooms", .ref a), (Sum.inr "lines", .ref l), (Sum.inr "drains", .ref d)] : List (Key × V)) (Sum.inr "sources") = none := by rw [valV_neg kq3, valV_neg kq5, valV_neg kq6]; rfl
  show putK (putK (putK (putK ([] : List (Key × V)) (Sum.inr "rooms") (.ref a)) (Sum.inr "lines") (.ref l)) (Sum.inr "drains") (.ref d)) (Sum.inr "sources") (.ref b) = _
  rw [putK_new _ n0]
  show putK (putK (putK ([(Sum.inr "rooms", .ref a)] : List (Key × V)) (Sum.inr "lines") (.ref l)) (Sum.inr "drains") (.ref d)) (Sum.inr "sources") (.ref b) = _
  rw [putK_new _ n1]
  show putK (putK ([(Sum.inr "rooms", .ref a), (Sum.inr "lines", .ref l)] : List (Key × V)) (Sum.inr "drains") (.ref d)) (Sum.inr "sources") (.ref b) = _
  rw [putK_new _ n2]
  show putK ([(Sum.inr "rooms", .ref a), (Sum.inr "lines", .ref l), (Sum.inr "drains", .ref d)] : List (Key × V)) (Sum.inr "sources") (.ref b) = _
  rw [putK_new _ n3]
  rfl
section
variable {X : Cx} {K : PySem.W.Frag} {CX : CXT} {k : Nat} {ps : List Str} {sp : Sp} {E : XK} {x : Str} {p pos : Pos}
theorem sl_listK (h : X.K = K) : SlR X (rSlL K) := by
  subst h
  exact sl_list
theorem sl_tupK (h : X.K = K) : SlR X (rSlT K) := by
  subst h
  exact sl_tup
theorem pe_f0 (F : OkF X.prog X.w X.K X.mg X.base CX k x ps sp) (hr : Room k X.A) (hx : Passes CX X E) (hg : Gl X x := by rfl) (hdb : (x == ("__debug__" : Str)) = false := by decide) : PE X (.Call (.Name x p) [] [] pos) (tCall sp [] E tNil) := by
  obtain ⟨f, fd, a, b, c, d⟩ := F
  exact pe_call0 d hr hg a b c .nil hx hdb
end
theorem cutV_flat {xs : List V} (h : xs.all flatV = true) (lo hi : Option Int) : (cutV xs lo hi).all flatV = true := by
  refine List.all_eq_true.mpr fun x hx => ?_
  unfold cutV at hx
  exact List.all_eq_true.mp h x (List.mem_of_mem_drop (List.mem_of_mem_take hx))
theorem cutV_zero (xs : List V) : cutV xs none (some (((0 : Nat) : Int))) = [] := by
  unfold cutV
  rw [HT.sIx_none, HT.sIx_nat]
  simp
theorem names_sm {ys : List Str} (h : ∀ y ∈ ys, okName y = true) : Sm 1 (ys.length * 17) (.list (ys.map PyData.str)) := by
  have a := Sm.lst (SmAll.map (k := 0) (w := 16) PyData.str fun x hx => sm_str (okName_small (h x hx)))
  rw [List.length_map] at a
  exact a
theorem names_fine {ys : List Str} (h : ∀ y ∈ ys, okName y = true) (l : ys.length ≤ 64) : Fine (.list (ys.map PyData.str)) := (names_sm h).fine (by decide) (by omega)
theorem names_dp {K : PySem.W.Frag} {H : Hp} {a : Addr} {ys : List Str} (h : H a = some (.lst (ys.map V.str))) : Dp K H (.ref a) (.list (ys.map PyData.str)) := .lst (SqL.of h) (dps_strs ys)
theorem eqv_nil {ys : List Str} : PyData.eqv (.list (ys.map PyData.str)) (.list []) = decide (ys = []) := by
  cases ys with
  | nil => simp [PyData.eqv, PyData.eqvAll]
  | cons y r => simp [PyData.eqv, PyData.eqvAll]
theorem fine_nil : Fine (.list []) := names_fine (ys := []) (fun y h => by cases h) (by decide)
def wordsL : List Str := ["open", "shut", "by", "step", "none", "paper", "at", "done", "a", "aa", "ab", "b"]
theorem wordsL_ok : ∀ z ∈ wordsL, okName z = true := by
  have h : wordsL.all okName = true := by decide +kernel
  exact fun z hz => List.all_eq_true.mp h z hz
def lettersL : Str := "abcdefghijklmnopqrstuvwxyz"
theorem lettersL_ok : ∀ c ∈ lettersL.cps.toList, okSign c = true := by
  have h : lettersL.cps.toList.all okSign = true := by decide +kernel
  exact fun z hz => List.all_eq_true.mp h z hz
theorem lettersL_len : lettersL.cps.toList.length = 26 := by decide +kernel
end SM
namespace SM
open PySem PySem.Spec PyProof.Rows L2
/-- a list that is being made is written on -/
theorem Keep.over {ms : List Addr} {H H1 : Hp} {D : Addr} {o : HO} (k : Keep ms H H1) (hD : H D = none) : Keep ms H (upd H1 D o) := by
  refine ⟨fun b v e n => ?_, fun b xs e => ?_, fun b C dx fs e => ?_, fun b xs e f => ?_, fun b e => ?_⟩
  · rw [upd_ne (ne_of_none e hD)]
    exact k.out b v e n
  · rw [upd_ne (ne_of_none e hD)]
    exact k.tup b xs e
  · rw [upd_ne (ne_of_none e hD)]
    exact k.ins b C dx fs e
  · rw [upd_ne (ne_of_none e hD)]
    exact k.flat b xs e f
  · by_cases z : b = D
    · rw [z]
      exact hD
    · rw [upd_ne z] at e
      exact k.has b e
end SM
namespace SM
open PySem PySem.Spec PyProof.Rows L2
theorem NamesAt.pick {H : Hp} {a : Addr} {ys : List Str} (h : NamesAt H a ys) {v : Int} (v0 : 0 ≤ v) (v1 : v < ((ys.map V.str).length : Nat)) : ∃ z, okName z = true ∧ atI (ys.map V.str) v = some (.str z) := by
  obtain ⟨y, hy, e⟩ := atI_some (xs := ys.map V.str) v0 v1
  obtain ⟨z, hz, rfl⟩ := List.mem_map.mp hy
  exact ⟨z, h.2.2.2 z hz, e⟩
theorem NamesAt.pos {H : Hp} {a : Addr} {ys : List Str} (h : NamesAt H a ys) : (0 : Int) < ((ys.map V.str).length : Nat) := by
  rw [List.length_map]
  have := h.2.1
  omega
theorem NamesAt.lt {H : Hp} {a : Addr} {ys : List Str} (h : NamesAt H a ys) : (((ys.map V.str).length : Nat) : Int) < 1073741824 := by
  rw [List.length_map]
  have := h.2.2.1
  omega
end SM
namespace SM
open PySem PySem.Spec PyProof.Rows L2
/-- x not in y, y a list, a tuple or a dict -/
def rNotInAny (K : PySem.W.Frag) : R2 := fun x y H Q => rIn K true x y H Q ∨ ∃ a o, y = .ref a ∧ DGet H a x o ∧ Q (.bl (!o.isSome)) H
theorem op_notInAny {X : Cx} (hu : X.A.units + 1 < cLine) : OpR X (compareOp .NotIn) (rNotInAny X.K) := by
  intro pins s σ H x y v u Q I rx ry h
  rcases h with h | ⟨a, o, rfl, g, q⟩
  · exact op_notIn_seq pins s σ H x y v u Q I rx ry h
  · obtain rfl : u = Value.ref a := ry
    exact d_notIn hu I g rx fun s' I' => ⟨.bl (!o.isSome), H, I', rfl, q⟩
theorem sortedS_pw {l : List Str} (h : l.Pairwise leS) : sortedS l = true := sortedS_of_pairwise l h
theorem sorted_filter {ys xs : List Str} (p : ys.Perm xs) (s : sortedS ys = true) (f : Str → Bool) : (ys.filter f).Perm (xs.filter f) ∧ sortedS (ys.filter f) = true :=
  ⟨p.filter f, sortedS_pw (List.Pairwise.filter f (sorted_pw s))⟩
theorem inV_perm {ys xs : List Str} (p : ys.Perm xs) (z : Str) : inV (.str z) (ys.map V.str) = decide (z ∈ xs) := by
  rw [inV_strs]
  exact decide_eq_decide.mpr p.mem_iff
/-- a deed that takes away: its word, its name -/
inductive TakeD : Str → Str → Deed → Prop
  | room (z : Str) : TakeD "take_room" z (.takeRoom z)
  | line (z : Str) : TakeD "take_line" z (.takeLine z)
  | drain (z : Str) : TakeD "take_drain" z (.takeDrain z)
  | source (z : Str) : TakeD "take_source" z (.takeSource z)
def spDueTakeL : Sp := fun vs H Q _ => ∃ (A : MA) (S : LS) (x z : Str) (D : Deed), vs = [.ref A.m, .str x, .str z] ∧ MdAt H A S ∧ S.Ok ∧ TakeD x z D ∧ ∀ (u : V) (H' : Hp), DueV H' u (S.due D) → Same H H' → Q u H'
def kindsL : List (Key × V) := [(Sum.inr "take_room", .str "rooms"), (Sum.inr "take_line", .str "lines"), (Sum.inr "take_drain", .str "drains"), (Sum.inr "take_source", .str "sources")]
theorem kinds_room : valV (mergeK [] kindsL) (Sum.inr "take_room") = some (.str "rooms") := by decide +kernel
theorem kinds_line : valV (mergeK [] kindsL) (Sum.inr "take_line") = some (.str "lines") := by decide +kernel
theorem kinds_drain : valV (mergeK [] kindsL) (Sum.inr "take_drain") = some (.str "drains") := by decide +kernel
theorem kinds_source : valV (mergeK [] kindsL) (Sum.inr "take_source") = some (.str "sources") := by decide +kernel
theorem MdAt.low {H : Hp} {A : MA} {S : LS} (h : MdAt H A S) {p : Addr} {o : HO} (hp : H p = none) : MdAt (upd H p o) A S := h.same (Same.newp hp)
/-- the law's own list of the lines at a room -/
theorem at_keys {S : LS} {z : Str} {i : Nat} {q : Str × LineV} (e : S.lines[i]? = some q) : keys ((S.lines.take (i + 1)).filter fun e => decide (z = e.2.1) || decide (z = e.2.2.1)) =
    keys ((S.lines.take i).filter fun e => decide (z = e.2.1) || decide (z = e.2.2.1)) ++ (if (decide (z = q.2.1) || decide (z = q.2.2.1)) = true then [q.1] else []) := by
  have tk : S.lines.take (i + 1) = S.lines.take i ++ [q] := by
    rw [List.take_add_one, e]
    rfl
  rw [tk, List.filter_append, List.filter_cons, List.filter_nil]
  split <;> simp [keys]
theorem at_len {S : LS} (o : S.Ok) (z : Str) (i : Nat) : (keys ((S.lines.take i).filter fun e => decide (z = e.2.1) || decide (z = e.2.2.1))).length ≤ 40 := by
  have hl := o.lL
  have h2 := List.length_filter_le (fun e : Str × LineV => decide (z = e.2.1) || decide (z = e.2.2.1)) (S.lines.take i)
  rw [List.length_take] at h2
  rw [keys, List.length_map]
  omega
end SM
namespace SM
open PySem PySem.Spec PyProof.Rows L2
theorem cut2 (x y z : V) : cutV [x, y, z] none (some 2) = [x, y] := by
  unfold cutV
  rw [HT.sIx_none, show (2 : Int) = ((2 : Nat) : Int) from rfl, HT.sIx_nat]
  rfl
theorem part2 (x y z : V) : ¬ (HT.sIx [x, y, z].length 0 none = 0 ∧ HT.sIx [x, y, z].length [x, y, z].length (some 2) = [x, y, z].length) := by
  rintro ⟨_, e⟩
  rw [show (2 : Int) = ((2 : Nat) : Int) from rfl, HT.sIx_nat] at e
  have e' : min 2 3 = 3 := e
  exact absurd e' (by decide)
theorem inV2 (z a b : Str) : inV (.str z) [V.str a, V.str b] = (decide (z = a) || decide (z = b)) := by
  have e := inV_strs z [a, b]
  rw [show ([a, b].map V.str) = [V.str a, V.str b] from rfl] at e
  rw [e]
  simp
end SM
namespace SM
open PySem PySem.Spec PyProof.Rows L2
theorem valV_at {α : Type} {G : V → α → Prop} : ∀ {kvs : List (Key × V)} {tab : List (Str × α)}, Kr G kvs tab → (keys tab).Nodup → ∀ {i : Nat} {k : Key} {v : V}, kvs[i]? = some (k, v) → valV kvs k = some v
  | _, _, .nil, _, i, k, v, e => by simp at e
  | a :: as, b :: bs, .cons h t, n, 0, k, v, e => by
    have e' : a = (k, v) := by simpa using e
    subst e'
    exact valV_pos rfl
  | a :: as, b :: bs, .cons h t, n, i + 1, k, v, e => by
    have e' : as[i]? = some (k, v) := by simpa using e
    have n' : b.1 ∉ keys bs ∧ (keys bs).Nodup := List.nodup_cons.mp n
    obtain ⟨q, e1, e2, _⟩ := Kr.at t e'
    have mq : q.1 ∈ keys bs := List.mem_map_of_mem (List.mem_of_getElem? e1)
    have ne : ¬ a.1 = k := fun z => by
      have e2' : k = Sum.inr q.1 := e2
      rw [h.1, e2'] at z
      exact n'.1 (by rw [Sum.inr.inj z]; exact mq)
    rw [valV_neg ne]
    exact valV_at t n'.2 e'
theorem at_sub {S : LS} {z y : Str} (h : y ∈ S.at z) : y ∈ keys S.lines := by
  obtain ⟨e, he, rfl⟩ := List.mem_map.mp h
  exact List.mem_map_of_mem (List.mem_filter.mp he).1
end SM
namespace SM
open PySem PySem.Spec PyProof.Rows L2
section
variable {H : Hp} {A : MA} {S : LS}
theorem SortAt.dput {a d : Addr} {xs : List Str} {kvs kvs' : List (Key × V)} (h : SortAt H a xs) (hd : H d = some (.dK kvs)) : SortAt (upd H d (.dK kvs')) a xs := h.keep (ms := [d]) (Keep.dput hd (by simp))
theorem MdAt.setT (h : MdAt H A S) {a b : Addr} {rs ss : List Str} (ha : SortAt H a rs) (hb : SortAt H b ss) : MdAt (upd H A.m (.dK (mtop A a b))) A { S with rooms := rs, sources := ss } := by
  have n := h.ne
  obtain ⟨⟨a0, b0, e1, e2, e3⟩, ⟨k2, l1, l2⟩, ⟨k3, d1, d2⟩, nd⟩ := h
  exact ⟨⟨a, b, upd_same, ha.dput e1, hb.dput e1⟩, ⟨k2, (upd_ne n.1.symm).trans l1, l2.mono fun v a g => g.put e1⟩, ⟨k3, (upd_ne n.2.1.symm).trans d1, d2⟩, nd⟩
theorem MdAt.setL (h : MdAt H A S) {kvs : List (Key × V)} {xs : List (Str × LineV)} (k : Kr (LineG H) kvs xs) : MdAt (upd H A.l (.dK kvs)) A { S with lines := xs } := by
  have n := h.ne
  obtain ⟨⟨a0, b0, e1, e2, e3⟩, ⟨k2, l1, l2⟩, ⟨k3, d1, d2⟩, nd⟩ := h
  exact ⟨⟨a0, b0, (upd_ne n.1).trans e1, e2.dput l1, e3.dput l1⟩, ⟨kvs, upd_same, k.mono fun v a g => g.put l1⟩, ⟨k3, (upd_ne n.2.2.symm).trans d1, d2⟩, nd⟩
theorem MdAt.setD (h : MdAt H A S) {kvs : List (Key × V)} {xs : List (Str × Str)} (k : Kr StrG kvs xs) : MdAt (upd H A.d (.dK kvs)) A { S with drains := xs } := by
  have n := h.ne
  obtain ⟨⟨a0, b0, e1, e2, e3⟩, ⟨k2, l1, l2⟩, ⟨k3, d1, d2⟩, nd⟩ := h
  exact ⟨⟨a0, b0, (upd_ne n.2.1).trans e1, e2.dput d1, e3.dput d1⟩, ⟨k2, (upd_ne n.2.2).trans l1, l2.mono fun v a g => g.put d1⟩, ⟨kvs, upd_same, k⟩, nd⟩
end
theorem cmp_str {x y : Str} (h : (x == y) = false) : decide (V.str x = V.str y) = false := decide_eq_false fun z => by
  injection z with z
  rw [z] at h
  simp at h
end SM
namespace SM
open PySem PySem.Spec PyProof.Rows L2
theorem look_some {α : Type} {tab : List (Str × α)} {k : Str} (h : k ∈ keys tab) : ∃ a, look tab k = some a := by
  cases e : look tab k with
  | none => exact absurd h (look_none.mp e)
  | some a => exact ⟨a, rfl⟩
theorem Rf.cls_lt : ∀ f : Rf, f.cls < 5
  | .there _ => by show 1 < 5; decide
  | .lacks _ => by show 2 < 5; decide
  | .tooMany _ => by show 3 < 5; decide
  | .inUse _ => by show 4 < 5; decide
end SM
namespace SM
open PySem PySem.Spec PyProof.Rows L2
section
variable {X : Cx} {CX : CXT} {k : Nat} {L : Addr} {ps : List Str} {sp : Sp} {E : XK} {x : Str} {p pos : Pos}
theorem pe_mk0 (mk : PySem.W.makesIn X.K L = true) (kp : PySem.W.keepIn X.K (.ref L) = true) (F : OkM X.prog X.w X.K X.mg X.base CX k L "__init__" ps sp) (hr : Room (k + 1) X.A) (hm : X.mg x = some (.ref L)) (hx : Passes CX X E) (hg : Gl X x := by rfl)
    (hdb : (x == ("__debug__" : Str)) = false := by decide) : PE X (.Call (.Name x p) [] [] pos) (tMake L sp [] E tNil) := by
  obtain ⟨f, fd, a, b, d⟩ := F
  exact pe_make0 ⟨mk, a.at_, a.fn, kp⟩ d hr hg hm b .nil hx hdb
end
/-- a dict is locked -/
theorem Keep.lock {ms : List Addr} {H : Hp} {d : Addr} {kvs : List (Key × V)} {u : HO} (h : H d = some (.dK kvs)) (m : d ∈ ms) : Keep ms H (upd H d u) :=
  Keep.at h m (fun _ z => by cases z) (fun _ _ _ z => by cases z) fun _ z => by cases z
/-- .. and let go -/
theorem same_unlock {H H1 : Hp} {d : Addr} {kvs : List (Key × V)} {od : Obj} (h : H d = some (.dK kvs)) (e : Same (upd H d (.frz od (.dK kvs))) H1) : Same H (upd H1 d (.dK kvs)) := fun b u eb => by
  by_cases hb : b = d
  · subst hb
    rw [upd_same, ← h]
    exact eb
  · rw [upd_ne hb]
    exact e b u ((upd_ne hb).trans eb)
theorem line_fine {S : LS} (o : S.Ok) {e : Str × LineV} (he : e ∈ S.lines) : Fine (.tuple [.str e.2.1, .str e.2.2.1, .int e.2.2.2]) := by
  obtain ⟨a, b, _, c⟩ := o.lI e he
  simp only [okCost, Bool.and_eq_true, decide_eq_true_eq] at c
  exact (Sm.tup (.cons (sm_str (okName_small (o.rG _ a))) (.cons (sm_str (okName_small (o.rG _ b))) (.cons (sm_int c.1 c.2) .nil)))).fine (by decide) (show 3 * (16 + 1) ≤ 100000 by decide)
theorem LineG.dp {K : PySem.W.Frag} {H : Hp} {v : V} {e : LineV} (g : LineG H v e) : Dp K H v (.tuple [.str e.1, .str e.2.1, .int e.2.2]) := by
  obtain ⟨t, rfl, h⟩ := g
  exact .tup (SqT.of h) (.cons (.str _) (.cons (.str _) (.cons (.int _) .nil)))
theorem look_mem {α : Type} {tab : List (Str × α)} {k : Str} {a : α} (h : look tab k = some a) : (k, a) ∈ tab := by
  unfold look at h
  cases e : tab.find? fun e => decide (e.1 = k) with
  | none => rw [e] at h; cases h
  | some q =>
    rw [e] at h
    have h1 := List.mem_of_find?_eq_some e
    have h2 : q.1 = k := by simpa using List.find?_some e
    have h3 : q.2 = a := Option.some.inj h
    obtain ⟨x, y⟩ := q
    subst h2
    subst h3
    exact h1
theorem look_at {α : Type} {tab : List (Str × α)} (n : (keys tab).Nodup) {i : Nat} {q : Str × α} (h : tab[i]? = some q) : look tab q.1 = some q.2 := by
  induction tab generalizing i with
  | nil => simp at h
  | cons b bs ih =>
    have n' : b.1 ∉ keys bs ∧ (keys bs).Nodup := List.nodup_cons.mp n
    cases i with
    | zero =>
      have e : b = q := by simpa using h
      subst e
      exact look_pos rfl
    | succ i =>
      have e : bs[i]? = some q := by simpa using h
      have mq : q.1 ∈ keys bs := List.mem_map_of_mem (List.mem_of_getElem? e)
      rw [look_neg (fun z => n'.1 (by rw [z]; exact mq))]
      exact ih n'.2 e
theorem str_fine {z : Str} (h : okName z = true) : Fine (.str z) := (sm_str (okName_small h)).fine (by decide) (by decide)
theorem sort_dp {K : PySem.W.Frag} {H : Hp} {a b : Addr} {ys zs xs : List Str} (p1 : ys.Perm xs) (s1 : sortedS ys = true) (h1 : H a = some (.lst (ys.map V.str))) (p2 : zs.Perm xs) (s2 : sortedS zs = true) (h2 : H b = some (.lst (zs.map V.str))) :
    Dp K H (.ref a) (.list (ys.map PyData.str)) ∧ Dp K H (.ref b) (.list (ys.map PyData.str)) := by
  have e := sorted_one p2 p1 s2 s1
  subst e
  exact ⟨names_dp h1, names_dp h2⟩
theorem sort_fine {ys xs : List Str} (p : ys.Perm xs) (g : ∀ x ∈ xs, okName x = true) (l : xs.length ≤ 64) : Fine (.list (ys.map PyData.str)) :=
  names_fine (fun y hy => g y (p.mem_iff.mp hy)) (by rw [p.length_eq]; exact l)
def spLawL (K : PySem.W.Frag) : Sp := fun vs H Q _ => ∃ (a : Addr) (ns : List Int), vs = [.ref a] ∧ SqL K H a (ns.map V.int) ∧ ns.length ≤ 63 ∧ ∀ H', Q (.bl true) H'
end SM
namespace SM
open PySem PySem.Spec PyProof.Rows L2
theorem LayAt.there {L : Addr} {H : Hp} {A : LA} {S : LS} (h : LayAt L H A S) : ∀ b ∈ A.ms, H b ≠ none := by
  obtain ⟨_, ⟨k1, r1, _⟩, ⟨k2, l1, _⟩, ⟨k3, d1, _⟩, ⟨k4, s1, _⟩, _⟩ := h
  intro b hb
  have hb' : b = A.r ∨ b = A.l ∨ b = A.d ∨ b = A.s := by simpa [LA.ms] using hb
  rcases hb' with rfl | rfl | rfl | rfl
  · rw [r1]; exact fun z => nomatch z
  · rw [l1]; exact fun z => nomatch z
  · rw [d1]; exact fun z => nomatch z
  · rw [s1]; exact fun z => nomatch z
/-- a new layout and a new book of it -/
theorem both_new {L : Addr} {H H1 : Hp} {A : LA} {B : MA} (hL : LayAt L H A LS.new) (hM : MdAt H1 B LS.new) (s : Same H H1) (f : ∀ b ∈ B.ms, H b = none) : Both L H1 A B LS.new :=
  ⟨hL.same s, hM, LS.new_ok, fun b hb w => hL.there b hb (f b w)⟩
end SM
namespace SM
open PySem PySem.Spec PyProof.Rows L2
def spOfL : Sp := fun vs H Q _ => ∃ (p q s o : Addr) (xs ys : List Str), vs = [.ref p, .ref s, .ref o] ∧ Bag H p q ∧ H s = some (.lst (xs.map V.str)) ∧ xs.length ≤ 64 ∧ (∀ x ∈ xs, okName x = true) ∧ NamesAt H o ys ∧
  ∀ (z : Str) (H' : Hp), okName z = true → (z ∈ xs ∨ z ∈ ys) → Bag H' p q → Keep [p] H H' → Q (.str z) H'
def spLikelyL : Sp := fun vs H Q _ => ∃ (p q a b : Addr) (B : MA) (S : LS) (rs ds : List Str), vs = [.ref p, .ref B.m, .ref a, .ref b] ∧ Bag H p q ∧ MdAt H B S ∧ S.Ok ∧ p ∉ B.ms ∧ NamesAt H a rs ∧ NamesAt H b ds ∧
  ∀ (D : Deed) (v : V) (H' : Hp), D.Good → DeedAt H' v D → Bag H' p q → Keep [p] H H' → Q v H'
end SM
/-! Part N: methods called in a try's body; questions that are refused. -/
namespace SM
open PySem PySem.Spec PyProof.Rows L2
def tMethT (L : Addr) (m : Str) (sp : Sp) (E : L2.St → XK) (ta : TE) (t : TA) : TE := fun σ H Q => ta σ H fun x H1 => ∃ a dx fs, x = .ref a ∧ H1 a = some (.ins L dx fs) ∧ fs.lookup m = none ∧ t σ H1 fun vs H2 => sp (x :: vs) H2 Q (E σ)
section
variable {X : Cx} {CX : CXT} {k : Nat} {L : Addr} {ps : List Str} {sp : Sp} {E : L2.St → XK} {m : Str} {o e : Expr} {es : List Expr} {ta : TE} {t : TA} {pos apos : Pos} {pl : Sem Bool}
/-- o.m(e, ..) in a try's body: what is raised is wished for at the slots as they stand -/
theorem pe_mS (F : OkM X.prog X.w X.K X.mg X.base CX k L m ps sp) (c : Cls X.K L) (hr : Room k X.A) (hx : ∀ σ, PassesAt CX X σ (E σ)) (he : PE X o ta) (ha : PA X (e :: es) t)
    (hst : starEach (e :: es) X.env = (false, eval e X.env) :: starEach es X.env := by rfl) (hpl : (backTo pos (starEach es X.env)).any (·.1) = false := by rfl)
    (ht : eval (.Call (.Attribute o m apos) (e :: es) [] pos) X.env = (do
      let ov ← eval o X.env
      standAt apos.atName
      let (f, first) ← holding [ov] (getMethod ov m pl)
      callWith pos f first (backTo pos (starEach (e :: es) X.env)) (backToKw pos (keywordEach [] X.env))) := by rfl) :
    PE X (.Call (.Attribute o m apos) (e :: es) [] pos) (tMethT L m sp E ta t) := by
  obtain ⟨f, fd, hm, hb, F⟩ := F
  refine ⟨fun pins s σ H Q I h => ?_⟩
  refine PySem.W.methodCall_KW (pl := pl) (thn (he.run pins s σ H _ I h) fun u s1 ⟨x, H1, I1, rx, a, dx, fs, ex, ea, l, q⟩ => ?_) ht
  subst ex
  obtain rfl : u = Value.ref a := rx
  refine getmeth_ok I1 ea c hm l ?_
  refine PySem.W.callWith_K (first := [.ref a]) (h₀ := X.base) I.ok.mod.kin hm.kp (thn (ha.run pos pins s1 σ H1 _ I1 q) fun us s2 ⟨vs, H2, I2, r, q2⟩ => ⟨I2.kIn, ?_⟩) hst hpl
  exact run_fnS (us := .ref a :: us) (vs := .ref a :: vs) F hr hb (hx σ) I2 (.cons rfl r) q2
theorem ps_imp {st : Stmt} {t t' : TS} (h : PS X st t) (i : ∀ D σ H, t' D σ H → t D σ H) : PS X st t' := PS.imp h i
end
/-- is the name there: a line's, a drain's, a room's -/
def LS.isThere (S : LS) : Nat → Str → Bool
  | 0, z => decide (z ∈ keys S.lines)
  | 1, z => decide (z ∈ keys S.drains)
  | _, z => decide (z ∈ S.rooms)
/-- what is told of it; H before, H' behind -/
def ToldV (S : LS) (n : Nat) (z : Str) (v : V) (H H' : Hp) : Prop :=
  (n = 0 ∧ ∃ e, look S.lines z = some e ∧ LineG H' v e) ∨ (n = 1 ∧ ∃ r, look S.drains z = some r ∧ v = .str r) ∨
  (n = 2 ∧ ∃ p ys, v = .ref p ∧ H p = none ∧ ys.Perm (S.at z) ∧ sortedS ys = true ∧ H' p = some (.lst (ys.map V.str)))
/-- the body of a try that asks -/
def tAskS (C : Nat → Addr) (L : Addr) (W : WX) : TS := fun D σ H => ∃ (La : LA) (S : LS) (n : Nat) (z : Str), σ = [some (.ref La.p), some (.int (n : Int)), some (.str z), some .non, none] ∧ n < 3 ∧ LayAt L H La S ∧ S.Ok ∧ okName z = true ∧
  (S.isThere n z = false → Ref C 2 (.str z) H (WE W σ)) ∧ (S.isThere n z = true → ∀ v H', Same H H' → ToldV S n z v H H' → D.nx [some (.ref La.p), some (.int (n : Int)), some (.str z), some v, none] H')
/-- _law_asked(here, way, name) -/
def spAskedL (L : Addr) : Sp := fun vs H Q _ => ∃ (La : LA) (S : LS) (n : Nat) (z : Str), vs = [.ref La.p, .int (n : Int), .str z] ∧ n < 3 ∧ LayAt L H La S ∧ S.Ok ∧ okName z = true ∧
  (S.isThere n z = false → ∀ H' t t2, Same H H' → H' t = some (.tup [.str "refused", .ref t2]) → H' t2 = some (.tup [.str "Lacks", .str z]) → Q (.ref t) H') ∧
  (S.isThere n z = true → ∀ H' t v, Same H H' → ToldV S n z v H H' → H' t = some (.tup [.str "told", v]) → Q (.ref t) H')
theorem ToldV.behind {S : LS} {n : Nat} {z : Str} {v : V} {H H1 H2 : Hp} (h : ToldV S n z v H H1) (s : Same H1 H2) : ToldV S n z v H H2 := by
  rcases h with ⟨h, e, a, t, b, c⟩ | h | ⟨h, p, ys, a, b, c, d, e⟩
  · exact .inl ⟨h, e, a, t, b, s _ _ c⟩
  · exact .inr (.inl h)
  · exact .inr (.inr ⟨h, p, ys, a, b, c, d, s _ _ e⟩)
end SM
namespace SM
open PySem PySem.Spec PyProof.Rows L2
/-- _law_answer(m, way, name) -/
def spAnswerL : Sp := fun vs H Q _ => ∃ (B : MA) (S : LS) (n : Nat) (z : Str), vs = [.ref B.m, .int (n : Int), .str z] ∧ n < 3 ∧ MdAt H B S ∧ S.Ok ∧ okName z = true ∧
  (S.isThere n z = false → ∀ H' t t2, Same H H' → H' t = some (.tup [.str "refused", .ref t2]) → H' t2 = some (.tup [.str "Lacks", .str z]) → Q (.ref t) H') ∧
  (S.isThere n z = true → ∀ H' t v, Same H H' → ToldV S n z v H H' → H' t = some (.tup [.str "told", v]) → Q (.ref t) H')
end SM
namespace SM
open PySem PySem.Spec PyProof.Rows L2
/-- _law_names, and no two alike -/
def spNamesN : Sp := fun vs H Q _ => ∃ (p q : Addr) (n : Int), vs = [.ref p, .int n] ∧ Bag H p q ∧ 1 ≤ n ∧ n ≤ 30 ∧ ∀ (a : Addr) (ys : List Str) (H' : Hp), NamesAt H' a ys → ys.Nodup → Bag H' p q → Keep [p] H H' → Q (.ref a) H'
theorem cut_nat (ys : List Str) (i : Nat) : cutV (ys.map V.str) none (some ((i : Nat) : Int)) = (ys.take i).map V.str := by
  unfold cutV
  rw [HT.sIx_none, HT.sIx_nat, List.drop_zero, Nat.sub_zero, List.length_map, List.map_take]
  by_cases h : i ≤ ys.length
  · rw [Nat.min_eq_left h]
  · rw [Nat.min_eq_right (by omega), List.take_of_length_le (by rw [List.length_map]; omega), List.take_of_length_le (by rw [List.length_map]; omega)]
/-- the first of each: so far -/
structure Firsts (zs ys : List Str) : Prop where
  nd : zs.Nodup
  mem : ∀ x, x ∈ zs ↔ x ∈ ys
theorem Firsts.nil : Firsts [] [] := ⟨List.nodup_nil, fun x => Iff.rfl⟩
theorem Firsts.more {zs ys : List Str} {y : Str} (h : Firsts zs ys) (n : y ∉ ys) : Firsts (zs ++ [y]) (ys ++ [y]) :=
  ⟨nd_snoc h.nd (fun w => n ((h.mem y).mp w)), fun x => by simp [h.mem x]⟩
theorem Firsts.same {zs ys : List Str} {y : Str} (h : Firsts zs ys) (n : y ∈ ys) : Firsts zs (ys ++ [y]) :=
  ⟨h.nd, fun x => by
    rw [h.mem x, List.mem_append, List.mem_singleton]
    exact ⟨.inl, fun w => w.elim id fun e => by rw [e]; exact n⟩⟩
theorem told_dp {K : PySem.W.Frag} {S : LS} {n : Nat} {z : Str} {v u : V} {H1 H2 H : Hp} (o : S.Ok) (h1 : ToldV S n z v H1 H) (h2 : ToldV S n z u H2 H) : ∃ d, Dp K H v d ∧ Dp K H u d ∧ Sm 1 2000 d := by
  rcases h1 with ⟨n1, e, a, g⟩ | ⟨n1, r, a, g⟩ | ⟨n1, p, ys, rfl, _, pm, st, hp⟩
  · rcases h2 with ⟨_, e2, a2, g2⟩ | ⟨n2, _⟩ | ⟨n2, _⟩
    · rw [a] at a2
      cases a2
      refine ⟨_, g.dp, g2.dp, ?_⟩
      have f := line_fine o (look_mem a)
      obtain ⟨x, y, _, c⟩ := o.lI _ (look_mem a)
      simp only [okCost, Bool.and_eq_true, decide_eq_true_eq] at c
      exact (Sm.tup (.cons (sm_str (okName_small (o.rG _ x))) (.cons (sm_str (okName_small (o.rG _ y))) (.cons (sm_int c.1 c.2) .nil)))).mono (by decide) (show 3 * (16 + 1) ≤ 2000 by decide)
    · omega
    · omega
  · rcases h2 with ⟨n2, _⟩ | ⟨_, r2, a2, g2⟩ | ⟨n2, _⟩
    · omega
    · rw [a] at a2
      cases a2
      subst g g2
      exact ⟨_, .str _, .str _, (sm_str (okName_small (o.rG _ (o.dI _ (look_mem a))))).mono (by decide) (by decide)⟩
    · omega
  · rcases h2 with ⟨n2, _⟩ | ⟨n2, _⟩ | ⟨_, p2, zs, rfl, _, pm2, st2, hp2⟩
    · omega
    · omega
    · have dd := sort_dp (K := K) pm st hp pm2 st2 hp2
      refine ⟨_, dd.1, dd.2, ?_⟩
      have len : (S.at z).length ≤ 40 := by
        have w := at_len o z S.lines.length
        rw [List.take_length] at w
        exact w
      exact (names_sm (fun y hy => o.lG y (at_sub (pm.mem_iff.mp hy)))).mono (by decide) (by rw [pm.length_eq]; omega)
theorem told_fine {d : PyData} (h : Sm 1 2000 d) : Fine (.tuple [.str "told", d]) :=
  (Sm.tup (.cons ((sm_str (z := "told") (by decide +kernel)).mono (k' := 1) (w' := 2000) (by decide) (by decide)) (.cons h .nil))).fine (by decide) (show 2 * (2000 + 1) ≤ 100000 by decide)
def spRightL (L : Addr) : Sp := fun vs H Q _ => ∃ (p q a : Addr) (La : LA) (B : MA) (S : LS) (ys : List Str), vs = [.ref p, .ref La.p, .ref B.m, .ref a] ∧ Bag H p q ∧ Both L H La B S ∧ p ∉ La.ms ∧ p ∉ B.ms ∧ H a = some (.lst (ys.map V.str)) ∧ ys.length ≤ 100 ∧ (∀ y ∈ ys, okName y = true) ∧
  ∀ H', Bag H' p q → Keep [p] H H' → Q (.bl true) H'
end SM
namespace SM
open PySem PySem.Spec PyProof.Rows L2
def spDrawnL : Sp := fun vs H Q _ => ∃ (p q a b : Addr) (rs ds : List Str) (hub : Str), vs = [.ref p, .ref a, .ref b, .str hub] ∧ Bag H p q ∧ NamesAt H a rs ∧ rs.Nodup ∧ hub ∈ rs ∧ 2 ≤ rs.length ∧ NamesAt H b ds ∧
  ∀ (D : Deed) (v : V) (H' : Hp), D.Good → DeedAt H' v D → Bag H' p q → Keep [p] H H' → Q v H'
theorem len_ne : ∀ {rs : List Str} {h : Str}, rs.Nodup → h ∈ rs → (rs.filter fun y => decide (y ≠ h)).length + 1 = rs.length
  | [], _, _, m => nomatch m
  | x :: r, h, n, m => by
    have n' := List.nodup_cons.mp n
    by_cases e : x = h
    · subst e
      rw [List.filter_cons, if_neg (by simp), List.length_cons]
      have all : r.filter (fun y => decide (y ≠ x)) = r := List.filter_eq_self.mpr fun y hy => decide_eq_true fun w => n'.1 (by rw [← w]; exact hy)
      rw [all]
    · have m' : h ∈ r := by
        rcases List.mem_cons.mp m with w | w
        · exact absurd w.symm e
        · exact w
      rw [List.filter_cons, if_pos (by simp [e]), List.length_cons, List.length_cons, len_ne n'.2 m']
theorem two_len {zs : List Str} {x y : Str} (hx : x ∈ zs) (hy : y ∈ zs) (n : x ≠ y) : 2 ≤ zs.length := by
  match zs, hx, hy with
  | [a], hx, hy => exact absurd ((List.mem_singleton.mp hx).trans (List.mem_singleton.mp hy).symm) n
  | a :: b :: r, _, _ => simp
def twoL : List Str := ["zzzzzzzz", "yyyyyyyy"]
def roomsL (rs : List Str) : List Str := (rs ++ twoL).take 8
theorem rooms_two {rs zs : List Str} (n : rs.Nodup) (f : Firsts zs (roomsL rs)) : 2 ≤ zs.length := by
  by_cases h : rs.length ≤ 6
  · have e : roomsL rs = rs ++ twoL := List.take_of_length_le (by rw [List.length_append]; show rs.length + 2 ≤ 8; omega)
    rw [e] at f
    exact two_len ((f.mem "zzzzzzzz").mpr (List.mem_append_right _ (by simp [twoL]))) ((f.mem "yyyyyyyy").mpr (List.mem_append_right _ (by simp [twoL]))) (by decide +kernel)
  · match rs, h, n, f with
    | [], h, _, _ => exact absurd (Nat.zero_le _) h
    | [a], h, _, _ => exact absurd (by simp) h
    | a :: b :: r, _, n, f =>
      have nab : a ≠ b := fun w => (List.nodup_cons.mp n).1 (by rw [w]; exact List.mem_cons_self)
      exact two_len ((f.mem a).mpr (by unfold roomsL; simp)) ((f.mem b).mpr (by unfold roomsL; simp)) nab
theorem rooms_ok {rs : List Str} (h : ∀ y ∈ rs, okName y = true) : ∀ y ∈ roomsL rs, okName y = true := fun y hy => by
  rcases List.mem_append.mp (List.mem_of_mem_take hy) with w | w
  · exact h y w
  · have g : twoL.all okName = true := by decide +kernel
    exact List.all_eq_true.mp g y w
theorem rooms_len (rs : List Str) : (roomsL rs).length ≤ 8 := by
  unfold roomsL
  rw [List.length_take]
  exact Nat.min_le_left _ _
end SM
/-! Part O: the book's sorted lists are no list that stood ahead. -/
namespace SM
open PySem PySem.Spec PyProof.Rows L2
theorem mtop_inj {A : MA} {a b c d : Addr} (h : mtop A a b = mtop A c d) : a = c ∧ b = d := by
  by_cases w : A.tw = true
  · rw [mtop_t w, mtop_t w] at h
    injection h with h1 h
    injection h with h4 _
    injection h1 with _ h1
    injection h4 with _ h4
    injection h1 with h1
    injection h4 with h4
    exact ⟨h1, h4⟩
  · rw [mtop_f w, mtop_f w] at h
    injection h with h1 h
    injection h with _ h
    injection h with _ h
    injection h with h4 _
    injection h1 with _ h1
    injection h4 with _ h4
    injection h1 with h1
    injection h4 with h4
    exact ⟨h1, h4⟩
/-- neither of the book's two lists stands at g -/
def NoTop (H : Hp) (A : MA) (g : Addr) : Prop := ∀ a b, H A.m = some (.dK (mtop A a b)) → a ≠ g ∧ b ≠ g
theorem NoTop.at {H : Hp} {A : MA} {g a b : Addr} (h : H A.m = some (.dK (mtop A a b))) (n : a ≠ g ∧ b ≠ g) : NoTop H A g := fun c d e => by
  rw [h] at e
  have e' : mtop A a b = mtop A c d := by
    injection e with e
    injection e
  obtain ⟨rfl, rfl⟩ := mtop_inj e'
  exact n
/-- what was not the book's is not, behind H' -/
def NoTops (A : MA) (H H' : Hp) : Prop := ∀ g, H g ≠ none → NoTop H A g → NoTop H' A g
theorem NoTops.keep {A : MA} {H H' : Hp} {a b : Addr} (h : H A.m = some (.dK (mtop A a b))) (h' : H' A.m = some (.dK (mtop A a b))) : NoTops A H H' := fun g _ n => NoTop.at h' (n a b h)
theorem NoTops.r {A : MA} {H H1 H' : Hp} {a b c : Addr} (h : H A.m = some (.dK (mtop A a b))) (h' : H' A.m = some (.dK (mtop A c b))) (s : Same H H1) (n : H1 c = none) : NoTops A H H' := fun g hg k =>
  NoTop.at h' ⟨fun z => hg (s.free (by rw [← z]; exact n)), (k a b h).2⟩
theorem NoTops.s {A : MA} {H H1 H' : Hp} {a b c : Addr} (h : H A.m = some (.dK (mtop A a b))) (h' : H' A.m = some (.dK (mtop A a c))) (s : Same H H1) (n : H1 c = none) : NoTops A H H' := fun g hg k =>
  NoTop.at h' ⟨(k a b h).1, fun z => hg (s.free (by rw [← z]; exact n))⟩
/-- where the book stands, a list of no book of it may be written on -/
theorem MdAt.write {H : Hp} {A : MA} {S : LS} {g : Addr} {xs ys : List V} (h : MdAt H A S) (hg : H g = some (.lst xs)) (n : NoTop H A g) : MdAt (upd H g (.lst ys)) A S := by
  obtain ⟨⟨a, b, e1, ⟨rs, rp, rt, ra⟩, ⟨ss, sp, st, sb⟩⟩, ⟨k2, l1, l2⟩, ⟨k3, d1, d2⟩, nd⟩ := h
  obtain ⟨n1, n2⟩ := n a b e1
  have off : ∀ {c kvs}, H c = some (.dK kvs) → upd H g (.lst ys) c = some (.dK kvs) := fun {c kvs} e => by
    rw [upd_ne (ne_of e hg (by intro z; cases z))]
    exact e
  refine ⟨⟨a, b, off e1, ⟨rs, rp, rt, by rw [upd_ne n1]; exact ra⟩, ⟨ss, sp, st, by rw [upd_ne n2]; exact sb⟩⟩, ⟨k2, off l1, l2.mono fun v e ⟨t, et, ht⟩ => ⟨t, et, ?_⟩⟩, ⟨k3, off d1, d2⟩, nd⟩
  rw [upd_ne (ne_of ht hg (by intro z; cases z))]
  exact ht
theorem LayAt.write {L : Addr} {H : Hp} {A : LA} {S : LS} {g : Addr} {xs ys : List V} (h : LayAt L H A S) (hg : H g = some (.lst xs)) : LayAt L (upd H g (.lst ys)) A S := by
  obtain ⟨⟨dx, ob⟩, ⟨k1, r1, r2⟩, ⟨k2, l1, l2⟩, ⟨k3, d1, d2⟩, ⟨k4, s1, s2⟩, nd⟩ := h
  have off : ∀ {c kvs}, H c = some (.dK kvs) → upd H g (.lst ys) c = some (.dK kvs) := fun {c kvs} e => by
    rw [upd_ne (ne_of e hg (by intro z; cases z))]
    exact e
  refine ⟨⟨dx, ?_⟩, ⟨k1, off r1, r2⟩, ⟨k2, off l1, l2.mono fun v e ⟨t, et, ht⟩ => ⟨t, et, ?_⟩⟩, ⟨k3, off d1, d2⟩, ⟨k4, off s1, s2⟩, nd⟩
  · rw [upd_ne (ne_of ob hg (by intro z; cases z))]
    exact ob
  · rw [upd_ne (ne_of ht hg (by intro z; cases z))]
    exact ht
theorem Both.write {L : Addr} {H : Hp} {A : LA} {B : MA} {S : LS} {g : Addr} {xs ys : List V} (h : Both L H A B S) (hg : H g = some (.lst xs)) (n : NoTop H B g) : Both L (upd H g (.lst ys)) A B S :=
  ⟨h.lay.write hg, h.md.write hg n, h.ok, h.apart⟩
def spDo2 : Sp := fun vs H Q _ => ∃ (A : MA) (S : LS) (v : V) (D : Deed), vs = [.ref A.m, v] ∧ MdAt H A S ∧ S.Ok ∧ DeedAt H v D ∧ S.due D = none ∧ ∀ (H' : Hp), MdAt H' A (S.put D) → Keep A.ms H H' → NoTops A H H' → Q .non H'
def spStep2 (L : Addr) : Sp := fun vs H Q _ => ∃ (A : LA) (B : MA) (S : LS) (v : V) (D : Deed), vs = [.ref A.p, .ref B.m, v] ∧ Both L H A B S ∧ DeedAt H v D ∧ D.Good ∧
  ∀ (H' : Hp), Both L H' A B (S.step D) → Keep (A.ms ++ B.ms) H H' → NoTops B H H' → Q (.bl true) H'
theorem NoTops.same {A : MA} {S : LS} {H H' : Hp} (h : MdAt H A S) (s : Same H H') : NoTops A H H' := by
  obtain ⟨⟨a, b, e1, _, _⟩, _⟩ := h
  exact NoTops.keep e1 (s _ _ e1)
theorem NoTops.trans {A : MA} {H H1 H2 : Hp} (x : NoTops A H H1) (y : NoTops A H1 H2) (s : ∀ g, H g ≠ none → H1 g ≠ none) : NoTops A H H2 := fun g hg n => y g (s g hg) (x g hg n)
theorem Keep.there {ms : List Addr} {H H1 : Hp} (k : Keep ms H H1) : ∀ g, H g ≠ none → H1 g ≠ none := fun g h z => h (k.has g z)
theorem NoTops.off {A : MA} {S : LS} {ms : List Addr} {H H' : Hp} (h : MdAt H A S) (k : Keep ms H H') (n : A.m ∉ ms) : NoTops A H H' := by
  obtain ⟨⟨a, b, e1, _, _⟩, _⟩ := h
  exact NoTops.keep e1 (k.out _ _ e1 n)
end SM
namespace SM
open PySem PySem.Spec PyProof.Rows L2
/-- a deed that takes a line, a drain or a source away -/
inductive TakeOk : Deed → Prop where
  | line {n : Str} (h : okName n = true) : TakeOk (.takeLine n)
  | drain {n : Str} (h : okName n = true) : TakeOk (.takeDrain n)
  | source {n : Str} (h : okName n = true) : TakeOk (.takeSource n)
theorem TakeOk.good {D : Deed} (h : TakeOk D) : D.Good := by
  cases h with
  | line h => exact h
  | drain h => exact h
  | source h => exact h
/-- a list of such deeds -/
def TakesAt (H : Hp) (ts : List Addr) : Prop := ∀ t ∈ ts, ∃ D, H t = some (.tup (Deed.vs D)) ∧ TakeOk D
theorem TakesAt.keep {ms : List Addr} {H H' : Hp} {ts : List Addr} (h : TakesAt H ts) (k : Keep ms H H') : TakesAt H' ts := fun t ht => by
  obtain ⟨D, a, b⟩ := h t ht
  exact ⟨D, k.tup _ _ a, b⟩
theorem TakesAt.list {H : Hp} {ts : List Addr} {d : Addr} {xs ys : List V} (h : TakesAt H ts) (hd : H d = some (.lst xs)) : TakesAt (upd H d (.lst ys)) ts := fun t ht => by
  obtain ⟨D, a, b⟩ := h t ht
  exact ⟨D, by rw [upd_ne (ne_of a hd (by intro z; cases z))]; exact a, b⟩
theorem TakesAt.app {H : Hp} {ts us : List Addr} (h : TakesAt H ts) (k : TakesAt H us) : TakesAt H (ts ++ us) := fun t ht => (List.mem_append.mp ht).elim (h t) (k t)
def spOnL : Sp := fun vs H Q _ => ∃ (B : MA) (S : LS) (z : Str), vs = [.ref B.m, .str z] ∧ MdAt H B S ∧ S.Ok ∧ okName z = true ∧
  ∀ (H' : Hp) (d : Addr) (ts : List Addr), Same H H' → H d = none → H' d = some (.lst (ts.map V.ref)) → TakesAt H' ts → ts.length ≤ 90 → Q (.ref d) H'
end SM
namespace SM
open PySem PySem.Spec PyProof.Rows L2
theorem LayAt.dks {L : Addr} {H : Hp} {A : LA} {S : LS} (h : LayAt L H A S) : ∀ b ∈ A.ms, ∃ kvs, H b = some (.dK kvs) := by
  obtain ⟨_, ⟨k1, r1, _⟩, ⟨k2, l1, _⟩, ⟨k3, d1, _⟩, ⟨k4, s1, _⟩, _⟩ := h
  intro b hb
  have hb' : b = A.r ∨ b = A.l ∨ b = A.d ∨ b = A.s := by simpa [LA.ms] using hb
  rcases hb' with rfl | rfl | rfl | rfl
  · exact ⟨_, r1⟩
  · exact ⟨_, l1⟩
  · exact ⟨_, d1⟩
  · exact ⟨_, s1⟩
theorem MdAt.dks {H : Hp} {A : MA} {S : LS} (h : MdAt H A S) : ∀ b ∈ A.ms, ∃ kvs, H b = some (.dK kvs) := by
  obtain ⟨⟨a, b0, e1, _, _⟩, ⟨k2, l1, _⟩, ⟨k3, d1, _⟩, _⟩ := h
  intro b hb
  have hb' : b = A.m ∨ b = A.l ∨ b = A.d := by simpa [MA.ms] using hb
  rcases hb' with rfl | rfl | rfl
  · exact ⟨_, e1⟩
  · exact ⟨_, l1⟩
  · exact ⟨_, d1⟩
/-- a list is none of the dicts -/
theorem Both.nolist {L : Addr} {H : Hp} {A : LA} {B : MA} {S : LS} (h : Both L H A B S) {d : Addr} {xs : List V} (e : H d = some (.lst xs)) : d ∉ A.ms ++ B.ms := fun w => by
  rcases List.mem_append.mp w with w | w
  · obtain ⟨k, q⟩ := h.lay.dks d w
    rw [e] at q
    cases q
  · obtain ⟨k, q⟩ := h.md.dks d w
    rw [e] at q
    cases q
/-- a list of references is not the bag's -/
theorem Bag.norefs {H : Hp} {p q d : Addr} {ts : List Addr} (B : Bag H p q) (e : H d = some (.lst (ts.map V.ref))) : d ≠ p := fun z => by
  obtain ⟨a, b, c, ns, B⟩ := B
  rw [z, B.top] at e
  have e' : ([.int a, .int b, .int c, .ref q] : List V) = ts.map V.ref := by
    injection e with e
    injection e
  cases ts with
  | nil => simp at e'
  | cons t r =>
    rw [List.map_cons] at e'
    injection e' with h _
    cases h
/-- a list of texts is not the bag's -/
theorem Bag.nostrs {H : Hp} {p q d : Addr} {ts : List Str} (B : Bag H p q) (e : H d = some (.lst (ts.map V.str))) : d ≠ p := fun z => by
  obtain ⟨a, b, c, ns, B⟩ := B
  rw [z, B.top] at e
  have e' : ([.int a, .int b, .int c, .ref q] : List V) = ts.map V.str := by
    injection e with e
    injection e
  cases ts with
  | nil => simp at e'
  | cons t r =>
    rw [List.map_cons] at e'
    injection e' with h _
    cases h
/-- written on at g, the bag stays -/
theorem Bag.write {H : Hp} {p q g : Addr} {gs : List Str} {o : HO} (B : Bag H p q) (e : H g = some (.lst (gs.map V.str))) (n : g ≠ q) : Bag (upd H g o) p q :=
  B.keep (upd_ne (B.nostrs e).symm) (upd_ne n.symm)
theorem cut_to (xs : List V) (j : Nat) (h : j ≤ xs.length) : cutV xs none (some ((j : Nat) : Int)) = xs.take j := by
  unfold cutV
  rw [HT.sIx_none, HT.sIx_nat, List.drop_zero, Nat.sub_zero, Nat.min_eq_left h]
theorem cut_from (xs : List V) (j : Nat) (h : j ≤ xs.length) : cutV xs (some ((j : Nat) : Int)) none = xs.drop j := by
  unfold cutV
  rw [HT.sIx_none, HT.sIx_nat, Nat.min_eq_left h, List.take_of_length_le (by rw [List.length_drop]; omega)]
def spEmptiedL (L : Addr) : Sp := fun vs H Q _ => ∃ (p q : Addr) (La : LA) (B : MA) (S : LS) (z : Str), vs = [.ref p, .ref La.p, .ref B.m, .str z] ∧ Bag H p q ∧ Both L H La B S ∧ p ∉ La.ms ∧ p ∉ B.ms ∧ okName z = true ∧
  ∀ (H' : Hp) (g : Addr) (gs : List Str) (S' : LS), Both L H' La B S' → Bag H' p q → Keep (p :: (La.ms ++ B.ms)) H H' → H g = none → H' g = some (.lst (gs.map V.str)) → gs.length ≤ 90 → (∀ y ∈ gs, okName y = true) → Q (.ref g) H'
end SM
namespace SM
open PySem PySem.Spec PyProof.Rows L2
def spAgainL (L : Addr) : Sp := fun vs H Q _ => ∃ (p q g rm : Addr) (La : LA) (B : MA) (S : LS) (gs rs : List Str), vs = [.ref p, .ref La.p, .ref B.m, .ref g, .ref rm] ∧ Bag H p q ∧ Both L H La B S ∧ p ∉ La.ms ∧ p ∉ B.ms ∧ H g = some (.lst (gs.map V.str)) ∧ gs.length ≤ 90 ∧ (∀ y ∈ gs, okName y = true) ∧ NamesAt H rm rs ∧
  ∀ (H' : Hp) (S' : LS), Both L H' La B S' → Bag H' p q → Keep (p :: (La.ms ++ B.ms)) H H' → Q (.bl true) H'
end SM
/-! Part P: lists of lists that are told. -/
namespace SM
open PySem PySem.Spec PyProof.Rows L2
/-- ys is xs, sorted -/
def Srt (ys xs : List Str) : Prop := ys.Perm xs ∧ sortedS ys = true
theorem Srt.one {ys zs xs : List Str} (a : Srt ys xs) (b : Srt zs xs) : ys = zs := sorted_one a.1 b.1 a.2 b.2
/-- at gs stand the lists xss -/
abbrev Lists (H : Hp) : List Addr → List (List Str) → Prop := Paired fun g xs => H g = some (.lst (xs.map V.str))
theorem Lists.keep {ms : List Addr} {H H' : Hp} (k : Keep ms H H') : ∀ {gs : List Addr} {xss : List (List Str)}, Lists H gs xss → Lists H' gs xss
  | _, _, .nil => .nil
  | _, _, .cons h t => .cons (k.flat _ _ h (flat_strs _)) (Lists.keep k t)
theorem Lists.same {H H' : Hp} (s : Same H H') {gs : List Addr} {xss : List (List Str)} (h : Lists H gs xss) : Lists H' gs xss := h.keep (Keep.of (ms := []) s)
theorem Lists.at {H : Hp} : ∀ {gs : List Addr} {xss : List (List Str)}, Lists H gs xss → ∀ {i : Nat} {g : Addr}, gs[i]? = some g → ∃ xs, xss[i]? = some xs ∧ H g = some (.lst (xs.map V.str))
  | _, _, .nil, i, g, e => by simp at e
  | _, _, .cons h t, 0, g, e => by
    have e' := Option.some.inj (e : some _ = some g)
    rw [← e']
    exact ⟨_, rfl, h⟩
  | _, _, .cons h t, i + 1, g, e => by
    obtain ⟨xs, a, b⟩ := Lists.at t (i := i) (by simpa using e)
    exact ⟨xs, by simpa using a, b⟩
theorem Lists.app {H : Hp} : ∀ {gs hs : List Addr} {xss yss : List (List Str)}, Lists H gs xss → Lists H hs yss → Lists H (gs ++ hs) (xss ++ yss)
  | _, _, _, _, .nil, k => k
  | _, _, _, _, .cons h t, k => .cons h (Lists.app t k)
abbrev rowD (xs : List Str) : PyData := .list (xs.map PyData.str)
theorem strs_dp {K : PySem.W.Frag} {H : Hp} : ∀ xs : List Str, DpAll K H (xs.map V.str) (xs.map PyData.str)
  | [] => .nil
  | _ :: xs => .cons (.str _) (strs_dp xs)
theorem row_dp {K : PySem.W.Frag} {H : Hp} {g : Addr} {xs : List Str} (h : H g = some (.lst (xs.map V.str))) : Dp K H (.ref g) (rowD xs) := .lst (SqL.of h) (strs_dp xs)
theorem Lists.dps {K : PySem.W.Frag} {H : Hp} : ∀ {gs : List Addr} {xss : List (List Str)}, Lists H gs xss → DpAll K H (gs.map V.ref) (xss.map rowD)
  | _, _, .nil => .nil
  | _, _, .cons h t => .cons (row_dp h) (Lists.dps t)
theorem Lists.dp {K : PySem.W.Frag} {H : Hp} {gs : List Addr} {xss : List (List Str)} (h : Lists H gs xss) {d : Addr} (e : H d = some (.lst (gs.map V.ref))) : Dp K H (.ref d) (.list (xss.map rowD)) := .lst (SqL.of e) h.dps
/-- names that may be laid -/
def GoodLs (xss : List (List Str)) : Prop := ∀ xs ∈ xss, xs.length ≤ 64 ∧ ∀ x ∈ xs, okName x = true
theorem strs_lay : ∀ {xs : List Str}, (∀ x ∈ xs, okName x = true) → PyData.canLayAll0 (xs.map PyData.str) = true
  | [], _ => rfl
  | x :: xs, h => by
    have a : smallS x = true := okName_small (h x List.mem_cons_self)
    simp only [smallS, Bool.and_eq_true] at a
    simp only [List.map_cons, PyData.canLayAll0, PyData.canLay0, a.1, Bool.true_and]
    exact strs_lay fun y hy => h y (List.mem_cons_of_mem _ hy)
theorem strs_depth : ∀ xs : List Str, PyData.depthAll (xs.map PyData.str) = 0
  | [] => by simp only [List.map_nil, PyData.depthAll]
  | x :: xs => by simp only [List.map_cons, PyData.depthAll, PyData.depth, strs_depth xs, Nat.max_self]
theorem rows_lay : ∀ {xss : List (List Str)}, GoodLs xss → PyData.canLayAll0 (xss.map rowD) = true
  | [], _ => rfl
  | xs :: xss, h => by
    have a := strs_lay (h xs List.mem_cons_self).2
    simp only [List.map_cons, PyData.canLayAll0, PyData.canLay0, a, Bool.true_and]
    exact rows_lay fun y hy => h y (List.mem_cons_of_mem _ hy)
theorem rows_depth : ∀ xss : List (List Str), PyData.depthAll (xss.map rowD) ≤ 1
  | [] => by simp only [List.map_nil, PyData.depthAll]; omega
  | xs :: xss => by
    have a := rows_depth xss
    simp only [List.map_cons, PyData.depthAll, PyData.depth, strs_depth xs]
    omega
theorem rows_shaped {xss : List (List Str)} (h : GoodLs xss) : SeqAt.shaped (.list (xss.map rowD)) = true := by
  show (PyData.canLay0 (.list (xss.map rowD)) && decide (PyData.depth (.list (xss.map rowD)) ≤ 64)) = true
  have a := rows_depth xss
  rw [show PyData.canLay0 (.list (xss.map rowD)) = true by simp only [PyData.canLay0, rows_lay h], Bool.true_and]
  refine decide_eq_true ?_
  simp only [PyData.depth]
  omega
theorem rows_self {xss : List (List Str)} (h : GoodLs xss) : PyData.eqv (.list (xss.map rowD)) (.list (xss.map rowD)) = true := eqv_self _ (by simp only [PyData.canLay0, rows_lay h])
/-- .. and lists of those -/
abbrev rowsD (xss : List (List Str)) : PyData := .list (xss.map rowD)
theorem all_lay : ∀ {ts : List (List (List Str))}, (∀ xss ∈ ts, GoodLs xss) → PyData.canLayAll0 (ts.map rowsD) = true
  | [], _ => rfl
  | xss :: ts, h => by
    have a := rows_lay (h xss List.mem_cons_self)
    simp only [List.map_cons, PyData.canLayAll0, PyData.canLay0, a, Bool.true_and]
    exact all_lay fun y hy => h y (List.mem_cons_of_mem _ hy)
theorem all_depth : ∀ ts : List (List (List Str)), PyData.depthAll (ts.map rowsD) ≤ 2
  | [] => by simp only [List.map_nil, PyData.depthAll]; omega
  | xss :: ts => by
    have a := all_depth ts
    have b := rows_depth xss
    simp only [List.map_cons, PyData.depthAll, PyData.depth]
    omega
theorem all_shaped {ts : List (List (List Str))} (h : ∀ xss ∈ ts, GoodLs xss) : SeqAt.shaped (.list (ts.map rowsD)) = true := by
  show (PyData.canLay0 (.list (ts.map rowsD)) && decide (PyData.depth (.list (ts.map rowsD)) ≤ 64)) = true
  have a := all_depth ts
  rw [show PyData.canLay0 (.list (ts.map rowsD)) = true by simp only [PyData.canLay0, all_lay h], Bool.true_and]
  refine decide_eq_true ?_
  simp only [PyData.depth]
  omega
theorem all_self {ts : List (List (List Str))} (h : ∀ xss ∈ ts, GoodLs xss) : PyData.eqv (.list (ts.map rowsD)) (.list (ts.map rowsD)) = true := eqv_self _ (by simp only [PyData.canLay0, all_lay h])
/-- what _law_told tells of S -/
def TellsOf (S : LS) (xss : List (List Str)) : Prop := ∃ rs ls ds ss yss, Srt rs S.rooms ∧ Srt ls (keys S.lines) ∧ Srt ds (keys S.drains) ∧ Srt ss S.sources ∧ Paired (fun ys r => Srt ys (S.at r)) yss rs ∧ xss = rs :: ls :: ds :: ss :: yss
theorem srts_one {S : LS} : ∀ {rs : List Str} {yss zss : List (List Str)}, Paired (fun ys r => Srt ys (S.at r)) yss rs → Paired (fun ys r => Srt ys (S.at r)) zss rs → yss = zss
  | _, _, _, .nil, .nil => rfl
  | _, _, _, .cons a s, .cons b t => by rw [Srt.one a b, srts_one s t]
theorem TellsOf.one {S : LS} {xss yss : List (List Str)} (a : TellsOf S xss) (b : TellsOf S yss) : xss = yss := by
  obtain ⟨r1, l1, d1, s1, y1, a1, a2, a3, a4, a5, rfl⟩ := a
  obtain ⟨r2, l2, d2, s2, y2, b1, b2, b3, b4, b5, rfl⟩ := b
  obtain rfl := a1.one b1
  rw [a2.one b2, a3.one b3, a4.one b4, srts_one a5 b5]
theorem Srt.good {ys xs : List Str} (a : Srt ys xs) (h : ∀ x ∈ xs, okName x = true) (l : xs.length ≤ 64) : ys.length ≤ 64 ∧ ∀ y ∈ ys, okName y = true :=
  ⟨by rw [a.1.length_eq]; exact l, fun y hy => h y (a.1.mem_iff.mp hy)⟩
theorem srts_good {S : LS} (o : S.Ok) : ∀ {rs : List Str} {yss : List (List Str)}, Paired (fun ys r => Srt ys (S.at r)) yss rs → GoodLs yss
  | _, _, .nil => fun _ h => nomatch h
  | r :: _, _, .cons a s => fun xs h => by
    rcases List.mem_cons.mp h with rfl | h
    · refine a.good (fun x hx => o.lG x (at_sub hx)) ?_
      have w := at_len o r S.lines.length
      rw [List.take_length] at w
      exact Nat.le_trans w (by decide)
    · exact srts_good o s xs h
theorem TellsOf.good {S : LS} {xss : List (List Str)} (o : S.Ok) (a : TellsOf S xss) : GoodLs xss := by
  obtain ⟨rs, ls, ds, ss, yss, a1, a2, a3, a4, a5, rfl⟩ := a
  have n1 := o.rL
  have n2 : (keys S.lines).length ≤ 40 := by rw [keys, List.length_map]; exact o.lL
  have n3 : (keys S.drains).length ≤ 12 := by rw [keys, List.length_map]; exact o.dL
  have n4 := o.sL
  intro xs h
  simp only [List.mem_cons] at h
  rcases h with rfl | rfl | rfl | rfl | h
  · exact a1.good o.rG (by omega)
  · exact a2.good o.lG (by omega)
  · exact a3.good o.dG (by omega)
  · exact a4.good (fun x hx => o.rG x (o.sI x hx)) (by omega)
  · exact srts_good o a5 xs h
theorem TellsOf.len {S : LS} {xss : List (List Str)} (o : S.Ok) (a : TellsOf S xss) : xss.length ≤ 28 := by
  obtain ⟨rs, ls, ds, ss, yss, a1, a2, a3, a4, a5, rfl⟩ := a
  have e := Paired.length a5
  have n1 := o.rL
  have e1 := a1.1.length_eq
  simp only [List.length_cons]
  omega
def spToldL (L : Addr) : Sp := fun vs H Q _ => ∃ (A : LA) (B : MA) (S : LS), vs = [.ref A.p, .ref B.m] ∧ Both L H A B S ∧
  ∀ (H' : Hp) (d : Addr) (gs : List Addr) (xss : List (List Str)), Same H H' → H d = none → H' d = some (.lst (gs.map V.ref)) → Lists H' gs xss → (∀ g ∈ gs, H g = none) → TellsOf S xss → Q (.ref d) H'
/-- each at gs is a list of texts, of n at the most, short ones -/
def okW (n : Nat) (x : Str) : Prop := x.length ≤ n ∧ PyData.strOk x = true
theorem okW.up {n m : Nat} {x : Str} (h : okW n x) (l : n ≤ m) : okW m x := ⟨Nat.le_trans h.1 l, h.2⟩
def Wild (H : Hp) (n : Nat) (gs : List Addr) : Prop := ∀ g ∈ gs, ∃ xs : List Str, H g = some (.lst (xs.map V.str)) ∧ xs.length ≤ n ∧ ∀ x ∈ xs, okW n x
def spPutL : Sp := fun vs H Q _ => ∃ (p q d : Addr) (gs : List Addr), vs = [.ref p, .ref d] ∧ Bag H p q ∧ H d = some (.lst (gs.map V.ref)) ∧ Wild H 64 gs ∧ (∀ g ∈ gs, g ≠ p ∧ g ≠ q) ∧ gs.length ≤ 60 ∧
  ∀ (H' : Hp), Bag H' p q → (∀ b u, H b = some u → b ≠ p → b ∉ gs → H' b = some u) → (∀ b, H' b = none → H b = none) → Q .non H'
end SM
namespace SM
open PySem PySem.Spec PyProof.Rows L2
/-- while the told lists are written on: the bag, the list of lists, what else stood at H0 -/
structure WildAt (H0 H : Hp) (p q d : Addr) (gs : List Addr) (n : Nat) : Prop where
  bag : Bag H p q
  top : H d = some (.lst (gs.map V.ref))
  wild : Wild H n gs
  out : ∀ b u, H0 b = some u → b ≠ p → b ∉ gs → H b = some u
  has : ∀ b, H b = none → H0 b = none
theorem Wild.more {H : Hp} {n m : Nat} {gs : List Addr} (h : Wild H n gs) (l : n ≤ m) : Wild H m gs := fun g hg => by
  obtain ⟨xs, a, b, c⟩ := h g hg
  exact ⟨xs, a, Nat.le_trans b l, fun x hx => (c x hx).up l⟩
theorem WildAt.more {H0 H : Hp} {p q d : Addr} {gs : List Addr} {n m : Nat} (h : WildAt H0 H p q d gs n) (l : n ≤ m) : WildAt H0 H p q d gs m := ⟨h.bag, h.top, h.wild.more l, h.out, h.has⟩
theorem refs_strs {gs : List Addr} {xs : List Str} (e : gs.map V.ref = xs.map V.str) : gs = [] := by
  cases gs with
  | nil => rfl
  | cons g r =>
    cases xs with
    | nil => cases e
    | cons x s => 
      rw [List.map_cons, List.map_cons] at e
      injection e with a _
      cases a
theorem WildAt.put {H0 H : Hp} {p q d g : Addr} {gs : List Addr} {n m : Nat} (h : WildAt H0 H p q d gs n) (l : n ≤ m) (hg : g ∈ gs) (ne : ∀ g ∈ gs, g ≠ p ∧ g ≠ q) {ys : List Str} (hy : ys.length ≤ m) (sy : ∀ y ∈ ys, okW m y) :
    WildAt H0 (upd H g (.lst (ys.map V.str))) p q d gs m := by
  have ng := ne g hg
  have nd : d ≠ g := fun z => by
    obtain ⟨xs, a, _⟩ := h.wild g hg
    rw [← z, h.top] at a
    have e : gs.map V.ref = xs.map V.str := by
      injection a with a
      injection a
    rw [refs_strs e] at hg
    cases hg
  refine ⟨h.bag.keep (upd_ne ng.1.symm) (upd_ne ng.2.symm), (upd_ne nd).trans h.top, fun g' hg' => ?_, fun b u e n1 n2 => ?_, fun b e => ?_⟩
  · by_cases z : g' = g
    · rw [z]
      exact ⟨ys, upd_same, hy, sy⟩
    · obtain ⟨xs, a, b, c⟩ := h.wild g' hg'
      exact ⟨xs, (upd_ne z).trans a, Nat.le_trans b l, fun x hx => (c x hx).up l⟩
  · rw [upd_ne (show b ≠ g from fun z => n2 (by rw [z]; exact hg))]
    exact h.out b u e n1 n2
  · by_cases z : b = g
    · rw [z, upd_same] at e
      cases e
    · rw [upd_ne z] at e
      exact h.has b e
theorem Lists.snoc {H : Hp} {gs : List Addr} {xss : List (List Str)} (h : Lists H gs xss) {g : Addr} {xs : List Str} (e : H g = some (.lst (xs.map V.str))) : Lists H (gs ++ [g]) (xss ++ [xs]) := Paired.snoc h e
theorem okW.app {n m : Nat} {x y : Str} (a : okW n x) (b : okW m y) : okW (n + m) (x ++ y) := by
  obtain ⟨a1, a2⟩ := a
  obtain ⟨b1, b2⟩ := b
  refine ⟨?_, ?_⟩
  · show (x.cps ++ y.cps).size ≤ n + m
    have a1' : x.cps.size ≤ n := a1
    have b1' : y.cps.size ≤ m := b1
    rw [Array.size_append]
    omega
  · simp only [PyData.strOk] at a2 b2 ⊢
    show Array.all (x.cps ++ y.cps) _ = true
    rw [Array.all_append, a2, b2]
    rfl
theorem okW.name {x : Str} (h : okName x = true) : okW 8 x := by
  refine ⟨?_, ?_⟩
  · simp only [okName, Bool.and_eq_true, decide_eq_true_eq] at h
    exact h.1.2
  · have a : smallS x = true := okName_small h
    simp only [smallS, Bool.and_eq_true] at a
    exact a.1
theorem wild_shaped {xs : List Str} (h : ∀ x ∈ xs, PyData.strOk x = true) : SeqAt.shaped (rowD xs) = true := by
  have lay : ∀ {xs : List Str}, (∀ x ∈ xs, PyData.strOk x = true) → PyData.canLayAll0 (xs.map PyData.str) = true := by
    intro xs
    induction xs with
    | nil => exact fun _ => rfl
    | cons x xs ih =>
      intro h
      simp only [List.map_cons, PyData.canLayAll0, PyData.canLay0, h x List.mem_cons_self, Bool.true_and]
      exact ih fun y hy => h y (List.mem_cons_of_mem _ hy)
  show (PyData.canLay0 (rowD xs) && decide (PyData.depth (rowD xs) ≤ 64)) = true
  rw [show PyData.canLay0 (rowD xs) = true by simp only [rowD, PyData.canLay0, lay h], Bool.true_and]
  refine decide_eq_true ?_
  simp only [PyData.depth, strs_depth xs]
  omega
end SM
namespace SM
open PySem PySem.Spec PyProof.Rows L2
theorem Lists.all_ne {G : Hp} {D : Addr} {gs : List Addr} {yss : List (List Str)} (h : Lists G gs yss) (hD : G D = some (.lst (gs.map V.ref))) : ∀ g ∈ gs, g ≠ D := fun g hg z => by
  obtain ⟨i, hi⟩ := List.getElem?_of_mem hg
  obtain ⟨xs, _, e⟩ := h.at hi
  rw [z, hD] at e
  have e' : gs.map V.ref = xs.map V.str := by
    injection e with e
    injection e
  rw [refs_strs e'] at hg
  cases hg
theorem Lists.off {G : Hp} {D : Addr} {o : HO} : ∀ {gs : List Addr} {yss : List (List Str)}, Lists G gs yss → (∀ g ∈ gs, g ≠ D) → Lists (upd G D o) gs yss
  | _, _, .nil, _ => .nil
  | _, _, .cons h t, n => .cons ((upd_ne (n _ List.mem_cons_self)).trans h) (Lists.off t fun g hg => n g (List.mem_cons_of_mem _ hg))
theorem flat_list {xs : List Str} : PyData.eqv (rowD xs) (.list []) = decide (xs = []) := eqv_nil
theorem atI_last {α : Type} {xs : List α} {x : α} (h : xs[xs.length - 1]? = some x) : atI xs (-1) = some x := by
  have l := (List.getElem?_eq_some_iff.mp h).1
  unfold atI ixN
  rw [if_neg (by decide), if_pos (by omega)]
  show xs[((-1 : Int) + (xs.length : Int)).toNat]? = some x
  rw [show ((-1 : Int) + (xs.length : Int)).toNat = xs.length - 1 by omega]
  exact h
end SM
namespace SM
open PySem PySem.Spec PyProof.Rows L2
theorem WildAt.same {H0 H H1 : Hp} {p q d : Addr} {gs : List Addr} {n : Nat} (h : WildAt H0 H p q d gs n) (s : Same H H1) : WildAt H0 H1 p q d gs n :=
  ⟨h.bag.same s, s _ _ h.top, fun g hg => by
    obtain ⟨xs, a, b⟩ := h.wild g hg
    exact ⟨xs, s _ _ a, b⟩, fun b u e n1 n2 => s _ _ (h.out b u e n1 n2), fun b e => h.has b (s.free e)⟩
theorem mem_set {α : Type} {xs : List α} {i : Nat} {y z : α} (h : z ∈ xs.set i y) : z ∈ xs ∨ z = y := List.mem_or_eq_of_mem_set h
end SM
namespace SM
open PySem PySem.Spec PyProof.Rows L2
theorem newlay {H H1 : Hp} {L x dx : Addr} {La : LA} (nx : H x = none) (ndx : H dx = none) (eA : La.p = x) (kp : ∀ b u, upd (upd H dx (.own x)) x (.ins L dx []) b = some u → b ≠ x → H1 b = some u) (fresh : ∀ b ∈ La.ms, upd (upd H dx (.own x)) x (.ins L dx []) b = none) :
    Same H H1 ∧ ∀ b ∈ La.ms, H b = none := by
  have eX : Same H (upd (upd H dx (.own x)) x (.ins L dx [])) := fun b o e => by
    rw [upd_ne (ne_of_none e nx), upd_ne (ne_of_none e ndx)]
    exact e
  exact ⟨fun b o e => kp b o (eX b o e) (ne_of_none e nx), fun b hb => eX.free (fresh b hb)⟩
theorem Keep.butp {H H' : Hp} {p q : Addr} (B : Bag H p q) (B' : Bag H' p q) (o : ∀ b u, H b = some u → b ≠ p → H' b = some u) (has : ∀ b, H' b = none → H b = none) : Keep [p] H H' := by
  obtain ⟨x, y, c, ns, B⟩ := B
  have top := B.top
  refine ⟨fun b u e n => o b u e fun z => n (by rw [z]; exact List.mem_singleton_self _), fun b xs e => o b _ e (ne_of e top (by intro z; cases z)), fun b _ _ _ e => o b _ e (ne_of e top (by intro z; cases z)), fun b xs e f => o b _ e fun z => ?_, has⟩
  rw [z, top] at e
  cases e
  exact Bool.noConfusion f
/-- told and kept: a tuple of two lists of lists that are alike -/
def HeldAt (H : Hp) (hd : Addr) (ts : List Addr) (tss : List (List (List Str))) : Prop := Paired (fun t xss => ∃ s k gs ks, H t = some (.tup [.ref s, .ref k]) ∧ (H s = some (.lst (gs.map V.ref)) ∧ H k = some (.lst (ks.map V.ref)) ∧ Lists H gs xss ∧ Lists H ks xss ∧ GoodLs xss) ∧ s ≠ hd ∧ k ≠ hd ∧ (∀ g ∈ gs, g ≠ hd) ∧ (∀ g ∈ ks, g ≠ hd)) ts tss
theorem HeldAt.keep {ms : List Addr} {H H' : Hp} {hd : Addr} (k : Keep ms H H') (n : ∀ d (ts : List Addr), H d = some (.lst (ts.map V.ref)) → d ∉ ms) : ∀ {ts : List Addr} {tss : List (List (List Str))}, HeldAt H hd ts tss → HeldAt H' hd ts tss
  | _, _, .nil => .nil
  | _, _, .cons h t => by
    obtain ⟨s, e, gs, ks, a, ⟨b, c, d, f, g⟩, r⟩ := h
    exact .cons ⟨s, e, gs, ks, k.tup _ _ a, ⟨k.out _ _ b (n s gs b), k.out _ _ c (n e ks c), d.keep k, f.keep k, g⟩, r⟩ (HeldAt.keep k n t)
theorem HeldAt.write {H : Hp} {hd : Addr} {zs ys : List V} (e0 : H hd = some (.lst zs)) : ∀ {ts : List Addr} {tss : List (List (List Str))}, HeldAt H hd ts tss → HeldAt (upd H hd (.lst ys)) hd ts tss
  | _, _, .nil => .nil
  | _, _, .cons h t => by
    obtain ⟨s, e, gs, ks, a, ⟨b, c, d, f, g⟩, r1, r2, r3, r4⟩ := h
    exact .cons ⟨s, e, gs, ks, (upd_ne (ne_of a e0 (by intro z; cases z))).trans a, ⟨(upd_ne r1).trans b, (upd_ne r2).trans c, d.off r3, f.off r4, g⟩, r1, r2, r3, r4⟩ (HeldAt.write e0 t)
theorem HeldAt.good {H : Hp} {hd : Addr} : ∀ {ts : List Addr} {tss : List (List (List Str))}, HeldAt H hd ts tss → ∀ xss ∈ tss, GoodLs xss
  | _, _, .nil => fun _ h => nomatch h
  | _, _, .cons h t => fun x hx => by
    obtain ⟨s, e, gs, ks, a, ⟨b, c, d, f, g⟩, r⟩ := h
    rcases List.mem_cons.mp hx with rfl | hx
    · exact g
    · exact HeldAt.good t x hx
theorem HeldAt.at {H : Hp} {hd : Addr} : ∀ {ts : List Addr} {tss : List (List (List Str))}, HeldAt H hd ts tss → ∀ {i : Nat} {t : Addr}, ts[i]? = some t → ∃ xss s k gs ks, tss[i]? = some xss ∧ H t = some (.tup [.ref s, .ref k]) ∧ H s = some (.lst (gs.map V.ref)) ∧ H k = some (.lst (ks.map V.ref)) ∧ Lists H gs xss ∧ Lists H ks xss
  | _, _, .nil, i, t, e => by simp at e
  | _, _, .cons h r, 0, t, e => by
    have e' := Option.some.inj (e : some _ = some t)
    subst e'
    obtain ⟨s, k, gs, ks, a, ⟨b, c, d, f, g⟩, _⟩ := h
    exact ⟨_, s, k, gs, ks, rfl, a, b, c, d, f⟩
  | _, _, .cons h r, i + 1, t, e => by
    obtain ⟨xss, s, k, gs, ks, a, b⟩ := HeldAt.at r (i := i) (t := t) (by simpa using e)
    exact ⟨xss, s, k, gs, ks, by simpa using a, b⟩
theorem Lists.mapH {G G' : Hp} : ∀ {gs : List Addr} {xss : List (List Str)}, Lists G gs xss → (∀ g ∈ gs, ∀ u, G g = some u → G' g = some u) → Lists G' gs xss
  | _, _, .nil, _ => .nil
  | _, _, .cons h t, m => .cons (m _ List.mem_cons_self _ h) (Lists.mapH t fun g hg => m g (List.mem_cons_of_mem _ hg))
/-- two layouts, each with its book -/
structure Two (L : Addr) (H : Hp) (A1 : LA) (B1 : MA) (S1 : LS) (A2 : LA) (B2 : MA) (S2 : LS) : Prop where
  one : Both L H A1 B1 S1
  two : Both L H A2 B2 S2
  apart : ∀ b ∈ A1.ms ++ B1.ms, b ∉ A2.ms ++ B2.ms
theorem Two.swap {L : Addr} {H : Hp} {A1 A2 : LA} {B1 B2 : MA} {S1 S2 : LS} (h : Two L H A1 B1 S1 A2 B2 S2) : Two L H A2 B2 S2 A1 B1 S1 := ⟨h.two, h.one, fun b hb w => h.apart b w hb⟩
theorem Two.keep {L : Addr} {H H' : Hp} {A1 A2 : LA} {B1 B2 : MA} {S1 S2 : LS} {ms : List Addr} (h : Two L H A1 B1 S1 A2 B2 S2) (k : Keep ms H H') (n : ∀ b ∈ ms, ∃ xs, H b = some (.lst xs)) : Two L H' A1 B1 S1 A2 B2 S2 := by
  refine ⟨h.one.keep k fun b hb => ?_, h.two.keep k fun b hb => ?_, h.apart⟩
  · obtain ⟨xs, e⟩ := n b hb
    have q := h.one.nolist e
    exact ⟨fun w => q (List.mem_append_left _ w), fun w => q (List.mem_append_right _ w)⟩
  · obtain ⟨xs, e⟩ := n b hb
    have q := h.two.nolist e
    exact ⟨fun w => q (List.mem_append_left _ w), fun w => q (List.mem_append_right _ w)⟩
theorem Two.same {L : Addr} {H H' : Hp} {A1 A2 : LA} {B1 B2 : MA} {S1 S2 : LS} (h : Two L H A1 B1 S1 A2 B2 S2) (s : Same H H') : Two L H' A1 B1 S1 A2 B2 S2 := h.keep (ms := []) (Keep.of s) fun _ z => (nomatch z)
theorem Two.step {L : Addr} {H H' : Hp} {A1 A2 : LA} {B1 B2 : MA} {S1 S2 S1' : LS} (h : Two L H A1 B1 S1 A2 B2 S2) (b : Both L H' A1 B1 S1') (k : Keep (A1.ms ++ B1.ms) H H') : Two L H' A1 B1 S1' A2 B2 S2 :=
  ⟨b, h.two.keep k fun b hb => ⟨fun w => h.apart b hb (List.mem_append_left _ w), fun w => h.apart b hb (List.mem_append_right _ w)⟩, h.apart⟩
end SM
namespace SM
open PySem PySem.Spec PyProof.Rows L2
/-- list(xs) within a comprehension: K told -/
theorem call_list_ofK {X : Cx} {K : PySem.W.Frag} (e : X.K = K) : CallR X (.type "list") (fun xs H Q => ∃ p ys, xs = [.ref p] ∧ (SqL K H p ys ∨ SqT K H p ys) ∧ ∀ l, H l = none → Q (.ref l) (upd H l (.lst ys))) := by
  subst e
  exact call_list_of
end SM
namespace SM
open PySem PySem.Spec PyProof.Rows L2
/-! several layouts, each with its book -/
abbrev LMS := LA × MA × LS
def msOf (x : LMS) : List Addr := x.1.ms ++ x.2.1.ms
structure Fam (L : Addr) (G : Hp) (bt : Addr) (ts : List Addr) (Bs : List LMS) : Prop where
  top : G bt = some (.lst (ts.map V.ref))
  len : ts.length = Bs.length
  at_ : ∀ (i : Nat) (x : LMS), Bs[i]? = some x → ∃ t, ts[i]? = some t ∧ G t = some (.tup [.ref x.1.p, .ref x.2.1.m]) ∧ Both L G x.1 x.2.1 x.2.2
  apart : ∀ (i j : Nat) (x y : LMS), i ≠ j → Bs[i]? = some x → Bs[j]? = some y → ∀ b ∈ msOf x, b ∉ msOf y
section
variable {L : Addr} {G G' : Hp} {bt : Addr} {ts : List Addr} {Bs : List LMS} {ms : List Addr}
theorem Fam.get (h : Fam L G bt ts Bs) {i : Nat} {t : Addr} (e : ts[i]? = some t) : ∃ x, Bs[i]? = some x ∧ G t = some (.tup [.ref x.1.p, .ref x.2.1.m]) ∧ Both L G x.1 x.2.1 x.2.2 := by
  have l := (List.getElem?_eq_some_iff.mp e).1
  rw [h.len] at l
  obtain ⟨t', a, b, c⟩ := h.at_ i _ (List.getElem?_eq_getElem l)
  rw [a] at e
  cases e
  exact ⟨_, List.getElem?_eq_getElem l, b, c⟩
theorem Fam.keep (h : Fam L G bt ts Bs) (k : Keep ms G G') (n : ∀ b ∈ ms, ∃ xs, G b = some (.lst xs)) (nb : bt ∉ ms) : Fam L G' bt ts Bs := by
  refine ⟨k.out _ _ h.top nb, h.len, fun i x e => ?_, h.apart⟩
  obtain ⟨t, a, b, c⟩ := h.at_ i x e
  refine ⟨t, a, k.tup _ _ b, c.keep k fun b hb => ?_⟩
  obtain ⟨xs, e⟩ := n b hb
  have q := c.nolist e
  exact ⟨fun w => q (List.mem_append_left _ w), fun w => q (List.mem_append_right _ w)⟩
theorem Fam.same (h : Fam L G bt ts Bs) (s : Same G G') : Fam L G' bt ts Bs := h.keep (ms := []) (Keep.of s) (fun _ z => (nomatch z)) (fun z => (nomatch z))
theorem Fam.off (h : Fam L G bt ts Bs) {i : Nat} {x : LMS} (e : Bs[i]? = some x) {d : Addr} {xs : List V} (hd : G d = some (.lst xs)) : d ∉ msOf x := by
  obtain ⟨t, a, b, c⟩ := h.at_ i x e
  exact c.nolist hd
theorem Fam.step (h : Fam L G bt ts Bs) {i : Nat} {A : LA} {M : MA} {S S' : LS} (e : Bs[i]? = some (A, M, S)) (b : Both L G' A M S') (k : Keep (A.ms ++ M.ms) G G') : Fam L G' bt ts (Bs.set i (A, M, S')) := by
  have l := (List.getElem?_eq_some_iff.mp e).1
  have key : ∀ j y, (Bs.set i (A, M, S'))[j]? = some y → ∃ y0, Bs[j]? = some y0 ∧ msOf y0 = msOf y := fun j y ey => by
    rw [List.getElem?_set] at ey
    by_cases z : i = j
    · subst z
      rw [if_pos rfl, if_pos l] at ey
      cases ey
      exact ⟨_, e, rfl⟩
    · rw [if_neg z] at ey
      exact ⟨y, ey, rfl⟩
  refine ⟨k.out _ _ h.top (h.off e h.top), by rw [List.length_set]; exact h.len, fun j y ey => ?_, fun j1 j2 x y n e1 e2 => ?_⟩
  · rw [List.getElem?_set] at ey
    by_cases z : i = j
    · subst z
      rw [if_pos rfl, if_pos l] at ey
      cases ey
      obtain ⟨t, a, c, d⟩ := h.at_ i _ e
      exact ⟨t, a, k.tup _ _ c, b⟩
    · rw [if_neg z] at ey
      obtain ⟨t, a, c, d⟩ := h.at_ j y ey
      refine ⟨t, a, k.tup _ _ c, d.keep k fun b' hb => ?_⟩
      have q := h.apart i j _ y z e ey b' hb
      exact ⟨fun w => q (List.mem_append_left _ w), fun w => q (List.mem_append_right _ w)⟩
  · obtain ⟨x0, f1, g1⟩ := key j1 x e1
    obtain ⟨y0, f2, g2⟩ := key j2 y e2
    rw [← g1, ← g2]
    exact h.apart j1 j2 x0 y0 n f1 f2
end
/-- what else a law of several layouts holds -/
structure Rest (G : Hp) (p q rm dv c : Addr) (rs ds ws : List Str) : Prop where
  bag : Bag G p q
  rm : NamesAt G rm rs
  dv : NamesAt G dv ds
  ws : G c = some (.lst (ws.map V.str))
theorem Rest.keep {G G' : Hp} {p q rm dv c : Addr} {rs ds ws : List Str} {ms : List Addr} (h : Rest G p q rm dv c rs ds ws) (k : Keep ms G G') (b : Bag G' p q) : Rest G' p q rm dv c rs ds ws :=
  ⟨b, h.rm.keep k, h.dv.keep k, k.flat _ _ h.ws (flat_strs _)⟩
theorem Rest.same {G G' : Hp} {p q rm dv c : Addr} {rs ds ws : List Str} (h : Rest G p q rm dv c rs ds ws) (s : Same G G') : Rest G' p q rm dv c rs ds ws := h.keep (ms := []) (Keep.of s) (h.bag.same s)
end SM
namespace SM
open PySem PySem.Spec PyProof.Rows L2
/-- k29's own list of what was told -/
structure Helds (G : Hp) (hd : Addr) (us : List Addr) (tss : List (List (List Str))) : Prop where
  top : G hd = some (.lst (us.map V.ref))
  all : HeldAt G hd us tss
theorem Helds.keep {G G' : Hp} {hd : Addr} {us : List Addr} {tss : List (List (List Str))} {ms : List Addr} (h : Helds G hd us tss) (k : Keep ms G G') (n : ∀ d (ts : List Addr), G d = some (.lst (ts.map V.ref)) → d ∉ ms) : Helds G' hd us tss :=
  ⟨k.out _ _ h.top (n hd us h.top), h.all.keep k n⟩
theorem Helds.same {G G' : Hp} {hd : Addr} {us : List Addr} {tss : List (List (List Str))} (h : Helds G hd us tss) (s : Same G G') : Helds G' hd us tss := h.keep (ms := []) (Keep.of s) fun _ _ _ z => (nomatch z)
/-- no book's sorted list stands at g -/
def NoTopF (G : Hp) (Bs : List LMS) (g : Addr) : Prop := ∀ (i : Nat) (x : LMS), Bs[i]? = some x → NoTop G x.2.1 g
theorem NoTopF.keep {L : Addr} {G G' : Hp} {bt : Addr} {ts : List Addr} {Bs : List LMS} {ms : List Addr} {g : Addr} (h : NoTopF G Bs g) (f : Fam L G bt ts Bs) (k : Keep ms G G') (n : ∀ b ∈ ms, ∃ xs, G b = some (.lst xs)) (hg : G g ≠ none) : NoTopF G' Bs g := fun i x e => by
  obtain ⟨t, a, b, c⟩ := f.at_ i x e
  refine NoTops.off c.md k (fun w => ?_) g hg (h i x e)
  obtain ⟨xs, e⟩ := n _ w
  exact c.nolist e (List.mem_append_right _ (by simp [MA.ms]))
theorem NoTopF.step {L : Addr} {G G' : Hp} {bt : Addr} {ts : List Addr} {Bs : List LMS} {g : Addr} {i : Nat} {A : LA} {M : MA} {S S' : LS} (h : NoTopF G Bs g) (f : Fam L G bt ts Bs) (e : Bs[i]? = some (A, M, S)) (k : Keep (A.ms ++ M.ms) G G') (n : NoTops M G G') (hg : G g ≠ none) :
    NoTopF G' (Bs.set i (A, M, S')) g := fun j y ey => by
  have l := (List.getElem?_eq_some_iff.mp e).1
  rw [List.getElem?_set] at ey
  by_cases z : i = j
  · subst z
    rw [if_pos rfl, if_pos l] at ey
    cases ey
    exact n g hg (h i _ e)
  · rw [if_neg z] at ey
    obtain ⟨t, a, b, c⟩ := f.at_ j y ey
    refine NoTops.off c.md k (fun w => ?_) g hg (h j y ey)
    exact f.apart i j _ y z e ey _ w (List.mem_append_right _ (by simp [MA.ms]))
theorem Fam.write {L : Addr} {G : Hp} {bt : Addr} {ts : List Addr} {Bs : List LMS} {g : Addr} {xs ys : List V} (f : Fam L G bt ts Bs) (h : NoTopF G Bs g) (e : G g = some (.lst xs)) (nb : bt ≠ g) : Fam L (upd G g (.lst ys)) bt ts Bs := by
  refine ⟨(upd_ne nb).trans f.top, f.len, fun i x ex => ?_, f.apart⟩
  obtain ⟨t, a, b, c⟩ := f.at_ i x ex
  exact ⟨t, a, (upd_ne (ne_of b e (by intro z; cases z))).trans b, c.write e (h i x ex)⟩
theorem NoTopF.write {L : Addr} {G : Hp} {bt : Addr} {ts : List Addr} {Bs : List LMS} {g : Addr} {xs ys : List V} (h : NoTopF G Bs g) (f : Fam L G bt ts Bs) (e : G g = some (.lst xs)) : NoTopF (upd G g (.lst ys)) Bs g := fun i x ex => by
  obtain ⟨t, a, b, c⟩ := f.at_ i x ex
  obtain ⟨⟨p1, p2, e1, _, _⟩, _⟩ := id c.md
  exact NoTop.at ((upd_ne (ne_of e1 e (by intro z; cases z))).trans e1) (h i x ex p1 p2 e1)
end SM
namespace SM
open PySem PySem.Spec PyProof.Rows L2
theorem atI_refs {ts : List Addr} {v : Int} (h0 : 0 ≤ v) (h1 : v < ts.length) : ∃ t, ts[v.toNat]? = some t ∧ atI (ts.map V.ref) v = some (.ref t) := by
  have lt : v.toNat < ts.length := by omega
  refine ⟨ts[v.toNat], List.getElem?_eq_getElem lt, ?_⟩
  have e := atI_nat (xs := ts.map V.ref) (j := v.toNat) (v := .ref ts[v.toNat]) (by rw [List.getElem?_map, List.getElem?_eq_getElem lt]; rfl)
  rw [Int.toNat_of_nonneg h0] at e
  exact e
end SM
namespace SM
open PySem PySem.Spec PyProof.Rows L2
theorem NoTop.fresh {H : Hp} {A : MA} {S : LS} {g : Addr} (h : MdAt H A S) (e : H g = none) : NoTop H A g := by
  obtain ⟨⟨a, b, e1, ⟨_, _, _, ra⟩, ⟨_, _, _, sb⟩⟩, _⟩ := h
  exact NoTop.at e1 ⟨ne_of_none ra e, ne_of_none sb e⟩
theorem strs_refs {us : List Addr} {xs : List Str} (e : us.map V.ref = xs.map V.str) : xs = [] := by
  rw [refs_strs e] at e
  cases xs with
  | nil => rfl
  | cons x r => cases e
theorem Rest.write {G : Hp} {p q rm dv c hd : Addr} {rs ds ws : List Str} {us : List Addr} {o : HO} (h : Rest G p q rm dv c rs ds ws) (e : G hd = some (.lst (us.map V.ref))) (nq : hd ≠ q) (nw : ws ≠ []) : Rest (upd G hd o) p q rm dv c rs ds ws := by
  have key : ∀ {x : Addr} {xs : List Str}, G x = some (.lst (xs.map V.str)) → xs ≠ [] → x ≠ hd := fun {x xs} a n z => by
    rw [z, e] at a
    have e' : us.map V.ref = xs.map V.str := by
      injection a with a
      injection a
    exact n (strs_refs e')
  refine ⟨h.bag.keep (upd_ne (h.bag.norefs e).symm) (upd_ne nq.symm), ⟨(upd_ne (key h.rm.1 ?_)).trans h.rm.1, h.rm.2⟩, ⟨(upd_ne (key h.dv.1 ?_)).trans h.dv.1, h.dv.2⟩, (upd_ne (key h.ws nw)).trans h.ws⟩
  · exact List.length_pos_iff.mp h.rm.2.1
  · exact List.length_pos_iff.mp h.dv.2.1
theorem HeldAt.snoc {H : Hp} {hd : Addr} {ts : List Addr} {tss : List (List (List Str))} (h : HeldAt H hd ts tss) {t s k : Addr} {gs ks : List Addr} {xss : List (List Str)} (a : H t = some (.tup [.ref s, .ref k])) (b : H s = some (.lst (gs.map V.ref))) (c : H k = some (.lst (ks.map V.ref))) (d : Lists H gs xss) (e : Lists H ks xss) (g : GoodLs xss)
    (n1 : s ≠ hd) (n2 : k ≠ hd) (n3 : ∀ g ∈ gs, g ≠ hd) (n4 : ∀ g ∈ ks, g ≠ hd) : HeldAt H hd (ts ++ [t]) (tss ++ [xss]) := Paired.snoc h ⟨s, k, gs, ks, a, ⟨b, c, d, e, g⟩, n1, n2, n3, n4⟩
end SM
namespace SM
open PySem PySem.Spec PyProof.Rows L2
theorem NoTop.same {H H' : Hp} {A : MA} {S : LS} {g : Addr} (h : MdAt H A S) (n : NoTop H A g) (s : Same H H') : NoTop H' A g := by
  obtain ⟨⟨a, b, e1, _, _⟩, _⟩ := h
  exact NoTop.at (s _ _ e1) (n a b e1)
end SM
namespace SM
open PySem PySem.Spec PyProof.Rows L2
def RowsAt (G : Hp) (ss : List Addr) (tss : List (List (List Str))) : Prop := Paired (fun s xss => ∃ gs, G s = some (.lst (gs.map V.ref)) ∧ Lists G gs xss) ss tss
theorem RowsAt.same {G G' : Hp} (s : Same G G') : ∀ {ss : List Addr} {tss : List (List (List Str))}, RowsAt G ss tss → RowsAt G' ss tss
  | _, _, .nil => .nil
  | _, _, .cons h t => by
    obtain ⟨gs, a, b⟩ := h
    exact .cons ⟨gs, s _ _ a, b.same s⟩ (RowsAt.same s t)
theorem RowsAt.snoc {G : Hp} {ss : List Addr} {tss : List (List (List Str))} (h : RowsAt G ss tss) {s : Addr} {gs : List Addr} {xss : List (List Str)} (a : G s = some (.lst (gs.map V.ref))) (b : Lists G gs xss) : RowsAt G (ss ++ [s]) (tss ++ [xss]) := Paired.snoc h ⟨gs, a, b⟩
theorem RowsAt.dps {K : PySem.W.Frag} {G : Hp} : ∀ {ss : List Addr} {tss : List (List (List Str))}, RowsAt G ss tss → DpAll K G (ss.map V.ref) (tss.map rowsD)
  | _, _, .nil => .nil
  | _, _, .cons h t => by
    obtain ⟨gs, a, b⟩ := h
    exact .cons (b.dp a) (RowsAt.dps t)
end SM
/-! Part Q: copies of a layout and of its book. -/
namespace SM
open PySem PySem.Spec PyProof.Rows L2
def rDUpd : V → List V → Hp → VK → Prop := fun x vs H Q => ∃ a b kvs more, x = .ref a ∧ vs = [.ref b] ∧ a ≠ b ∧ H a = some (.dK kvs) ∧ H b = some (.dK more) ∧ kvs.length + more.length ≤ sizeLine ∧ Q .non (upd H a (.dK (mergeK kvs more)))
theorem mt_dupdate {X : Cx} : MtR X "dict.update" rDUpd := by
  intro pins s σ H x vs v us Q I rx rxs h
  obtain ⟨a, b, kvs, more, rfl, rfl, ne, ha, hb, hz, q⟩ := h
  cases rx
  obtain ⟨u, rfl, ru⟩ := rxs.one
  cases ru
  obtain ⟨za, loa, va, rela, da⟩ := dk_of I.hok ha
  obtain ⟨zb, lob, vb, relb, db⟩ := dk_of I.hok hb
  refine call_meetsIn PySem.F.slot_dict_update da.typeIs PySem.F.entry_dict_update (PySem.F.args_dict_update_2 _ _) (meets_dict_update (mixKind X.prog X.w) a b ne lob) ⟨va, vb, da, db, by rw [← rela.length, ← relb.length]; exact hz, fun h' dd' _ hs => ?_⟩
  have he : ∃ q, h'.get? a = some q := let ⟨q, _, _, hq, _⟩ := dd'; ⟨q, hq⟩
  exact ⟨.non, _, d_write (t' := s.toks) I (by rw [ha]; exact True.intro) hs he (dk_new (Nat.le_trans (length_mergeK more kvs) hz) loa (KV.merge relb rela) dd'), rfl, q⟩
theorem putF_here {f : Str} {v x : V} {r : List (Str × V)} : putF f v ((f, x) :: r) = (f, v) :: r := by
  show (if f = f then (f, v) :: r else _) = _
  rw [if_pos rfl]
theorem putF_r (A : LA) (d : Addr) : putF "_rooms" (.ref d) (lfl A) = lfl { A with r := d } := putF_here
theorem putF_l (A : LA) (d : Addr) : putF "_lines" (.ref d) (lfl A) = lfl { A with l := d } := by
  unfold lfl
  rw [putF_skip kRL, putF_here]
theorem putF_d (A : LA) (d : Addr) : putF "_drains" (.ref d) (lfl A) = lfl { A with d := d } := by
  unfold lfl
  rw [putF_skip kRD, putF_skip kLD, putF_here]
theorem putF_s (A : LA) (d : Addr) : putF "_sources" (.ref d) (lfl A) = lfl { A with s := d } := by
  unfold lfl
  rw [putF_skip kRS, putF_skip kLS, putF_skip kDS, putF_here]
section
variable {L : Addr} {H : Hp} {A : LA} {S : LS} {d dx : Addr} {kvs : List (Key × V)}
theorem offp {o : HO} {b : Addr} {k : List (Key × V)} (ob : H A.p = some (.ins L dx (lfl A))) (e : H b = some (.dK k)) : upd H A.p o b = some (.dK k) := by
  rw [upd_ne (ne_of e ob (by intro z; cases z))]
  exact e
theorem offt {o : HO} {v : V} {e : LineV} (ob : H A.p = some (.ins L dx (lfl A))) (h : LineG H v e) : LineG (upd H A.p o) v e := by
  obtain ⟨t, a, b⟩ := h
  exact ⟨t, a, by rw [upd_ne (ne_of b ob (by intro z; cases z))]; exact b⟩
theorem LayAt.newR (h : LayAt L H A S) (ob0 : H A.p = some (.ins L dx (lfl A))) {xs : List Str} (hd : H d = some (.dK kvs)) (k : Kr TrueG kvs (uT xs)) (n : d ∉ A.ms) : LayAt L (upd H A.p (.ins L dx (lfl { A with r := d }))) { A with r := d } { S with rooms := xs } := by
  obtain ⟨_, ⟨k1, r1, r2⟩, ⟨k2, l1, l2⟩, ⟨k3, d1, d2⟩, ⟨k4, s1, s2⟩, nd⟩ := h
  simp only [LA.ms, List.mem_cons, List.not_mem_nil, or_false, not_or, List.nodup_cons] at n nd
  refine ⟨⟨dx, upd_same⟩, ⟨kvs, offp ob0 hd, k⟩, ⟨k2, offp ob0 l1, l2.mono fun v e g => offt ob0 g⟩, ⟨k3, offp ob0 d1, d2⟩, ⟨k4, offp ob0 s1, s2⟩, ?_⟩
  simp only [LA.ms, List.mem_cons, List.not_mem_nil, or_false, not_or, List.nodup_cons]
  exact ⟨⟨n.2.1, n.2.2.1, n.2.2.2⟩, nd.2⟩
theorem LayAt.newL (h : LayAt L H A S) (ob0 : H A.p = some (.ins L dx (lfl A))) {xs : List (Str × LineV)} (hd : H d = some (.dK kvs)) (k : Kr (LineG H) kvs xs) (n : d ∉ A.ms) : LayAt L (upd H A.p (.ins L dx (lfl { A with l := d }))) { A with l := d } { S with lines := xs } := by
  obtain ⟨_, ⟨k1, r1, r2⟩, ⟨k2, l1, l2⟩, ⟨k3, d1, d2⟩, ⟨k4, s1, s2⟩, nd⟩ := h
  simp only [LA.ms, List.mem_cons, List.not_mem_nil, or_false, not_or, List.nodup_cons] at n nd
  refine ⟨⟨dx, upd_same⟩, ⟨k1, offp ob0 r1, r2⟩, ⟨kvs, offp ob0 hd, k.mono fun v e g => offt ob0 g⟩, ⟨k3, offp ob0 d1, d2⟩, ⟨k4, offp ob0 s1, s2⟩, ?_⟩
  simp only [LA.ms, List.mem_cons, List.not_mem_nil, or_false, not_or, List.nodup_cons]
  exact ⟨⟨fun w => n.1 w.symm, nd.1.2.1, nd.1.2.2⟩, ⟨n.2.2.1, n.2.2.2⟩, nd.2.2⟩
theorem LayAt.newD (h : LayAt L H A S) (ob0 : H A.p = some (.ins L dx (lfl A))) {xs : List (Str × Str)} (hd : H d = some (.dK kvs)) (k : Kr StrG kvs xs) (n : d ∉ A.ms) : LayAt L (upd H A.p (.ins L dx (lfl { A with d := d }))) { A with d := d } { S with drains := xs } := by
  obtain ⟨_, ⟨k1, r1, r2⟩, ⟨k2, l1, l2⟩, ⟨k3, d1, d2⟩, ⟨k4, s1, s2⟩, nd⟩ := h
  simp only [LA.ms, List.mem_cons, List.not_mem_nil, or_false, not_or, List.nodup_cons] at n nd
  refine ⟨⟨dx, upd_same⟩, ⟨k1, offp ob0 r1, r2⟩, ⟨k2, offp ob0 l1, l2.mono fun v e g => offt ob0 g⟩, ⟨kvs, offp ob0 hd, k⟩, ⟨k4, offp ob0 s1, s2⟩, ?_⟩
  simp only [LA.ms, List.mem_cons, List.not_mem_nil, or_false, not_or, List.nodup_cons]
  exact ⟨⟨nd.1.1, fun w => n.1 w.symm, nd.1.2.2⟩, ⟨fun w => n.2.1 w.symm, nd.2.1.2⟩, n.2.2.2, nd.2.2.2⟩
theorem LayAt.newS (h : LayAt L H A S) (ob0 : H A.p = some (.ins L dx (lfl A))) {xs : List Str} (hd : H d = some (.dK kvs)) (k : Kr TrueG kvs (uT xs)) (n : d ∉ A.ms) : LayAt L (upd H A.p (.ins L dx (lfl { A with s := d }))) { A with s := d } { S with sources := xs } := by
  obtain ⟨_, ⟨k1, r1, r2⟩, ⟨k2, l1, l2⟩, ⟨k3, d1, d2⟩, ⟨k4, s1, s2⟩, nd⟩ := h
  simp only [LA.ms, List.mem_cons, List.not_mem_nil, or_false, not_or, List.nodup_cons] at n nd
  refine ⟨⟨dx, upd_same⟩, ⟨k1, offp ob0 r1, r2⟩, ⟨k2, offp ob0 l1, l2.mono fun v e g => offt ob0 g⟩, ⟨k3, offp ob0 d1, d2⟩, ⟨kvs, offp ob0 hd, k⟩, ?_⟩
  simp only [LA.ms, List.mem_cons, List.not_mem_nil, or_false, not_or, List.nodup_cons]
  exact ⟨⟨nd.1.1, nd.1.2.1, fun w => n.1 w.symm⟩, ⟨nd.2.1.1, fun w => n.2.1 w.symm⟩, fun w => n.2.2.1 w.symm, nd.2.2.2⟩
end
/-- copied() -/
def spCopied (L : Addr) : Sp := fun vs H Q _ => ∃ (A : LA) (S : LS), vs = [.ref A.p] ∧ LayAt L H A S ∧ S.Ok ∧ ∀ (A' : LA) (H' : Hp), LayAt L H' A' S → Same H H' → (∀ b ∈ A'.ms, H b = none) → Q (.ref A'.p) H'
/-- _law_twin(m) -/
def spTwinL : Sp := fun vs H Q _ => ∃ (B : MA) (S : LS), vs = [.ref B.m] ∧ MdAt H B S ∧ S.Ok ∧ ∀ (B' : MA) (H' : Hp), MdAt H' B' S → Same H H' → (∀ b ∈ B'.ms, H b = none) → Q (.ref B'.m) H'
end SM
namespace SM
open PySem PySem.Spec PyProof.Rows L2
def tw1 (a b : Addr) : List (Key × V) := [(Sum.inr "rooms", .ref a), (Sum.inr "sources", .ref b)]
def tw2 (l d : Addr) : List (Key × V) := [(Sum.inr "lines", .ref l), (Sum.inr "drains", .ref d)]
theorem tw1_merge (a b : Addr) : mergeK [] (tw1 a b) = tw1 a b := by
  have n0 : valV ([] : List (Key × V)) (Sum.inr "rooms") = none := rfl
  have n1 : valV ([(Sum.inr "rooms", .ref a)] : List (Key × V)) (Sum.inr "sources") = none := by rw [valV_neg kq3]; rfl
  show putK (putK ([] : List (Key × V)) (Sum.inr "rooms") (.ref a)) (Sum.inr "sources") (.ref b) = _
  rw [putK_new _ n0]
  show putK ([(Sum.inr "rooms", .ref a)] : List (Key × V)) (Sum.inr "sources") (.ref b) = _
  rw [putK_new _ n1]
  rfl
theorem tw2_merge (l d : Addr) : mergeK [] (tw2 l d) = tw2 l d := by
  have n0 : valV ([] : List (Key × V)) (Sum.inr "lines") = none := rfl
  have n1 : valV ([(Sum.inr "lines", .ref l)] : List (Key × V)) (Sum.inr "drains") = none := by rw [valV_neg kq4]; rfl
  show putK (putK ([] : List (Key × V)) (Sum.inr "lines") (.ref l)) (Sum.inr "drains") (.ref d) = _
  rw [putK_new _ n0]
  show putK ([(Sum.inr "lines", .ref l)] : List (Key × V)) (Sum.inr "drains") (.ref d) = _
  rw [putK_new _ n1]
  rfl
theorem tw_merge (m l d a b : Addr) : mergeK (tw1 a b) (tw2 l d) = mtop ⟨m, l, d, true⟩ a b := by
  rw [mtop_t (A := ⟨m, l, d, true⟩) rfl]
  have n2 : valV ([(Sum.inr "rooms", .ref a), (Sum.inr "sources", .ref b)] : List (Key × V)) (Sum.inr "lines") = none := by rw [valV_neg kq1, valV_neg (Ne.symm kq5)]; rfl
  have n3 : valV ([(Sum.inr "rooms", .ref a), (Sum.inr "sources", .ref b), (Sum.inr "lines", .ref l)] : List (Key × V)) (Sum.inr "drains") = none := by rw [valV_neg kq2, valV_neg (Ne.symm kq6), valV_neg kq4]; rfl
  show putK (putK ([(Sum.inr "rooms", .ref a), (Sum.inr "sources", .ref b)] : List (Key × V)) (Sum.inr "lines") (.ref l)) (Sum.inr "drains") (.ref d) = _
  rw [putK_new _ n2]
  show putK ([(Sum.inr "rooms", .ref a), (Sum.inr "sources", .ref b), (Sum.inr "lines", .ref l)] : List (Key × V)) (Sum.inr "drains") (.ref d) = _
  rw [putK_new _ n3]
  rfl
end SM
namespace SM
open PySem PySem.Spec PyProof.Rows L2
/-- one more layout with its book -/
theorem Fam.snoc {L : Addr} {G G1 : Hp} {bt : Addr} {ts : List Addr} {Bs : List LMS} (f : Fam L G bt ts Bs) (s : Same G G1) {x : LMS} (hB : Both L G1 x.1 x.2.1 x.2.2) (fr : ∀ b ∈ msOf x, G b = none) {t : Addr} (ht : G1 t = some (.tup [.ref x.1.p, .ref x.2.1.m])) (ne : ts ≠ []) :
    Fam L (upd G1 bt (.lst ((ts ++ [t]).map V.ref))) bt (ts ++ [t]) (Bs ++ [x]) ∧ Keep [bt] G1 (upd G1 bt (.lst ((ts ++ [t]).map V.ref))) := by
  have f1 := f.same s
  have k : Keep [bt] G1 (upd G1 bt (.lst ((ts ++ [t]).map V.ref))) := Keep.at f1.top (by simp) (fun _ z => by cases z) (fun _ _ _ z => by cases z) fun xs z => by
    cases z
    cases ts with
    | nil => exact absurd rfl ne
    | cons a r => rfl
  have offB : ∀ {y : LMS}, Both L G1 y.1 y.2.1 y.2.2 → ∀ b ∈ [bt], b ∉ y.1.ms ∧ b ∉ y.2.1.ms := fun {y} c b hb => by
    rw [List.mem_singleton.mp hb]
    have q := c.nolist f1.top
    exact ⟨fun w => q (List.mem_append_left _ w), fun w => q (List.mem_append_right _ w)⟩
  refine ⟨⟨upd_same, by rw [List.length_append, List.length_append, f.len]; rfl, fun i y e => ?_, fun i j y z n e1 e2 => ?_⟩, k⟩
  · by_cases l : i < Bs.length
    · rw [List.getElem?_append_left l] at e
      obtain ⟨t', a, b, c⟩ := f1.at_ i y e
      exact ⟨t', by rw [List.getElem?_append_left (by rw [f.len]; exact l)]; exact a, k.tup _ _ b, c.keep k (offB c)⟩
    · have e' := e
      rw [List.getElem?_append_right (by omega)] at e'
      have z : i - Bs.length = 0 := by
        have := (List.getElem?_eq_some_iff.mp e').1
        simpa using this
      rw [z] at e'
      cases e'
      refine ⟨t, ?_, k.tup _ _ ht, hB.keep k (offB hB)⟩
      rw [List.getElem?_append_right (by rw [f.len]; omega), f.len, z]
      rfl
  · have there : ∀ {y : LMS}, (∃ t, ts[0]? = t) → Both L G y.1 y.2.1 y.2.2 → ∀ b ∈ msOf y, G b ≠ none := fun {y} _ c b hb z => by
      rcases List.mem_append.mp hb with w | w
      · obtain ⟨kk, q⟩ := c.lay.dks b w
        rw [q] at z
        cases z
      · obtain ⟨kk, q⟩ := c.md.dks b w
        rw [q] at z
        cases z
    have last : ∀ {i : Nat} {y : LMS}, (Bs ++ [x])[i]? = some y → ¬ i < Bs.length → y = x ∧ i = Bs.length := fun {i y} e l => by
      have e' := e
      rw [List.getElem?_append_right (by omega)] at e'
      have z : i - Bs.length = 0 := by
        have := (List.getElem?_eq_some_iff.mp e').1
        simpa using this
      rw [z] at e'
      cases e'
      exact ⟨rfl, by omega⟩
    by_cases l1 : i < Bs.length
    · have e1' := e1
      rw [List.getElem?_append_left l1] at e1'
      obtain ⟨t1, _, _, c1⟩ := f.at_ i y e1'
      by_cases l2 : j < Bs.length
      · have e2' := e2
        rw [List.getElem?_append_left l2] at e2'
        exact f.apart i j y z n e1' e2'
      · obtain ⟨rfl, _⟩ := last e2 l2
        exact fun b hb w => there ⟨_, rfl⟩ c1 b hb (fr b w)
    · obtain ⟨rfl, i1⟩ := last e1 l1
      by_cases l2 : j < Bs.length
      · have e2' := e2
        rw [List.getElem?_append_left l2] at e2'
        obtain ⟨t2, _, _, c2⟩ := f.at_ j z e2'
        exact fun b hb w => there ⟨_, rfl⟩ c2 b w (fr b hb)
      · obtain ⟨_, i2⟩ := last e2 l2
        omega
theorem Rest.kept {G G' : Hp} {p q rm dv c : Addr} {rs ds ws : List Str} {ms : List Addr} (h : Rest G p q rm dv c rs ds ws) (k : Keep ms G G') (n : p ∉ ms) : Rest G' p q rm dv c rs ds ws := h.keep k (h.bag.kept k n)
theorem both_twin {L : Addr} {H1 H2 : Hp} {A : LA} {M : MA} {S : LS} (hL : LayAt L H1 A S) (s : Same H1 H2) (hM : MdAt H2 M S) (o : S.Ok) (f : ∀ b ∈ M.ms, H1 b = none) : Both L H2 A M S :=
  ⟨hL.same s, hM, o, fun b hb w => by
    obtain ⟨kk, q⟩ := hL.dks b hb
    rw [f b w] at q
    cases q⟩
end SM
/-! Part R: wrong arguments. -/
namespace SM
open PySem PySem.Spec PyProof.Rows L2
theorem log2_30 {m : Int} (h0 : 0 < m) (h1 : m < 1073741824) : m.natAbs.log2 < 9000 := Nat.lt_of_lt_of_le (PySem.Flt.log2_lt_of (k := 30) (by decide) (by omega)) (by decide)
def spTakeW : Sp := fun vs H Q _ => ∃ (p q : Addr) (m : Int), vs = [.ref p, .int m] ∧ Bag H p q ∧ 0 < m ∧ m.natAbs.log2 < 9000 ∧
  ∀ (v : Int) (H' : Hp), 0 ≤ v → v < m → Bag H' p q → But p H H' → Q (.int v) H'
/-- what is of a type stays so -/
def TyK (K : PySem.W.Frag) (H H' : Hp) : Prop := ∀ x t, TyX K H x t → TyX K H' x t
theorem TyK.of {K : PySem.W.Frag} {H H' : Hp} (s : Same H H') : TyK K H H' := fun _ _ h => tyX_same h s
theorem TyK.trans {K : PySem.W.Frag} {H H1 H2 : Hp} (a : TyK K H H1) (b : TyK K H1 H2) : TyK K H H2 := fun x t h => b x t (a x t h)
theorem TyK.lst {K : PySem.W.Frag} {H H' : Hp} {d : Addr} {xs ys : List V} (h : H d = some (.lst xs)) (h' : H' d = some (.lst ys)) (o : ∀ b, b ≠ d → H' b = H b) : TyK K H H' := by
  have off : ∀ {a : Addr} {u : HO}, H a = some u → (∀ zs, u ≠ .lst zs) → H' a = some u := fun {a u} e n => by
    rw [o a fun z => by rw [z, h] at e; exact n xs (Option.some.inj e).symm]
    exact e
  intro x t ty
  cases ty with
  | base b =>
    refine .base ?_
    cases b with
    | non => exact .non
    | bl b => exact .bl b
    | int i => exact .int i
    | str z => exact .str z
    | flt z => exact .flt z
    | @lst a zs e =>
      by_cases z : a = d
      · rw [z]
        exact .lst h'
      · exact .lst ((o a z).trans e)
    | frz e => exact .frz (off e fun _ z => by cases z)
    | tup e => exact .tup (off e fun _ z => by cases z)
    | dK e => exact .dK (off e fun _ z => by cases z)
    | dT e => exact .dT (off e fun _ z => by cases z)
    | ins e c1 c2 c3 c4 c5 => exact .ins (off e fun _ z => by cases z) c1 c2 c3 c4 c5
  | byt b => exact .byt b
  | set e => exact .set (off e fun _ z => by cases z)
  | kList a b => exact .kList a b
  | kTuple a b => exact .kTuple a b
  | kDict a b => exact .kDict a b
  | fTuple e => exact .fTuple (off e fun _ z => by cases z)
  | fDict e => exact .fDict (off e fun _ z => by cases z)
theorem TyK.bag {K : PySem.W.Frag} {H H' : Hp} {p q : Addr} (B : Bag H p q) (B' : Bag H' p q) (o : But p H H') : TyK K H H' := by
  obtain ⟨_, _, _, _, B⟩ := B
  obtain ⟨_, _, _, _, B'⟩ := B'
  exact TyK.lst B.top B'.top o
theorem NameQ.tyk {K : PySem.W.Frag} {H H' : Hp} {x : V} {b : Bool} (h : NameQ K H x b) (e : TyK K H H') : NameQ K H' x b := by
  rcases h with h | ⟨h, t, ty, q⟩
  · exact .inl h
  · exact .inr ⟨h, t, e _ _ ty, q⟩
theorem CostQ.tyk {K : PySem.W.Frag} {H H' : Hp} {x : V} {b : Bool} (h : CostQ K H x b) (e : TyK K H H') : CostQ K H' x b := by
  rcases h with h | ⟨h, t, i, j, ty, q⟩
  · exact .inl h
  · exact .inr ⟨h, t, i, j, e _ _ ty, q⟩
/-! no names, no costs -/
section
variable {K : PySem.W.Frag} {H : Hp}
theorem noName_str {z : Str} (h : okName z = false) (l : z.cps.size ≤ 100) : NameQ K H (.str z) false := .inl ⟨z, rfl, Nat.le_trans l (by decide), h.symm⟩
theorem noName_int (i : Int) : NameQ K H (.int i) false := .inr ⟨rfl, _, .base (.int i), kit_ty (by decide +kernel)⟩
theorem noName_bl (b : Bool) : NameQ K H (.bl b) false := .inr ⟨rfl, _, .base (.bl b), kit_ty (by decide +kernel)⟩
theorem noName_non : NameQ K H .non false := .inr ⟨rfl, _, .base .non, kit_ty (by decide +kernel)⟩
theorem noName_lst {a : Addr} {xs : List V} (e : H a = some (.lst xs)) : NameQ K H (.ref a) false := .inr ⟨rfl, _, .base (.lst e), kit_ty (by decide +kernel)⟩
theorem noName_tup {a : Addr} {xs : List V} (e : H a = some (.tup xs)) : NameQ K H (.ref a) false := .inr ⟨rfl, _, .base (.tup e), kit_ty (by decide +kernel)⟩
theorem noName_dK {a : Addr} {xs : List (Key × V)} (e : H a = some (.dK xs)) : NameQ K H (.ref a) false := .inr ⟨rfl, _, .base (.dK e), kit_ty (by decide +kernel)⟩
theorem noCost_int {i : Int} (h : okCost i = false) : CostQ K H (.int i) false := .inl ⟨i, rfl, h.symm⟩
theorem noCost_bl (b : Bool) : CostQ K H (.bl b) false := .inr ⟨rfl, _, true, true, .base (.bl b), kit_ty (by decide +kernel), kit_ty (by decide +kernel), rfl⟩
theorem noCost_non : CostQ K H .non false := .inr ⟨rfl, _, false, false, .base .non, kit_ty (by decide +kernel), kit_ty (by decide +kernel), rfl⟩
theorem noCost_str (z : Str) : CostQ K H (.str z) false := .inr ⟨rfl, _, false, false, .base (.str z), kit_ty (by decide +kernel), kit_ty (by decide +kernel), rfl⟩
theorem noCost_lst {a : Addr} {xs : List V} (e : H a = some (.lst xs)) : CostQ K H (.ref a) false := .inr ⟨rfl, _, false, false, .base (.lst e), kit_ty (by decide +kernel), kit_ty (by decide +kernel), rfl⟩
theorem noCost_tup {a : Addr} {xs : List V} (e : H a = some (.tup xs)) : CostQ K H (.ref a) false := .inr ⟨rfl, _, false, false, .base (.tup e), kit_ty (by decide +kernel), kit_ty (by decide +kernel), rfl⟩
theorem noCost_dK {a : Addr} {xs : List (Key × V)} (e : H a = some (.dK xs)) : CostQ K H (.ref a) false := .inr ⟨rfl, _, false, false, .base (.dK e), kit_ty (by decide +kernel), kit_ty (by decide +kernel), rfl⟩
end
def spBadName (K : PySem.W.Frag) : Sp := fun vs H Q _ => ∃ (p q : Addr), vs = [.ref p] ∧ Bag H p q ∧ ∀ (v : V) (H' : Hp), NameQ K H' v false → Bag H' p q → Keep [p] H H' → TyK K H H' → Q v H'
def spBadCost (K : PySem.W.Frag) : Sp := fun vs H Q _ => ∃ (p q : Addr), vs = [.ref p] ∧ Bag H p q ∧ ∀ (v : V) (H' : Hp), CostQ K H' v false → Bag H' p q → Keep [p] H H' → TyK K H H' → Q v H'
/-- words of one name -/
def W1s : List Str := ["add_room", "add_source", "take_room", "take_line", "take_drain", "take_source"]
def W3s : List Str := ["line", "drain", "lines_at"]
/-- a deed, or a question -/
def DoorV (xs : List V) : Prop := (∃ D : Deed, D.Good ∧ xs = D.vs) ∨ ∃ (w z : Str), w ∈ W3s ∧ okName z = true ∧ xs = [.str w, .str z]
def spAnyDoor : Sp := fun vs H Q _ => ∃ (p q a b : Addr) (rs ds : List Str), vs = [.ref p, .ref a, .ref b] ∧ Bag H p q ∧ NamesAt H a rs ∧ NamesAt H b ds ∧ ∀ (t : Addr) (xs : List V) (H' : Hp), DoorV xs → H' t = some (.tup xs) → Bag H' p q → Keep [p] H H' → Q (.ref t) H'
/-- a deed or a question with a first wrong argument at at_ -/
inductive Spo (K : PySem.W.Frag) (H : Hp) : List V → Nat → Prop where
  | one {w : Str} {x : V} (hw : w ∈ W1s ∨ w ∈ W3s) (n : NameQ K H x false) : Spo K H [.str w, x] 0
  | dr {x y : V} {b c : Bool} {j : Nat} (n : NameQ K H x b) (m : NameQ K H y c) (h : (b = false ∧ j = 0) ∨ (b = true ∧ c = false ∧ j = 1)) : Spo K H [.str "add_drain", x, y] j
  | ln {x y z u : V} {b1 b2 b3 b4 : Bool} {j : Nat} (n1 : NameQ K H x b1) (n2 : NameQ K H y b2) (n3 : NameQ K H z b3) (n4 : CostQ K H u b4)
      (h : (b1 = false ∧ j = 0) ∨ (b1 = true ∧ b2 = false ∧ j = 1) ∨ (b1 = true ∧ b2 = true ∧ (b3 = false ∨ z = y) ∧ j = 2) ∨ (b1 = true ∧ b2 = true ∧ b3 = true ∧ z ≠ y ∧ b4 = false ∧ j = 3)) : Spo K H [.str "add_line", x, y, z, u] j
theorem Spo.tyk {K : PySem.W.Frag} {H H' : Hp} {xs : List V} {j : Nat} (h : Spo K H xs j) (e : TyK K H H') : Spo K H' xs j := by
  cases h with
  | one hw n => exact .one hw (n.tyk e)
  | dr n m h => exact .dr (n.tyk e) (m.tyk e) h
  | ln a b c d h => exact .ln (a.tyk e) (b.tyk e) (c.tyk e) (d.tyk e) h
def spSpoilt (K : PySem.W.Frag) : Sp := fun vs H Q _ => ∃ (p q t : Addr) (xs : List V), vs = [.ref p, .ref t] ∧ Bag H p q ∧ DoorV xs ∧ H t = some (.tup xs) ∧
  ∀ (r t' : Addr) (ys : List V) (j : Nat) (H' : Hp), Spo K H' ys j → H' t' = some (.tup ys) → H' r = some (.tup [.ref t', .int (j : Int)]) → j ≤ 3 → Bag H' p q → Keep [p] H H' → Q (.ref r) H'
/-- _law_call of a wrong deed -/
def spCallW (K : PySem.W.Frag) (C : Nat → Addr) (L : Addr) : Sp := fun vs H Q E => ∃ (A : LA) (S : LS) (t : Addr) (xs : List V) (j : Nat), vs = [.ref A.p, .ref t] ∧ LayAt L H A S ∧ S.Ok ∧ H t = some (.tup xs) ∧ Spo K H xs j ∧ (∀ w x, xs = [.str w, x] → w ∈ W1s) ∧ Ref C 0 (.int (j : Int)) H E
def spClassW (C : Nat → Addr) : Addr → Value → Option Addr → Sp := fun a c d vs H Q _ => ∃ (i : Int) (dd : Addr), c = .ref (C 0) ∧ d = some dd ∧ H dd = some (.xd [("at", .int i)]) ∧ vs = [.ref a] ∧
  ∀ (H' : Hp) (t : Addr), Same H H' → H' t = some (.tup [.str "Wrong", .int i]) → Q (.ref t) H'
def spAskedW (K : PySem.W.Frag) (L : Addr) : Sp := fun vs H Q _ => ∃ (A : LA) (S : LS) (t : Addr) (xs : List V) (j : Nat), vs = [.ref A.p, .ref t] ∧ LayAt L H A S ∧ S.Ok ∧ H t = some (.tup xs) ∧ Spo K H xs j ∧
  ∀ (H' : Hp) (t1 t2 : Addr), Same H H' → H' t1 = some (.tup [.str "refused", .ref t2]) → H' t2 = some (.tup [.str "Wrong", .int (j : Int)]) → Q (.ref t1) H'
end SM
namespace SM
open PySem PySem.Spec PyProof.Rows L2
/-! a deed while it is spoilt -/
def BadAt (K : PySem.W.Frag) (H : Hp) (ws : List Nat) (ys : List V) (j : Nat) (v : V) : Prop := (j = 3 ∧ CostQ K H v false) ∨ (j ≠ 3 ∧ NameQ K H v false) ∨ (j = 2 ∧ 1 ∉ ws ∧ ys[2]? = some v)
structure SpSt (K : PySem.W.Frag) (H : Hp) (xs0 : List V) (n first i : Nat) (ys : List V) (ws : List Nat) : Prop where
  len : ys.length = n + 1
  hd : ys[0]? = xs0[0]?
  good : ∀ j, j < n → j ∉ ws → ys[j + 1]? = xs0[j + 1]?
  bad : ∀ j, j ∈ ws → j < i ∧ ∃ v, ys[j + 1]? = some v ∧ BadAt K H ws ys j v
  up : ws.Pairwise (· < ·)
  fst : first < i → first ∈ ws
theorem BadAt.tyk {K : PySem.W.Frag} {H H' : Hp} {ws : List Nat} {ys : List V} {j : Nat} {v : V} (h : BadAt K H ws ys j v) (e : TyK K H H') : BadAt K H' ws ys j v := by
  rcases h with ⟨a, b⟩ | ⟨a, b⟩ | h
  · exact .inl ⟨a, b.tyk e⟩
  · exact .inr (.inl ⟨a, b.tyk e⟩)
  · exact .inr (.inr h)
theorem SpSt.tyk {K : PySem.W.Frag} {H H' : Hp} {xs0 : List V} {n first i : Nat} {ys : List V} {ws : List Nat} (h : SpSt K H xs0 n first i ys ws) (e : TyK K H H') : SpSt K H' xs0 n first i ys ws :=
  { len := h.len, hd := h.hd, good := h.good, up := h.up, fst := h.fst
    bad := fun j hj => by
      obtain ⟨a, v, b, c⟩ := h.bad j hj
      exact ⟨a, v, b, c.tyk e⟩ }
theorem SpSt.skip {K : PySem.W.Frag} {H : Hp} {xs0 : List V} {n first i : Nat} {ys : List V} {ws : List Nat} (h : SpSt K H xs0 n first i ys ws) (ne : i ≠ first) : SpSt K H xs0 n first (i + 1) ys ws :=
  { len := h.len, hd := h.hd, good := h.good, up := h.up, fst := fun l => h.fst (by omega)
    bad := fun j hj => by
      obtain ⟨a, v, b, c⟩ := h.bad j hj
      exact ⟨by omega, v, b, c⟩ }
theorem SpSt.put {K : PySem.W.Frag} {H : Hp} {xs0 : List V} {n first i : Nat} {ys : List V} {ws : List Nat} (h : SpSt K H xs0 n first i ys ws) (hi : i < n) {v : V} (b : (i = 3 ∧ CostQ K H v false) ∨ (i ≠ 3 ∧ NameQ K H v false) ∨ (i = 2 ∧ 1 ∉ ws ∧ ys[2]? = some v)) :
    SpSt K H xs0 n first (i + 1) (ys.set (i + 1) v) (ws ++ [i]) := by
  have lt : i + 1 < ys.length := by rw [h.len]; omega
  refine ⟨by rw [List.length_set]; exact h.len, ?_, fun j hj nj => ?_, fun j hj => ?_, ?_, fun l => ?_⟩
  · rw [List.getElem?_set_ne (by omega)]
    exact h.hd
  · have n1 : j ≠ i := fun z => nj (by simp [z])
    have n2 : j ∉ ws := fun z => nj (by simp [z])
    rw [List.getElem?_set_ne (by omega)]
    exact h.good j hj n2
  · rcases List.mem_append.mp hj with hj | hj
    · obtain ⟨a, u, c, d⟩ := h.bad j hj
      refine ⟨by omega, u, by rw [List.getElem?_set_ne (by omega)]; exact c, ?_⟩
      rcases d with d | d | ⟨d1, d2, d3⟩
      · exact .inl d
      · exact .inr (.inl d)
      · refine .inr (.inr ⟨d1, fun z => ?_, by rw [List.getElem?_set_ne (by omega)]; exact d3⟩)
        rcases List.mem_append.mp z with z | z
        · exact d2 z
        · have := List.mem_singleton.mp z
          omega
    · rw [List.mem_singleton.mp hj]
      refine ⟨by omega, v, by rw [List.getElem?_set_self lt], ?_⟩
      rcases b with b | b | ⟨b1, b2, b3⟩
      · exact .inl b
      · exact .inr (.inl b)
      · refine .inr (.inr ⟨b1, fun z => ?_, by rw [List.getElem?_set_ne (by omega)]; exact b3⟩)
        rcases List.mem_append.mp z with z | z
        · exact b2 z
        · have := List.mem_singleton.mp z
          omega
  · refine List.pairwise_append.mpr ⟨h.up, List.pairwise_singleton _ _, fun a ha b hb => ?_⟩
    rw [List.mem_singleton.mp hb]
    exact (h.bad a ha).1
  · by_cases z : first < i
    · exact List.mem_append_left _ (h.fst z)
    · have : first = i := by omega
      rw [this]
      simp
theorem SpSt.start {K : PySem.W.Frag} {H : Hp} {xs0 : List V} {n first : Nat} (l : xs0.length = n + 1) : SpSt K H xs0 n first 0 xs0 [] :=
  { len := l, hd := rfl, good := fun _ _ _ => rfl, bad := fun _ h => (nomatch h), up := List.Pairwise.nil, fst := fun h => absurd h (Nat.not_lt_zero _) }
theorem door_len {xs : List V} (h : DoorV xs) : xs.length = 2 ∨ xs.length = 3 ∨ xs.length = 5 := by
  rcases h with ⟨D, g, rfl⟩ | ⟨w, z, _, _, rfl⟩
  · cases D <;> simp [Deed.vs]
  · exact .inl rfl
theorem spo_one {K : PySem.W.Frag} {H : Hp} {w z : Str} {first : Nat} {ys : List V} {ws : List Nat} {j : Nat} (hw : w ∈ W1s ∨ w ∈ W3s) (h : SpSt K H [.str w, .str z] 1 first 1 ys ws) (hj : j ∈ ws) : Spo K H ys j := by
  obtain ⟨a, v, b, c⟩ := h.bad j hj
  have j0 : j = 0 := by omega
  subst j0
  have l := h.len
  match ys, l, b, h.hd with
  | [y0, y1], _, b, e0 =>
    have e0' : y0 = .str w := by simpa using e0
    have e1 : y1 = v := by simpa using b
    subst e0' e1
    rcases c with ⟨c, _⟩ | ⟨_, c⟩ | ⟨c, _⟩
    · omega
    · exact .one hw c
    · omega
theorem min_at {ws : List Nat} {j : Nat} (h : ws[0]? = some j) (up : ws.Pairwise (· < ·)) : j ∈ ws ∧ ∀ k, k < j → k ∉ ws := by
  match ws, h, up with
  | a :: r, h, up =>
    have e : a = j := by simpa using h
    subst e
    refine ⟨List.mem_cons_self, fun k hk hm => ?_⟩
    rcases List.mem_cons.mp hm with z | z
    · omega
    · have := (List.pairwise_cons.mp up).1 k z
      omega
theorem spo_dr {K : PySem.W.Frag} {H : Hp} {x r : Str} {first : Nat} {ys : List V} {ws : List Nat} {j : Nat} (gx : okName x = true) (gr : okName r = true) (h : SpSt K H [.str "add_drain", .str x, .str r] 2 first 2 ys ws) (hj : ws[0]? = some j) : Spo K H ys j := by
  obtain ⟨mj, mn⟩ := min_at hj h.up
  have l := h.len
  have bj := (h.bad j mj).1
  match ys, l, h with
  | [y0, y1, y2], _, h =>
    have e0 : y0 = .str "add_drain" := by simpa using h.hd
    subst e0
    have q0 : ∃ b, NameQ K H y1 b ∧ (0 ∈ ws → b = false) ∧ (0 ∉ ws → b = true) := by
      by_cases z : 0 ∈ ws
      · obtain ⟨_, v, b, c⟩ := h.bad 0 z
        have e1 : y1 = v := by simpa using b
        subst e1
        rcases c with ⟨c, _⟩ | ⟨_, c⟩ | ⟨c, _⟩
        · omega
        · exact ⟨false, c, fun _ => rfl, fun w => absurd z w⟩
        · omega
      · have e1 : y1 = .str x := by simpa using h.good 0 (by decide) z
        subst e1
        exact ⟨true, NameQ.of gx, fun w => absurd w z, fun _ => rfl⟩
    have q1 : ∃ b, NameQ K H y2 b ∧ (1 ∈ ws → b = false) := by
      by_cases z : 1 ∈ ws
      · obtain ⟨_, v, b, c⟩ := h.bad 1 z
        have e1 : y2 = v := by simpa using b
        subst e1
        rcases c with ⟨c, _⟩ | ⟨_, c⟩ | ⟨c, _⟩
        · omega
        · exact ⟨false, c, fun _ => rfl⟩
        · omega
      · have e1 : y2 = .str r := by simpa using h.good 1 (by decide) z
        subst e1
        exact ⟨true, NameQ.of gr, fun w => absurd w z⟩
    obtain ⟨b, nb, b1, b2⟩ := q0
    obtain ⟨c, nc, c1⟩ := q1
    refine .dr nb nc ?_
    have : j = 0 ∨ j = 1 := by omega
    rcases this with rfl | rfl
    · exact .inl ⟨b1 mj, rfl⟩
    · exact .inr ⟨b2 (mn 0 (by decide)), c1 mj, rfl⟩
theorem spo_ln {K : PySem.W.Frag} {H : Hp} {x a b : Str} {c : Int} {first : Nat} {ys : List V} {ws : List Nat} {j : Nat} (g : (Deed.addLine x a b c).Good) (h : SpSt K H [.str "add_line", .str x, .str a, .str b, .int c] 4 first 4 ys ws) (hj : ws[0]? = some j) : Spo K H ys j := by
  obtain ⟨mj, mn⟩ := min_at hj h.up
  have l := h.len
  have bj := (h.bad j mj).1
  match ys, l, h with
  | [y0, y1, y2, y3, y4], _, h =>
    have e0 : y0 = .str "add_line" := by simpa using h.hd
    subst e0
    have q0 : ∃ b, NameQ K H y1 b ∧ (0 ∈ ws → b = false) ∧ (0 ∉ ws → b = true) := by
      by_cases z : 0 ∈ ws
      · obtain ⟨_, v, b, c⟩ := h.bad 0 z
        have e1 : y1 = v := by simpa using b
        subst e1
        rcases c with ⟨c, _⟩ | ⟨_, c⟩ | ⟨c, _⟩
        · omega
        · exact ⟨false, c, fun _ => rfl, fun w => absurd z w⟩
        · omega
      · have e1 : y1 = .str x := by simpa using h.good 0 (by decide) z
        subst e1
        exact ⟨true, NameQ.of g.1, fun w => absurd w z, fun _ => rfl⟩
    have q1 : ∃ b, NameQ K H y2 b ∧ (1 ∈ ws → b = false) ∧ (1 ∉ ws → b = true ∧ y2 = .str a) := by
      by_cases z : 1 ∈ ws
      · obtain ⟨_, v, b, c⟩ := h.bad 1 z
        have e1 : y2 = v := by simpa using b
        subst e1
        rcases c with ⟨c, _⟩ | ⟨_, c⟩ | ⟨c, _⟩
        · omega
        · exact ⟨false, c, fun _ => rfl, fun w => absurd z w⟩
        · omega
      · have e1 : y2 = .str a := by simpa using h.good 1 (by decide) z
        subst e1
        exact ⟨true, NameQ.of g.2.1, fun w => absurd w z, fun _ => ⟨rfl, rfl⟩⟩
    have q2 : ∃ t, NameQ K H y3 t ∧ (2 ∈ ws → t = false ∨ y3 = y2) ∧ (2 ∉ ws → t = true ∧ y3 = .str b) := by
      by_cases z : 2 ∈ ws
      · obtain ⟨_, v, u, c⟩ := h.bad 2 z
        have e1 : y3 = v := by simpa using u
        subst e1
        rcases c with ⟨c, _⟩ | ⟨_, c⟩ | ⟨_, c1, c2⟩
        · omega
        · exact ⟨false, c, fun _ => .inl rfl, fun w => absurd z w⟩
        · have e2 : y2 = y3 := by simpa using c2
          have e3 : y2 = .str a := by simpa using h.good 1 (by decide) c1
          exact ⟨true, by rw [← e2, e3]; exact NameQ.of g.2.1, fun _ => .inr e2.symm, fun w => absurd z w⟩
      · have e1 : y3 = .str b := by simpa using h.good 2 (by decide) z
        subst e1
        exact ⟨true, NameQ.of g.2.2.1, fun w => absurd w z, fun _ => ⟨rfl, rfl⟩⟩
    have q3 : ∃ b, CostQ K H y4 b ∧ (3 ∈ ws → b = false) := by
      by_cases z : 3 ∈ ws
      · obtain ⟨_, v, b, c⟩ := h.bad 3 z
        have e1 : y4 = v := by simpa using b
        subst e1
        rcases c with ⟨_, c⟩ | ⟨c, _⟩ | ⟨c, _⟩
        · exact ⟨false, c, fun _ => rfl⟩
        · omega
        · omega
      · have e1 : y4 = .int c := by simpa using h.good 3 (by decide) z
        subst e1
        exact ⟨true, .inl ⟨c, rfl, g.2.2.2.2.symm⟩, fun w => absurd w z⟩
    obtain ⟨b0, n0, p0, r0⟩ := q0
    obtain ⟨b1, n1, p1, r1⟩ := q1
    obtain ⟨b2, n2, p2, r2⟩ := q2
    obtain ⟨b3, n3, p3⟩ := q3
    refine .ln n0 n1 n2 n3 ?_
    have : j = 0 ∨ j = 1 ∨ j = 2 ∨ j = 3 := by omega
    rcases this with rfl | rfl | rfl | rfl
    · exact .inl ⟨p0 mj, rfl⟩
    · exact .inr (.inl ⟨r0 (mn 0 (by decide)), p1 mj, rfl⟩)
    · exact .inr (.inr (.inl ⟨r0 (mn 0 (by decide)), (r1 (mn 1 (by decide))).1, p2 mj, rfl⟩))
    · refine .inr (.inr (.inr ⟨r0 (mn 0 (by decide)), (r1 (mn 1 (by decide))).1, (r2 (mn 2 (by decide))).1, fun e => ?_, p3 mj, rfl⟩))
      rw [(r1 (mn 1 (by decide))).2, (r2 (mn 2 (by decide))).2] at e
      injection e with e
      exact g.2.2.2.1 e.symm
theorem SpSt.done {K : PySem.W.Frag} {H : Hp} {xs0 : List V} {n first : Nat} {ys : List V} {ws : List Nat} (d : DoorV xs0) (l : xs0.length = n + 1) (h : SpSt K H xs0 n first n ys ws) (f : first < n) : ∃ j, ws[0]? = some j ∧ Spo K H ys j ∧ j ≤ 3 := by
  have ne : 0 < ws.length := List.length_pos_of_mem (h.fst f)
  refine ⟨ws[0], List.getElem?_eq_getElem ne, ?_⟩
  have e : ws[0]? = some ws[0] := List.getElem?_eq_getElem ne
  have m : ws[0] ∈ ws := List.getElem_mem _
  have bj := (h.bad _ m).1
  generalize ws[0] = j at e m bj
  have one : ∀ {w z : Str}, (w ∈ W1s ∨ w ∈ W3s) → xs0 = [.str w, .str z] → Spo K H ys j ∧ j ≤ 3 := fun {w z} hw e0 => by
    subst e0
    have n1 : n = 1 := by simp at l; omega
    subst n1
    exact ⟨spo_one hw h m, by omega⟩
  rcases d with ⟨D, g, rfl⟩ | ⟨w, z, hw, _, rfl⟩
  · cases D with
    | addRoom x => exact one (.inl (by decide +kernel)) rfl
    | addLine x a b c =>
      have n1 : n = 4 := by simp [Deed.vs] at l; omega
      subst n1
      exact ⟨spo_ln g h e, by omega⟩
    | addDrain x r =>
      have n1 : n = 2 := by simp [Deed.vs] at l; omega
      subst n1
      exact ⟨spo_dr g.1 g.2 h e, by omega⟩
    | addSource x => exact one (.inl (by decide +kernel)) rfl
    | takeRoom x => exact one (.inl (by decide +kernel)) rfl
    | takeLine x => exact one (.inl (by decide +kernel)) rfl
    | takeDrain x => exact one (.inl (by decide +kernel)) rfl
    | takeSource x => exact one (.inl (by decide +kernel)) rfl
  · exact one (.inr hw) rfl
abbrev wI (j : Nat) : V := .int (0 + (j : Int))
theorem inV_ints (i : Int) : ∀ ws : List Nat, inV (.int i) (ws.map wI) = decide (∃ w ∈ ws, (0 + (w : Int)) = i)
  | [] => by simp [inV]
  | x :: xs => by
    have ih := inV_ints i xs
    unfold inV at ih ⊢
    rw [List.map_cons, List.any_cons, ih]
    show (decide (0 + (x : Int) = i) || decide (∃ w ∈ xs, (0 + (w : Int)) = i)) = _
    rw [← Bool.decide_or]
    refine decide_eq_decide.mpr ⟨fun h => ?_, fun ⟨w, hw, e⟩ => ?_⟩
    · rcases h with h | ⟨w, hw, e⟩
      · exact ⟨x, List.mem_cons_self, h⟩
      · exact ⟨w, List.mem_cons_of_mem _ hw, e⟩
    · rcases List.mem_cons.mp hw with rfl | hw
      · exact .inl e
      · exact .inr ⟨w, hw, e⟩
end SM
namespace SM
open PySem PySem.Spec PyProof.Rows L2
theorem ix_at {n j : Nat} (h : j < n) : ixN n ((j : Nat) : Int) = some j := by
  unfold ixN
  rw [if_pos (Int.natCast_nonneg j), if_pos (by omega), Int.toNat_natCast]
theorem flat_wI (ws : List Nat) : (ws.map wI).all flatV = true := by
  rw [List.all_map]
  exact List.all_eq_true.mpr fun _ _ => rfl
theorem Bag.tupne {H : Hp} {p q t : Addr} {xs : List V} (B : Bag H p q) (h : H t = some (.tup xs)) : t ≠ p := by
  obtain ⟨_, _, _, _, B⟩ := B
  exact ne_of h B.top (by intro z; cases z)
end SM
namespace SM
open PySem PySem.Spec PyProof.Rows L2
theorem NameQ.no {K : PySem.W.Frag} {H : Hp} {z : Str} (h : NameQ K H (.str z) false) (g : okName z = true) : False := by
  rcases h with ⟨z', e, _, q⟩ | ⟨_, t, ty, q⟩
  · injection e with e
    rw [← e, g] at q
    cases q
  · have y : PySem.W.kitOne K (.type "str") (.type "str") = some true := kit_ty (by decide +kernel)
    cases ty with
    | base b =>
      cases b
      rw [y] at q
      cases q
theorem CostQ.no {K : PySem.W.Frag} {H : Hp} {i : Int} (h : CostQ K H (.int i) false) (g : okCost i = true) : False := by
  rcases h with ⟨i', e, q⟩ | ⟨_, t, a, b, ty, q1, q2, q3⟩
  · injection e with e
    rw [← e, g] at q
    cases q
  · have y1 : PySem.W.kitOne K (.type "int") (.type "int") = some true := kit_ty (by decide +kernel)
    have y2 : PySem.W.kitOne K (.type "int") (.type "bool") = some false := kit_ty (by decide +kernel)
    cases ty with
    | base b =>
      cases b
      rw [y1] at q1
      rw [y2] at q2
      cases q1
      cases q2
      cases q3
end SM
namespace SM
open PySem PySem.Spec PyProof.Rows L2
/-- the body of a try that asks wrongly -/
def tAskW (K : PySem.W.Frag) (C : Nat → Addr) (L : Addr) (W : WX) : TS := fun D σ H => ∃ (La : LA) (S : LS) (t : Addr) (xs : List V) (j : Nat), σ = [some (.ref La.p), some (.ref t), some .non, none] ∧ LayAt L H La S ∧ S.Ok ∧ H t = some (.tup xs) ∧ Spo K H xs j ∧ Ref C 0 (.int (j : Int)) H (WE W σ)
end SM
namespace SM
open PySem PySem.Spec PyProof.Rows L2
def wrongD (j : Nat) : PyData := .tuple [.str "refused", .tuple [.str "Wrong", .int (j : Int)]]
theorem wrong_fine {j : Nat} (h : j ≤ 3) : Fine (wrongD j) := by
  have i := Sm.tup (SmAll.cons (sm_str (z := "Wrong") (by decide +kernel)) (.cons (sm_int (i := (j : Int)) (by omega) (by omega)) .nil))
  exact (Sm.tup (.cons ((sm_str (z := "refused") (by decide +kernel)).mono (k' := 1) (w' := 34) (by decide) (by decide)) (.cons (i.mono (k' := 1) (w' := 34) (by decide) (Nat.le_refl _)) .nil))).fine (by decide) (show 2 * (34 + 1) ≤ 100000 by decide)
end SM
/-! Part T: the set of a list of texts, no two alike. -/
namespace SM
open PySem PySem.Spec PyProof.Rows
section
variable {prog : Program} {w : World} {A : Around} {E : Value → Shared → Prop} {s : Shared}
/-- the set has just the texts zs -/
abbrev TextSet (prog : Program) (w : World) (h : Heap) (a : Addr) (zs : List Str) : Prop := h.SetOf (PySem.strKind prog w) a (fun k => decide (k ∈ zs)) zs.length
theorem TextSet.off {h h' : Heap} {a : Addr} {zs : List Str} (x : TextSet prog w h a zs) (k : ∀ o, h.get? a = some o → h'.get? a = some o) : TextSet prog w h' a zs :=
  let ⟨o, es, ep, tb, e, r⟩ := x
  ⟨o, es, ep, tb, k o e, r⟩
/-- one text more -/
theorem addText {a : Addr} {zs : List Str} {z : Str} {t : Tok} {Q : Bool → Shared → Prop} (x : TextSet prog w s.heap a zs) (new : z ∉ zs) (room : zs.length + 1 < scanBound)
    (h : ∀ b h', Heap.SameBut a s.heap h' → TextSet prog w h' a (zs ++ [z]) → Q b { s with heap := h', toks := s.toks + 1 }) :
    wpAny (model prog w) A (holding [Value.str z t] (setAdd a (.str z t))) Q E s :=
  wpAny_holding (wpAny_holding (wpAny_bind (wpAny_pyHash_str
    (wpAny_setAddHashed_of (knd := PySem.strKind prog w) (k := z) (s := { s with toks := s.toks + 1 }) (strKind_is _ _ _ _) rfl x room fun h' sb y => h _ h' sb (SetOf_congr y (fun k => by
        rw [← Bool.decide_or]
        exact decide_eq_decide.mpr (by rw [List.mem_append, List.mem_singleton])) (by
        rw [decide_eq_false new, List.length_append]
        rfl))))))
variable {R : Result → Shared → Prop} {I : Addr} {fp wr : List Addr} {G : Array GenState → Array GenState → Prop} {n : Nat} {P : Nat → Value → Prop} {St : Nat → Shared → Prop}
/-- the loop behind set(xs): what is left, after what was met -/
theorem textsLoop (W : WalksS prog w A.in1 I fp wr G n P St) {b : Addr} (out : b ∉ fp) {all : List Str} (nd : all.Nodup) (ln : all.length = n) (room : n + 1 < scanBound) (hv : ∀ i v, P i v → ∃ z t, all[i]? = some z ∧ v = .str z t) :
    ∀ (left met : List Str), all = met ++ left → ∀ s : Shared, St met.length s → TextSet prog w s.heap b met →
      (∀ s', Moved (b :: wr) G s s' → TextSet prog w s'.heap b all → R (.ok (.ret .none)) s') →
      codeAny (model prog w) A (.builtin "set.update.loop" ⟨[.ref b, .ref I], []⟩) R s
  | [], met, e, s, st, x, k => by
    rw [List.append_nil] at e
    subst e
    rw [ln] at st
    refine codeAny_builtin F.entry_set_update_loop (by
      rw [Around.under_plainId F.plain_set_update_loop]
      exact wpAny_bind (W.done s _ _ st fun s' mv => wpAny_pure (k s' (mv.mono fun c hc => .tail _ hc) (x.off fun o => mv.heap b o fun z => out (W.sub b z)))))
  | z :: left, met, e, s, st, x, k => by
    have at_ : all[met.length]? = some z := by
      rw [e, List.getElem?_append_right (Nat.le_refl _), Nat.sub_self]
      rfl
    have lt : met.length < n := by
      rw [← ln]
      exact (List.getElem?_eq_some_iff.mp at_).1
    have new : z ∉ met := fun m => by
      rw [e] at nd
      exact (List.nodup_append.mp nd).2.2 z m z List.mem_cons_self rfl
    have e2 : all = (met ++ [z]) ++ left := by
      rw [e, List.append_assoc]
      rfl
    refine codeAny_builtin F.entry_set_update_loop (by
      rw [Around.under_plainId F.plain_set_update_loop]
      refine wpAny_bind (W.item met.length s _ _ lt st fun v s1 pv st1 mv => ?_)
      obtain ⟨z', t, ez, rfl⟩ := hv _ v pv
      rw [at_] at ez
      cases ez
      have x1 := x.off fun o => mv.heap b o fun c => out (W.sub b c)
      refine wpAny_bind (addText x1 new (by omega) fun _ h' sb x2 => ?_)
      have st2 := W.frame _ s1 h' (s1.toks + 1) st1 (Nat.le_succ _) fun c hc o eo => (sb.2 c fun q => out (q ▸ hc)).trans eo
      refine wpAny_pure ⟨plainId_quiet F.plain_set_update_loop _, textsLoop W out nd ln room hv left (met ++ [z]) e2 _ (by rw [List.length_append]; exact st2) x2 fun s3 mv3 x3 => k s3 ?_ x3⟩
      refine Moved.trans W.gtrans ((mv.mono fun c hc => .tail _ hc).then_heap (Nat.le_succ _) fun c o hc eo => ?_) mv3
      exact (sb.2 c fun q => hc (q ▸ .head _)).trans eo)
end
end SM
namespace SM
open PySem PySem.Spec PyProof.Rows
section
variable {prog : Program} {w : World} {A : Around} {E : Value → Shared → Prop} {s : Shared}
/-- a set with nothing in it -/
abbrev bareSet (led : Bool) : Obj := { cls := .type "set", dict := none, data := .set #[] 0 (.fresh 0 0 led) }
theorem texts_len : ∀ {us : List Value} {zs : List Str}, StrsAre us zs → zs.length = us.length
  | _, _, .nil => rfl
  | _, _, .cons _ _ r => congrArg (· + 1) (texts_len r)
theorem texts_get : ∀ {us : List Value} {zs : List Str}, StrsAre us zs → ∀ {i : Nat} {v : Value}, us[i]? = some v → ∃ z t, zs[i]? = some z ∧ v = .str z t
  | _, _, .nil, _, _, e => nomatch e
  | _, _, .cons z t _, 0, _, e => ⟨z, t, rfl, (Option.some.inj e).symm⟩
  | _, _, .cons _ _ r, i + 1, _, e => texts_get r (i := i) e
/-- set.__init__ over a list of texts -/
theorem fillTexts {l : Addr} {items : Array Value} {all : List Str} (calm : A.handled = none) (led : Bool) (hl : s.heap.IsList l items) (hi : StrsAre items.toList all) (nd : all.Nodup) (room : all.length + 1 < scanBound) {R : Result → Shared → Prop}
    (k : ∀ h' tk, TextSet prog w h' s.heap.objs.size all → (∀ b o, s.heap.get? b = some o → h'.get? b = some o) → R (.ok (.ret .none)) { s with heap := h', toks := tk }) :
    codeAny (model prog w) A (.call (.builtin "set.__init__") ⟨[.ref s.heap.objs.size, .ref l], []⟩) R { s with heap := s.heap.push (bareSet led) } := by
  have top : (s.heap.push (bareSet led)).get? s.heap.objs.size = some (bareSet led) := Heap.get?_push_size _ rfl
  have ty : Shared.TypeIs { s with heap := s.heap.push (bareSet led) } (.ref s.heap.objs.size) "set" := ⟨_, top, rfl⟩
  have ll : l < s.heap.objs.size := let ⟨_, e, _⟩ := hl; Heap.lt_size e
  have hl1 := hl.push (bareSet led)
  obtain ⟨ol, hol, hcl, nl, hdl⟩ := id hl1
  obtain ⟨oc, od, oa, os'⟩ := ol
  simp only at hcl hdl
  subst hcl
  subst hdl
  refine codeAny_call_builtin PySem.F.called_set.init.plain PySem.F.entry_set_init (check_set_init_1 ty ?_)
  have a1 := PySem.F.sub_list_set
  have a2 := PySem.F.sub_list_frozenset
  have a3 : (Value.type "list" == Value.type "dict") = false := by decide
  unfold Builtin.«set.__init__» noKeywords Builtin.Frozenset.updateFrom
  generalize it : pyIter = iter
  wp_walk
  subst it
  refine wpAny_pyIter_list hl1 (wpAny_bind (wpAny_runValue ?_))
  have big : s.heap.objs.size < (s.heap.push (bareSet led)).objs.size := by
    rw [Heap.size_push]
    exact Nat.lt_succ_self _
  have far : l ≠ (s.heap.push (bareSet led)).objs.size := Nat.ne_of_lt (Nat.lt_trans ll big)
  have W := (Walks.list (prog := prog) (w := w) (A := A.in1.in1) (by simp [calm]) _ l far items).toS
  refine textsLoop W (b := s.heap.objs.size) (fun m => ?_) nd ?_ ?_ (fun i v pv => ?_) all [] rfl _ ⟨⟨_, Heap.get?_push_size _ rfl, rfl, rfl⟩, hl1.push _⟩ ?_ fun s' mv x => ?_
  · rcases List.mem_cons.mp m with e | m
    · exact absurd e (Nat.ne_of_lt big)
    · exact absurd (List.mem_singleton.mp m) (Nat.ne_of_gt ll)
  · rw [texts_len hi, Array.length_toList]
  · rw [texts_len hi, Array.length_toList] at room
    exact room
  · exact texts_get hi (by rw [Array.getElem?_toList]; exact pv)
  · have e := Heap.get?_push_of_some { cls := .type "list_iterator", data := .fields #[.ref l, .int 0 0] } top
    exact SetOf_congr ((setObjOf_fresh (knd := PySem.strKind prog w) led).setOf e (by decide)) (fun k => (decide_eq_false (fun m => nomatch m)).symm) rfl
  · obtain ⟨h', g', d', tk, o'⟩ := s'
    obtain rfl : g' = s.gens := mv.gens
    obtain rfl : d' = s.drawn := mv.drawn
    obtain rfl : o' = s.os := mv.os
    refine wpAny_pure (wpAny_pure (k h' tk x fun b o e => mv.heap b o (fun m => ?_) (Heap.get?_push_of_some _ (Heap.get?_push_of_some _ e))))
    have lt := Heap.lt_size e
    rcases List.mem_cons.mp m with q | m
    · exact Nat.ne_of_lt lt q
    · exact Nat.ne_of_lt (Nat.lt_trans lt big) (List.mem_singleton.mp m)
end
end SM
namespace SM
open PySem PySem.Spec PyProof.Rows
section
variable {prog : Program} {w : World} {A : Around} {E : Value → Shared → Prop} {s : Shared}
/-- set(xs), xs a list of texts, no two alike -/
theorem setTexts {l : Addr} {items : Array Value} {all : List Str} {Q : Value → Shared → Prop} (calm : A.handled = none) (hl : s.heap.IsList l items) (hi : StrsAre items.toList all) (nd : all.Nodup) (room : all.length + 1 < scanBound)
    (k : ∀ h' tk, TextSet prog w h' s.heap.objs.size all → (∀ b o, s.heap.get? b = some o → h'.get? b = some o) → Q (.ref s.heap.objs.size) { s with heap := h', toks := tk }) :
    wpAny (model prog w) A (call (.type "set") [.ref l]) Q E s := by
  obtain ⟨c, tl, p1⟩ := PySem.F.called_set.mro
  have p2 := PySem.F.called_set.made
  have p3 := PySem.F.called_set.sub
  have p4 := PySem.F.called_set.notType
  have p5 := PySem.F.called_set.canCreate
  have p6 := PySem.F.typeCall_set_1 (.ref l)
  have p7 := PySem.F.called_set.init.lookup
  refine wpAny_call (codeAny_of_tree (wpAny_pure ⟨Code.quiet_builtin _ (by decide +kernel), codeAny_builtin PySem.F.entry_type_call (by
    rw [Around.under_plain (weight_type_call_type "set" [.ref l] []) rfl]
    repeat (any_goals (first | assumption | wp_step))
    refine codeAny_mono (code_set_new_1 (.ref l) (E := E) (Q₁ := fun o u => ∃ led, o = .ref s.heap.objs.size ∧ u = { s with heap := s.heap.push (bareSet led) }) fun led => ⟨led, rfl, rfl⟩) fun r u hr => ?_
    match r, hr with
    | .error _, hr => exact hr
    | .ok (.ret _), ⟨led, e1, e2⟩ =>
      subst e1 e2
      have ty : Shared.TypeIs { s with heap := s.heap.push (bareSet led) } (.ref s.heap.objs.size) "set" := ⟨_, Heap.get?_push_size _ rfl, rfl⟩
      have p8 := PySem.F.called_set.init.bind (.ref s.heap.objs.size)
      repeat (any_goals (first | assumption | wp_step))
      refine fillTexts (by simp [calm]) led hl hi nd room fun h' tk x old => ?_
      repeat (any_goals (first | assumption | wp_step))
      exact k h' tk x old
    | .ok .next, hr => exact hr.elim
    | .ok .brk, hr => exact hr.elim
    | .ok .cont, hr => exact hr.elim)⟩))
end
end SM
/-! Part U: len(set(names)), no two alike; what is joined by lines. -/
namespace SM
open PySem PySem.Spec PyProof.Rows L2
section
variable {X : Cx}
/-- len(set(xs)), xs a list of texts, no two alike -/
def tLenSetN (K : PySem.W.Frag) (ta : TE) : TE := fun σ H Q => ta σ H fun x H1 => ∃ l, ∃ xs : List Str, x = .ref l ∧ SqL K H1 l (xs.map V.str) ∧ xs.Nodup ∧ xs.length + 1 < scanBound ∧ Q (.int xs.length) H1
theorem pe_lenSetN {a : Expr} {ta : TE} {p p2 q pos : Pos} (hc : X.calm = true) (hg : Gl X "len") (hm : X.mg "len" = none) (hg2 : Gl X "set") (hm2 : X.mg "set" = none) (ha : PE X a ta)
    (na : starEach [a] X.env = (false, eval a X.env) :: starEach [] X.env := by rfl) : PE X (.Call (.Name "len" p) [.Call (.Name "set" p2) [a] [] q] [] pos) (tLenSetN X.K ta) := by
  refine ⟨fun pins s σ H Q I h => Call_ (ld_blt I hg hm boot_len ?_)⟩
  refine PyProof.Rows.callWith_builtin1 (PyProof.Rows.args_cons ?_ rfl) rfl rfl
  refine Call_ (ld_blt I hg2 hm2 boot_set (PyProof.Rows.callWith_type1 (PyProof.Rows.args_cons (thn (ha.run pins s σ H _ I h) fun v s1 ⟨x, H1, I1, r1, q1⟩ => PyProof.Rows.args_nil ?_) na) na rfl))
  obtain ⟨l, xs, rfl, hq, nd, room, q1⟩ := q1
  cases r1
  obtain ⟨its, r, pl, hz⟩ := I1.list hq
  refine setTexts (I1.ok.hd hc) pl.isList (strsAre_of r) nd room fun h' tk hS old => PyProof.Rows.args_nil ?_
  obtain ⟨o, es, ep, t, ho, hex, hd, _, _, _, hf, hn⟩ := hS
  have I2 : Inv X pins σ H1 { s1 with heap := h', toks := tk } := I1.kept old
  exact call_len_set ho hex hd hf (by
    rw [List.length_map] at hz
    have : sizeLine < 9223372036854775808 := by decide +kernel
    rw [hn]
    omega) ⟨.int xs.length, H1, I2.tok _, ⟨_, by rw [hn]⟩, q1⟩
end
end SM
namespace SM
open PySem PySem.Spec PyProof.Rows L2
section
variable {J : It} {n : Nat} {G : Hp → Prop} {Y : Nat → Hp → V → Hp → Prop}
/-- a dict's comprehension over what is walked -/
theorem dc_it (w : Walk J n G Y) {g : TG} {tt : TT} {tk tv : TE} {vs : List Nat} {σ : L2.St} {H1 : Hp} {D : Addr} {Qd : Hp → Prop} (Pv : Nat → Hp → Prop) (h0 : Pv 0 (upd H1 D (.dK []))) (hG : ∀ i H, i ≤ n → Pv i H → G H)
    (hs : ∀ i x H H', i < n → Pv i H → Y i H x H' → g x (wipe σ vs) H' fun σ2 H2 => wipe σ2 vs = wipe σ vs ∧ tt σ2 H2 fun b H3 =>
      if b = true then tk σ2 H3 fun y H4 => tv σ2 H4 fun z H5 => ∃ kvs k, y = kV k ∧ H5 D = some (.dK kvs) ∧ kvs.length < sizeLine ∧ Pv (i + 1) (upd H5 D (.dK (putK kvs k z))) else Pv (i + 1) H3) (hd : ∀ H, Pv n H → Qd H) :
    ∃ W : Nat → Nat → Hp → Prop, (∃ m, W 0 m (upd H1 D (.dK []))) ∧ ∀ i m H, W i m H →
      (J.stop i H ∧ Qd H) ∨ (J.go i H ∧ ∃ Nx : Hp → Prop, (∀ H', Nx H' → ∃ m', m' < m ∧ W (i + 1) m' H') ∧ ∀ x H', J.yld i H x H' → g x (wipe σ vs) H' fun σ2 H2 => wipe σ2 vs = wipe σ vs ∧ tt σ2 H2 fun b H3 =>
        if b = true then tk σ2 H3 fun y H4 => tv σ2 H4 fun z H5 => ∃ kvs k, y = kV k ∧ H5 D = some (.dK kvs) ∧ kvs.length < sizeLine ∧ Nx (upd H5 D (.dK (putK kvs k z))) else Nx H3) := by
  refine ⟨fun i m H => m + i = n ∧ Pv i H, ⟨n, rfl, h0⟩, ?_⟩
  rintro i m H ⟨hm, p⟩
  rcases Nat.lt_or_ge i n with lt | ge
  · exact .inr ⟨w.goes i H lt (hG i H (Nat.le_of_lt lt) p), Pv (i + 1), fun H' p' => ⟨m - 1, by omega, by omega, p'⟩, fun x H' y => hs i x H H' lt p (w.yields i H x H' lt (hG i H (Nat.le_of_lt lt) p) y)⟩
  · obtain rfl : i = n := by omega
    exact .inl ⟨w.stops H (hG i H (Nat.le_refl _) p), hd H p⟩
end
/-! ### what is joined -/
/-- what a room's lead along a line is: the line and the room beyond -/
def lead (S : LS) (shut : List Str) (r l : Str) : Option (Str × Str) := (look S.lines l).bind fun e => if l ∈ shut then none else if e.1 = r then some (l, e.2.1) else if e.2.1 = r then some (l, e.1) else none
def leadsTo (S : LS) (shut ls : List Str) (r : Str) : List (Str × Str) := ls.filterMap (lead S shut r)
/-- rooms reached from xs by leads f -/
inductive Rch (f : Str → List (Str × Str)) (xs : List Str) : Str → Prop where
  | base {z : Str} : z ∈ xs → Rch f xs z
  | step {z : Str} {p : Str × Str} : Rch f xs z → p ∈ f z → Rch f xs p.2
theorem Rch.closed {f : Str → List (Str × Str)} {xs fs : List Str} (a : ∀ x ∈ xs, x ∈ fs) (c : ∀ z ∈ fs, ∀ p ∈ f z, p.2 ∈ fs) {z : Str} (h : Rch f xs z) : z ∈ fs := by
  induction h with
  | base m => exact a _ m
  | step _ m ih => exact c _ ih _ m
theorem Srt.same {ys zs xs ws : List Str} (a : Srt ys xs) (b : Srt zs ws) (n : xs.Nodup) (m : ws.Nodup) (e : ∀ z, z ∈ xs ↔ z ∈ ws) : ys = zs :=
  a.one ⟨b.1.trans ((List.perm_ext_iff_of_nodup m n).mpr fun z => (e z).symm), b.2⟩
/-- two rooms at one open line -/
def Beside (S : LS) (shut : List Str) (a b : Str) : Prop := ∃ e ∈ S.lines, e.1 ∉ shut ∧ ((e.2.1 = a ∧ e.2.2.1 = b) ∨ (e.2.2.1 = a ∧ e.2.1 = b))
theorem look_iff {α : Type} {tab : List (Str × α)} (n : (keys tab).Nodup) {k : Str} {a : α} : look tab k = some a ↔ (k, a) ∈ tab := by
  induction tab with
  | nil => exact ⟨(fun e => by cases e), (fun m => by cases m)⟩
  | cons p r ih =>
    have n' : (keys r).Nodup ∧ p.1 ∉ keys r := by
      have z : (p.1 :: keys r).Nodup := n
      exact ⟨(List.nodup_cons.mp z).2, (List.nodup_cons.mp z).1⟩
    by_cases e : p.1 = k
    · rw [look_pos e]
      constructor
      · intro q
        cases q
        cases e
        exact .head _
      · intro m
        rcases List.mem_cons.mp m with q | q
        · rw [← q]
        · exact absurd (List.mem_map_of_mem (f := (·.1)) q) (by rw [← e]; exact n'.2)
    · rw [look_neg e, ih n'.1]
      constructor
      · exact fun m => .tail _ m
      · intro m
        rcases List.mem_cons.mp m with q | q
        · exact absurd (by rw [← q]) e
        · exact q
theorem mem_leads {S : LS} (o : S.Ok) {shut ls : List Str} (al : ∀ l ∈ keys S.lines, l ∈ ls) {a b : Str} : (∃ l, (l, b) ∈ leadsTo S shut ls a) ↔ Beside S shut a b := by
  constructor
  · rintro ⟨l, m⟩
    obtain ⟨l', hl, e⟩ := List.mem_filterMap.mp m
    unfold lead at e
    cases hk : look S.lines l' with
    | none => rw [hk] at e; cases e
    | some q =>
      rw [hk] at e
      have e : (if l' ∈ shut then none else if q.1 = a then some (l', q.2.1) else if q.2.1 = a then some (l', q.1) else none) = some (l, b) := e
      have mm := (look_iff o.lN).mp hk
      by_cases h1 : l' ∈ shut
      · rw [if_pos h1] at e; cases e
      rw [if_neg h1] at e
      by_cases h2 : q.1 = a
      · rw [if_pos h2] at e
        cases e
        exact ⟨_, mm, h1, .inl ⟨h2, rfl⟩⟩
      rw [if_neg h2] at e
      by_cases h3 : q.2.1 = a
      · rw [if_pos h3] at e
        cases e
        exact ⟨_, mm, h1, .inr ⟨h3, rfl⟩⟩
      rw [if_neg h3] at e
      cases e
  · rintro ⟨e, m, h1, h2⟩
    refine ⟨e.1, List.mem_filterMap.mpr ⟨e.1, al _ (List.mem_map_of_mem m), ?_⟩⟩
    unfold lead
    rw [(look_iff o.lN).mpr (show (e.1, e.2) ∈ S.lines from m)]
    show (if e.1 ∈ shut then none else if e.2.1 = a then some (e.1, e.2.2.1) else if e.2.2.1 = a then some (e.1, e.2.1) else none) = some (e.1, b)
    rw [if_neg h1]
    rcases h2 with ⟨h3, h4⟩ | ⟨h3, h4⟩
    · rw [if_pos h3, h4]
    · have ne : ¬ e.2.1 = a := fun z => (o.lI e m).2.2.1 (z.trans h3.symm)
      rw [if_neg ne, if_pos h3, h4]
theorem leadsTo_snoc {S : LS} {shut ls : List Str} {l r : Str} : leadsTo S shut (ls ++ [l]) r = leadsTo S shut ls r ++ (lead S shut r l).toList := by
  unfold leadsTo
  rw [List.filterMap_append]
  cases h : lead S shut r l <;> simp [h]
theorem leadsTo_len {S : LS} {shut ls : List Str} {r : Str} : (leadsTo S shut ls r).length ≤ ls.length := List.length_filterMap_le _ _
/-- a key once more -/
def addS (fs : List Str) (k : Str) : List Str := if k ∈ fs then fs else fs ++ [k]
theorem mem_addS {fs : List Str} {k z : Str} : z ∈ addS fs k ↔ z ∈ fs ∨ z = k := by
  unfold addS
  by_cases h : k ∈ fs
  · rw [if_pos h]
    exact ⟨.inl, fun x => x.elim id fun e => e ▸ h⟩
  · rw [if_neg h]
    simp
theorem addS_nodup {fs : List Str} {k : Str} (n : fs.Nodup) : (addS fs k).Nodup := by
  unfold addS
  by_cases h : k ∈ fs
  · rw [if_pos h]
    exact n
  · rw [if_neg h]
    exact List.nodup_append.mpr ⟨n, by simp, fun a ha b hb e => h (by rw [← List.mem_singleton.mp hb, ← e]; exact ha)⟩
theorem Kr.hold {k : Str} : ∀ {kvs : List (Key × V)} {fs : List Str}, Kr TrueG kvs (uT fs) → Kr TrueG (kvs.map fun kv => if kv.1 = Sum.inr k then (kv.1, V.bl true) else kv) (uT fs)
  | _, [], .nil => .nil
  | p :: ps, f :: fs, .cons h t => by
    refine .cons ?_ (Kr.hold t)
    show (if p.1 = Sum.inr k then (p.1, V.bl true) else p).1 = Sum.inr f ∧ (if p.1 = Sum.inr k then (p.1, V.bl true) else p).2 = .bl true
    by_cases e : p.1 = Sum.inr k
    · rw [if_pos e]
      exact ⟨h.1, rfl⟩
    · rw [if_neg e]
      exact h
theorem Kr.add {k : Str} {kvs : List (Key × V)} {fs : List Str} (h : Kr TrueG kvs (uT fs)) : Kr TrueG (putK kvs (Sum.inr k) (.bl true)) (uT (addS fs k)) := by
  unfold addS
  by_cases m : k ∈ fs
  · rw [if_pos m]
    unfold putK
    rw [valV_any, h.has, uT_look, decide_eq_true m, if_pos rfl]
    exact h.hold
  · rw [if_neg m, ← uT_snoc]
    exact h.put (uT_none.mpr m) rfl
theorem Kr.uT_names {kvs : List (Key × V)} {fs : List Str} (h : Kr TrueG kvs (uT fs)) : kvs.map (·.1) = fs.map Sum.inr := by
  rw [h.names, keys_uT]
theorem Kr.uT_keys {kvs : List (Key × V)} {fs : List Str} (h : Kr TrueG kvs (uT fs)) : (kvs.map fun kv => kV kv.1) = fs.map V.str := by
  have e := h.uT_names
  rw [show (kvs.map fun kv => kV kv.1) = (kvs.map (·.1)).map kV by rw [List.map_map]; rfl, e, List.map_map]
  rfl
/-- a list of pairs -/
def PairsAt (H : Hp) (g : Addr) (ps : List (Str × Str)) : Prop := ∃ ts : List Addr, H g = some (.lst (ts.map V.ref)) ∧ Paired (fun t (p : Str × Str) => H t = some (.tup [.str p.1, .str p.2])) ts ps
/-- the leads of the rooms rs -/
def LeadsAt (H : Hp) (a : Addr) (rs : List Str) (f : Str → List (Str × Str)) : Prop := ∃ g : Str → Addr, H a = some (.dK (rs.map fun r => (Sum.inr r, V.ref (g r)))) ∧ (∀ r ∈ rs, ∀ s ∈ rs, g r = g s → r = s) ∧ (∀ r ∈ rs, PairsAt H (g r) (f r))
theorem Paired.mono {α β : Type} {R R' : α → β → Prop} (i : ∀ a b, R a b → R' a b) : ∀ {xs : List α} {ys : List β}, Paired R xs ys → Paired R' xs ys
  | _, _, .nil => .nil
  | _, _, .cons h t => .cons (i _ _ h) (Paired.mono i t)
theorem PairsAt.same {H H' : Hp} {g : Addr} {ps : List (Str × Str)} (h : PairsAt H g ps) (s : Same H H') : PairsAt H' g ps :=
  let ⟨ts, a, b⟩ := h
  ⟨ts, s _ _ a, Paired.mono (fun _ _ e => s _ _ e) b⟩
theorem LeadsAt.same {H H' : Hp} {a : Addr} {rs : List Str} {f : Str → List (Str × Str)} (h : LeadsAt H a rs f) (s : Same H H') : LeadsAt H' a rs f :=
  let ⟨g, x, y, z⟩ := h
  ⟨g, s _ _ x, y, fun r m => (z r m).same s⟩
theorem valV_map {g : Str → V} : ∀ {rs : List Str} {r : Str}, r ∈ rs → valV (rs.map fun r => ((Sum.inr r : Key), g r)) (Sum.inr r) = some (g r)
  | s :: rs, r, m => by
    by_cases e : s = r
    · subst e
      rw [List.map_cons, valV_pos rfl]
    · rw [List.map_cons, valV_neg fun z => e (Sum.inr.inj z)]
      rcases List.mem_cons.mp m with q | q
      · exact absurd q.symm e
      · exact valV_map q
/-- a pair more, at one room -/
theorem LeadsAt.push {H : Hp} {a : Addr} {rs : List Str} {f : Str → List (Str × Str)} {g : Str → Addr} (x : H a = some (.dK (rs.map fun r => (Sum.inr r, V.ref (g r))))) (y : ∀ r ∈ rs, ∀ s ∈ rs, g r = g s → r = s) (z : ∀ r ∈ rs, PairsAt H (g r) (f r))
    {r : Str} (m : r ∈ rs) {ts : List V} (e : H (g r) = some (.lst ts)) {t : Addr} {p : Str × Str} (ht : H t = some (.tup [.str p.1, .str p.2])) : 
    (upd H (g r) (.lst (ts ++ [.ref t]))) a = some (.dK (rs.map fun r => (Sum.inr r, V.ref (g r)))) ∧ (∀ s ∈ rs, PairsAt (upd H (g r) (.lst (ts ++ [.ref t]))) (g s) (if s = r then f s ++ [p] else f s)) := by
  have na : a ≠ g r := fun w => by rw [w, e] at x; cases x
  refine ⟨(upd_ne na).trans x, fun s ms => ?_⟩
  obtain ⟨us, h1, h2⟩ := z s ms
  have keep : ∀ b (xs : List V), H b = some (.tup xs) → (upd H (g r) (.lst (ts ++ [.ref t]))) b = some (.tup xs) := fun b xs h => (upd_ne fun w => by rw [w, e] at h; cases h).trans h
  by_cases q : s = r
  · subst q
    rw [if_pos rfl]
    rw [h1] at e
    cases e
    refine ⟨us ++ [t], ?_, ?_⟩
    · rw [upd_same, List.map_append]
      rfl
    · exact Paired.snoc (Paired.mono (fun _ _ h => keep _ _ h) h2) (keep _ _ ht)
  · rw [if_neg q]
    have ne : g s ≠ g r := fun w => q (y s ms r m w)
    exact ⟨us, (upd_ne ne).trans h1, Paired.mono (fun _ _ h => keep _ _ h) h2⟩
end SM
/-! Part Y: what is promised of the defs that reach; only of good arguments. -/
namespace SM
open PySem PySem.Spec PyProof.Rows L2
section
variable (L : Addr)
def swOf (S : LS) : List Str := keys (S.lines.filter fun e => decide (0 < e.2.2.2))
def spAreNamesG : Sp := fun vs H Q _ => ∃ (l : Addr) (xs : List Str), vs = [.ref l] ∧ H l = some (.lst (xs.map V.str)) ∧ xs.Nodup ∧ xs.length ≤ 60 ∧ (∀ x ∈ xs, okName x = true) ∧ ∀ H', Same H H' → Q (.bl true) H'
def spStretchG : Sp := fun vs H Q _ => ∃ (l : Addr) (xs : List Str), vs = [.ref l] ∧ H l = some (.lst (xs.map V.str)) ∧ xs.Nodup ∧ 1 ≤ xs.length ∧ xs.length ≤ 24 ∧ (∀ x ∈ xs, okName x = true) ∧ ∀ H', Same H H' → Q (.bl true) H'
def spSwitchesIn : Sp := fun vs H Q _ => ∃ (A : LA) (S : LS), vs = [.ref A.p] ∧ LayAt L H A S ∧ S.Ok ∧ ∀ (H' : Hp) (p : Addr) (ys : List Str), Srt ys (swOf S) → Same H H' → H p = none → H' p = some (.lst (ys.map V.str)) → Q (.ref p) H'
def spBesideG : Sp := fun vs H Q _ => ∃ (a b : Addr) (xs ys : List Str), vs = [.ref a, .ref b] ∧ H a = some (.lst (xs.map V.str)) ∧ H b = some (.lst (ys.map V.str)) ∧ (∀ x ∈ xs, x ∈ ys) ∧ ∀ H', Same H H' → Q .non H'
def spHasG (f : LS → List Str) : Sp := fun vs H Q _ => ∃ (A : LA) (S : LS) (a : Addr) (xs : List Str), vs = [.ref A.p, .ref a] ∧ LayAt L H A S ∧ S.Ok ∧ H a = some (.lst (xs.map V.str)) ∧ (∀ x ∈ xs, x ∈ f S) ∧ ∀ H', Same H H' → Q .non H'
def spLeadsOf : Sp := fun vs H Q _ => ∃ (A : LA) (S : LS) (a : Addr) (sh : List Str), vs = [.ref A.p, .ref a] ∧ LayAt L H A S ∧ S.Ok ∧ H a = some (.lst (sh.map V.str)) ∧
  ∀ (H' : Hp) (p : Addr) (rs ls : List Str), Srt rs S.rooms → Srt ls (keys S.lines) → Same H H' → H p = none → LeadsAt H' p rs (leadsTo S sh ls) → Q (.ref p) H'
def spReached : Sp := fun vs H Q _ => ∃ (a b : Addr) (rs xs : List Str) (f : Str → List (Str × Str)), vs = [.ref a, .ref b] ∧ LeadsAt H a rs f ∧ H b = some (.lst (xs.map V.str)) ∧ xs.Nodup ∧ (∀ x ∈ xs, x ∈ rs) ∧ rs.length ≤ 24 ∧ (∀ r ∈ rs, ∀ p ∈ f r, p.2 ∈ rs) ∧
  ∀ (H' : Hp) (p : Addr) (zs ys : List Str), zs.Nodup → (∀ z, z ∈ zs ↔ Rch f xs z) → Srt ys zs → Same H H' → H p = none → H' p = some (.lst (ys.map V.str)) → Q (.ref p) H'
structure Asks (H : Hp) (A : LA) (S : LS) (a b : Addr) (sh xs : List Str) : Prop where
  lay : LayAt L H A S
  ok : S.Ok
  ha : H a = some (.lst (sh.map V.str))
  hb : H b = some (.lst (xs.map V.str))
  na : sh.Nodup
  nb : xs.Nodup
  la : sh.length ≤ 60
  lb : 1 ≤ xs.length
  sa : ∀ x ∈ sh, x ∈ swOf S
  sb : ∀ x ∈ xs, x ∈ S.rooms
def spCheckG : Sp := fun vs H Q _ => ∃ (A : LA) (S : LS) (a b : Addr) (sh xs : List Str), vs = [.ref A.p, .ref a, .ref b] ∧ Asks L H A S a b sh xs ∧ ∀ H', Same H H' → Q .non H'
def spSideOf : Sp := fun vs H Q _ => ∃ (A : LA) (S : LS) (a b : Addr) (sh xs : List Str), vs = [.ref A.p, .ref a, .ref b] ∧ Asks L H A S a b sh xs ∧
  ∀ (H' : Hp) (p : Addr) (ls zs ys : List Str), Srt ls (keys S.lines) → zs.Nodup → (∀ z, z ∈ zs ↔ Rch (leadsTo S sh ls) xs z) → Srt ys zs → Same H H' → H p = none → H' p = some (.lst (ys.map V.str)) → Q (.ref p) H'
theorem nodup_len {α : Type} [DecidableEq α] : ∀ {xs ys : List α}, xs.Nodup → (∀ x ∈ xs, x ∈ ys) → xs.length ≤ ys.length
  | [], _, _, _ => Nat.zero_le _
  | x :: t, ys, n, s => by
    obtain ⟨n1, n2⟩ := List.nodup_cons.mp n
    have m := s x (.head _)
    have ih := nodup_len (ys := ys.erase x) n2 fun y hy => (List.mem_erase_of_ne fun e : y = x => n1 (by rw [← e]; exact hy)).mpr (s y (.tail _ hy))
    rw [List.length_erase_of_mem m] at ih
    have := List.length_pos_of_mem m
    rw [List.length_cons]
    omega
theorem Asks.same {H H' : Hp} {A : LA} {S : LS} {a b : Addr} {sh xs : List Str} (h : Asks L H A S a b sh xs) (s : Same H H') : Asks L H' A S a b sh xs :=
  ⟨h.lay.same s, h.ok, s _ _ h.ha, s _ _ h.hb, h.na, h.nb, h.la, h.lb, h.sa, h.sb⟩
theorem swOf_sub {S : LS} {x : Str} (h : x ∈ swOf S) : x ∈ keys S.lines := by
  obtain ⟨e, m, rfl⟩ := List.mem_map.mp h
  exact List.mem_map_of_mem (List.mem_filter.mp m).1
end
end SM
namespace SM
open PySem PySem.Spec PyProof.Rows L2
theorem scan60 {α : Type} {xs : List α} (h : xs.length ≤ 60) : xs.length + 1 < scanBound := Nat.lt_of_le_of_lt (Nat.succ_le_succ h) (by decide +kernel)
end SM
namespace SM
open PySem PySem.Spec PyProof.Rows L2
theorem ix_tupK {X : Cx} {K : PySem.W.Frag} (h : X.K = K) : IxR X (rIxT K) := by
  subst h
  exact ix_tup
end SM
namespace SM
open PySem PySem.Spec PyProof.Rows L2
theorem look_mem' {α : Type} {tab : List (Str × α)} {k : Str} {a : α} (e : look tab k = some a) : (k, a) ∈ tab := look_mem e
theorem sw_iff {S : LS} (o : S.Ok) {z : Str} {e : LineV} (el : look S.lines z = some e) : z ∈ swOf S ↔ 0 < e.2.2 := by
  constructor
  · intro h
    obtain ⟨q, m, rfl⟩ := List.mem_map.mp h
    obtain ⟨m1, m2⟩ := List.mem_filter.mp m
    have w := (look_iff o.lN).mpr (show (q.1, q.2) ∈ S.lines from m1)
    rw [el] at w
    cases w
    exact of_decide_eq_true m2
  · intro h
    exact List.mem_map.mpr ⟨(z, e), List.mem_filter.mpr ⟨(look_iff o.lN).mp el, decide_eq_true h⟩, rfl⟩
theorem sw_nodup {S : LS} (o : S.Ok) : (swOf S).Nodup := (List.filter_sublist.map _).nodup o.lN
theorem rising_of : ∀ {l : List Str} {p : Str}, (p :: l).Pairwise leS → risingS p l = true
  | [], _, _ => rfl
  | x :: r, p, h => by
    obtain ⟨h1, h2⟩ := List.pairwise_cons.mp h
    show (!ltCps x.cps.toList p.cps.toList && risingS x r) = true
    rw [rising_of h2, show ltCps x.cps.toList p.cps.toList = false from h1 x (.head _)]
    rfl
theorem risingS_sub : ∀ {l : List Str}, l.Pairwise leS → sortedS l = true
  | [], _ => rfl
  | _ :: _, h => rising_of h
theorem sw_srt {S : LS} (o : S.Ok) {ls : List Str} (h : Srt ls (keys S.lines)) : Srt (ls.filter fun l => decide (l ∈ swOf S)) (swOf S) := by
  have nl : ls.Nodup := h.1.nodup_iff.mpr o.lN
  refine ⟨(List.perm_ext_iff_of_nodup (nl.filter _) (sw_nodup o)).mpr fun z => ?_, risingS_sub ((sorted_pw h.2).filter _)⟩
  rw [List.mem_filter]
  constructor
  · exact fun q => of_decide_eq_true q.2
  · exact fun q => ⟨h.1.mem_iff.mpr (swOf_sub q), decide_eq_true q⟩
end SM
namespace SM
open PySem PySem.Spec PyProof.Rows L2
theorem valV_none {g : Str → V} : ∀ {rs : List Str} {r : Str}, r ∉ rs → valV (rs.map fun r => ((Sum.inr r : Key), g r)) (Sum.inr r) = none
  | [], _, _ => rfl
  | s :: rs, r, m => by
    rw [List.map_cons, valV_neg fun z => m (by rw [← Sum.inr.inj z]; exact .head _)]
    exact valV_none fun w => m (.tail _ w)
end SM
namespace SM
open PySem PySem.Spec PyProof.Rows L2
section
variable {X : Cx}
/-- y = {k: v for ..}, y a name that no comprehension reads -/
theorem ps_setDc {i : Nat} {y : Str} {py : Pos} {kx vx tg iter : Expr} {ifs : List Expr} {scope : Scope} {own : List (Str × Nat)} {pos spos : Pos} {wi : TI} {g : TG} {tt : TT} {tk tv : TE} (hc : X.calm = true) (hN : X.N.Nodup) (hy : X.N[i]? = some y) (hyl : X.env.scope.names.lookup y = some .local)
    (hsw : swapsWith (.DictComp kx vx [⟨tg, iter, ifs, 0⟩] scope pos) (some (.Name y py)) spos.line X.env = pure true) (hi : PI X tg iter wi) (ok : BlkOk X.N X.env.scope scope own)
    (hg : ∀ (s : Shared) (H : Hp) (C : Addr) (cl : List (Str × Addr)) (fp : List Addr), PG (X.blk s H scope (compEnvC scope cl C X.env) fp) tg g) (ht : ∀ (s : Shared) (H : Hp) (C : Addr) (cl : List (Str × Addr)) (fp : List Addr), PTs (X.blk s H scope (compEnvC scope cl C X.env) fp) ifs tt)
    (hk : ∀ (s : Shared) (H : Hp) (C : Addr) (cl : List (Str × Addr)) (fp : List Addr), PE (X.blk s H scope (compEnvC scope cl C X.env) fp) kx tk)
    (he : ∀ (s : Shared) (H : Hp) (C : Addr) (cl : List (Str × Addr)) (fp : List Addr), PE (X.blk s H scope (compEnvC scope cl C X.env) fp) vx tv) (hs : ∀ x, foldedSetIterable iter X.env x = pure x := by intro _; rfl) :
    PS X (.Assign [.Name y py] (.DictComp kx vx [⟨tg, iter, ifs, 0⟩] scope pos) spos) (tAsg (tDc wi g tt tk tv (own.map (·.2))) (gName i)) := by
  refine ⟨fun pins s σ H D I h => ?_⟩
  rw [exec_Assign_Name_used _ _ _ _ hsw]
  refine wpAny_bind (wpAny_standAt (wpAny_bind ?_))
  show wpAny _ X.A (do let _ ← comprehension (.DictComp kx vx [⟨tg, iter, ifs, 0⟩] scope pos) scope X.env (firstIterPos [⟨tg, iter, ifs, 0⟩] pos) newDict false (eval iter X.env) (some (assign (.Name y py) X.env))) _ _ s
  have h : tDc wi g tt tk tv (own.map (·.2)) σ H (fun x H1 => gName i x σ H1 D.nx) := h
  refine wpAny_bind (thn (dc_core (Qf := fun _ s' => SP X pins D .next s') hc hN I hi ok hg ht hk he hs h fun L C s' m H' I' q hn f => ?_) fun _ s' hq => wpAny_pure (wpAny_pure hq))
  obtain ⟨f0, f1, f2, f3, f4, f5⟩ := f
  show wpAny _ _ (assign (.Name y py) X.env (.ref L)) _ _ _
  refine wpAny_assign_Name (store_ok2 (v := V.ref L) I' hN hy (.inl hyl) rfl (fun s2 I2 ⟨a, sb, ha⟩ => ⟨m, hn.sameBut sb ?_, fun h3 sb3 => ⟨_, H', I2.turned (t' := s2.toks) (fun b o hb e => (sb3.2 b hb).trans e) f0 f1 f3 f4 f5, q⟩⟩) (.inr hyl))
  rcases ha with z | z
  · rw [z]
    exact f1
  · exact fun e => f4 y a z e.symm
theorem swD_true {kx vx : Expr} {gs : List Comprehension} {scope : Scope} {pos py : Pos} {y : Str} {l : Nat} {env : Env} (hk : env.scope.kind = .function) (hy : env.scope.names.lookup y = some .local) (hl : (py.line == pos.line) = true)
    (ha : (scope.names.any fun (n, k) => n == y && (k == .local || k == .cell)) = false) : swapsWith (.DictComp kx vx gs scope pos) (some (.Name y py)) l env = pure true := by
  have ky : env.kindOf y = some .local := hy
  have hb : env.blockKind = .function := by unfold Env.blockKind; rw [hk]; rfl
  unfold swapsWith
  simp only [hb, ky, ha, Expr.pos, hl]
  rfl
end
end SM
namespace SM
open PySem
theorem lead_shut {S : LS} {sh : List Str} {r l : Str} (h : l ∈ sh) : lead S sh r l = none := by
  unfold lead
  cases look S.lines l with
  | none => rfl
  | some e => exact if_pos h
theorem lead_one {S : LS} {sh : List Str} {l : Str} {e : LineV} (el : look S.lines l = some e) (h : l ∉ sh) : lead S sh e.1 l = some (l, e.2.1) := by
  unfold lead
  rw [el]
  show (if l ∈ sh then none else if e.1 = e.1 then some (l, e.2.1) else _) = _
  rw [if_neg h, if_pos rfl]
theorem lead_other {S : LS} {sh : List Str} {l : Str} {e : LineV} (el : look S.lines l = some e) (h : l ∉ sh) (ne : e.1 ≠ e.2.1) : lead S sh e.2.1 l = some (l, e.1) := by
  unfold lead
  rw [el]
  show (if l ∈ sh then none else if e.1 = e.2.1 then some (l, e.2.1) else if e.2.1 = e.2.1 then some (l, e.1) else none) = _
  rw [if_neg h, if_neg ne, if_pos rfl]
theorem lead_off {S : LS} {sh : List Str} {r l : Str} {e : LineV} (el : look S.lines l = some e) (h1 : e.1 ≠ r) (h2 : e.2.1 ≠ r) : lead S sh r l = none := by
  unfold lead
  rw [el]
  show (if l ∈ sh then none else if e.1 = r then some (l, e.2.1) else if e.2.1 = r then some (l, e.1) else none) = _
  by_cases h : l ∈ sh
  · rw [if_pos h]
  · rw [if_neg h, if_neg h1, if_neg h2]
end SM
namespace SM
open PySem
theorem Paired.at {α β : Type} {R : α → β → Prop} : ∀ {xs : List α} {ys : List β}, Paired R xs ys → ∀ {i : Nat} {x : α}, xs[i]? = some x → ∃ y, ys[i]? = some y ∧ R x y
  | _, _, .nil, _, _, e => nomatch e
  | _, _, .cons h _, 0, _, e => ⟨_, rfl, by cases e; exact h⟩
  | _, _, .cons _ t, i + 1, _, e => Paired.at t (i := i) e
end SM
namespace SM
open PySem
theorem kit_self {K : PySem.W.Frag} {L : Addr} : PySem.W.kitOne K (.ref L) (.ref L) = some true := if_pos (beq_self_eq_true (Value.ref L))
end SM
/-! Part Z: what the reach laws draw. -/
namespace SM
open PySem PySem.Spec PyProof.Rows L2
theorem cutV_take (xs : List V) (i : Nat) : cutV xs none (some (i : Int)) = xs.take i := by
  unfold cutV
  rw [HT.sIx_none, HT.sIx_nat, List.drop_zero, Nat.sub_zero]
  rcases Nat.le_total i xs.length with h | h
  · rw [Nat.min_eq_left h]
  · rw [Nat.min_eq_right h, List.take_length, List.take_of_length_le h]
theorem cutV_drop (xs : List V) (i : Nat) : cutV xs (some (i : Int)) none = xs.drop i := by
  unfold cutV
  rw [HT.sIx_none, HT.sIx_nat]
  rcases Nat.le_total i xs.length with h | h
  · rw [Nat.min_eq_left h, List.take_of_length_le (by rw [List.length_drop]; exact Nat.le_refl _)]
  · rw [Nat.min_eq_right h, List.drop_of_length_le h, List.drop_of_length_le (Nat.le_refl _), List.take_nil]
def spNamesD : Sp := fun vs H Q _ => ∃ (p q : Addr) (n : Int), vs = [.ref p, .int n] ∧ Bag H p q ∧ 0 ≤ n ∧ n ≤ 110 ∧
  ∀ (a : Addr) (ys : List Str) (H' : Hp), H' a = some (.lst (ys.map V.str)) → ys.Nodup → ys.length ≤ n.toNat → (0 < n → 0 < ys.length) → (∀ y ∈ ys, okName y = true) → Bag H' p q → Keep [p] H H' → H a = none → Q (.ref a) H'
/-- two places below n -/
def spEndsL : Sp := fun vs H Q _ => ∃ (p q : Addr) (w n i : Int), vs = [.ref p, .int w, .int n, .int i] ∧ Bag H p q ∧ 0 < n ∧ n ≤ 24 ∧ 0 ≤ i ∧ i ≤ 1000 ∧
  ∀ (t : Addr) (a b : Int) (H' : Hp), H' t = some (.tup [.int a, .int b]) → 0 ≤ a → a < n → 0 ≤ b → b < n → Bag H' p q → Keep [p] H H' → Q (.ref t) H'
end SM
namespace SM
open PySem PySem.Spec PyProof.Rows L2
def spLinesR : Sp := fun vs H Q _ => ∃ (p q a b : Addr) (rs ns : List Str), vs = [.ref p, .ref a, .ref b] ∧ Bag H p q ∧ H a = some (.lst (rs.map V.str)) ∧ H b = some (.lst (ns.map V.str)) ∧ rs.Nodup ∧ 0 < rs.length ∧ rs.length ≤ 24 ∧ ns.Nodup ∧ ns.length ≤ 40 ∧
  ∀ (D : Addr) (H' : Hp) (kvs : List (Key × V)) (ls : List (Str × LineV)), H' D = some (.dK kvs) → Kr (LineG H') kvs ls → (keys ls).Nodup → (∀ x ∈ keys ls, x ∈ ns) → ls.length ≤ ns.length →
    (∀ e ∈ ls, e.2.1 ∈ rs ∧ e.2.2.1 ∈ rs ∧ e.2.1 ≠ e.2.2.1 ∧ okCost e.2.2.2 = true) → Bag H' p q → Keep [p] H H' → H D = none → Q (.ref D) H'
theorem atI_strs {rs : List Str} {v : Int} (h0 : 0 ≤ v) (h1 : v < rs.length) : ∃ z, rs[v.toNat]? = some z ∧ atI (rs.map V.str) v = some (.str z) := by
  have lt : v.toNat < rs.length := by omega
  refine ⟨rs[v.toNat], List.getElem?_eq_getElem lt, ?_⟩
  have e := atI_nat (xs := rs.map V.str) (j := v.toNat) (v := .str rs[v.toNat]) (by rw [List.getElem?_map, List.getElem?_eq_getElem lt]; rfl)
  rw [Int.toNat_of_nonneg h0] at e
  exact e
end SM
namespace SM
open PySem PySem.Spec PyProof.Rows L2
theorem Bag.nd {H : Hp} {p q D : Addr} {kvs : List (Key × V)} (B : Bag H p q) (h : H D = some (.dK kvs)) : p ≠ D ∧ q ≠ D := by
  obtain ⟨a, b, c, ns, B⟩ := B
  exact ⟨ne_of B.top h (by intro w; cases w), ne_of B.low h (by intro w; cases w)⟩
theorem Kr.line {G G' : Hp} {kvs : List (Key × V)} {ls : List (Str × LineV)} {ms : List Addr} (h : Kr (LineG G) kvs ls) (k : Keep ms G G') : Kr (LineG G') kvs ls := h.mono fun _ _ ⟨t, e, ht⟩ => ⟨t, e, k.tup _ _ ht⟩
end SM
namespace SM
open PySem PySem.Spec PyProof.Rows L2
theorem call_len_seqK {X : Cx} {K : PySem.W.Frag} (h : X.K = K) : CallR X (.builtin "len") (fun xs H Q => ∃ p ys, xs = [.ref p] ∧ (SqL K H p ys ∨ SqT K H p ys) ∧ Q (.int ys.length) H) := by
  subst h
  exact call_len_seq
theorem mergeK_new : ∀ {more kvs : List (Key × V)}, (more.map (·.1)).Nodup → (∀ p ∈ more, valV kvs p.1 = none) → mergeK kvs more = kvs ++ more
  | [], kvs, _, _ => (List.append_nil kvs).symm
  | x :: r, kvs, n, h => by
    obtain ⟨n1, n2⟩ := List.nodup_cons.mp n
    show mergeK (putK kvs x.1 x.2) r = kvs ++ x :: r
    rw [putK_new _ (h x (.head _)), mergeK_new n2 fun p m => ?_]
    · rw [List.append_assoc]
      rfl
    · have ne : x.1 ≠ p.1 := fun w => n1 (by show x.1 ∈ r.map (·.1); rw [w]; exact List.mem_map_of_mem m)
      have q := h p (.tail _ m)
      unfold valV at q ⊢
      rw [List.find?_append]
      cases e : kvs.find? (fun kv => decide (kv.1 = p.1)) with
      | none => simp [ne]
      | some v =>
        rw [e] at q
        cases q
/-- a world: what is to be laid -/
structure WAt (H : Hp) (m l d a b : Addr) (S : LS) : Prop where
  top : H m = some (.dK (mtop ⟨m, l, d, false⟩ a b))
  rm : H a = some (.lst (S.rooms.map V.str))
  ln : ∃ kvs, H l = some (.dK kvs) ∧ Kr (LineG H) kvs S.lines
  dr : ∃ kvs, H d = some (.dK kvs) ∧ Kr StrG kvs S.drains
  sc : H b = some (.lst (S.sources.map V.str))
  ok : S.Ok
  ne : 0 < S.rooms.length
  ap : ∀ x ∈ keys S.lines, x ∉ keys S.drains
  mne : m ≠ d ∧ m ≠ l
def spWorld : Sp := fun vs H Q _ => ∃ (p q : Addr), vs = [.ref p] ∧ Bag H p q ∧ ∀ (m l d a b : Addr) (S : LS) (H' : Hp), WAt H' m l d a b S → Bag H' p q → Keep [p] H H' → Q (.ref m) H'
theorem pickM {v : Int} (h0 : 0 ≤ v) (h1 : v < 4) : ∃ y t : Int, atI [V.int 1, V.int 2, V.int 8, V.int 24] v = some (.int y) ∧ atI [V.int 3, V.int 6, V.int 10, V.int 1] v = some (.int t) ∧ 1 ≤ y ∧ 1 ≤ t ∧ t ≤ 10 ∧ y + t ≤ 25 := by
  obtain rfl | rfl | rfl | rfl : v = 0 ∨ v = 1 ∨ v = 2 ∨ v = 3 := by omega
  · exact ⟨1, 3, rfl, rfl, by decide⟩
  · exact ⟨2, 6, rfl, rfl, by decide⟩
  · exact ⟨8, 10, rfl, rfl, by decide⟩
  · exact ⟨24, 1, rfl, rfl, by decide⟩
theorem pickC {v : Int} (h0 : 0 ≤ v) (h1 : v < 4) : ∃ y : Int, atI [V.int 1, V.int 2, V.int 3, V.int 40] v = some (.int y) ∧ 1 ≤ y ∧ y ≤ 40 := by
  obtain rfl | rfl | rfl | rfl : v = 0 ∨ v = 1 ∨ v = 2 ∨ v = 3 := by omega
  · exact ⟨1, rfl, by decide⟩
  · exact ⟨2, rfl, by decide⟩
  · exact ⟨3, rfl, by decide⟩
  · exact ⟨40, rfl, by decide⟩
theorem pickW {v : Int} (h0 : 0 ≤ v) (h1 : v < 4) : ∃ n : Nat, atI [V.int 0, V.int 2, V.int 5, V.int 12] v = some (.int (n : Int)) ∧ n ≤ 12 := by
  obtain rfl | rfl | rfl | rfl : v = 0 ∨ v = 1 ∨ v = 2 ∨ v = 3 := by omega
  · exact ⟨0, rfl, by decide⟩
  · exact ⟨2, rfl, by decide⟩
  · exact ⟨5, rfl, by decide⟩
  · exact ⟨12, rfl, by decide⟩
theorem pickS {v : Int} (h0 : 0 ≤ v) (h1 : v < 4) : ∃ y : Int, atI [V.int 1, V.int 3, V.int 6, V.int 40] v = some (.int y) ∧ 1 ≤ y ∧ y ≤ 40 := by
  obtain rfl | rfl | rfl | rfl : v = 0 ∨ v = 1 ∨ v = 2 ∨ v = 3 := by omega
  · exact ⟨1, rfl, by decide⟩
  · exact ⟨3, rfl, by decide⟩
  · exact ⟨6, rfl, by decide⟩
  · exact ⟨40, rfl, by decide⟩
end SM
namespace SM
open PySem PySem.Spec PyProof.Rows L2
theorem nodup_inr {ds : List (Str × Str)} (n : (keys ds).Nodup) : (ds.map ((fun kv => kv.1) ∘ fun d => ((Sum.inr d.1 : Key), V.str d.2))).Nodup := by
  rw [show (ds.map ((fun kv => kv.1) ∘ fun d => ((Sum.inr d.1 : Key), V.str d.2))) = (keys ds).map Sum.inr by rw [keys, List.map_map]; rfl]
  exact n.map _ fun _ _ h w => h (Sum.inr.inj w)
theorem dict_pairs {K : PySem.W.Frag} {H : Hp} : ∀ {ts : List Addr} {ds : List (Str × Str)}, Paired (fun t (d : Str × Str) => H t = some (.tup [.str d.1, .str d.2])) ts ds → Paired (fun p kv => SqT K H p [kV kv.1, kv.2]) ts (ds.map fun d => ((Sum.inr d.1 : Key), V.str d.2))
  | _, _, .nil => .nil
  | _, _, .cons h t => .cons (SqT.of h) (dict_pairs t)
end SM
namespace SM
open PySem PySem.Spec PyProof.Rows L2
theorem drains_kr : ∀ {ds : List (Str × Str)}, Kr StrG (ds.map fun d => ((Sum.inr d.1 : Key), V.str d.2)) ds
  | [] => .nil
  | _ :: _ => .cons ⟨rfl, rfl⟩ drains_kr
end SM
namespace SM
open PySem PySem.Spec PyProof.Rows L2
theorem Keep.unlock {ms : List Addr} {H G : Hp} {d : Addr} {kvs : List (Key × V)} {od : Obj} (h : H d = some (.dK kvs)) (k : Keep ms (upd H d (.frz od (.dK kvs))) G) (n : d ∉ ms) : Keep ms H (upd G d (.dK kvs)) := by
  have up : ∀ b u, H b = some u → b ≠ d → (upd H d (.frz od (.dK kvs))) b = some u := fun b u e ne => (upd_ne ne).trans e
  refine ⟨fun b u e nb => ?_, fun b xs e => ?_, fun b c x f e => ?_, fun b xs e f => ?_, fun b e => ?_⟩
  · by_cases z : b = d
    · subst z
      rw [upd_same, ← h]
      exact e
    · exact (upd_ne z).trans (k.out b u (up b u e z) nb)
  · have z : b ≠ d := ne_of e h (by intro w; cases w)
    exact (upd_ne z).trans (k.tup b xs (up b _ e z))
  · have z : b ≠ d := ne_of e h (by intro w; cases w)
    exact (upd_ne z).trans (k.ins b c x f (up b _ e z))
  · have z : b ≠ d := ne_of e h (by intro w; cases w)
    exact (upd_ne z).trans (k.flat b xs (up b _ e z) f)
  · by_cases z : b = d
    · rw [z, upd_same] at e
      cases e
    · rw [upd_ne z] at e
      have q := k.has b e
      rw [upd_ne z] at q
      exact q
theorem Keep.lifted {ms : List Addr} {H H1 G : Hp} (s : Same H H1) (f : ∀ b ∈ ms, H b = none) (k : Keep ms H1 G) : Same H G := fun b u e => k.out b u (s b u e) fun m => by
  rw [f b m] at e
  cases e
def spLaid (L : Addr) : Sp := fun vs H Q _ => ∃ (m l d a b : Addr) (S : LS), vs = [.ref m] ∧ WAt H m l d a b S ∧ ∀ (A : LA) (H' : Hp), LayAt L H' A S → Same H H' → (∀ x ∈ A.ms, H x = none) → Q (.ref A.p) H'
theorem WAt.same {H H' : Hp} {m l d a b : Addr} {S : LS} (h : WAt H m l d a b S) (s : Same H H') : WAt H' m l d a b S :=
  ⟨s _ _ h.top, s _ _ h.rm, (let ⟨k, x, y⟩ := h.ln; ⟨k, s _ _ x, y.mono fun _ _ ⟨t, e, w⟩ => ⟨t, e, s _ _ w⟩⟩), (let ⟨k, x, y⟩ := h.dr; ⟨k, s _ _ x, y⟩), s _ _ h.sc, h.ok, h.ne, h.ap, h.mne⟩
end SM
namespace SM
theorem okNew : (⟨[], [], [], []⟩ : LS).Ok := LS.new_ok
end SM
/-! Part Z2: switches, some of them, a stretch. -/
namespace SM
open PySem PySem.Spec PyProof.Rows L2
def spSwitchesL : Sp := fun vs H Q _ => ∃ (m l d a b : Addr) (S : LS), vs = [.ref m] ∧ WAt H m l d a b S ∧ ∀ (r : Addr) (H' : Hp), Same H H' → H r = none → H' r = some (.lst ((swOf S).map V.str)) → Q (.ref r) H'
def spSomeL : Sp := fun vs H Q _ => ∃ (p q a : Addr) (xs : List Str), vs = [.ref p, .ref a] ∧ Bag H p q ∧ H a = some (.lst (xs.map V.str)) ∧ xs.Nodup ∧ xs.length ≤ 64 ∧
  ∀ (r : Addr) (ys : List Str) (H' : Hp), H' r = some (.lst (ys.map V.str)) → ys.Nodup → (∀ y ∈ ys, y ∈ xs) → Bag H' p q → Keep [p] H H' → Q (.ref r) H'
def spStretchL : Sp := fun vs H Q _ => ∃ (p q m l d a b : Addr) (S : LS), vs = [.ref p, .ref m] ∧ Bag H p q ∧ WAt H m l d a b S ∧
  ∀ (r : Addr) (ys : List Str) (H' : Hp), H' r = some (.lst (ys.map V.str)) → ys.Nodup → 1 ≤ ys.length → (∀ y ∈ ys, y ∈ S.rooms) → Bag H' p q → Keep [p] H H' → Q (.ref r) H'
theorem pickZ {v : Int} (h0 : 0 ≤ v) (h1 : v < 4) : ∃ y : Int, atI [V.int 1, V.int 2, V.int 3, V.int 60] v = some (.int y) ∧ 1 ≤ y ∧ y ≤ 60 := by
  obtain rfl | rfl | rfl | rfl : v = 0 ∨ v = 1 ∨ v = 2 ∨ v = 3 := by omega
  · exact ⟨1, rfl, by decide⟩
  · exact ⟨2, rfl, by decide⟩
  · exact ⟨3, rfl, by decide⟩
  · exact ⟨60, rfl, by decide⟩
end SM
namespace SM
open PySem PySem.Spec PyProof.Rows L2
theorem WAt.keep {H H' : Hp} {m l d a b p q : Addr} {S : LS} (h : WAt H m l d a b S) (B : Bag H p q) (k : Keep [p] H H') : WAt H' m l d a b S :=
  ⟨k.out _ _ h.top (by simpa using (B.nd h.top).1.symm), k.flat _ _ h.rm (flat_strs _), (let ⟨kv, x, y⟩ := h.ln; ⟨kv, k.out _ _ x (by simpa using (B.nd x).1.symm), y.line k⟩), (let ⟨kv, x, y⟩ := h.dr; ⟨kv, k.out _ _ x (by simpa using (B.nd x).1.symm), y⟩), k.flat _ _ h.sc (flat_strs _), h.ok, h.ne, h.ap, h.mne⟩
end SM
/-! Part Z3: what is joined, by the law's own way. -/
namespace SM
open PySem PySem.Spec PyProof.Rows L2
inductive RchB (S : LS) (sh xs : List Str) : Str → Prop where
  | base {z : Str} : z ∈ xs → RchB S sh xs z
  | step {a b : Str} : RchB S sh xs a → Beside S sh a b → RchB S sh xs b
theorem RchB.closed {S : LS} {sh xs fs : List Str} (a : ∀ x ∈ xs, x ∈ fs) (c : ∀ z ∈ fs, ∀ b, Beside S sh z b → b ∈ fs) {z : Str} (h : RchB S sh xs z) : z ∈ fs := by
  induction h with
  | base m => exact a _ m
  | step _ m ih => exact c _ ih _ m
theorem rch_same {S : LS} (o : S.Ok) {sh ls xs : List Str} (al : ∀ l ∈ keys S.lines, l ∈ ls) {z : Str} : Rch (leadsTo S sh ls) xs z ↔ RchB S sh xs z := by
  constructor
  · intro h
    induction h with
    | base m => exact .base m
    | step _ m ih => exact .step ih ((mem_leads o al).mp ⟨_, m⟩)
  · intro h
    induction h with
    | base m => exact .base m
    | step _ m ih =>
      obtain ⟨l, w⟩ := (mem_leads o al).mpr m
      exact .step ih w
def spJoinedL : Sp := fun vs H Q _ => ∃ (m l d a b s r : Addr) (S : LS) (sh xs : List Str), vs = [.ref m, .ref s, .ref r] ∧ WAt H m l d a b S ∧ H s = some (.lst (sh.map V.str)) ∧ H r = some (.lst (xs.map V.str)) ∧ xs.Nodup ∧ (∀ x ∈ xs, x ∈ S.rooms) ∧
  ∀ (D : Addr) (H' : Hp) (kvs : List (Key × V)) (fs : List Str), H' D = some (.dK kvs) → Kr TrueG kvs (uT fs) → fs.Nodup → (∀ z ∈ fs, z ∈ S.rooms) → (∀ z, z ∈ fs ↔ RchB S sh xs z) → Same H H' → H D = none → Q (.ref D) H'
theorem true_kr : ∀ {xs : List Str}, Kr TrueG (xs.map fun z => ((Sum.inr z : Key), V.bl true)) (uT xs)
  | [] => .nil
  | _ :: _ => .cons ⟨rfl, rfl⟩ true_kr
theorem true_pairs {K : PySem.W.Frag} {H : Hp} : ∀ {ts : List Addr} {xs : List Str}, Paired (fun t z => H t = some (.tup [.str z, .bl true])) ts xs → Paired (fun p kv => SqT K H p [kV kv.1, kv.2]) ts (xs.map fun z => ((Sum.inr z : Key), V.bl true))
  | _, _, .nil => .nil
  | _, _, .cons h t => .cons (SqT.of h) (true_pairs t)
theorem nodup_true {xs : List Str} (n : xs.Nodup) : ((xs.map fun z => ((Sum.inr z : Key), V.bl true)).map (·.1)).Nodup := by
  rw [List.map_map]
  exact n.map _ fun _ _ h w => h (Sum.inr.inj w)
end SM
/-! Part Z4: live rooms and borders. -/
namespace SM
open PySem PySem.Spec PyProof.Rows L2
section
variable (L : Addr)
def spCheckShut : Sp := fun vs H Q _ => ∃ (A : LA) (S : LS) (a : Addr) (sh : List Str), vs = [.ref A.p, .ref a] ∧ LayAt L H A S ∧ S.Ok ∧ H a = some (.lst (sh.map V.str)) ∧ sh.Nodup ∧ (∀ x ∈ sh, x ∈ swOf S) ∧ ∀ H', Same H H' → Q .non H'
def spLive : Sp := fun vs H Q _ => ∃ (A : LA) (S : LS) (a : Addr) (sh : List Str), vs = [.ref A.p, .ref a] ∧ LayAt L H A S ∧ S.Ok ∧ H a = some (.lst (sh.map V.str)) ∧ sh.Nodup ∧ (∀ x ∈ sh, x ∈ swOf S) ∧
  ∀ (H' : Hp) (p : Addr) (ls zs ys : List Str), Srt ls (keys S.lines) → zs.Nodup → (∀ z, z ∈ zs ↔ Rch (leadsTo S sh ls) S.sources z) → Srt ys zs → Same H H' → H p = none → H' p = some (.lst (ys.map V.str)) → Q (.ref p) H'
/-- just one of the line's ends is among xs -/
def edgeB (S : LS) (xs : List Str) (l : Str) : Bool := match look S.lines l with
  | some e => !decide (V.bl (decide (e.1 ∈ xs)) = V.bl (decide (e.2.1 ∈ xs)))
  | none => false
def spBorder : Sp := fun vs H Q _ => ∃ (A : LA) (S : LS) (a : Addr) (xs : List Str), vs = [.ref A.p, .ref a] ∧ LayAt L H A S ∧ S.Ok ∧ H a = some (.lst (xs.map V.str)) ∧ xs.Nodup ∧ (∀ x ∈ xs, x ∈ S.rooms) ∧
  ∀ (H' : Hp) (p : Addr) (ls : List Str), Srt ls (keys S.lines) → Same H H' → H p = none → H' p = some (.lst ((ls.filter (edgeB S xs)).map V.str)) → Q (.ref p) H'
end
theorem edge_eq {S : LS} {xs : List Str} {l : Str} {e : LineV} (el : look S.lines l = some e) : edgeB S xs l = !decide (V.bl (decide (e.1 ∈ xs)) = V.bl (decide (e.2.1 ∈ xs))) := by
  unfold edgeB
  rw [el]
theorem Rch.mono {f : Str → List (Str × Str)} {xs ys : List Str} (s : ∀ x ∈ xs, x ∈ ys) {z : Str} (h : Rch f xs z) : Rch f ys z := by
  induction h with
  | base m => exact .base (s _ m)
  | step _ m ih => exact .step ih m
end SM
/-! Part Z5: edges, by the law's own way. -/
namespace SM
open PySem PySem.Spec PyProof.Rows L2
def spEdge : Sp := fun vs H Q _ => ∃ (m l d a b r : Addr) (S : LS) (xs : List Str), vs = [.ref m, .ref r] ∧ WAt H m l d a b S ∧ H r = some (.lst (xs.map V.str)) ∧ xs.length ≤ 64 ∧
  ∀ (H' : Hp) (p : Addr) (ls : List Str), Srt ls (keys S.lines) → Same H H' → H p = none → H' p = some (.lst ((ls.filter (edgeB S xs)).map V.str)) → Q (.ref p) H'
theorem rows_fine3 {xss : List (List Str)} (h : ∀ xs ∈ xss, xs.length ≤ 40 ∧ ∀ x ∈ xs, okName x = true) (l : xss.length ≤ 3) : Fine (rowsD xss) :=
  (Sm.lst (SmAll.map (k := 1) (w := 680) rowD fun xs hx => (names_sm (h xs hx).2).mono (Nat.le_refl _) (by have := (h xs hx).1; omega))).fine (by decide) (by rw [List.length_map]; omega)
theorem edge_len {S : LS} {xs : List Str} {l : Str} {e : LineV} (el : look S.lines l = some e) : edgeB S xs l = decide (([e.1, e.2.1].filter fun z => decide (z ∈ xs)).length = 1) := by
  rw [edge_eq el]
  by_cases h1 : e.1 ∈ xs <;> by_cases h2 : e.2.1 ∈ xs <;> simp [h1, h2]
theorem edge_shut {S : LS} (o : S.Ok) {sh fs : List Str} (c : ∀ z ∈ fs, ∀ b, Beside S sh z b → b ∈ fs) {l : Str} (h : edgeB S fs l = true) : l ∈ sh := by
  cases el : look S.lines l with
  | none =>
    unfold edgeB at h
    rw [el] at h
    cases h
  | some e =>
    rw [edge_eq el] at h
    refine Classical.byContradiction fun n => ?_
    have me := (look_iff o.lN).mp el
    have iff : e.1 ∈ fs ↔ e.2.1 ∈ fs := ⟨fun w => c _ w _ ⟨_, me, n, .inl ⟨rfl, rfl⟩⟩, fun w => c _ w _ ⟨_, me, n, .inr ⟨rfl, rfl⟩⟩⟩
    rw [decide_eq_decide.mpr iff, decide_eq_true rfl] at h
    cases h
theorem edge_same {S : LS} {xs ys : List Str} (e : ∀ z, z ∈ xs ↔ z ∈ ys) : edgeB S xs = edgeB S ys := by
  funext l
  cases el : look S.lines l with
  | none =>
    unfold edgeB
    rw [el]
  | some q => rw [edge_eq el, edge_eq el, decide_eq_decide.mpr (e q.1), decide_eq_decide.mpr (e q.2.1)]
theorem edge_other {S : LS} (o : S.Ok) {xs ys : List Str} (e : ∀ z, z ∈ ys ↔ (z ∈ S.rooms ∧ z ∉ xs)) : edgeB S ys = edgeB S xs := by
  funext l
  cases el : look S.lines l with
  | none =>
    unfold edgeB
    rw [el]
  | some q =>
    obtain ⟨i1, i2, _⟩ := o.lI _ ((look_iff o.lN).mp el)
    rw [edge_eq el, edge_eq el]
    have h1 : q.1 ∈ ys ↔ q.1 ∉ xs := (e q.1).trans ⟨fun w => w.2, fun w => ⟨i1, w⟩⟩
    have h2 : q.2.1 ∈ ys ↔ q.2.1 ∉ xs := (e q.2.1).trans ⟨fun w => w.2, fun w => ⟨i2, w⟩⟩
    by_cases a : q.1 ∈ xs <;> by_cases b : q.2.1 ∈ xs <;> simp [h1, h2, a, b]
end SM
/-! Part W: parts, what is wet when all has settled, what spills. -/
namespace SM
open PySem PySem.Spec PyProof.Rows L2
theorem Beside.symm {S : LS} {sh : List Str} {a b : Str} (h : Beside S sh a b) : Beside S sh b a := by
  obtain ⟨e, m, n, h⟩ := h
  exact ⟨e, m, n, h.elim (fun w => .inr ⟨w.2, w.1⟩) fun w => .inl ⟨w.2, w.1⟩⟩
theorem RchB.join {S : LS} {sh xs : List Str} {a b : Str} (h : RchB S sh xs a) (k : RchB S sh [a] b) : RchB S sh xs b := by
  induction k with
  | base m => rw [List.mem_singleton.mp m]; exact h
  | step _ m ih => exact .step ih m
theorem RchB.refl {S : LS} {sh : List Str} {a : Str} : RchB S sh [a] a := .base (.head _)
theorem RchB.symm {S : LS} {sh : List Str} {a b : Str} (h : RchB S sh [a] b) : RchB S sh [b] a := by
  induction h with
  | base m => rw [List.mem_singleton.mp m]; exact .refl
  | step _ m ih => exact RchB.join (.step .refl m.symm) ih
theorem RchB.from {S : LS} {sh xs : List Str} {z : Str} (h : RchB S sh xs z) : ∃ x ∈ xs, RchB S sh [x] z := by
  induction h with
  | base m => exact ⟨_, m, .refl⟩
  | step _ m ih =>
    obtain ⟨x, mx, k⟩ := ih
    exact ⟨x, mx, .step k m⟩
theorem RchB.to {S : LS} {sh xs : List Str} {x z : Str} (m : x ∈ xs) (h : RchB S sh [x] z) : RchB S sh xs z := RchB.join (.base m) h
theorem RchB.rooms {S : LS} (o : S.Ok) {sh xs : List Str} (s : ∀ x ∈ xs, x ∈ S.rooms) {z : Str} (h : RchB S sh xs z) : z ∈ S.rooms := by
  refine RchB.closed s (fun a _ b hb => ?_) h
  obtain ⟨e, me, _, hb⟩ := hb
  obtain ⟨i1, i2, _⟩ := o.lI e me
  rcases hb with ⟨_, w⟩ | ⟨_, w⟩
  · rw [← w]
    exact i2
  · rw [← w]
    exact i1
open Classical in
/-- the rooms of rs that are joined with r -/
noncomputable def clsOf (S : LS) (sh rs : List Str) (r : Str) : List Str := rs.filter fun z => decide (RchB S sh [r] z)
noncomputable def isF (S : LS) (sh rs : List Str) (r : Str) : Bool := decide ((clsOf S sh rs r).head? = some r)
noncomputable def partsOf (S : LS) (sh rs : List Str) : List (List Str) := (rs.filter (isF S sh rs)).map (clsOf S sh rs)
section
variable {S : LS} {sh rs : List Str}
theorem mem_cls {r z : Str} : z ∈ clsOf S sh rs r ↔ z ∈ rs ∧ RchB S sh [r] z := by
  unfold clsOf
  rw [List.mem_filter]
  simp
theorem cls_same {a b : Str} (h : RchB S sh [a] b) : clsOf S sh rs a = clsOf S sh rs b := by
  unfold clsOf
  refine List.filter_congr fun z _ => ?_
  have e : RchB S sh [a] z ↔ RchB S sh [b] z := ⟨fun w => RchB.join h.symm w, fun w => RchB.join h w⟩
  simp [e]
theorem cls_nodup (n : rs.Nodup) {r : Str} : (clsOf S sh rs r).Nodup := n.filter _
theorem cls_sorted (h : sortedS rs = true) {r : Str} : sortedS (clsOf S sh rs r) = true := risingS_sub ((sorted_pw h).filter _)
/-- what is told sorted of the rooms that are joined with r is this -/
theorem cls_one (o : S.Ok) (h : Srt rs S.rooms) {r : Str} (mr : r ∈ S.rooms) {ys zs : List Str} (sy : Srt ys zs) (nz : zs.Nodup) (iff : ∀ z, z ∈ zs ↔ RchB S sh [r] z) : ys = clsOf S sh rs r := by
  have n : rs.Nodup := h.1.nodup_iff.mpr o.rN
  refine Srt.same sy ⟨List.Perm.refl _, cls_sorted h.2⟩ nz (cls_nodup n) fun z => (iff z).trans ?_
  rw [mem_cls]
  exact ⟨fun w => ⟨h.1.mem_iff.mpr (RchB.rooms o (by simpa using mr) w), w⟩, fun w => w.2⟩
theorem first_iff (n : rs.Nodup) {i : Nat} {r : Str} (e : rs[i]? = some r) : isF S sh rs r = true ↔ ∀ w ∈ rs.take i, ¬ RchB S sh [w] r := by
  have hi := (List.getElem?_eq_some_iff.mp e).1
  have e1 : rs = rs.take i ++ r :: rs.drop (i + 1) := by
    have := List.drop_eq_getElem_cons hi
    rw [(List.getElem?_eq_some_iff.mp e).2] at this
    rw [← this, List.take_append_drop]
  have e2 : clsOf S sh rs r = clsOf S sh (rs.take i) r ++ clsOf S sh (r :: rs.drop (i + 1)) r := by
    unfold clsOf
    rw [← List.filter_append, ← e1]
  have e3 : clsOf S sh (r :: rs.drop (i + 1)) r = r :: clsOf S sh (rs.drop (i + 1)) r := by
    unfold clsOf
    rw [List.filter_cons, if_pos (by simpa using RchB.refl)]
  unfold isF
  rw [decide_eq_true_iff, e2, e3]
  constructor
  · intro h w mw hw
    have mc : w ∈ clsOf S sh (rs.take i) r := mem_cls.mpr ⟨mw, hw.symm⟩
    cases hc : clsOf S sh (rs.take i) r with
    | nil => rw [hc] at mc; cases mc
    | cons x t =>
      rw [hc] at h
      have ex : x = r := Option.some.inj h
      have mx : x ∈ rs.take i := (mem_cls (r := r)).mp (by rw [hc]; exact .head _) |>.1
      rw [ex] at mx
      rw [e1] at n
      exact (List.nodup_append.mp n).2.2 r mx r (.head _) rfl
  · intro h
    have : clsOf S sh (rs.take i) r = [] := by
      refine List.eq_nil_iff_forall_not_mem.mpr fun w mw => ?_
      obtain ⟨m, k⟩ := mem_cls.mp mw
      exact h w m k.symm
    rw [this]
    rfl
/-- a room's own part -/
theorem part_of (n : rs.Nodup) {z : Str} (mz : z ∈ rs) : clsOf S sh rs z ∈ partsOf S sh rs := by
  have mc : z ∈ clsOf S sh rs z := mem_cls.mpr ⟨mz, .refl⟩
  cases hc : clsOf S sh rs z with
  | nil => rw [hc] at mc; cases mc
  | cons h t =>
    obtain ⟨m, k⟩ := (mem_cls (r := z)).mp (by rw [hc]; exact .head _ : h ∈ clsOf S sh rs z)
    have e : clsOf S sh rs h = h :: t := by rw [← cls_same k, hc]
    refine List.mem_map.mpr ⟨h, List.mem_filter.mpr ⟨m, ?_⟩, e⟩
    unfold isF
    rw [e]
    exact decide_eq_true rfl
theorem part_is {p : List Str} (h : p ∈ partsOf S sh rs) : ∃ r, r ∈ rs ∧ p = clsOf S sh rs r ∧ p.head? = some r := by
  obtain ⟨r, mr, rfl⟩ := List.mem_map.mp h
  obtain ⟨m, f⟩ := List.mem_filter.mp mr
  unfold isF at f
  exact ⟨r, m, rfl, of_decide_eq_true f⟩
theorem part_own {p : List Str} (h : p ∈ partsOf S sh rs) {z : Str} (mz : z ∈ p) : p = clsOf S sh rs z := by
  obtain ⟨r, m, rfl, _⟩ := part_is h
  exact cls_same (mem_cls.mp mz).2
theorem parts_nodup (n : rs.Nodup) : (partsOf S sh rs).flatten.Nodup := by
  refine List.pairwise_flatten.mpr ⟨fun p m => ?_, ?_⟩
  · obtain ⟨r, _, rfl, _⟩ := part_is m
    exact cls_nodup n
  · unfold partsOf
    rw [List.pairwise_map]
    refine (n.filter _).imp_of_mem fun {a b} ha hb ne => ?_
    intro z za z2 zb ez
    subst ez
    have fa := (List.mem_filter.mp ha).2
    have fb := (List.mem_filter.mp hb).2
    unfold isF at fa fb
    have e : clsOf S sh rs a = clsOf S sh rs b := by rw [cls_same (mem_cls.mp za).2, cls_same (mem_cls.mp zb).2]
    have ha' := of_decide_eq_true fa
    have hb' := of_decide_eq_true fb
    rw [e, hb'] at ha'
    exact ne (Option.some.inj ha').symm
theorem parts_mem (n : rs.Nodup) {z : Str} : z ∈ (partsOf S sh rs).flatten ↔ z ∈ rs := by
  rw [List.mem_flatten]
  constructor
  · rintro ⟨p, mp, mz⟩
    obtain ⟨r, _, rfl, _⟩ := part_is mp
    exact (mem_cls.mp mz).1
  · exact fun m => ⟨_, part_of n m, mem_cls.mpr ⟨m, .refl⟩⟩
theorem parts_len : (partsOf S sh rs).length ≤ rs.length := by
  unfold partsOf
  rw [List.length_map]
  exact List.length_filter_le _ _
theorem parts_heads (h : sortedS rs = true) : (partsOf S sh rs).map (fun p => p.head?) = (rs.filter (isF S sh rs)).map some ∧ sortedS (rs.filter (isF S sh rs)) = true := by
  refine ⟨?_, risingS_sub ((sorted_pw h).filter _)⟩
  unfold partsOf
  rw [List.map_map]
  refine List.map_congr_left fun r m => ?_
  have f := (List.mem_filter.mp m).2
  unfold isF at f
  exact of_decide_eq_true f
end
/-! ### what is wet -/
def meetB (xs ys : List Str) : Bool := xs.any fun z => decide (z ∈ ys)
def wetB (src dr we p : List Str) : Bool := if meetB p src = true then true else if meetB p dr = true then false else meetB p we
theorem meet_iff {xs ys : List Str} : meetB xs ys = true ↔ ∃ z ∈ xs, z ∈ ys := by
  unfold meetB
  rw [List.any_eq_true]
  exact ⟨fun ⟨z, a, b⟩ => ⟨z, a, of_decide_eq_true b⟩, fun ⟨z, a, b⟩ => ⟨z, a, decide_eq_true b⟩⟩
theorem meet_same {xs ys zs : List Str} (e : ∀ z, z ∈ ys ↔ z ∈ zs) : meetB xs ys = meetB xs zs := by
  rw [Bool.eq_iff_iff, meet_iff, meet_iff]
  exact ⟨fun ⟨z, a, b⟩ => ⟨z, a, (e z).mp b⟩, fun ⟨z, a, b⟩ => ⟨z, a, (e z).mpr b⟩⟩
theorem wet_same {s1 s2 d1 d2 w1 w2 p : List Str} (a : ∀ z, z ∈ s1 ↔ z ∈ s2) (b : ∀ z, z ∈ d1 ↔ z ∈ d2) (c : ∀ z, z ∈ w1 ↔ z ∈ w2) : wetB s1 d1 w1 p = wetB s2 d2 w2 p := by
  unfold wetB
  rw [meet_same a, meet_same b, meet_same c]
def roomOf (S : LS) (d : Str) : Str := (look S.drains d).getD ""
noncomputable def settledOf (S : LS) (sh op we rs : List Str) : List Str := ((partsOf S sh rs).filter (wetB S.sources (op.map (roomOf S)) we)).flatten
theorem settled_nodup {S : LS} {sh op we rs : List Str} (n : rs.Nodup) : (settledOf S sh op we rs).Nodup := by
  obtain ⟨a, b⟩ := List.pairwise_flatten.mp (parts_nodup (S := S) (sh := sh) n)
  exact List.pairwise_flatten.mpr ⟨fun l m => a l (List.mem_filter.mp m).1, b.filter _⟩
theorem settled_mem {S : LS} {sh op we rs : List Str} (n : rs.Nodup) {z : Str} : z ∈ settledOf S sh op we rs ↔ z ∈ rs ∧ wetB S.sources (op.map (roomOf S)) we (clsOf S sh rs z) = true := by
  unfold settledOf
  rw [List.mem_flatten]
  constructor
  · rintro ⟨p, mp, mz⟩
    obtain ⟨m, w⟩ := List.mem_filter.mp mp
    rw [part_own m mz] at w mz
    exact ⟨(mem_cls.mp mz).1, w⟩
  · rintro ⟨m, w⟩
    exact ⟨_, List.mem_filter.mpr ⟨part_of n m, w⟩, mem_cls.mpr ⟨m, .refl⟩⟩
open Classical in
noncomputable def spillOf (S : LS) (sh op : List Str) : List Str := op.filter fun d => decide (RchB S sh S.sources (roomOf S d))
/-- what spills is wet, of the open drains -/
theorem spill_wet {S : LS} (o : S.Ok) {sh op we rs : List Str} (sr : Srt rs S.rooms) {d : Str} (md : d ∈ op) (dk : roomOf S d ∈ S.rooms) : (roomOf S d ∈ settledOf S sh op we rs) ↔ d ∈ spillOf S sh op := by
  have n : rs.Nodup := sr.1.nodup_iff.mpr o.rN
  have mr := sr.1.mem_iff.mpr dk
  rw [settled_mem n]
  unfold spillOf
  rw [List.mem_filter]
  have hd : meetB (clsOf S sh rs (roomOf S d)) (op.map (roomOf S)) = true := meet_iff.mpr ⟨roomOf S d, mem_cls.mpr ⟨mr, .refl⟩, List.mem_map_of_mem md⟩
  unfold wetB
  rw [hd]
  have k : meetB (clsOf S sh rs (roomOf S d)) S.sources = true ↔ RchB S sh S.sources (roomOf S d) := by
    rw [meet_iff]
    constructor
    · rintro ⟨z, a, b⟩
      exact .to b (mem_cls.mp a).2.symm
    · intro h
      obtain ⟨x, mx, kx⟩ := h.from
      exact ⟨x, mem_cls.mpr ⟨sr.1.mem_iff.mpr (o.sI x mx), kx.symm⟩, mx⟩
  constructor
  · rintro ⟨_, w⟩
    refine ⟨md, ?_⟩
    by_cases c : meetB (clsOf S sh rs (roomOf S d)) S.sources = true
    · simpa using k.mp c
    · rw [if_neg c] at w
      cases w
  · rintro ⟨_, w⟩
    exact ⟨mr, by rw [if_pos (k.mpr (by simpa using w))]⟩
section
variable (L : Addr)
def spPartsOf : Sp := fun vs H Q _ => ∃ (A : LA) (S : LS) (a : Addr) (sh : List Str), vs = [.ref A.p, .ref a] ∧ LayAt L H A S ∧ S.Ok ∧ H a = some (.lst (sh.map V.str)) ∧ sh.Nodup ∧ (∀ x ∈ sh, x ∈ swOf S) ∧
  ∀ (H' : Hp) (p : Addr) (rs : List Str) (gs : List Addr), Srt rs S.rooms → Same H H' → H p = none → H' p = some (.lst (gs.map V.ref)) → Lists H' gs (partsOf S sh rs) → Q (.ref p) H'
def spMeet : Sp := fun vs H Q _ => ∃ (a b : Addr) (xs ys : List Str), vs = [.ref a, .ref b] ∧ H a = some (.lst (xs.map V.str)) ∧ H b = some (.lst (ys.map V.str)) ∧ xs.length ≤ 900 ∧ ∀ H', Same H H' → Q (.bl (meetB xs ys)) H'
def spIsWet : Sp := fun vs H Q _ => ∃ (p a b c : Addr) (xs s d w : List Str), vs = [.ref p, .ref a, .ref b, .ref c] ∧ H p = some (.lst (xs.map V.str)) ∧ H a = some (.lst (s.map V.str)) ∧ H b = some (.lst (d.map V.str)) ∧ H c = some (.lst (w.map V.str)) ∧ xs.length ≤ 900 ∧ ∀ H', Same H H' → Q (.bl (wetB s d w xs)) H'
structure Asks3 (H : Hp) (A : LA) (S : LS) (a b : Addr) (sh op : List Str) : Prop where
  lay : LayAt L H A S
  ok : S.Ok
  ha : H a = some (.lst (sh.map V.str))
  hb : H b = some (.lst (op.map V.str))
  na : sh.Nodup
  nb : op.Nodup
  sa : ∀ x ∈ sh, x ∈ swOf S
  sb : ∀ x ∈ op, x ∈ keys S.drains
theorem Asks3.same {H H' : Hp} {A : LA} {S : LS} {a b : Addr} {sh op : List Str} (h : Asks3 L H A S a b sh op) (s : Same H H') : Asks3 L H' A S a b sh op :=
  ⟨h.lay.same s, h.ok, s _ _ h.ha, s _ _ h.hb, h.na, h.nb, h.sa, h.sb⟩
theorem Asks3.la {H : Hp} {A : LA} {S : LS} {a b : Addr} {sh op : List Str} (h : Asks3 L H A S a b sh op) : sh.length ≤ 40 := by
  have := nodup_len h.na fun x m => swOf_sub (h.sa x m)
  have h2 : (keys S.lines).length ≤ 40 := by rw [keys, List.length_map]; exact h.ok.lL
  omega
theorem Asks3.lb {H : Hp} {A : LA} {S : LS} {a b : Addr} {sh op : List Str} (h : Asks3 L H A S a b sh op) : op.length ≤ 12 := by
  have := nodup_len h.nb h.sb
  have h2 : (keys S.drains).length ≤ 12 := by rw [keys, List.length_map]; exact h.ok.dL
  omega
def spSettled : Sp := fun vs H Q _ => ∃ (A : LA) (S : LS) (a b c : Addr) (sh op we : List Str), vs = [.ref A.p, .ref a, .ref b, .ref c] ∧ Asks3 L H A S a b sh op ∧ H c = some (.lst (we.map V.str)) ∧ we.Nodup ∧ (∀ x ∈ we, x ∈ S.rooms) ∧
  ∀ (H' : Hp) (p : Addr) (rs ys : List Str), Srt rs S.rooms → Srt ys (settledOf S sh op we rs) → Same H H' → H p = none → H' p = some (.lst (ys.map V.str)) → Q (.ref p) H'
def spSpilling : Sp := fun vs H Q _ => ∃ (A : LA) (S : LS) (a b : Addr) (sh op : List Str), vs = [.ref A.p, .ref a, .ref b] ∧ Asks3 L H A S a b sh op ∧
  ∀ (H' : Hp) (p : Addr) (ys : List Str), Srt ys (spillOf S sh op) → Same H H' → H p = none → H' p = some (.lst (ys.map V.str)) → Q (.ref p) H'
end
def spPartsL : Sp := fun vs H Q _ => ∃ (m l d a b s : Addr) (S : LS) (sh : List Str), vs = [.ref m, .ref s] ∧ WAt H m l d a b S ∧ H s = some (.lst (sh.map V.str)) ∧
  ∀ (H' : Hp) (p : Addr) (rs : List Str) (gs : List Addr), Srt rs S.rooms → Same H H' → H p = none → H' p = some (.lst (gs.map V.ref)) → Lists H' gs (partsOf S sh rs) → Q (.ref p) H'
def spSettledL : Sp := fun vs H Q _ => ∃ (m l d a b s o w : Addr) (S : LS) (sh op we : List Str), vs = [.ref m, .ref s, .ref o, .ref w] ∧ WAt H m l d a b S ∧ H s = some (.lst (sh.map V.str)) ∧ H o = some (.lst (op.map V.str)) ∧ H w = some (.lst (we.map V.str)) ∧ (∀ x ∈ op, x ∈ keys S.drains) ∧ op.length ≤ 64 ∧
  ∀ (H' : Hp) (p : Addr) (rs ys : List Str), Srt rs S.rooms → Srt ys (settledOf S sh op we rs) → Same H H' → H p = none → H' p = some (.lst (ys.map V.str)) → Q (.ref p) H'
theorem uT_app (xs ys : List Str) : uT (xs ++ ys) = uT xs ++ uT ys := List.map_append
theorem Kr.app {α : Type} {G : V → α → Prop} : ∀ {k1 k2 : List (Key × V)} {t1 t2 : List (Str × α)}, Kr G k1 t1 → Kr G k2 t2 → Kr G (k1 ++ k2) (t1 ++ t2)
  | _, _, _, _, .nil, k => k
  | _, _, _, _, .cons h t, k => .cons h (Kr.app t k)
/-- one dict of names, and another one put behind it -/
theorem merge_names {k1 k2 : List (Key × V)} {xs ys : List Str} (h : Kr TrueG k1 (uT xs)) (k : Kr TrueG k2 (uT ys)) (n : ys.Nodup) (d : ∀ y ∈ ys, y ∉ xs) : mergeK k1 k2 = k1 ++ k2 ∧ Kr TrueG (k1 ++ k2) (uT (xs ++ ys)) := by
  refine ⟨mergeK_new ?_ ?_, ?_⟩
  · rw [k.uT_names]
    exact n.map _ fun _ _ h w => h (Sum.inr.inj w)
  · intro p m
    have mp : p.1 ∈ k2.map (·.1) := List.mem_map_of_mem m
    rw [k.uT_names] at mp
    obtain ⟨y, my, e⟩ := List.mem_map.mp mp
    rw [← e]
    exact h.no (uT_none.mpr (d y my))
  · rw [uT_app]
    exact h.app k
/-! ### a walk over a list, of any body -/
theorem lw_list {K : PySem.W.Frag} {a : Addr} {xs : List V} {B : V → Hp → (Hp → Prop) → Prop} {H0 : Hp} {Qd : Hp → Prop} (Pv : Nat → Hp → Prop) (h0 : Pv 0 H0) (hl : ∀ i H, i ≤ xs.length → Pv i H → SqL K H a xs)
    (hs : ∀ i x H, xs[i]? = some x → Pv i H → B x H (Pv (i + 1))) (hd : ∀ H, Pv xs.length H → Qd H) :
    ∃ W : Nat → Nat → Hp → Prop, (∃ m, W 0 m H0) ∧ ∀ i m H, W i m H →
      ((Itl K a).stop i H ∧ Qd H) ∨ ((Itl K a).go i H ∧ ∃ Nx : Hp → Prop, (∀ H', Nx H' → ∃ m', m' < m ∧ W (i + 1) m' H') ∧ ∀ x H', (Itl K a).yld i H x H' → B x H' Nx) := by
  refine ⟨fun i m H => m = xs.length - i ∧ i ≤ xs.length ∧ Pv i H, ⟨xs.length, by simp, Nat.zero_le _, h0⟩, ?_⟩
  rintro i m H ⟨rfl, hi, p⟩
  have q := hl i H hi p
  by_cases hlt : i < xs.length
  · refine .inr ⟨⟨xs, xs[i], q, by simp [hlt]⟩, Pv (i + 1), fun H' p' => ⟨xs.length - (i + 1), by omega, rfl, hlt, p'⟩, fun x H' y => ?_⟩
    obtain ⟨e, y⟩ := y
    subst e
    exact hs i x _ (y xs q) p
  · have e : i = xs.length := by omega
    subst e
    exact .inl ⟨⟨xs, q, Nat.le_refl _⟩, hd H p⟩
theorem pi_listK {X : Cx} {K : PySem.W.Frag} {tg l : Expr} {tl : TE} (e : X.K = K) (hl : PE X l tl) : PI X tg l (iList K tl) := by
  subst e
  exact pi_list hl
theorem call_isiK {X : Cx} {K : PySem.W.Frag} (e : X.K = K) : CallR X (.builtin "isinstance") (rIsi K) := by
  subst e
  exact call_isi
theorem op_neDK {X : Cx} {K : PySem.W.Frag} (e : X.K = K) (hu : X.A.units + 64 < cLine) : OpR X (compareOp .NotEq) (rNeD K) := by
  subst e
  exact op_neD hu
theorem op_eqDK {X : Cx} {K : PySem.W.Frag} (e : X.K = K) (hu : X.A.units + 64 < cLine) : OpR X (compareOp .Eq) (rEqD K) := by
  subst e
  exact op_eqD hu
theorem names_self {ys : List Str} (h : ∀ y ∈ ys, okName y = true) : PyData.eqv (.list (ys.map PyData.str)) (.list (ys.map PyData.str)) = true := eqv_self _ (names_sm h).lay
theorem atI_head {r : Str} {t : List Str} : atI ((r :: t).map V.str) 0 = some (.str r) := by
  obtain ⟨z, ez, az⟩ := atI_strs (rs := r :: t) (v := 0) (Int.le_refl _) (by rw [List.length_cons]; omega)
  cases ez
  exact az
theorem cut_head {r : Str} {t : List Str} : cutV ((r :: t).map V.str) none (some 1) = [V.str r] := (cutV_take _ 1).trans rfl
theorem rows_nil5 : Fine (rowsD [[], [], [], [], []]) :=
  (Sm.lst (SmAll.map (k := 1) (w := 17) rowD fun xs hx => by
    have e : xs = [] := by simpa using hx
    rw [e]
    exact (names_sm (ys := []) (fun y h => by cases h)).mono (Nat.le_refl _) (by decide))).fine (by decide) (by decide)
theorem srt_nil {ys : List Str} (h : Srt ys []) : ys = [] := List.Perm.eq_nil h.1
theorem Rch.none {f : Str → List (Str × Str)} {z : Str} (h : Rch f [] z) : False := by
  induction h with
  | base m => cases m
  | step _ _ ih => exact ih
end SM
/-! Part W3: every second item; ways. -/
namespace SM
open PySem PySem.Spec PyProof.Rows L2
/-- every second item, from the first on -/
def evens {α : Type} : List α → List α
  | [] => []
  | [x] => [x]
  | x :: _ :: t => x :: evens t
theorem evens_map {α β : Type} (f : α → β) : ∀ xs : List α, evens (xs.map f) = (evens xs).map f
  | [] => rfl
  | [_] => rfl
  | _ :: _ :: t => by
    show f _ :: evens (t.map f) = f _ :: (evens t).map f
    rw [evens_map f t]
theorem evens_len {α : Type} : ∀ xs : List α, (evens xs).length = (xs.length + 1) / 2
  | [] => by simp [evens]
  | [_] => by simp [evens]
  | _ :: _ :: t => by
    show (evens t).length + 1 = _
    rw [evens_len t, List.length_cons, List.length_cons]
    omega
theorem pick2 {α : Type} : ∀ xs : List α, ((List.range ((xs.length + 1) / 2)).map (2 * ·)).filterMap (xs[·]?) = evens xs
  | [] => by simp [evens]
  | [_] => by simp [evens]
  | x :: y :: t => by
    have e : ((x :: y :: t).length + 1) / 2 = (t.length + 1) / 2 + 1 := by
      rw [List.length_cons, List.length_cons]
      omega
    rw [e, List.range_succ_eq_map, List.map_cons, List.filterMap_cons]
    show x :: _ = x :: evens t
    rw [← pick2 t, List.map_map, List.filterMap_map, List.filterMap_map]
    congr 2
theorem vals_evens : ∀ {xs : List V} {us : List Value}, Vals xs us → Vals (evens xs) (evens us)
  | _, _, .nil => .nil
  | _, _, .cons h .nil => .cons h .nil
  | _, _, .cons h (.cons _ t) => .cons h (vals_evens t)
theorem vals_drop1 : ∀ {xs : List V} {us : List Value}, Vals xs us → Vals (xs.drop 1) (us.drop 1)
  | _, _, .nil => .nil
  | _, _, .cons _ t => t
theorem slice2 (its : List Value) : slicePick its.toArray none none (some 2) = (evens its).toArray := by
  unfold slicePick
  have e : sliceRange (sliceBounds none none (some 2) its.toArray.size).1 (sliceBounds none none (some 2) its.toArray.size).2.1 (sliceBounds none none (some 2) its.toArray.size).2.2 = (List.range ((its.length + 1) / 2)).map (2 * ·) := by
    simp only [sliceBounds, sliceRange, Option.getD_some, List.size_toArray, show (2 : Int) > 0 by decide, if_true]
    by_cases h : its = []
    · subst h
      rfl
    · have hp : 0 < its.length := List.length_pos_iff.mpr h
      rw [if_pos (by omega)]
      have c : (((its.length : Int) - 0 + 2 - 1) / 2).toNat = (its.length + 1) / 2 := by omega
      rw [c]
      refine List.map_congr_left fun k _ => ?_
      omega
  rw [e]
  congr 1
  rw [← pick2 its]
  simp
theorem slice2b (its : List Value) : slicePick its.toArray (some 1) none (some 2) = (evens (its.drop 1)).toArray := by
  cases its with
  | nil => rfl
  | cons x t =>
    unfold slicePick
    have e : sliceRange (sliceBounds (some 1) none (some 2) (x :: t).toArray.size).1 (sliceBounds (some 1) none (some 2) (x :: t).toArray.size).2.1 (sliceBounds (some 1) none (some 2) (x :: t).toArray.size).2.2 = (List.range ((t.length + 1) / 2)).map (fun k => 2 * k + 1) := by
      simp only [sliceBounds, sliceRange, Option.getD_some, List.size_toArray, show (2 : Int) > 0 by decide, if_true, List.length_cons]
      rw [if_neg (by decide : ¬ (1 : Int) < 0)]
      have m1 : max (0 : Int) (min 1 ((t.length + 1 : Nat) : Int)) = 1 := by omega
      rw [m1]
      by_cases h : t = []
      · subst h
        rfl
      · have hp : 0 < t.length := List.length_pos_iff.mpr h
        rw [if_pos (by omega)]
        have c : ((((t.length + 1 : Nat) : Int) - 1 + 2 - 1) / 2).toNat = (t.length + 1) / 2 := by omega
        rw [c]
        refine List.map_congr_left fun k _ => ?_
        omega
    rw [e]
    show _ = (evens t).toArray
    congr 1
    rw [← pick2 t, List.filterMap_map, List.filterMap_map]
    congr 1
    funext i
    simp
/-- xs[::2], xs[1::2] -/
def tStepL (K : PySem.W.Frag) (j : Nat) (te : TE) : TE := fun σ H Q => te σ H fun x H1 => ∃ a xs, x = .ref a ∧ SqL K H1 a xs ∧ ∀ p, H1 p = none → Q (.ref p) (upd H1 p (.lst (evens (xs.drop j))))
section
variable {X : Cx} {e : Expr} {te : TE} {k k2 : Nat} {p1 p2 p3 pos : Pos}
theorem pe_stepL0 (he : PE X e te) : PE X (.Subscript e (.Slice none none (some (.Constant (.int 2) k p1)) p3) pos) (tStepL X.K 0 te) := by
  refine ⟨fun pins s σ H Q I h => ?_⟩
  refine Subscript_ (thn (he.run pins s σ H _ I h) fun v s1 ⟨x, H1, I1, r1, q1⟩ => ?_)
  obtain ⟨a, xs, ex, hx, q⟩ := q1
  subst ex
  cases r1
  have hst : PO X (some (.Constant (.int 2) k p1)) (tPart (tC (.int 2))) := po_some pe_int
  refine wpAny_Slice (thn (po_none.run pins s1 σ H1 (fun o H2 => o = none ∧ H2 = H1) I1 ⟨rfl, rfl⟩) fun vl s2 ⟨l, H2, I2, pl, el, e2⟩ => ?_)
  subst el e2
  refine thn (po_none.run pins s2 σ H2 (fun o H3 => o = none ∧ H3 = H2) I2 ⟨rfl, rfl⟩) fun vu s3 ⟨u, H3, I3, pu, eu, e3⟩ => ?_
  subst eu e3
  refine thn (hst.run pins s3 σ H3 (fun o H4 => o = some 2 ∧ H4 = H3) I3 ⟨2, rfl, rfl, rfl⟩) fun vs s4 ⟨o, H4, I4, ps, eo, e4⟩ => ?_
  subst eo e4
  have I5 : Inv X pins σ H4 { s4 with heap := s4.heap.push { cls := .type "slice", data := .fields #[vl, vu, vs] } } := I4.kept (t' := s4.toks) fun b ob q => Heap.get?_push_of_some _ q
  obtain ⟨its, r, ht, hz⟩ := I5.list hx
  have hlen := r.length
  show wpAny (model X.prog X.w) X.A (subscriptTail e (.Slice none none (some (.Constant (.int 2) k p1)) p3) (.ref a) (.ref s4.heap.objs.size)) (EP X pins σ Q) X.xe { s4 with heap := s4.heap.push { cls := .type "slice", data := .fields #[vl, vu, vs] } }
  refine tail_any (ops := [.ref a, .ref s4.heap.objs.size]) ht.isList.typeIs (PySem.slot_list_getitem.lookup) ?_ (by with_unfolding_all rfl)
  refine wpAny_getItem_list_slice ht.isList (Heap.IsSliceOf.new _ vl vu vs) pl pu ps (by decide) ?_ (by rw [List.size_toArray]; omega)
  rw [slice2]
  refine ⟨.ref _, _, I5.laid (t' := s4.toks) (o := .lst (evens xs)) (fun b ob q => Heap.get?_push_of_some _ q) (Nat.le_refl _) ?_, rfl, q _ (I5.hok.fresh (Nat.le_refl _))⟩
  exact ⟨by rw [evens_len]; omega, _, 0, vals_evens r, Heap.get?_push_size _ rfl⟩
theorem pe_stepL1 (he : PE X e te) : PE X (.Subscript e (.Slice (some (.Constant (.int 1) k2 p2)) none (some (.Constant (.int 2) k p1)) p3) pos) (tStepL X.K 1 te) := by
  refine ⟨fun pins s σ H Q I h => ?_⟩
  refine Subscript_ (thn (he.run pins s σ H _ I h) fun v s1 ⟨x, H1, I1, r1, q1⟩ => ?_)
  obtain ⟨a, xs, ex, hx, q⟩ := q1
  subst ex
  cases r1
  have hst : PO X (some (.Constant (.int 2) k p1)) (tPart (tC (.int 2))) := po_some pe_int
  have hlo : PO X (some (.Constant (.int 1) k2 p2)) (tPart (tC (.int 1))) := po_some pe_int
  refine wpAny_Slice (thn (hlo.run pins s1 σ H1 (fun o H2 => o = some 1 ∧ H2 = H1) I1 ⟨1, rfl, rfl, rfl⟩) fun vl s2 ⟨l, H2, I2, pl, el, e2⟩ => ?_)
  subst el e2
  refine thn (po_none.run pins s2 σ H2 (fun o H3 => o = none ∧ H3 = H2) I2 ⟨rfl, rfl⟩) fun vu s3 ⟨u, H3, I3, pu, eu, e3⟩ => ?_
  subst eu e3
  refine thn (hst.run pins s3 σ H3 (fun o H4 => o = some 2 ∧ H4 = H3) I3 ⟨2, rfl, rfl, rfl⟩) fun vs s4 ⟨o, H4, I4, ps, eo, e4⟩ => ?_
  subst eo e4
  have I5 : Inv X pins σ H4 { s4 with heap := s4.heap.push { cls := .type "slice", data := .fields #[vl, vu, vs] } } := I4.kept (t' := s4.toks) fun b ob q => Heap.get?_push_of_some _ q
  obtain ⟨its, r, ht, hz⟩ := I5.list hx
  have hlen := r.length
  show wpAny (model X.prog X.w) X.A (subscriptTail e (.Slice (some (.Constant (.int 1) k2 p2)) none (some (.Constant (.int 2) k p1)) p3) (.ref a) (.ref s4.heap.objs.size)) (EP X pins σ Q) X.xe { s4 with heap := s4.heap.push { cls := .type "slice", data := .fields #[vl, vu, vs] } }
  refine tail_any (ops := [.ref a, .ref s4.heap.objs.size]) ht.isList.typeIs (PySem.slot_list_getitem.lookup) ?_ (by with_unfolding_all rfl)
  refine wpAny_getItem_list_slice ht.isList (Heap.IsSliceOf.new _ vl vu vs) pl pu ps (by decide) ?_ (by rw [List.size_toArray]; omega)
  rw [slice2b]
  refine ⟨.ref _, _, I5.laid (t' := s4.toks) (o := .lst (evens (xs.drop 1))) (fun b ob q => Heap.get?_push_of_some _ q) (Nat.le_refl _) ?_, rfl, q _ (I5.hok.fresh (Nat.le_refl _))⟩
  exact ⟨by rw [evens_len, List.length_drop]; omega, _, 0, vals_evens (vals_drop1 r), Heap.get?_push_size _ rfl⟩
end
end SM
/-! Part W4: the search for a way, as it goes. -/
namespace SM
open PySem PySem.Spec PyProof.Rows L2
def lastR (w : List Str) : Str := w.getLast?.getD ""
def growS (w : List Str) (s : List (List Str) × List Str) (q : Str × Str) : List (List Str) × List Str := if q.2 ∈ s.2 then s else (s.1 ++ [w ++ [q.1, q.2]], s.2 ++ [q.2])
def bfs (f : Str → List (Str × Str)) (es : List Str) : Nat → List (List Str) → List Str → Nat → Option (List Str)
  | 0, _, _, _ => none
  | n + 1, ws, fs, i => match ws[i]? with
    | none => none
    | some w => if lastR w ∈ es then some w else bfs f es n ((f (lastR w)).foldl (growS w) (ws, fs)).1 ((f (lastR w)).foldl (growS w) (ws, fs)).2 (i + 1)
def firstWay (f : Str → List (Str × Str)) (ss xs es : List Str) : Option (List Str) := bfs f es 25 (ss.map fun r => [r]) xs 0
/-- what is kept while the search goes -/
structure BfsOk (rs : List Str) (ws : List (List Str)) (fs : List Str) : Prop where
  nd : fs.Nodup
  sub : ∀ z ∈ fs, z ∈ rs
  len : ws.length = fs.length
  short : ∀ w ∈ ws, w.length ≤ 2 * fs.length
  last : ∀ w ∈ ws, w ≠ [] ∧ lastR w ∈ rs
theorem lastR_app {w : List Str} {a b : Str} : lastR (w ++ [a, b]) = b := by
  unfold lastR
  rw [List.getLast?_append]
  rfl
theorem BfsOk.grow {rs : List Str} {ws : List (List Str)} {fs : List Str} (h : BfsOk rs ws fs) {w : List Str} (mw : w ∈ ws) {q : Str × Str} (mq : q.2 ∈ rs) : BfsOk rs (growS w (ws, fs) q).1 (growS w (ws, fs) q).2 := by
  unfold growS
  by_cases m : q.2 ∈ fs
  · rw [if_pos m]
    exact h
  · rw [if_neg m]
    refine ⟨List.nodup_append.mpr ⟨h.nd, by simp, fun x hx y hy e => m (by rw [← List.mem_singleton.mp hy, ← e]; exact hx)⟩, fun z hz => ?_, ?_, fun v hv => ?_, fun v hv => ?_⟩
    · rcases List.mem_append.mp hz with hz | hz
      · exact h.sub z hz
      · rw [List.mem_singleton.mp hz]
        exact mq
    · show (ws ++ [w ++ [q.1, q.2]]).length = (fs ++ [q.2]).length
      rw [List.length_append, List.length_append, h.len]
      rfl
    · show v.length ≤ 2 * (fs ++ [q.2]).length
      rw [List.length_append, List.length_singleton]
      rcases List.mem_append.mp hv with hv | hv
      · have := h.short v hv
        omega
      · rw [List.mem_singleton.mp hv, List.length_append]
        have := h.short w mw
        have : [q.1, q.2].length = 2 := rfl
        omega
    · rcases List.mem_append.mp hv with hv | hv
      · exact h.last v hv
      · rw [List.mem_singleton.mp hv]
        exact ⟨by simp, by rw [lastR_app]; exact mq⟩
section
variable (L : Addr)
def ResV (H : Hp) (v : V) : Option (List Str) → Prop
  | none => v = .non
  | some w => ∃ g, v = .ref g ∧ H g = some (.lst (w.map V.str))
def spFirstWay : Sp := fun vs H Q _ => ∃ (a b c : Addr) (rs xs es : List Str) (f : Str → List (Str × Str)), vs = [.ref a, .ref b, .ref c] ∧ LeadsAt H a rs f ∧ H b = some (.lst (xs.map V.str)) ∧ H c = some (.lst (es.map V.str)) ∧ xs.Nodup ∧ (∀ x ∈ xs, x ∈ rs) ∧ rs.length ≤ 24 ∧ (∀ r ∈ rs, ∀ p ∈ f r, p.2 ∈ rs) ∧
  ∀ (H' : Hp) (v : V) (ss : List Str), Srt ss xs → Same H H' → (∀ g, v = .ref g → H g = none) → ResV H' v (firstWay f ss xs es) → Q v H'
def spWayTo : Sp := fun vs H Q _ => ∃ (A : LA) (S : LS) (a b : Addr) (sh xs : List Str), vs = [.ref A.p, .ref a, .ref b] ∧ Asks L H A S a b sh xs ∧
  ∀ (H' : Hp) (v : V) (ls ss : List Str), Srt ls (keys S.lines) → Srt ss S.sources → Same H H' → (∀ g, v = .ref g → H g = none) → ResV H' v (firstWay (leadsTo S sh ls) ss ss xs) → Q v H'
end
end SM
/-! Part W5: what the search finds. -/
namespace SM
open PySem PySem.Spec PyProof.Rows L2
/-- a way, its halts and its lines -/
inductive Wy (f : Str → List (Str × Str)) (xs : List Str) : List Str → List Str → List Str → Prop where
  | start {r : Str} : r ∈ xs → Wy f xs [r] [r] []
  | step {w hs ls : List Str} {q : Str × Str} : Wy f xs w hs ls → q ∈ f (lastR hs) → Wy f xs (w ++ [q.1, q.2]) (hs ++ [q.2]) (ls ++ [q.1])
theorem lastR_one {hs : List Str} {o : Str} : lastR (hs ++ [o]) = o := by
  unfold lastR
  rw [List.getLast?_append]
  rfl
section
variable {f : Str → List (Str × Str)} {xs w hs ls : List Str}
theorem Wy.last (h : Wy f xs w hs ls) : lastR hs = lastR w := by
  cases h with
  | start => rfl
  | step => rw [lastR_one, lastR_app]
theorem Wy.ne (h : Wy f xs w hs ls) : hs ≠ [] := by
  cases h <;> simp
theorem Wy.len (h : Wy f xs w hs ls) : hs.length = ls.length + 1 ∧ w.length = 2 * ls.length + 1 := by
  induction h with
  | start => exact ⟨rfl, rfl⟩
  | step _ _ ih =>
    obtain ⟨a, b⟩ := ih
    constructor
    · rw [List.length_append, List.length_append, a]
      rfl
    · rw [List.length_append, List.length_append, b]
      simp
      omega
theorem evens_app {α : Type} : ∀ {xs : List α} {k : Nat} {a b : α}, xs.length = 2 * k + 1 → evens (xs ++ [a, b]) = evens xs ++ [b]
  | [], k, _, _, h => by simp at h
  | [x], _, _, _, _ => rfl
  | x :: y :: t, k, a, b, h => by
    show x :: evens (t ++ [a, b]) = x :: evens t ++ [b]
    rw [evens_app (k := k - 1) (by rw [List.length_cons, List.length_cons] at h; omega)]
    rfl
theorem odds_app {α : Type} : ∀ {xs : List α} {k : Nat} {a b : α}, xs.length = 2 * k + 1 → evens ((xs ++ [a, b]).drop 1) = evens (xs.drop 1) ++ [a]
  | [], k, _, _, h => by simp at h
  | [x], _, _, _, _ => rfl
  | x :: y :: t, k, a, b, h => by
    show evens (y :: (t ++ [a, b])) = evens (y :: t) ++ [a]
    cases t with
    | nil =>
      simp at h
      omega
    | cons z t =>
      have ih := odds_app (xs := z :: t) (k := k - 1) (a := a) (b := b) (by simp only [List.length_cons] at h ⊢; omega)
      have ih' : evens (t ++ [a, b]) = evens t ++ [a] := ih
      show y :: evens (t ++ [a, b]) = y :: evens t ++ [a]
      rw [ih']
      rfl
theorem Wy.split (h : Wy f xs w hs ls) : evens w = hs ∧ evens (w.drop 1) = ls := by
  induction h with
  | start => exact ⟨rfl, rfl⟩
  | step h _ ih =>
    have l := h.len.2
    exact ⟨by rw [evens_app l, ih.1], by rw [odds_app l, ih.2]⟩
theorem Wy.head (h : Wy f xs w hs ls) : ∃ r t, hs = r :: t ∧ r ∈ xs := by
  induction h with
  | start m => exact ⟨_, _, rfl, m⟩
  | step _ _ ih =>
    obtain ⟨r, t, e, m⟩ := ih
    exact ⟨r, t ++ [_], by rw [e]; rfl, m⟩
theorem Wy.at (h : Wy f xs w hs ls) : ∀ {k : Nat} {l : Str}, ls[k]? = some l → ∃ a b, hs[k]? = some a ∧ hs[k + 1]? = some b ∧ (l, b) ∈ f a := by
  induction h with
  | start => intro k l e; cases e
  | step h mq ih =>
    rename_i w hs ls q
    intro k l e
    have hl := h.len.1
    by_cases lt : k < ls.length
    · rw [List.getElem?_append_left lt] at e
      obtain ⟨a, b, ha, hb, m⟩ := ih e
      exact ⟨a, b, by rw [List.getElem?_append_left (by omega)]; exact ha, by rw [List.getElem?_append_left (by omega)]; exact hb, m⟩
    · have hk : k = ls.length := by
        have := (List.getElem?_eq_some_iff.mp e).1
        rw [List.length_append, List.length_singleton] at this
        omega
      subst hk
      rw [List.getElem?_append_right (Nat.le_refl _), Nat.sub_self] at e
      cases e
      refine ⟨lastR hs, q.2, ?_, ?_, mq⟩
      · rw [List.getElem?_append_left (by omega)]
        unfold lastR
        rw [List.getLast?_eq_getElem?, hl, Nat.add_sub_cancel]
        rw [List.getElem?_eq_getElem (by omega)]
        rfl
      · rw [List.getElem?_append_right (by omega), hl, Nat.sub_self]
        rfl
theorem Wy.mem (h : Wy f xs w hs ls) (nx : ∀ z ∈ hs.tail, z ∉ xs) : ∀ l ∈ ls, ∃ a b, (l, b) ∈ f a := by
  intro l m
  obtain ⟨k, e⟩ := List.getElem?_of_mem m
  obtain ⟨a, b, _, _, q⟩ := h.at e
  exact ⟨a, b, q⟩
end
/-- a way as the search keeps it -/
def GoodW (f : Str → List (Str × Str)) (xs es fs w : List Str) : Prop := ∃ hs ls, Wy f xs w hs ls ∧ hs.Nodup ∧ (∀ r ∈ hs, r ∈ fs) ∧ (∀ r ∈ hs.tail, r ∉ xs) ∧ ∀ r ∈ hs.dropLast, r ∉ es
theorem GoodW.up {f : Str → List (Str × Str)} {xs es fs gs w : List Str} (h : GoodW f xs es fs w) (s : ∀ z ∈ fs, z ∈ gs) : GoodW f xs es gs w := by
  obtain ⟨hs, ls, a, b, c, d⟩ := h
  exact ⟨hs, ls, a, b, fun r m => s r (c r m), d⟩
structure BSt (f : Str → List (Str × Str)) (rs xs es : List Str) (ws : List (List Str)) (fs : List Str) : Prop where
  ok : BfsOk rs ws fs
  good : ∀ w ∈ ws, GoodW f xs es fs w
  sub : ∀ x ∈ xs, x ∈ fs
  img : ∀ z ∈ fs, ∃ w ∈ ws, lastR w = z
section
variable {f : Str → List (Str × Str)} {rs xs es : List Str}
theorem BSt.grow {ws : List (List Str)} {fs : List Str} (h : BSt f rs xs es ws fs) {w : List Str} (mw : w ∈ ws) (ne : lastR w ∉ es) {q : Str × Str} (mq : q ∈ f (lastR w)) (mr : q.2 ∈ rs) :
    BSt f rs xs es (growS w (ws, fs) q).1 (growS w (ws, fs) q).2 ∧ ws <+: (growS w (ws, fs) q).1 ∧ (∀ z ∈ fs, z ∈ (growS w (ws, fs) q).2) ∧ q.2 ∈ (growS w (ws, fs) q).2 := by
  have k := h.ok.grow mw mr
  unfold growS at k ⊢
  by_cases m : q.2 ∈ fs
  · rw [if_pos m] at k ⊢
    exact ⟨h, List.prefix_refl _, fun z hz => hz, m⟩
  · rw [if_neg m] at k ⊢
    have s : ∀ z ∈ fs, z ∈ fs ++ [q.2] := fun z hz => List.mem_append_left _ hz
    refine ⟨⟨k, fun v hv => ?_, fun x mx => s x (h.sub x mx), fun z hz => ?_⟩, List.prefix_append _ _, s, List.mem_append_right _ (.head _)⟩
    · rcases List.mem_append.mp hv with hv | hv
      · exact (h.good v hv).up s
      · rw [List.mem_singleton.mp hv]
        obtain ⟨hs, ls, wy, nd, sb, tx, de⟩ := h.good w mw
        refine ⟨hs ++ [q.2], ls ++ [q.1], .step wy (by rw [wy.last]; exact mq), List.nodup_append.mpr ⟨nd, by simp, fun x hx y hy e => m (by rw [← List.mem_singleton.mp hy, ← e]; exact sb x hx)⟩, fun r mr => ?_, fun r mr => ?_, fun r mr => ?_⟩
        · rcases List.mem_append.mp mr with mr | mr
          · exact s r (sb r mr)
          · exact List.mem_append_right _ mr
        · obtain ⟨r0, t, e, _⟩ := wy.head
          rw [e] at mr tx
          have mr' : r ∈ t ++ [q.2] := mr
          rcases List.mem_append.mp mr' with mr | mr
          · exact tx r mr
          · rw [List.mem_singleton.mp mr]
            exact fun w => m (h.sub _ w)
        · rw [List.dropLast_concat] at mr
          by_cases c : r ∈ hs.dropLast
          · exact de r c
          · have e : hs = hs.dropLast ++ [lastR hs] := by
              unfold lastR
              rw [List.getLast?_eq_some_getLast wy.ne]
              exact (List.dropLast_concat_getLast wy.ne).symm
            rw [e] at mr
            rcases List.mem_append.mp mr with mr | mr
            · exact absurd mr c
            · rw [List.mem_singleton.mp mr, wy.last]
              exact ne
    · rcases List.mem_append.mp hz with hz | hz
      · obtain ⟨v, mv, e⟩ := h.img z hz
        exact ⟨v, List.mem_append_left _ mv, e⟩
      · exact ⟨_, List.mem_append_right _ (.head _), by rw [lastR_app, List.mem_singleton.mp hz]⟩
theorem BSt.grows {w : List Str} (ne : lastR w ∉ es) : ∀ (qs : List (Str × Str)) {ws : List (List Str)} {fs : List Str}, BSt f rs xs es ws fs → w ∈ ws → (∀ q ∈ qs, q ∈ f (lastR w) ∧ q.2 ∈ rs) →
    BSt f rs xs es (qs.foldl (growS w) (ws, fs)).1 (qs.foldl (growS w) (ws, fs)).2 ∧ ws <+: (qs.foldl (growS w) (ws, fs)).1 ∧ (∀ z ∈ fs, z ∈ (qs.foldl (growS w) (ws, fs)).2) ∧ ∀ q ∈ qs, q.2 ∈ (qs.foldl (growS w) (ws, fs)).2
  | [], ws, fs, h, _, _ => ⟨h, List.prefix_refl _, fun _ m => m, fun _ m => nomatch m⟩
  | q :: qs, ws, fs, h, mw, hq => by
    obtain ⟨q1, q2⟩ := hq q (.head _)
    obtain ⟨a, b, c, d⟩ := h.grow mw ne q1 q2
    rw [List.foldl_cons]
    obtain ⟨a2, b2, c2, d2⟩ := BSt.grows ne qs a (b.subset mw) fun q m => hq q (.tail _ m)
    refine ⟨a2, b.trans b2, fun z m => c2 z (c z m), fun q' m => ?_⟩
    rcases List.mem_cons.mp m with e | m
    · rw [e]
      exact c2 _ d
    · exact d2 q' m
/-- what has been gone on from -/
def Done (f : Str → List (Str × Str)) (es : List Str) (ws : List (List Str)) (fs : List Str) (i : Nat) : Prop := ∀ j w, j < i → ws[j]? = some w → lastR w ∉ es ∧ ∀ q ∈ f (lastR w), q.2 ∈ fs
/-- what comes of it -/
def Found (f : Str → List (Str × Str)) (xs es : List Str) : Option (List Str) → Prop
  | some w => ∃ fs, GoodW f xs es fs w ∧ lastR w ∈ es
  | none => ∃ fs : List Str, (∀ x ∈ xs, x ∈ fs) ∧ (∀ z ∈ fs, ∀ q ∈ f z, q.2 ∈ fs) ∧ ∀ z ∈ fs, z ∉ es
theorem bfs_found (r24 : rs.length ≤ 24) (fr : ∀ r ∈ rs, ∀ q ∈ f r, q.2 ∈ rs) : ∀ (n : Nat) {ws : List (List Str)} {fs : List Str} {i : Nat}, BSt f rs xs es ws fs → i + n = 25 → i ≤ ws.length → Done f es ws fs i → Found f xs es (bfs f es n ws fs i)
  | 0, ws, fs, i, h, e, l, _ => by
    have := Nat.le_trans (nodup_len h.ok.nd h.ok.sub) r24
    rw [← h.ok.len] at this
    omega
  | n + 1, ws, fs, i, h, e, l, d => by
    unfold bfs
    cases ew : ws[i]? with
    | none =>
      have li : ws.length ≤ i := List.getElem?_eq_none_iff.mp ew
      have all : ∀ z ∈ fs, z ∉ es ∧ ∀ q ∈ f z, q.2 ∈ fs := fun z mz => by
        obtain ⟨w, mw, ez⟩ := h.img z mz
        obtain ⟨j, ej⟩ := List.getElem?_of_mem mw
        have lj := (List.getElem?_eq_some_iff.mp ej).1
        have := d j w (by omega) ej
        rw [ez] at this
        exact this
      exact ⟨fs, h.sub, fun z mz => (all z mz).2, fun z mz => (all z mz).1⟩
    | some w =>
      have mw := List.mem_of_getElem? ew
      show Found f xs es (if lastR w ∈ es then some w else bfs f es n _ _ (i + 1))
      by_cases c : lastR w ∈ es
      · rw [if_pos c]
        exact ⟨fs, h.good w mw, c⟩
      · rw [if_neg c]
        obtain ⟨a, b, s, q⟩ := BSt.grows c (f (lastR w)) h mw fun q m => ⟨m, fr _ (h.ok.last w mw).2 q m⟩
        have li : i < ws.length := (List.getElem?_eq_some_iff.mp ew).1
        refine bfs_found r24 fr n a (by omega) (Nat.le_trans li (b.length_le)) fun j v lj ej => ?_
        have ej2 : ws[j]? = some v := by
          obtain ⟨t, et⟩ := b
          rw [← et, List.getElem?_append_left (by omega)] at ej
          exact ej
        by_cases ji : j = i
        · subst ji
          rw [ew] at ej2
          cases ej2
          exact ⟨c, q⟩
        · obtain ⟨d1, d2⟩ := d j v (by omega) ej2
          exact ⟨d1, fun q' m => s _ (d2 q' m)⟩
theorem firstWay_found {ss : List Str} (r24 : rs.length ≤ 24) (fr : ∀ r ∈ rs, ∀ q ∈ f r, q.2 ∈ rs) (xN : xs.Nodup) (xr : ∀ x ∈ xs, x ∈ rs) (p : ss.Perm xs) : Found f xs es (firstWay f ss xs es) := by
  unfold firstWay
  refine bfs_found r24 fr 25 ⟨⟨xN, xr, by rw [List.length_map, p.length_eq], fun w mw => ?_, fun w mw => ?_⟩, fun w mw => ?_, fun x m => m, fun z mz => ?_⟩ (by omega) (Nat.zero_le _) (fun j w lj _ => by omega)
  · obtain ⟨r, mr, rfl⟩ := List.mem_map.mp mw
    have := List.length_pos_of_mem (p.mem_iff.mp mr)
    show 1 ≤ 2 * xs.length
    omega
  · obtain ⟨r, mr, rfl⟩ := List.mem_map.mp mw
    exact ⟨by simp, xr r (p.mem_iff.mp mr)⟩
  · obtain ⟨r, mr, rfl⟩ := List.mem_map.mp mw
    have m := p.mem_iff.mp mr
    exact ⟨[r], [], .start m, by simp, fun z mz => by rw [List.mem_singleton.mp mz]; exact m, (fun z mz => by cases mz), fun z mz => by cases mz⟩
  · exact ⟨[z], List.mem_map_of_mem (p.mem_iff.mpr mz), rfl⟩
end
theorem hu65 {A : Around} {k : Nat} (hr : Room k A) : A.units + 65 < cLine := by
  have := hr.un
  omega
theorem cut_last {xs : List V} {z : V} : cutV (xs ++ [z]) (some (-1)) none = [z] := by
  unfold cutV
  rw [HT.sIx_none]
  have e : HT.sIx (xs ++ [z]).length 0 (some (-1)) = xs.length := by
    unfold HT.sIx
    rw [List.length_append, List.length_singleton]
    simp
    omega
  rw [e, List.length_append, List.length_singleton]
  simp
def pairD (a b : Str) : PyData := .tuple [.str a, .str b]
theorem pair_sm {a b : Str} (h1 : okName a = true) (h2 : okName b = true) : Sm 1 34 (pairD a b) := Sm.tup (ds := [.str a, .str b]) (.cons (sm_str (okName_small h1)) (.cons (sm_str (okName_small h2)) .nil))
theorem pair_dp {K : PySem.W.Frag} {H : Hp} {t : Addr} {a b : Str} (h : H t = some (.tup [.str a, .str b])) : Dp K H (.ref t) (pairD a b) := .tup (SqT.of h) (.cons (.str _) (.cons (.str _) .nil))
theorem pairs_fine {a b c d : Str} (h1 : okName a = true) (h2 : okName b = true) (h3 : okName c = true) (h4 : okName d = true) : Fine (.list [pairD a b, pairD c d]) :=
  (Sm.lst (.cons (pair_sm h1 h2) (.cons (pair_sm h3 h4) .nil))).fine (by decide) (by show 2 * (34 + 1) ≤ 100000; decide)
theorem pair_in {a b c d : Str} (h1 : okName a = true) (h2 : okName b = true) (h : (c = a ∧ d = b) ∨ (c = b ∧ d = a)) : ([pairD a b, pairD b a].any fun z => PyData.eqv z (pairD c d)) = true := by
  rcases h with ⟨rfl, rfl⟩ | ⟨rfl, rfl⟩
  · rw [List.any_cons, eqv_self _ (pair_sm h1 h2).lay]
    rfl
  · rw [List.any_cons, List.any_cons, eqv_self _ (pair_sm h2 h1).lay]
    simp
/-- a way that is walked -/
structure Walk (S : LS) (sh xs w hs ls : List Str) : Prop where
  ev : evens w = hs
  od : evens (w.drop 1) = ls
  wl : w.length = 2 * ls.length + 1
  hl : hs.length = ls.length + 1
  nd : hs.Nodup
  rooms : ∀ r ∈ hs, r ∈ S.rooms
  head : ∃ r t, hs = r :: t ∧ r ∈ S.sources ∧ ∀ z ∈ t, z ∉ S.sources
  last : ∃ d z, hs = d ++ [z] ∧ z ∈ xs ∧ ∀ y ∈ d, y ∉ xs
  steps : ∀ k l, ls[k]? = some l → ∃ a b e, hs[k]? = some a ∧ hs[k + 1]? = some b ∧ look S.lines l = some e ∧ l ∉ sh ∧ ((e.1 = a ∧ e.2.1 = b) ∨ (e.1 = b ∧ e.2.1 = a))
theorem lead_is {S : LS} {sh ls : List Str} {a b l : Str} (h : (l, b) ∈ leadsTo S sh ls a) : ∃ e, look S.lines l = some e ∧ l ∉ sh ∧ ((e.1 = a ∧ e.2.1 = b) ∨ (e.1 = b ∧ e.2.1 = a)) := by
  obtain ⟨l', hl, e⟩ := List.mem_filterMap.mp h
  unfold lead at e
  cases hk : look S.lines l' with
  | none => rw [hk] at e; cases e
  | some q =>
    rw [hk] at e
    have e : (if l' ∈ sh then none else if q.1 = a then some (l', q.2.1) else if q.2.1 = a then some (l', q.1) else none) = some (l, b) := e
    by_cases h1 : l' ∈ sh
    · rw [if_pos h1] at e; cases e
    rw [if_neg h1] at e
    by_cases h2 : q.1 = a
    · rw [if_pos h2] at e
      cases e
      exact ⟨q, hk, h1, .inl ⟨h2, rfl⟩⟩
    rw [if_neg h2] at e
    by_cases h3 : q.2.1 = a
    · rw [if_pos h3] at e
      cases e
      exact ⟨q, hk, h1, .inr ⟨rfl, h3⟩⟩
    rw [if_neg h3] at e
    cases e
theorem walk_of {S : LS} (o : S.Ok) {sh lsx ss xs fs w : List Str} (p : ss.Perm S.sources) (g : GoodW (leadsTo S sh lsx) ss xs fs w) (m : lastR w ∈ xs) : ∃ hs ls, Walk S sh xs w hs ls := by
  obtain ⟨hs, ls, wy, nd, _, tx, de⟩ := g
  have st : ∀ k l, ls[k]? = some l → ∃ a b e, hs[k]? = some a ∧ hs[k + 1]? = some b ∧ look S.lines l = some e ∧ l ∉ sh ∧ ((e.1 = a ∧ e.2.1 = b) ∨ (e.1 = b ∧ e.2.1 = a)) := fun k l e => by
    obtain ⟨a, b, ha, hb, q⟩ := wy.at e
    obtain ⟨e2, k1, k2, k3⟩ := lead_is q
    exact ⟨a, b, e2, ha, hb, k1, k2, k3⟩
  obtain ⟨r, t, eh, mr⟩ := wy.head
  refine ⟨hs, ls, wy.split.1, wy.split.2, wy.len.2, wy.len.1, nd, fun z mz => ?_, ⟨r, t, eh, p.mem_iff.mp mr, fun z mz => ?_⟩, ⟨hs.dropLast, lastR hs, ?_, ?_, de⟩, st⟩
  · obtain ⟨k, ek⟩ := List.getElem?_of_mem mz
    have lk := (List.getElem?_eq_some_iff.mp ek).1
    have hl := wy.len.1
    cases k with
    | zero =>
      rw [eh] at ek
      cases ek
      exact o.sI _ (p.mem_iff.mp mr)
    | succ k =>
      obtain ⟨l, el⟩ : ∃ l, ls[k]? = some l := ⟨_, List.getElem?_eq_getElem (by omega)⟩
      obtain ⟨a, b, e, _, hb, k1, _, k3⟩ := st k l el
      rw [ek] at hb
      cases hb
      obtain ⟨i1, i2, _⟩ := o.lI _ ((look_iff o.lN).mp k1)
      rcases k3 with ⟨_, w⟩ | ⟨w, _⟩
      · rw [← w]
        exact i2
      · rw [← w]
        exact i1
  · rw [eh] at tx
    exact fun w => tx z mz (p.mem_iff.mpr w)
  · unfold lastR
    rw [List.getLast?_eq_some_getLast wy.ne]
    exact (List.dropLast_concat_getLast wy.ne).symm
  · rw [wy.last]
    exact m
def spNamesAllL : Sp := fun vs H Q _ => ∃ (a : Addr) (xs : List Str), vs = [.ref a] ∧ H a = some (.lst (xs.map V.str)) ∧ xs.length ≤ 900 ∧ ∀ H', Same H H' → Q (.bl true) H'
def spWalkedL : Sp := fun vs H Q _ => ∃ (m l d a b s r g : Addr) (S : LS) (sh xs w hs ls : List Str), vs = [.ref m, .ref s, .ref r, .ref g] ∧ WAt H m l d a b S ∧ H s = some (.lst (sh.map V.str)) ∧ H r = some (.lst (xs.map V.str)) ∧ H g = some (.lst (w.map V.str)) ∧ Walk S sh xs w hs ls ∧
  ∀ H', Same H H' → Q (.bl true) H'
def spPartedL : Sp := fun vs H Q _ => ∃ (m l d a b s r g : Addr) (S : LS) (sh xs ys : List Str), vs = [.ref m, .ref s, .ref r, .ref g] ∧ WAt H m l d a b S ∧ H s = some (.lst (sh.map V.str)) ∧ H r = some (.lst (xs.map V.str)) ∧ H g = some (.lst (ys.map V.str)) ∧ xs.length ≤ 900 ∧ ys.length ≤ 900 ∧
  (∀ x ∈ xs, x ∈ ys) ∧ (∀ z ∈ ys, ∀ b, Beside S sh z b → b ∈ ys) ∧ (∀ z ∈ S.sources, z ∉ ys) ∧ ∀ H', Same H H' → Q (.bl true) H'
end SM
/-! Part W6: the order of ways; the search finds the first. -/
namespace SM
open PySem PySem.Spec PyProof.Rows L2
abbrev ltS (a b : Str) : Prop := a.cps.toList < b.cps.toList
def wordD (w : List Str) : PyData := .list (w.map PyData.str)
def lt2 (w v : List Str) : Bool := PySem.W.dataLt (wordD w) (wordD v)
theorem lt2_nil : lt2 [] [] = false := by
  unfold lt2 wordD
  rw [PySem.W.dataLt_list]
  exact lex_irrefl _
theorem ltS_irrefl {a : Str} : ¬ ltS a a := List.lt_irrefl _
theorem ltS_ne {a b : Str} (h : ltS a b) : a ≠ b := fun e => ltS_irrefl (e ▸ h)
theorem str_eqv (a b : Str) : PyData.eqv (.str a) (.str b) = decide (a = b) := by
  by_cases h : a = b
  · rw [decide_eq_true h, h]
    simp [PyData.eqv]
  · rw [decide_eq_false h]
    simp only [PyData.eqv]
    simpa using h
theorem lt2_cons (x y : Str) (a b : List Str) : lt2 (x :: a) (y :: b) = if x = y then lt2 a b else decide (ltS x y) := by
  unfold lt2 wordD
  rw [PySem.W.dataLt_list, PySem.W.dataLt_list]
  by_cases h : x = y
  · rw [if_pos h]
    exact PySem.W.dataLt_all_yes (by simp [PySem.W.alike]) (by rw [str_eqv]; exact decide_eq_true h)
  · rw [if_neg h]
    exact (PySem.W.dataLt_all_no (by simp [PySem.W.alike]) (by rw [str_eqv]; exact decide_eq_false h)).trans (PySem.W.dataLt_str x y)
theorem lt2_irrefl : ∀ w : List Str, lt2 w w = false
  | [] => lt2_nil
  | x :: a => by rw [lt2_cons, if_pos rfl, lt2_irrefl a]
theorem lt2_short (x : Str) (a : List Str) : lt2 [] (x :: a) = true ∧ lt2 (x :: a) [] = false := by
  unfold lt2 wordD
  rw [PySem.W.dataLt_list, PySem.W.dataLt_list]
  constructor
  · show lexLt itemOrd (PySem.W.keyToksAll []) (PySem.W.keyToksAll (PyData.str x :: a.map PyData.str)) = true
    rw [PySem.W.toks_all_cons]
    simp only [PySem.W.keyToksAll]
    rw [lex_cons]
    rfl
  · show lexLt itemOrd (PySem.W.keyToksAll (PyData.str x :: a.map PyData.str)) (PySem.W.keyToksAll []) = false
    rw [PySem.W.toks_all_cons]
    simp only [PySem.W.keyToksAll]
    rw [lex_cons]
    rfl
theorem lt2_total : ∀ {w v : List Str}, lt2 w v = false → lt2 v w = false → w = v
  | [], [], _, _ => rfl
  | [], y :: b, h, _ => by rw [(lt2_short y b).1] at h; cases h
  | x :: a, [], _, h => by rw [(lt2_short x a).1] at h; cases h
  | x :: a, y :: b, h, k => by
    rw [lt2_cons] at h k
    by_cases e : x = y
    · rw [if_pos e] at h
      rw [if_pos e.symm] at k
      rw [e, lt2_total h k]
    · rw [if_neg e] at h
      rw [if_neg (Ne.symm e)] at k
      have h' := of_decide_eq_false h
      have k' := of_decide_eq_false k
      refine absurd ?_ e
      have q : x.cps.toList = y.cps.toList := List.le_antisymm (List.not_lt.mp k') (List.not_lt.mp h')
      exact PySem.W.str_of_cps q
theorem lt2_trans {w v u : List Str} (h : lt2 w v = true) (k : lt2 v u = true) : lt2 w u = true := lex_trans _ _ _ h k
theorem lt2_pre : ∀ (p a b : List Str), lt2 (p ++ a) (p ++ b) = lt2 a b
  | [], _, _ => rfl
  | x :: p, a, b => by rw [List.cons_append, List.cons_append, lt2_cons, if_pos rfl, lt2_pre p a b]
theorem lt2_ext : ∀ {w v : List Str} (a b : List Str), w.length = v.length → w ≠ v → lt2 (w ++ a) (v ++ b) = lt2 w v
  | [], [], _, _, _, n => absurd rfl n
  | [], _ :: _, _, _, h, _ => by simp at h
  | _ :: _, [], _, _, h, _ => by simp at h
  | x :: w, y :: v, a, b, h, n => by
    rw [List.cons_append, List.cons_append, lt2_cons, lt2_cons]
    by_cases e : x = y
    · rw [if_pos e, if_pos e]
      exact lt2_ext a b (by simpa using h) fun q => n (by rw [e, q])
    · rw [if_neg e, if_neg e]
/-- shorter, or as long and before it -/
def ltW (w v : List Str) : Prop := w.length < v.length ∨ (w.length = v.length ∧ lt2 w v = true)
def leW (w v : List Str) : Prop := w = v ∨ ltW w v
theorem ltW_ne {w v : List Str} (h : ltW w v) : w ≠ v := fun e => by
  subst e
  rcases h with h | ⟨_, h⟩
  · omega
  · rw [lt2_irrefl] at h
    cases h
theorem ltW_trans {w v u : List Str} (h : ltW w v) (k : ltW v u) : ltW w u := by
  rcases h with h | ⟨h, h2⟩ <;> rcases k with k | ⟨k, k2⟩
  · exact .inl (by omega)
  · exact .inl (by omega)
  · exact .inl (by omega)
  · exact .inr ⟨by omega, lt2_trans h2 k2⟩
theorem ltW_le {w v u : List Str} (h : ltW w v) (k : leW v u) : ltW w u := by
  rcases k with e | k
  · rw [← e]
    exact h
  · exact ltW_trans h k
theorem leW_lt {w v u : List Str} (h : leW w v) (k : ltW v u) : ltW w u := by
  rcases h with e | h
  · rw [e]
    exact k
  · exact ltW_trans h k
theorem leW_trans {w v u : List Str} (h : leW w v) (k : leW v u) : leW w u := by
  rcases h with e | h
  · rw [e]
    exact k
  · exact .inr (ltW_le h k)
theorem leW_len {w v : List Str} (h : leW w v) : w.length ≤ v.length := by
  rcases h with e | h | ⟨h, _⟩
  · rw [e]
    exact Nat.le_refl _
  · omega
  · omega
theorem leW_anti {w v : List Str} (h : leW w v) (k : leW v w) : w = v := by
  rcases h with e | h
  · exact e
  · exact absurd rfl (ltW_ne (ltW_le h k))
theorem ltW_tri (w v : List Str) : ltW w v ∨ w = v ∨ ltW v w := by
  rcases Nat.lt_trichotomy w.length v.length with h | h | h
  · exact .inl (.inl h)
  · cases a : lt2 w v with
    | true => exact .inl (.inr ⟨h, a⟩)
    | false =>
      cases b : lt2 v w with
      | true => exact .inr (.inr (.inr ⟨h.symm, b⟩))
      | false => exact .inr (.inl (lt2_total a b))
  · exact .inr (.inr (.inl h))
theorem ltW_ext {w v : List Str} {a b c d : Str} (h : ltW w v) : ltW (w ++ [a, b]) (v ++ [c, d]) := by
  have n := ltW_ne h
  rcases h with h | ⟨h, k⟩
  · exact .inl (by simp only [List.length_append, List.length_cons, List.length_nil]; omega)
  · exact .inr ⟨by simp only [List.length_append, List.length_cons, List.length_nil]; omega, by rw [lt2_ext _ _ h n]; exact k⟩
theorem ltW_fork {w : List Str} {a b c d : Str} (h : ltS a c) : ltW (w ++ [a, b]) (w ++ [c, d]) := by
  refine .inr ⟨by simp, ?_⟩
  rw [lt2_pre, lt2_cons, if_neg (ltS_ne h)]
  exact decide_eq_true h
theorem ltW_two {w v : List Str} {a b : Str} (h : ltW w v) : ltW (a :: b :: w) (a :: b :: v) := by
  rcases h with h | ⟨h, k⟩
  · exact .inl (by simpa using h)
  · refine .inr ⟨by simpa using h, ?_⟩
    rw [lt2_cons, if_pos rfl, lt2_cons, if_pos rfl]
    exact k
theorem leW_two {w v : List Str} {a b : Str} (h : leW w v) : leW (a :: b :: w) (a :: b :: v) := by
  rcases h with e | h
  · rw [e]
    exact .inl rfl
  · exact .inr (ltW_two h)
/-! ### the search finds the first -/
section
variable {f : Str → List (Str × Str)} {rs xs es : List Str}
abbrev IsW (f : Str → List (Str × Str)) (xs v : List Str) : Prop := ∃ hs ls, Wy f xs v hs ls
structure BOpt (f : Str → List (Str × Str)) (rs xs es : List Str) (ws : List (List Str)) (fs : List Str) (i : Nat) (P : List Str → Prop) : Prop where
  st : BSt f rs xs es ws fs
  done : Done f es ws fs i
  srt : ws.Pairwise ltW
  kid : ∀ v ∈ ws, v.length = 1 ∨ (∃ (i0 : Nat) (u : List Str) (q : Str × Str), i0 < i ∧ ws[i0]? = some u ∧ v = u ++ [q.1, q.2]) ∨ P v
  best : ∀ w ∈ ws, ∀ v, IsW f xs v → lastR v = lastR w → leW w v
theorem srt_at {ws : List (List Str)} (h : ws.Pairwise ltW) {j i : Nat} {a b : List Str} (ea : ws[j]? = some a) (eb : ws[i]? = some b) (l : j < i) : ltW a b := by
  obtain ⟨h1, e1⟩ := List.getElem?_eq_some_iff.mp ea
  obtain ⟨h2, e2⟩ := List.getElem?_eq_some_iff.mp eb
  have := List.pairwise_iff_getElem.mp h j i h1 h2 l
  rw [e1, e2] at this
  exact this
theorem srt_le {ws : List (List Str)} (h : ws.Pairwise ltW) {j i : Nat} {a b : List Str} (ea : ws[j]? = some a) (eb : ws[i]? = some b) (l : j ≤ i) : leW a b := by
  rcases Nat.lt_or_ge j i with k | k
  · exact .inr (srt_at h ea eb k)
  · have e : j = i := by omega
    subst e
    rw [ea] at eb
    cases eb
    exact .inl rfl
/-- ways to rooms that are not found yet are longer -/
theorem BOpt.front {ws : List (List Str)} {fs : List Str} {i : Nat} {P : List Str → Prop} (h : BOpt f rs xs es ws fs i P) {w : List Str} (ew : ws[i]? = some w) : ∀ {u hs ls : List Str}, Wy f xs u hs ls → lastR u ∉ fs → w.length < u.length := by
  intro u hs ls wy
  induction wy with
  | start m => exact fun n => absurd (h.st.sub _ m) n
  | step wy mq ih =>
    rename_i u hs ls q
    intro n
    rw [lastR_app] at n
    by_cases c : lastR u ∈ fs
    · obtain ⟨w1, m1, e1⟩ := h.st.img _ c
      obtain ⟨j, ej⟩ := List.getElem?_of_mem m1
      rcases Nat.lt_or_ge j i with k | k
      · refine absurd ((h.done j w1 k ej).2 q ?_) n
        rw [e1, ← wy.last]
        exact mq
      · have a := leW_len (srt_le h.srt ew ej k)
        have b := leW_len (h.best w1 m1 u ⟨_, _, wy⟩ e1.symm)
        simp only [List.length_append, List.length_cons, List.length_nil]
        omega
    · have := ih c
      simp only [List.length_append, List.length_cons, List.length_nil]
      omega
/-- one lead more -/
theorem BOpt.grow {ws : List (List Str)} {fs : List Str} {i : Nat} {w : List Str} {qs0 qs : List (Str × Str)} {q : Str × Str} (h : BOpt f rs xs es ws fs i (fun v => ∃ q ∈ qs0, v = w ++ [q.1, q.2])) (ew : ws[i]? = some w) (ne : lastR w ∉ es)
    (fq : f (lastR w) = qs0 ++ q :: qs) (srt : (f (lastR w)).Pairwise fun a b => ltS a.1 b.1) (dn : ∀ p ∈ qs0, p.2 ∈ fs) (mr : q.2 ∈ rs) :
    BOpt f rs xs es (growS w (ws, fs) q).1 (growS w (ws, fs) q).2 i (fun v => ∃ p ∈ qs0 ++ [q], v = w ++ [p.1, p.2]) ∧ (growS w (ws, fs) q).1[i]? = some w ∧ ∀ p ∈ qs0 ++ [q], p.2 ∈ (growS w (ws, fs) q).2 := by
  have mw := List.mem_of_getElem? ew
  have mq : q ∈ f (lastR w) := by rw [fq]; simp
  obtain ⟨k1, k2, k3, k4⟩ := h.st.grow mw ne mq mr
  have dn2 : ∀ p ∈ qs0 ++ [q], p.2 ∈ (growS w (ws, fs) q).2 := fun p hp => by
    rcases List.mem_append.mp hp with hp | hp
    · exact k3 _ (dn p hp)
    · rw [List.mem_singleton.mp hp]
      exact k4
  unfold growS at k1 k2 k3 dn2 ⊢
  by_cases m : q.2 ∈ fs
  · rw [if_pos m] at k1 dn2 ⊢
    refine ⟨⟨h.st, h.done, h.srt, fun v mv => ?_, h.best⟩, ew, dn2⟩
    rcases h.kid v mv with a | a | ⟨p, mp, e⟩
    · exact .inl a
    · exact .inr (.inl a)
    · exact .inr (.inr ⟨p, List.mem_append_left _ mp, e⟩)
  · rw [if_neg m] at k1 k2 k3 dn2 ⊢
    have lw : i < ws.length := (List.getElem?_eq_some_iff.mp ew).1
    have old : ∀ {j : Nat} {a : List Str}, ws[j]? = some a → (ws ++ [w ++ [q.1, q.2]])[j]? = some a := fun {j a} e => by
      rw [List.getElem?_append_left (List.getElem?_eq_some_iff.mp e).1]
      exact e
    have fpw := srt
    rw [fq] at fpw
    obtain ⟨_, fp2, fp3⟩ := List.pairwise_append.mp fpw
    have wne := (h.st.ok.last w mw).1
    have wl : 1 ≤ w.length := List.length_pos_iff.mpr wne
    refine ⟨⟨k1, fun j v lj ej => ?_, ?_, fun v mv => ?_, fun v mv u wu eu => ?_⟩, old ew, dn2⟩
    · have e2 : ws[j]? = some v := by
        show _ = _
        have lj2 : j < ws.length := by omega
        have ej' : (ws ++ [w ++ [q.1, q.2]])[j]? = some v := ej
        rw [List.getElem?_append_left lj2] at ej'
        exact ej'
      obtain ⟨a, b⟩ := h.done j v lj e2
      exact ⟨a, fun p hp => k3 _ (b p hp)⟩
    · show (ws ++ [w ++ [q.1, q.2]]).Pairwise ltW
      refine List.pairwise_append.mpr ⟨h.srt, List.pairwise_singleton _ _, fun v mv v2 mv2 => ?_⟩
      rw [List.mem_singleton.mp mv2]
      rcases h.kid v mv with a | ⟨i0, u, p, li, eu, ev⟩ | ⟨p, mp, ev⟩
      · exact .inl (by simp only [List.length_append, List.length_cons, List.length_nil]; omega)
      · rw [ev]
        exact ltW_ext (srt_at h.srt eu ew li)
      · rw [ev]
        exact ltW_fork (fp3 p mp q (.head _))
    · rcases List.mem_append.mp mv with mv | mv
      · rcases h.kid v mv with a | ⟨i0, u, p, li, eu, ev⟩ | ⟨p, mp, e⟩
        · exact .inl a
        · exact .inr (.inl ⟨i0, u, p, li, old eu, ev⟩)
        · exact .inr (.inr ⟨p, List.mem_append_left _ mp, e⟩)
      · exact .inr (.inr ⟨q, List.mem_append_right _ (.head _), List.mem_singleton.mp mv⟩)
    · rcases List.mem_append.mp mv with mv | mv
      · exact h.best v mv u wu eu
      · rw [List.mem_singleton.mp mv] at eu ⊢
        rw [lastR_app] at eu
        obtain ⟨hs, ls, wy⟩ := wu
        cases wy with
        | start mx => exact absurd (h.st.sub _ mx) (by rw [show lastR [_] = _ from rfl] at eu; rw [← eu] at m; exact m)
        | step wy mq2 =>
          rename_i u hs ls q2
          rw [lastR_app] at eu
          by_cases c : lastR u ∈ fs
          · obtain ⟨w1, m1, e1⟩ := h.st.img _ c
            obtain ⟨j, ej⟩ := List.getElem?_of_mem m1
            have b1 := h.best w1 m1 u ⟨_, _, wy⟩ e1.symm
            rcases Nat.lt_trichotomy j i with k | k | k
            · refine absurd ((h.done j w1 k ej).2 q2 ?_) (by rw [eu]; exact m)
              rw [e1, ← wy.last]
              exact mq2
            · subst k
              rw [ew] at ej
              cases ej
              have mq3 : q2 ∈ f (lastR w) := by
                rw [e1, ← wy.last]
                exact mq2
              rw [fq] at mq3
              rcases List.mem_append.mp mq3 with z | z
              · exact absurd (dn q2 z) (by rw [eu]; exact m)
              · rcases b1 with b1 | b1
                · rw [← b1]
                  rcases List.mem_cons.mp z with z | z
                  · rw [z]
                    exact .inl rfl
                  · exact .inr (ltW_fork ((List.pairwise_cons.mp fp2).1 q2 z))
                · exact .inr (ltW_ext b1)
            · exact .inr (ltW_ext (ltW_le (srt_at h.srt ew ej k) b1))
          · have fl := h.front ew wy c
            exact .inr (.inl (by simp only [List.length_append, List.length_cons, List.length_nil]; omega))
theorem BOpt.grows {i : Nat} {w : List Str} (ne : lastR w ∉ es) (srt : (f (lastR w)).Pairwise fun a b => ltS a.1 b.1) (fr : ∀ q ∈ f (lastR w), q.2 ∈ rs) : ∀ (qs qs0 : List (Str × Str)) {ws : List (List Str)} {fs : List Str}, f (lastR w) = qs0 ++ qs → BOpt f rs xs es ws fs i (fun v => ∃ q ∈ qs0, v = w ++ [q.1, q.2]) → ws[i]? = some w → (∀ p ∈ qs0, p.2 ∈ fs) →
    BOpt f rs xs es (qs.foldl (growS w) (ws, fs)).1 (qs.foldl (growS w) (ws, fs)).2 i (fun v => ∃ q ∈ f (lastR w), v = w ++ [q.1, q.2]) ∧ (qs.foldl (growS w) (ws, fs)).1[i]? = some w ∧ ∀ p ∈ f (lastR w), p.2 ∈ (qs.foldl (growS w) (ws, fs)).2
  | [], qs0, ws, fs, e, h, ew, dn => by
    rw [List.append_nil] at e
    rw [e]
    exact ⟨h, ew, dn⟩
  | q :: qs, qs0, ws, fs, e, h, ew, dn => by
    obtain ⟨a, b, c⟩ := h.grow ew ne e srt dn (fr q (by rw [e]; simp))
    rw [List.foldl_cons]
    exact BOpt.grows ne srt fr qs (qs0 ++ [q]) (by rw [e]; simp) a b c
def Opt (f : Str → List (Str × Str)) (xs es : List Str) : Option (List Str) → Prop
  | some w => IsW f xs w ∧ lastR w ∈ es ∧ ∀ v, IsW f xs v → lastR v ∈ es → leW w v
  | none => ∀ v, IsW f xs v → lastR v ∉ es
theorem closed_way {fs : List Str} (a : ∀ x ∈ xs, x ∈ fs) (c : ∀ z ∈ fs, ∀ q ∈ f z, q.2 ∈ fs) {v hs ls : List Str} (h : Wy f xs v hs ls) : lastR v ∈ fs := by
  induction h with
  | start m => exact a _ m
  | step h mq ih =>
    rw [lastR_app]
    refine c _ ih _ ?_
    rw [← h.last]
    exact mq
theorem bfs_opt (r24 : rs.length ≤ 24) (fr : ∀ r ∈ rs, ∀ q ∈ f r, q.2 ∈ rs) (fs_ : ∀ r, (f r).Pairwise fun a b => ltS a.1 b.1) : ∀ (n : Nat) {ws : List (List Str)} {fs : List Str} {i : Nat}, BOpt f rs xs es ws fs i (fun _ => False) → i + n = 25 → i ≤ ws.length → Opt f xs es (bfs f es n ws fs i)
  | 0, ws, fs, i, h, e, l => by
    have := Nat.le_trans (nodup_len h.st.ok.nd h.st.ok.sub) r24
    rw [← h.st.ok.len] at this
    omega
  | n + 1, ws, fs, i, h, e, l => by
    unfold bfs
    cases ew : ws[i]? with
    | none =>
      have li : ws.length ≤ i := List.getElem?_eq_none_iff.mp ew
      have all : ∀ z ∈ fs, z ∉ es ∧ ∀ q ∈ f z, q.2 ∈ fs := fun z mz => by
        obtain ⟨w, mw, ez⟩ := h.st.img z mz
        obtain ⟨j, ej⟩ := List.getElem?_of_mem mw
        have lj := (List.getElem?_eq_some_iff.mp ej).1
        have := h.done j w (by omega) ej
        rw [ez] at this
        exact this
      exact fun v ⟨hs, ls, wy⟩ => (all _ (closed_way h.st.sub (fun z mz => (all z mz).2) wy)).1
    | some w =>
      have mw := List.mem_of_getElem? ew
      show Opt f xs es (if lastR w ∈ es then some w else bfs f es n _ _ (i + 1))
      by_cases c : lastR w ∈ es
      · rw [if_pos c]
        obtain ⟨hs, ls, wy, _⟩ := h.st.good w mw
        refine ⟨⟨hs, ls, wy⟩, c, fun v ⟨hv, lv, wv⟩ me => ?_⟩
        by_cases m : lastR v ∈ fs
        · obtain ⟨w1, m1, e1⟩ := h.st.img _ m
          obtain ⟨j, ej⟩ := List.getElem?_of_mem m1
          rcases Nat.lt_or_ge j i with k | k
          · exact absurd me (by rw [← e1]; exact (h.done j w1 k ej).1)
          · exact leW_trans (srt_le h.srt ew ej k) (h.best w1 m1 v ⟨_, _, wv⟩ e1.symm)
        · exact .inr (.inl (h.front ew wv m))
      · rw [if_neg c]
        have h0 : BOpt f rs xs es ws fs i (fun v => ∃ q ∈ ([] : List (Str × Str)), v = w ++ [q.1, q.2]) := ⟨h.st, h.done, h.srt, fun v mv => (h.kid v mv).imp_right fun z => z.elim .inl fun z => z.elim, h.best⟩
        obtain ⟨a, b, q⟩ := BOpt.grows c (fs_ _) (fun q m => fr _ (h.st.ok.last w mw).2 q m) (f (lastR w)) [] rfl h0 ew (fun p m => nomatch m)
        have li : i < ((f (lastR w)).foldl (growS w) (ws, fs)).1.length := (List.getElem?_eq_some_iff.mp b).1
        refine bfs_opt r24 fr fs_ n ⟨a.st, fun j v lj ej => ?_, a.srt, fun v mv => ?_, a.best⟩ (by omega) li
        · by_cases ji : j = i
          · subst ji
            rw [b] at ej
            cases ej
            exact ⟨c, q⟩
          · exact a.done j v (by omega) ej
        · rcases a.kid v mv with z | ⟨i0, u, p, k1, k2, k3⟩ | ⟨p, mp, e⟩
          · exact .inl z
          · exact .inr (.inl ⟨i0, u, p, by omega, k2, k3⟩)
          · exact .inr (.inl ⟨i, w, p, by omega, b, e⟩)
theorem firstWay_opt {ss : List Str} (r24 : rs.length ≤ 24) (fr : ∀ r ∈ rs, ∀ q ∈ f r, q.2 ∈ rs) (fs_ : ∀ r, (f r).Pairwise fun a b => ltS a.1 b.1) (xN : xs.Nodup) (xr : ∀ x ∈ xs, x ∈ rs) (p : ss.Perm xs) (sp : ss.Pairwise ltS) : Opt f xs es (firstWay f ss xs es) := by
  unfold firstWay
  refine bfs_opt r24 fr fs_ 25 ⟨⟨⟨xN, xr, by rw [List.length_map, p.length_eq], fun w mw => ?_, fun w mw => ?_⟩, fun w mw => ?_, fun x m => m, fun z mz => ?_⟩, (fun j w lj _ => by omega), ?_, fun v mv => ?_, fun w mw v hv ev => ?_⟩ (by omega) (Nat.zero_le _)
  · obtain ⟨r, mr, rfl⟩ := List.mem_map.mp mw
    have := List.length_pos_of_mem (p.mem_iff.mp mr)
    show 1 ≤ 2 * xs.length
    omega
  · obtain ⟨r, mr, rfl⟩ := List.mem_map.mp mw
    exact ⟨by simp, xr r (p.mem_iff.mp mr)⟩
  · obtain ⟨r, mr, rfl⟩ := List.mem_map.mp mw
    have m := p.mem_iff.mp mr
    exact ⟨[r], [], .start m, by simp, fun z mz => by rw [List.mem_singleton.mp mz]; exact m, (fun z mz => by cases mz), fun z mz => by cases mz⟩
  · exact ⟨[z], List.mem_map_of_mem (p.mem_iff.mpr mz), rfl⟩
  · rw [List.pairwise_map]
    refine sp.imp fun {a b} h => .inr ⟨rfl, ?_⟩
    rw [lt2_cons, if_neg (ltS_ne h)]
    exact decide_eq_true h
  · obtain ⟨r, mr, rfl⟩ := List.mem_map.mp mv
    exact .inl rfl
  · obtain ⟨r, mr, rfl⟩ := List.mem_map.mp mw
    obtain ⟨hs, ls, wy⟩ := hv
    cases wy with
    | start m =>
      rename_i r2
      have ev' : r2 = r := ev
      rw [ev']
      exact .inl rfl
    | step wy _ =>
      have := wy.len.2
      exact .inr (.inl (by simp only [List.length_append, List.length_cons, List.length_nil]; omega))
end
end SM
/-! Part W7: min of data; tables of ways. -/
namespace SM
open PySem PySem.Spec PyProof.Rows L2 PySem.W
section
variable {prog : Program} {w : World} {A : Around} {E : Value → Shared → Prop} {s : Shared}
theorem min_two_data {a b : Value} {da db : PyData} {as : List Addr} {Q : Value → Shared → Prop} (hh : A.handled = none) (hr : ReadsAll s.heap [a, b] [da, db] as) (ha : AlikeAll [da, db]) (hu : A.units + 1 + PyData.depthAll [da, db] < cLine)
    (h : ∀ h' tk, (∀ c o, s.heap.get? c = some o → h'.get? c = some o) → Q (if dataLt db da = true then b else a) { s with heap := h', toks := tk }) :
    wpAny (model prog w) A (call (.builtin "min") [a, b]) Q E s := by
  have hname : (toString "min" ++ toString ".loop" : String) = "min.loop" := by decide
  refine call_function_tree F.kind_min F.plain_min F.entry_min (F.args_min2 _ _) ?_
  show wpAny _ A.in1 (Builtin.Builtins.bindParams "min" ["key", "default"] 0 ⟨[], []⟩ >>= _) _ _ s
  refine wpAny_bind (wpAny_of_eq (show Builtin.Builtins.bindParams "min" ["key", "default"] 0 ⟨[], []⟩ = pure [none, none] from rfl) ?_)
  show wpAny _ A.in1 (newTuple [a, b] >>= _) _ _ s
  refine wpAny_bind (wpAny_newObj_type ?_)
  have hT : (s.heap.push { cls := .type "tuple", data := .seq #[a, b] }).IsTuple s.heap.objs.size #[a, b] := ⟨_, Heap.get?_push_size _ rfl, rfl, 0, rfl⟩
  have hr1 : ReadsAll (s.heap.push { cls := .type "tuple", data := .seq #[a, b] }) [a, b] [da, db] as := ReadsAll.keeps (fun b o e => Heap.get?_push_of_some _ e) hr
  have key : wpAny (model prog w) A.in1 (pyIter (.ref s.heap.objs.size)) (fun it s₂ => ∃ I fp wr G n P St H bt, it = .ref I ∧ WalksS prog w A.in1 I fp wr G n P St ∧ St 0 s₂ ∧ (∀ b ∈ fp, b < s₂.heap.objs.size) ∧ 0 < n ∧
      (∀ b o, H.get? b = some o → b ∉ wr) ∧ (∀ b o, H.get? b = some o → s₂.heap.get? b = some o) ∧ CmpIn prog w A.in1 .Lt H P bt ∧ ∀ v s', P (argBest bt (n - 1)) v → Moved wr G s₂ s' → Q v s') E
      { s with heap := s.heap.push { cls := .type "tuple", data := .seq #[a, b] } } := by
    refine iter_tupleW (A := A.in1) (s := { s with heap := s.heap.push { cls := .type "tuple", data := .seq #[a, b] } }) hh hT fun s₂ e W st hfp hw hk => ?_
    refine ⟨_, _, _, _, _, _, _, s.heap.push { cls := .type "tuple", data := .seq #[a, b] }, _, rfl, W, st, hfp, (by show 0 < 2; omega), hw, hk, cmpIn_lt (A := A.in1) (s := { s with heap := s.heap.push { cls := .type "tuple", data := .seq #[a, b] } }) (vs := #[a, b]) hr1 ha (by show A.units + 1 + _ < _; exact hu), fun v s' hP m => ?_⟩
    obtain ⟨h', tk, rfl, hk'⟩ := moved_old e rfl m
    have q := h h' tk fun c o ec => hk' c o (Heap.get?_push_of_some _ ec)
    have hv : v = if dataLt db da = true then b else a := by
      have hP' : (#[a, b] : Array Value)[argBest (fun i j => dataLt ([da, db].getD i .none) ([da, db].getD j .none)) 1]? = some v := hP
      cases hc : dataLt db da with
      | true =>
        have e : argBest (fun i j => dataLt ([da, db].getD i .none) ([da, db].getD j .none)) 1 = 1 := by simp [argBest, hc]
        rw [e] at hP'
        rw [if_pos rfl]
        simpa using hP'.symm
      | false =>
        have e : argBest (fun i j => dataLt ([da, db].getD i .none) ([da, db].getD j .none)) 1 = 0 := by simp [argBest, hc]
        rw [e] at hP'
        rw [if_neg (by simp)]
        simpa using hP'.symm
    rw [hv]
    exact q
  refine wpAny_bind (wpAny_mono key (fun it s₂ h₂ => ?_) fun _ _ e => e)
  obtain ⟨I, fp, wr, G, n, P, St, H, bt, rfl, W, hst, hfp, hn, hw, hkeep, hcmp, hQ⟩ := h₂
  refine wpAny_bind (wpAny_newObj_type ?_)
  have hSf : s₂.heap.objs.size ∉ fp := fun hm => Nat.lt_irrefl _ (hfp _ hm)
  rw [hname]
  refine wpAny_pure ⟨plainId_quiet F.plain_min_loop _, codeAny_min_loop_firstH W H hw bt hcmp s₂.heap.objs.size hSf (fresh_in hkeep) _ hn (fun b o e => Heap.get?_push_of_some _ (hkeep b o e)) (W.frame 0 s₂ _ s₂.toks hst (Nat.le_refl _) fun b _ o e => Heap.get?_push_of_some _ e) (Heap.get?_push_size _ rfl) fun v s' hP hm => ?_⟩
  exact hQ v s' hP (Moved.drop_new (tk := s₂.toks) hm (Nat.le_refl _))
theorem dataLt_irrefl (d : PyData) : dataLt d d = false := lex_irrefl _
theorem dataLt_trans {a b c : PyData} (h : dataLt a b = true) (k : dataLt b c = true) : dataLt a c = true := lex_trans _ _ _ h k
theorem minD_least : ∀ (ds : List PyData) (d : PyData) (es : List PyData), (∀ e ∈ es, dataLt e d = false) → ∀ e ∈ es ++ d :: ds, dataLt e (minD d ds) = false
  | [], d, es, h, e, m => by
    show dataLt e d = false
    rcases List.mem_append.mp m with m | m
    · exact h e m
    · rw [List.mem_singleton.mp m]
      exact dataLt_irrefl d
  | y :: ds, d, es, h, e, m => by
    show dataLt e (minD (if dataLt y d = true then y else d) ds) = false
    by_cases c : dataLt y d = true
    · rw [if_pos c]
      refine minD_least ds y (es ++ [d]) (fun z mz => ?_) e (by simpa using m)
      rcases List.mem_append.mp mz with mz | mz
      · cases hz : dataLt z y with
        | false => rfl
        | true =>
          have := dataLt_trans hz c
          rw [h z mz] at this
          cases this
      · rw [List.mem_singleton.mp mz]
        cases hz : dataLt d y with
        | false => rfl
        | true =>
          have := dataLt_trans hz c
          rw [dataLt_irrefl] at this
          cases this
    · rw [if_neg c]
      have m' : e ∈ (es ++ [y]) ++ d :: ds := by
        simp only [List.mem_append, List.mem_cons, List.not_mem_nil, or_false] at m ⊢
        rcases m with m | m | m | m
        · exact .inl (.inl m)
        · exact .inr (.inl m)
        · exact .inl (.inr m)
        · exact .inr (.inr m)
      refine minD_least ds d (es ++ [y]) (fun z mz => ?_) e m'
      rcases List.mem_append.mp mz with mz | mz
      · exact h z mz
      · rw [List.mem_singleton.mp mz]
        exact Bool.eq_false_iff.mpr c
end
section
variable {X : Cx}
def rMin2D (K : PySem.W.Frag) : List V → Hp → VK → Prop := fun xs H Q => ∃ (x y : V) (dx dy : PyData), xs = [x, y] ∧ Dp K H x dx ∧ Dp K H y dy ∧ AlikeAll [dx, dy] ∧ PyData.depthAll [dx, dy] ≤ 10 ∧ Q (if dataLt dy dx = true then y else x) H
theorem call_min2D (hc : X.calm = true) (hu : X.A.units + 64 < cLine) : CallR X (.builtin "min") (rMin2D X.K) := by
  intro pins s σ H xs us Q I r h
  obtain ⟨x, y, dx, dy, rfl, hx, hy, al, dp, q⟩ := h
  obtain ⟨u, u', rfl, r1, r2⟩ := vals2 r
  obtain ⟨as, hr⟩ := Dp.readsAll I [dx, dy] [x, y] [u, u'] (.cons hx (.cons hy .nil)) (.cons r1 (.cons r2 .nil))
  refine min_two_data (I.ok.hd hc) hr al (by omega) fun h' tk k => ?_
  refine ⟨_, H, I.kept k, ?_, q⟩
  by_cases c : dataLt dy dx = true
  · rw [if_pos c, if_pos c]
    exact r2
  · rw [if_neg c, if_neg c]
    exact r1
def rMinD (K : PySem.W.Frag) : List V → Hp → VK → Prop := fun vs H Q => ∃ (a : Addr) (xs : List V) (d : PyData) (ds : List PyData), vs = [.ref a] ∧ SqL K H a xs ∧ DpAll K H xs (d :: ds) ∧ AlikeAll (d :: ds) ∧ PyData.depthAll (d :: ds) ≤ 10 ∧
  ∀ (i : Nat) (v : V) (e : PyData), xs[i]? = some v → (d :: ds)[i]? = some e → (∀ e' ∈ d :: ds, dataLt e' e = false) → Q v H
theorem cr_minD (hc : X.calm = true) (hu : X.A.units + 64 < cLine) : CallR X (.builtin "min") (rMinD X.K) := by
  intro pins s σ H vs us Q I r h
  obtain ⟨a, xs, d, ds, rfl, hs, hd, al, dp, q⟩ := h
  obtain ⟨its, rv, hl, _⟩ := I.list hs
  rw [Vals.ref1 r]
  obtain ⟨as, hr⟩ := Dp.readsAll I (d :: ds) xs its hd rv
  have hn : its.length = ds.length + 1 := by
    have := readsAll_len (vs := its.toArray) (by simpa using hr)
    simpa using this
  refine call_min_walkH (iter_listW (A := X.A.in1) (I.ok.hd hc) hl.isList fun s₂ e W st hfp hw hk => ?_)
  refine ⟨_, _, _, _, _, _, _, s.heap, _, rfl, W, st, hfp, by rw [List.size_toArray]; omega, hw, hk, cmpIn_lt (A := X.A.in1) (vs := its.toArray) (by simpa using hr) al (by show X.A.units + 1 + _ < _; omega), fun v s' hP m => ?_⟩
  obtain ⟨h', tk, rfl, hk'⟩ := moved_old e rfl m
  have e1 : its.toArray.size - 1 = ds.length := by rw [List.size_toArray]; omega
  have e2 := argBest_fold dataLt PyData.none d ds ds.length (Nat.le_refl _)
  rw [List.take_length] at e2
  rw [e1] at hP
  obtain ⟨l1, l2⟩ := e2
  generalize argBest (fun i j => dataLt ((d :: ds).getD i PyData.none) ((d :: ds).getD j PyData.none)) ds.length = i at hP l1 l2
  have hP' : its[i]? = some v := by simpa using hP
  have li : i < (d :: ds).length := by rw [List.length_cons]; omega
  have ei : (d :: ds)[i]? = some (minD d ds) := by
    rw [List.getElem?_eq_getElem li]
    rw [List.getD_eq_getElem?_getD, List.getElem?_eq_getElem li] at l2
    exact congrArg some l2
  obtain ⟨x, ex⟩ : ∃ x, xs[i]? = some x := ⟨_, List.getElem?_eq_getElem (by rw [rv.length]; exact (List.getElem?_eq_some_iff.mp hP').1)⟩
  obtain ⟨u, eu, rx⟩ := Vals.get rv ex
  rw [hP'] at eu
  cases eu
  exact ⟨x, H, I.kept hk', rx, q i x _ ex ei fun e' m => minD_least ds d [] (fun _ z => nomatch z) e' (by simpa using m)⟩
end
end SM
/-! Part W8: the law's own first ways, by rounds. -/
namespace SM
open PySem PySem.Spec PyProof.Rows L2
def ListG (H : Hp) : V → List Str → Prop := fun v w => ∃ a, v = .ref a ∧ H a = some (.lst (w.map V.str))
def setT (tab : List (Str × List Str)) (k : Str) (w : List Str) : List (Str × List Str) := if k ∈ keys tab then tab.map (fun e => if e.1 = k then (k, w) else e) else tab ++ [(k, w)]
theorem look_app {α : Type} {t1 t2 : List (Str × α)} {k : Str} : look (t1 ++ t2) k = (look t1 k).or (look t2 k) := by
  induction t1 with
  | nil => rfl
  | cons p r ih =>
    by_cases e : p.1 = k
    · rw [List.cons_append, look_pos e, look_pos e]
      rfl
    · rw [List.cons_append, look_neg e, look_neg e, ih]
theorem look_mapT {tab : List (Str × List Str)} {k : Str} {w : List Str} (m : k ∈ keys tab) : ∀ z, look (tab.map (fun e => if e.1 = k then (k, w) else e)) z = if z = k then some w else look tab z := by
  intro z
  induction tab with
  | nil => cases m
  | cons p r ih =>
    rw [List.map_cons]
    by_cases e : p.1 = k
    · rw [if_pos e]
      by_cases ez : z = k
      · rw [if_pos ez, look_pos ez.symm]
      · rw [if_neg ez, look_neg (fun q => ez q.symm), look_neg (fun q => ez (q.symm.trans e))]
        by_cases mr : k ∈ keys r
        · rw [ih mr, if_neg ez]
        · have : r.map (fun e => if e.1 = k then (k, w) else e) = r := by
            refine (List.map_congr_left fun x mx => ?_).trans (List.map_id r)
            exact if_neg fun q => mr (by rw [← q]; exact List.mem_map_of_mem mx)
          rw [this]
    · rw [if_neg e]
      have mr : k ∈ keys r := by
        rcases List.mem_cons.mp m with q | q
        · exact absurd q.symm e
        · exact q
      by_cases ez : p.1 = z
      · rw [look_pos ez, look_pos ez, if_neg (fun q => e (ez.trans q))]
      · rw [look_neg ez, look_neg ez, ih mr]
theorem look_setT {tab : List (Str × List Str)} {k z : Str} {w : List Str} : look (setT tab k w) z = if z = k then some w else look tab z := by
  unfold setT
  by_cases m : k ∈ keys tab
  · rw [if_pos m]
    exact look_mapT m z
  · rw [if_neg m, look_app]
    by_cases e : z = k
    · rw [if_pos e, e, look_none.mpr m, look_pos rfl]
      rfl
    · rw [if_neg e, look_neg (fun q => e q.symm)]
      cases look tab z <;> rfl
theorem keys_mapT {tab : List (Str × List Str)} {k : Str} {w : List Str} : keys (tab.map (fun e => if e.1 = k then (k, w) else e)) = keys tab := by
  unfold keys
  rw [List.map_map]
  refine List.map_congr_left fun x mx => ?_
  show (if x.1 = k then (k, w) else x).1 = x.1
  by_cases e : x.1 = k
  · rw [if_pos e, e]
  · rw [if_neg e]
theorem keys_setT {tab : List (Str × List Str)} {k z : Str} {w : List Str} : z ∈ keys (setT tab k w) ↔ z = k ∨ z ∈ keys tab := by
  unfold setT
  by_cases m : k ∈ keys tab
  · rw [if_pos m, keys_mapT]
    exact ⟨.inr, fun h => h.elim (fun e => e ▸ m) id⟩
  · rw [if_neg m]
    unfold keys
    rw [List.map_append, List.mem_append]
    simp
    exact or_comm
theorem setT_nodup {tab : List (Str × List Str)} {k : Str} {w : List Str} (n : (keys tab).Nodup) : (keys (setT tab k w)).Nodup := by
  unfold setT
  by_cases m : k ∈ keys tab
  · rw [if_pos m, keys_mapT]
    exact n
  · rw [if_neg m, show keys (tab ++ [(k, w)]) = keys tab ++ [k] by unfold keys; rw [List.map_append]; rfl]
    exact List.nodup_append.mpr ⟨n, by simp, fun a ha b hb e => m (by rw [← List.mem_singleton.mp hb, ← e]; exact ha)⟩
theorem Kr.hold2 {G : V → List Str → Prop} {k : Str} {v : V} {w : List Str} (g : G v w) : ∀ {kvs : List (Key × V)} {tab : List (Str × List Str)}, Kr G kvs tab → Kr G (kvs.map fun kv => if kv.1 = Sum.inr k then (kv.1, v) else kv) (tab.map fun e => if e.1 = k then (k, w) else e)
  | _, _, .nil => .nil
  | p :: ps, q :: qs, .cons h t => by
    refine .cons ?_ (Kr.hold2 g t)
    show (if p.1 = Sum.inr k then (p.1, v) else p).1 = Sum.inr (if q.1 = k then (k, w) else q).1 ∧ G (if p.1 = Sum.inr k then (p.1, v) else p).2 (if q.1 = k then (k, w) else q).2
    by_cases e : q.1 = k
    · have e2 : p.1 = Sum.inr k := by rw [h.1, e]
      rw [if_pos e, if_pos e2]
      exact ⟨e2, g⟩
    · have e2 : ¬ p.1 = Sum.inr k := fun z => e (Sum.inr.inj (h.1.symm.trans z))
      rw [if_neg e, if_neg e2]
      exact h
theorem Kr.set {G : V → List Str → Prop} {k : Str} {v : V} {w : List Str} {kvs : List (Key × V)} {tab : List (Str × List Str)} (h : Kr G kvs tab) (g : G v w) : Kr G (putK kvs (Sum.inr k) v) (setT tab k w) := by
  unfold setT
  by_cases m : k ∈ keys tab
  · rw [if_pos m]
    unfold putK
    rw [valV_any, h.has]
    have : (look tab k).isSome = true := by
      cases c : look tab k with
      | none => exact absurd m (look_none.mp c)
      | some _ => rfl
    rw [this, if_pos rfl]
    exact h.hold2 g
  · rw [if_neg m]
    exact h.put (look_none.mpr m) g
/-! ### ways, from their first room -/
section
variable {f : Str → List (Str × Str)} {es : List Str}
theorem Wy.cons {b r l : Str} {v hs ls : List Str} (h : Wy f [b] v hs ls) (m : (l, b) ∈ f r) : ∃ hs' ls', Wy f [r] (r :: l :: v) hs' ls' := by
  induction h with
  | start mb =>
    rename_i b'
    obtain rfl : b' = b := List.mem_singleton.mp mb
    exact ⟨_, _, Wy.step (q := (l, b')) (.start (.head _)) m⟩
  | step h mq ih =>
    rename_i w hs ls q
    obtain ⟨hs', ls', k⟩ := ih
    refine ⟨_, _, Wy.step (w := r :: l :: w) (q := q) k ?_⟩
    rw [k.last]
    have e : lastR (r :: l :: w) = lastR w := by
      have ne : w ≠ [] := by
        have := h.len.2
        intro z
        rw [z] at this
        simp at this
      unfold lastR
      rw [List.getLast?_cons_cons, List.getLast?_cons, List.getLast?_eq_some_getLast ne]
      rfl
    rw [e, ← h.last]
    exact mq
theorem lastR_two {r l : Str} {v : List Str} (ne : v ≠ []) : lastR (r :: l :: v) = lastR v := by
  unfold lastR
  rw [List.getLast?_cons_cons, List.getLast?_cons, List.getLast?_eq_some_getLast ne]
  rfl
theorem Wy.nonnil {xs v hs ls : List Str} (h : Wy f xs v hs ls) : v ≠ [] := fun z => by
  have := h.len.2
  rw [z] at this
  simp at this
theorem Wy.uncons {r : Str} {v hs ls : List Str} (h : Wy f [r] v hs ls) : v = [r] ∨ ∃ l b v', v = r :: l :: v' ∧ (l, b) ∈ f r ∧ IsW f [b] v' ∧ lastR v' = lastR v := by
  induction h with
  | start m => exact .inl (by rw [List.mem_singleton.mp m])
  | step h mq ih =>
    rename_i w hs ls q
    rw [lastR_app]
    rcases ih with e | ⟨l, b, v', e, m, ⟨hs', ls', k⟩, el⟩
    · refine .inr ⟨q.1, q.2, [q.2], by rw [e]; rfl, ?_, ⟨_, _, .start (.head _)⟩, rfl⟩
      have el : lastR hs = r := by
        rw [h.last, e]
        rfl
      rw [el] at mq
      exact mq
    · refine .inr ⟨l, b, v' ++ [q.1, q.2], by rw [e]; rfl, m, ⟨_, _, .step (q := q) k ?_⟩, lastR_app⟩
      rw [k.last, el, ← h.last]
      exact mq
theorem IsW.from {xs v : List Str} (h : IsW f xs v) : ∃ r ∈ xs, IsW f [r] v := by
  obtain ⟨hs, ls, wy⟩ := h
  induction wy with
  | start m => exact ⟨_, m, _, _, .start (.head _)⟩
  | step h mq ih =>
    obtain ⟨r, mr, hs', ls', k⟩ := ih
    refine ⟨r, mr, _, _, .step k ?_⟩
    rw [k.last, ← h.last]
    exact mq
theorem IsW.to {xs v : List Str} {r : Str} (m : r ∈ xs) (h : IsW f [r] v) : IsW f xs v := by
  obtain ⟨hs, ls, wy⟩ := h
  induction wy with
  | start mr =>
    rw [List.mem_singleton.mp mr]
    exact ⟨_, _, .start m⟩
  | step h mq ih =>
    obtain ⟨hs', ls', k⟩ := ih
    refine ⟨_, _, .step k ?_⟩
    rw [k.last, ← h.last]
    exact mq
theorem IsW.odd {xs v : List Str} (h : IsW f xs v) : ∃ n, v.length = 2 * n + 1 := by
  obtain ⟨hs, ls, wy⟩ := h
  exact ⟨_, wy.len.2⟩
/-- a round's candidates: a room not in the table, a line, a room in it -/
def cand (tb : List (Str × List Str)) (sh : List Str) (pe : List (Str × Str × Str)) (r : Str) (c : List Str) : Prop := ∃ d ∈ pe, d.1 ∉ sh ∧ d.2.1 = r ∧ r ∉ keys tb ∧ ∃ w, look tb d.2.2 = some w ∧ c = r :: d.1 :: w
structure GrowInv (tb : List (Str × List Str)) (sh : List Str) (tg : List (Str × List Str)) (pe : List (Str × Str × Str)) : Prop where
  nd : (keys tg).Nodup
  val : ∀ r c, look tg r = some c → cand tb sh pe r c ∧ ∀ c', cand tb sh pe r c' → lt2 c' c = false
  all : ∀ r c, cand tb sh pe r c → r ∈ keys tg
theorem cand_app {tb : List (Str × List Str)} {sh : List Str} {pe : List (Str × Str × Str)} {d : Str × Str × Str} {r : Str} {c : List Str} : cand tb sh (pe ++ [d]) r c ↔ cand tb sh pe r c ∨ cand tb sh [d] r c := by
  unfold cand
  constructor
  · rintro ⟨x, m, h⟩
    rcases List.mem_append.mp m with m | m
    · exact .inl ⟨x, m, h⟩
    · exact .inr ⟨x, m, h⟩
  · rintro (⟨x, m, h⟩ | ⟨x, m, h⟩)
    · exact ⟨x, List.mem_append_left _ m, h⟩
    · exact ⟨x, List.mem_append_right _ m, h⟩
theorem GrowInv.skip {tb tg : List (Str × List Str)} {sh : List Str} {pe : List (Str × Str × Str)} {d : Str × Str × Str} (h : GrowInv tb sh tg pe) (n : ∀ r c, ¬ cand tb sh [d] r c) : GrowInv tb sh tg (pe ++ [d]) := by
  have e : ∀ r c, cand tb sh (pe ++ [d]) r c ↔ cand tb sh pe r c := fun r c => cand_app.trans ⟨fun z => z.elim id fun q => absurd q (n r c), .inl⟩
  exact ⟨h.nd, fun r c hc => ⟨(e r c).mpr (h.val r c hc).1, fun c' k => (h.val r c hc).2 c' ((e r c').mp k)⟩, fun r c k => h.all r c ((e r c).mp k)⟩
/-- what is kept of two -/
def better (old : Option (List Str)) (told : List Str) : List Str := match old with
  | none => told
  | some o => if lt2 told o = true then told else o
theorem GrowInv.put {tb tg : List (Str × List Str)} {sh : List Str} {pe : List (Str × Str × Str)} {d : Str × Str × Str} {w : List Str} (h : GrowInv tb sh tg pe) (ns : d.1 ∉ sh) (nk : d.2.1 ∉ keys tb) (lw : look tb d.2.2 = some w) :
    GrowInv tb sh (setT tg d.2.1 (better (look tg d.2.1) (d.2.1 :: d.1 :: w))) (pe ++ [d]) := by
  have cd : ∀ r c, cand tb sh [d] r c ↔ r = d.2.1 ∧ c = d.2.1 :: d.1 :: w := fun r c => by
    constructor
    · rintro ⟨x, m, _, e, _, w', e2, e3⟩
      rw [List.mem_singleton.mp m] at e e2 e3
      rw [lw] at e2
      cases e2
      rw [← e] at e3
      exact ⟨e.symm, e3⟩
    · rintro ⟨rfl, rfl⟩
      exact ⟨d, .head _, ns, rfl, nk, w, lw, rfl⟩
  refine ⟨setT_nodup h.nd, fun r c hc => ?_, fun r c hc => ?_⟩
  · rw [look_setT] at hc
    by_cases e : r = d.2.1
    · rw [if_pos e] at hc
      have hc' := Option.some.inj hc
      subst e
      unfold better at hc'
      cases o : look tg d.2.1 with
      | none =>
        rw [o] at hc'
        have hc'' : d.2.1 :: d.1 :: w = c := hc'
        refine ⟨cand_app.mpr (.inr ((cd _ _).mpr ⟨rfl, hc''.symm⟩)), fun c' k => ?_⟩
        rcases cand_app.mp k with k | k
        · exact absurd (h.all _ _ k) (look_none.mp o)
        · rw [((cd _ _).mp k).2, hc'', lt2_irrefl]
      | some oc =>
        rw [o] at hc'
        obtain ⟨v1, v2⟩ := h.val _ _ o
        by_cases lt : lt2 (d.2.1 :: d.1 :: w) oc = true
        · have hc'' : d.2.1 :: d.1 :: w = c := by rw [← hc']; exact (if_pos lt).symm
          refine ⟨cand_app.mpr (.inr ((cd _ _).mpr ⟨rfl, hc''.symm⟩)), fun c' k => ?_⟩
          rcases cand_app.mp k with k | k
          · cases z : lt2 c' c with
            | false => rfl
            | true =>
              rw [hc''] at lt
              have := lt2_trans z lt
              rw [v2 c' k] at this
              cases this
          · rw [((cd _ _).mp k).2, hc'', lt2_irrefl]
        · have hc'' : oc = c := by rw [← hc']; exact (if_neg lt).symm
          rw [← hc'']
          refine ⟨cand_app.mpr (.inl v1), fun c' k => ?_⟩
          rcases cand_app.mp k with k | k
          · exact v2 c' k
          · rw [((cd _ _).mp k).2]
            exact Bool.eq_false_iff.mpr lt
    · rw [if_neg e] at hc
      obtain ⟨v1, v2⟩ := h.val _ _ hc
      refine ⟨cand_app.mpr (.inl v1), fun c' k => ?_⟩
      rcases cand_app.mp k with k | k
      · exact v2 c' k
      · exact absurd ((cd _ _).mp k).1 e
  · rw [keys_setT]
    rcases cand_app.mp hc with k | k
    · exact .inr (h.all _ _ k)
    · exact .inl ((cd _ _).mp k).1
/-- the table behind t rounds -/
structure BestAt (f : Str → List (Str × Str)) (rs es : List Str) (tb : List (Str × List Str)) (t : Nat) : Prop where
  nd : (keys tb).Nodup
  sub : ∀ r ∈ keys tb, r ∈ rs
  ends : ∀ r ∈ es, r ∈ keys tb
  val : ∀ r w, look tb r = some w → IsW f [r] w ∧ lastR w ∈ es ∧ (∀ v, IsW f [r] v → lastR v ∈ es → leW w v) ∧ w.length ≤ 2 * t + 1
  has : ∀ r v, IsW f [r] v → lastR v ∈ es → v.length ≤ 2 * t + 1 → r ∈ keys tb
  goes : t + 1 ≤ (keys tb).length ∨ ∀ r, r ∉ keys tb → ∀ q ∈ f r, q.2 ∉ keys tb
theorem key_look {α : Type} {tab : List (Str × α)} {k : Str} (m : k ∈ keys tab) : ∃ a, look tab k = some a := by
  cases c : look tab k with
  | none => exact absurd m (look_none.mp c)
  | some a => exact ⟨a, rfl⟩
theorem look_key {α : Type} {tab : List (Str × α)} {k : Str} {a : α} (e : look tab k = some a) : k ∈ keys tab := Classical.byContradiction fun n => by
  rw [look_none.mpr n] at e
  cases e
theorem BestAt.next {rs sh : List Str} {tb tg : List (Str × List Str)} {t : Nat} {pe : List (Str × Str × Str)} (h : BestAt f rs es tb t) (g : GrowInv tb sh tg pe) (fr : ∀ r q, q ∈ f r → r ∈ rs)
    (al : ∀ r l b, (l, b) ∈ f r ↔ ∃ d ∈ pe, d.1 ∉ sh ∧ d.1 = l ∧ d.2.1 = r ∧ d.2.2 = b) : BestAt f rs es (tb ++ tg) (t + 1) := by
  have cd : ∀ r c, cand tb sh pe r c ↔ r ∉ keys tb ∧ ∃ l b w, (l, b) ∈ f r ∧ look tb b = some w ∧ c = r :: l :: w := fun r c => by
    constructor
    · rintro ⟨d, m, ns, e, nk, w, lw, ec⟩
      exact ⟨nk, d.1, d.2.2, w, (al _ _ _).mpr ⟨d, m, ns, rfl, e, rfl⟩, lw, ec⟩
    · rintro ⟨nk, l, b, w, m, lw, ec⟩
      obtain ⟨d, md, ns, e1, e2, e3⟩ := (al _ _ _).mp m
      exact ⟨d, md, ns, e2, nk, w, by rw [e3]; exact lw, by rw [e1]; exact ec⟩
  have dis : ∀ r ∈ keys tg, r ∉ keys tb := fun r m => by
    obtain ⟨c, ec⟩ := key_look m
    exact ((cd r c).mp (g.val r c ec).1).1
  have kapp : keys (tb ++ tg) = keys tb ++ keys tg := List.map_append
  have lapp : ∀ r w, look (tb ++ tg) r = some w → look tb r = some w ∨ look tg r = some w := fun r w e => by
    rw [look_app] at e
    cases c : look tb r with
    | none => rw [c] at e; exact .inr e
    | some x => rw [c] at e; exact .inl e
  have long : ∀ r, r ∉ keys tb → ∀ v, IsW f [r] v → lastR v ∈ es → 2 * t + 3 ≤ v.length := fun r n v hv me => by
    obtain ⟨k, ek⟩ := hv.odd
    rcases Nat.lt_or_ge v.length (2 * t + 2) with z | z
    · exact absurd (h.has r v hv me (by omega)) n
    · omega
  have clen : ∀ r c, cand tb sh pe r c → IsW f [r] c ∧ lastR c ∈ es ∧ c.length = 2 * t + 3 := fun r c k => by
    obtain ⟨nk, l, b, w, m, lw, ec⟩ := (cd r c).mp k
    obtain ⟨⟨hs, ls, wy⟩, me, _, le⟩ := h.val _ _ lw
    have iw : IsW f [r] c := by
      rw [ec]
      exact wy.cons m
    have ml : lastR c ∈ es := by
      rw [ec, lastR_two wy.nonnil]
      exact me
    have l1 := long r nk c iw ml
    have l2 : c.length = w.length + 2 := by rw [ec]; rfl
    exact ⟨iw, ml, by omega⟩
  refine ⟨?_, fun r m => ?_, fun r m => ?_, fun r w e => ?_, fun r v hv me lv => ?_, ?_⟩
  · rw [kapp]
    exact List.nodup_append.mpr ⟨h.nd, g.nd, fun a ha b hb e => dis b hb (by rw [← e]; exact ha)⟩
  · rw [kapp] at m
    rcases List.mem_append.mp m with m | m
    · exact h.sub r m
    · obtain ⟨c, ec⟩ := key_look m
      obtain ⟨_, l, b, w, mf, _⟩ := (cd r c).mp (g.val r c ec).1
      exact fr r _ mf
  · rw [kapp]
    exact List.mem_append_left _ (h.ends r m)
  · rcases lapp r w e with e | e
    · obtain ⟨a, b, c, d⟩ := h.val r w e
      exact ⟨a, b, c, by omega⟩
    · obtain ⟨k1, k2⟩ := g.val r w e
      obtain ⟨i1, i2, i3⟩ := clen r w k1
      have nk := ((cd r w).mp k1).1
      refine ⟨i1, i2, fun v hv me => ?_, by omega⟩
      have lv := long r nk v hv me
      rcases Nat.lt_or_ge w.length v.length with z | z
      · exact .inr (.inl z)
      · obtain ⟨hs, ls, wy⟩ := hv
        rcases wy.uncons with ev | ⟨l, b, v', ev, mf, iv, el⟩
        · rw [ev] at lv
          simp at lv
        · have l3 : v.length = v'.length + 2 := by rw [ev]; rfl
          have mb := h.has b v' iv (by rw [el]; exact me) (by omega)
          obtain ⟨w', ew'⟩ := key_look mb
          obtain ⟨_, _, c3, _⟩ := h.val b w' ew'
          have k3 : cand tb sh pe r (r :: l :: w') := (cd _ _).mpr ⟨nk, l, b, w', mf, ew', rfl⟩
          have n2 := k2 _ k3
          have l4 := (clen _ _ k3).2.2
          have s1 : leW w (r :: l :: w') := by
            cases z2 : lt2 w (r :: l :: w') with
            | true => exact .inr (.inr ⟨by omega, z2⟩)
            | false => exact .inl (lt2_total z2 n2)
          refine leW_trans s1 ?_
          rw [ev]
          exact leW_two (c3 v' iv (by rw [el]; exact me))
  · rw [kapp]
    by_cases c : r ∈ keys tb
    · exact List.mem_append_left _ c
    · obtain ⟨hs, ls, wy⟩ := hv
      rcases wy.uncons with ev | ⟨l, b, v', ev, mf, iv, el⟩
      · have mr : r ∈ es := by
          rw [ev] at me
          exact me
        exact absurd (h.ends r mr) c
      · have l3 : v.length = v'.length + 2 := by rw [ev]; rfl
        obtain ⟨w', ew'⟩ := key_look (h.has b v' iv (by rw [el]; exact me) (by omega))
        exact List.mem_append_right _ (g.all r _ ((cd _ _).mpr ⟨c, l, b, w', mf, ew', rfl⟩))
  · rw [kapp]
    have noc : tg = [] → ∀ r, r ∉ keys tb → ∀ q ∈ f r, q.2 ∉ keys tb := fun e r n q mq mk => by
      obtain ⟨w, ew⟩ := key_look mk
      have := g.all r _ ((cd _ _).mpr ⟨n, q.1, q.2, w, mq, ew, rfl⟩)
      rw [e] at this
      cases this
    cases tg with
    | nil =>
      right
      intro r n q mq
      rw [show keys ([] : List (Str × List Str)) = [] from rfl, List.append_nil] at n ⊢
      exact noc rfl r n q mq
    | cons p tg =>
      rcases h.goes with z | z
      · left
        rw [List.length_append, show keys (p :: tg) = p.1 :: keys tg from rfl, List.length_cons]
        omega
      · obtain ⟨_, l, b, w, mf, lw, _⟩ := (cd p.1 p.2).mp (g.val p.1 p.2 (look_pos rfl)).1
        exact absurd (look_key lw) (z p.1 (dis p.1 (.head _)) _ mf)
theorem BestAt.shut {rs : List Str} {tb : List (Str × List Str)} (h : BestAt f rs es tb rs.length) (rN : rs.Nodup) {r : Str} {v : List Str} (hv : IsW f [r] v) (me : lastR v ∈ es) : r ∈ keys tb := by
  have cl : ∀ r, r ∉ keys tb → ∀ q ∈ f r, q.2 ∉ keys tb := by
    rcases h.goes with z | z
    · have := nodup_len h.nd h.sub
      omega
    · exact z
  have key : ∀ (n : Nat) (r : Str) (v : List Str), v.length ≤ n → IsW f [r] v → lastR v ∈ es → r ∈ keys tb := by
    intro n
    induction n with
    | zero =>
      intro r v l hv _
      obtain ⟨k, ek⟩ := hv.odd
      omega
    | succ n ih =>
      intro r v l hv me
      obtain ⟨hs, ls, wy⟩ := hv
      rcases wy.uncons with ev | ⟨l', b, v', ev, mf, iv, el⟩
      · refine h.ends r ?_
        rw [ev] at me
        exact me
      · have l3 : v.length = v'.length + 2 := by rw [ev]; rfl
        have mb := ih b v' (by omega) iv (by rw [el]; exact me)
        exact Classical.byContradiction fun n => cl r n _ mf mb
  exact key _ r v (Nat.le_refl _) hv me
theorem best_start {rs : List Str} (n : es.Nodup) (s : ∀ r ∈ es, r ∈ rs) (ne : es ≠ []) : BestAt f rs es (es.map fun r => (r, [r])) 0 := by
  have ke : keys (es.map fun r => (r, [r])) = es := by
    unfold keys
    rw [List.map_map]
    exact List.map_id es
  have lk : ∀ r w, look (es.map fun r => (r, [r])) r = some w → w = [r] ∧ r ∈ es := fun r w e => by
    have m := look_mem' e
    obtain ⟨z, mz, ez⟩ := List.mem_map.mp m
    cases ez
    exact ⟨rfl, mz⟩
  refine ⟨by rw [ke]; exact n, fun r m => by rw [ke] at m; exact s r m, fun r m => by rw [ke]; exact m, fun r w e => ?_, fun r v hv me lv => ?_, .inl ?_⟩
  · obtain ⟨rfl, mr⟩ := lk r w e
    refine ⟨⟨_, _, .start (.head _)⟩, mr, fun v hv me => ?_, Nat.le_refl _⟩
    obtain ⟨hs, ls, wy⟩ := hv
    rcases wy.uncons with ev | ⟨l, b, v', ev, _⟩
    · exact .inl ev.symm
    · exact .inr (.inl (by rw [ev]; simp))
  · rw [ke]
    obtain ⟨hs, ls, wy⟩ := hv
    rcases wy.uncons with ev | ⟨l, b, v', ev, _⟩
    · rw [ev] at me
      exact me
    · rw [ev] at lv
      simp at lv
  · rw [ke]
    exact List.length_pos_iff.mpr ne
/-- what is due: the least of all -/
def tupW (w : List Str) : PyData := .tuple [.int w.length, wordD w]
theorem word_eqv (w v : List Str) : PyData.eqv (wordD w) (wordD v) = decide (w = v) := by
  unfold wordD
  by_cases h : w = v
  · rw [decide_eq_true h, h]
    simp only [PyData.eqv]
    have : ∀ v : List Str, PyData.eqvAll (v.map PyData.str) (v.map PyData.str) = true := fun v => by
      induction v with
      | nil => simp [PyData.eqvAll]
      | cons x t ih => rw [List.map_cons, PySem.W.eqv_all_cons, str_eqv, decide_eq_true rfl, ih]; rfl
    exact this v
  · rw [decide_eq_false h]
    simp only [PyData.eqv]
    have : ∀ w v : List Str, w ≠ v → PyData.eqvAll (w.map PyData.str) (v.map PyData.str) = false := fun w => by
      induction w with
      | nil =>
        intro v n
        cases v with
        | nil => exact absurd rfl n
        | cons y t => simp [PyData.eqvAll]
      | cons x w ih =>
        intro v n
        cases v with
        | nil => simp [PyData.eqvAll]
        | cons y t =>
          rw [List.map_cons, List.map_cons, PySem.W.eqv_all_cons, str_eqv]
          by_cases e : x = y
          · rw [decide_eq_true e, ih t fun q => n (by rw [e, q])]
            rfl
          · rw [decide_eq_false e]
            rfl
    exact this w v h
theorem word_alike : ∀ (w v : List Str), PySem.W.alikeAll (w.map PyData.str) (v.map PyData.str) = true
  | [], _ => by simp [PySem.W.alikeAll]
  | _ :: _, [] => by simp [PySem.W.alikeAll]
  | x :: w, y :: v => by
    rw [List.map_cons, List.map_cons, PySem.W.alikeAll, word_alike w v]
    simp [PySem.W.alike]
theorem wordD_alike (w v : List Str) : PySem.W.alike (wordD w) (wordD v) = true := by
  unfold wordD
  rw [PySem.W.alike]
  exact word_alike w v
theorem tupW_alike (w v : List Str) : PySem.W.alike (tupW w) (tupW v) = true := by
  unfold tupW
  rw [PySem.W.alike, PySem.W.alikeAll, PySem.W.alikeAll, wordD_alike w v]
  simp [PySem.W.alike, PySem.W.alikeAll]
theorem int_eqv (a b : Int) : PyData.eqv (.int a) (.int b) = decide (a = b) := by
  simp only [PyData.eqv]
  by_cases h : a = b
  · simp [h]
  · simp [h]
theorem tupW_lt (w v : List Str) : PySem.W.dataLt (tupW w) (tupW v) = true ↔ ltW w v := by
  unfold tupW
  rw [PySem.W.dataLt_tuple]
  have ia : PySem.W.alike (.int w.length) (.int v.length) = true := by simp [PySem.W.alike]
  by_cases e : w.length = v.length
  · rw [PySem.W.dataLt_all_yes ia (by rw [int_eqv]; exact decide_eq_true (by rw [e]))]
    by_cases h : w = v
    · rw [PySem.W.dataLt_all_yes (wordD_alike w v) (by rw [word_eqv]; exact decide_eq_true h)]
      constructor
      · intro z
        rw [lex_irrefl] at z
        cases z
      · intro z
        exact absurd h (ltW_ne z)
    · rw [PySem.W.dataLt_all_no (wordD_alike w v) (by rw [word_eqv]; exact decide_eq_false h)]
      constructor
      · exact fun z => .inr ⟨e, z⟩
      · rintro (z | ⟨_, z⟩)
        · omega
        · exact z
  · rw [PySem.W.dataLt_all_no ia (by rw [int_eqv]; exact decide_eq_false fun z => e (by omega)), PySem.W.dataLt_int]
    constructor
    · intro z
      have := of_decide_eq_true z
      exact .inl (by omega)
    · rintro (z | ⟨z, _⟩)
      · exact decide_eq_true (by omega)
      · exact absurd z e
end
end SM
/-! Part W9: tables of ways in the heap. -/
namespace SM
open PySem PySem.Spec PyProof.Rows L2
def ListN (H : Hp) : V → List Str → Prop := fun v w => ∃ a, v = .ref a ∧ H a = some (.lst (w.map V.str)) ∧ w ≠ []
/-- but for what stands at E nothing is changed -/
def Ex (E : Addr) (H H' : Hp) : Prop := ∀ b u, H b = some u → b ≠ E → H' b = some u
theorem Ex.refl {E : Addr} {H : Hp} : Ex E H H := fun _ _ e _ => e
theorem Ex.of {E : Addr} {H H' : Hp} (s : Same H H') : Ex E H H' := fun b u e _ => s b u e
theorem Ex.trans {E : Addr} {H H' H'' : Hp} (a : Ex E H H') (b : Ex E H' H'') : Ex E H H'' := fun c u e n => b c u (a c u e n) n
theorem Ex.put {E : Addr} {H : Hp} {o : HO} : Ex E H (upd H E o) := fun _ _ e n => (upd_ne n).trans e
theorem Kr.listN {H H' : Hp} {E : Addr} {kv : List (Key × V)} {kvs : List (Key × V)} {tab : List (Str × List Str)} (h : Kr (ListN H) kvs tab) (e : H E = some (.dK kv)) (x : Ex E H H') : Kr (ListN H') kvs tab :=
  h.mono fun _ _ ⟨a, e1, e2, n⟩ => ⟨a, e1, x _ _ e2 (ne_of e2 e (by intro w; cases w)), n⟩
theorem Kr.listS {H H' : Hp} {kvs : List (Key × V)} {tab : List (Str × List Str)} (h : Kr (ListN H) kvs tab) (s : Same H H') : Kr (ListN H') kvs tab := h.mono fun _ _ ⟨a, e1, e2, n⟩ => ⟨a, e1, s _ _ e2, n⟩
theorem Kr.listL {H : Hp} {C : Addr} {ts : List Addr} {o : HO} {kvs : List (Key × V)} {tab : List (Str × List Str)} (h : Kr (ListN H) kvs tab) (e : H C = some (.lst (ts.map V.ref))) : Kr (ListN (upd H C o)) kvs tab :=
  h.mono fun _ _ ⟨a, e1, e2, n⟩ => ⟨a, e1, (upd_ne fun w => by
    rw [w, e] at e2
    injection e2 with e2
    injection e2 with e2
    cases ts with
    | nil =>
      cases h3 : (‹List Str› : List Str) with
      | nil => exact n h3
      | cons y t => rw [h3] at e2; cases e2
    | cons y t =>
      cases h3 : (‹List Str› : List Str) with
      | nil => exact n h3
      | cons z t => rw [h3] at e2; cases e2).trans e2, n⟩
/-- a line both ways -/
def dirs (e : Str × LineV) : List (Str × Str × Str) := [(e.1, e.2.1, e.2.2.1), (e.1, e.2.2.1, e.2.1)]
theorem leads_dirs {S : LS} (o : S.Ok) {sh ls : List Str} (al : ∀ l ∈ keys S.lines, l ∈ ls) (r l b : Str) : (l, b) ∈ leadsTo S sh ls r ↔ ∃ d ∈ S.lines.flatMap dirs, d.1 ∉ sh ∧ d.1 = l ∧ d.2.1 = r ∧ d.2.2 = b := by
  constructor
  · intro h
    obtain ⟨e, k1, k2, k3⟩ := lead_is h
    have me := (look_iff o.lN).mp k1
    rcases k3 with ⟨w1, w2⟩ | ⟨w1, w2⟩
    · exact ⟨(l, e.1, e.2.1), List.mem_flatMap.mpr ⟨(l, e), me, .head _⟩, k2, rfl, w1, w2⟩
    · exact ⟨(l, e.2.1, e.1), List.mem_flatMap.mpr ⟨(l, e), me, .tail _ (.head _)⟩, k2, rfl, w2, w1⟩
  · rintro ⟨d, md, ns, rfl, rfl, rfl⟩
    obtain ⟨e, me, hd⟩ := List.mem_flatMap.mp md
    have lk := (look_iff o.lN).mpr (show (e.1, e.2) ∈ S.lines from me)
    have ml := al e.1 (List.mem_map_of_mem me)
    have ine := (o.lI e me).2.2.1
    simp only [dirs, List.mem_cons, List.not_mem_nil, or_false] at hd
    rcases hd with rfl | rfl
    · exact List.mem_filterMap.mpr ⟨e.1, ml, lead_one lk ns⟩
    · exact List.mem_filterMap.mpr ⟨e.1, ml, lead_other lk ns ine⟩
theorem leads_room {S : LS} (o : S.Ok) {sh ls : List Str} {r : Str} {q : Str × Str} (h : q ∈ leadsTo S sh ls r) : r ∈ S.rooms := by
  obtain ⟨e, k1, _, k3⟩ := lead_is (l := q.1) (b := q.2) h
  obtain ⟨i1, i2, _⟩ := o.lI _ ((look_iff o.lN).mp k1)
  rcases k3 with ⟨w1, _⟩ | ⟨_, w1⟩
  · rw [← w1]
    exact i1
  · rw [← w1]
    exact i2
theorem leads_next {S : LS} (o : S.Ok) {sh ls : List Str} {r : Str} {q : Str × Str} (h : q ∈ leadsTo S sh ls r) : q.2 ∈ S.rooms := by
  obtain ⟨e, k1, _, k3⟩ := lead_is (l := q.1) (b := q.2) h
  obtain ⟨i1, i2, _⟩ := o.lI _ ((look_iff o.lN).mp k1)
  rcases k3 with ⟨_, w1⟩ | ⟨w1, _⟩
  · rw [← w1]
    exact i2
  · rw [← w1]
    exact i1
theorem ltS_of {a b : Str} (h : leS a b) (n : a ≠ b) : ltS a b := by
  by_cases c : ltS a b
  · exact c
  · refine absurd ?_ n
    have h' : ¬ b.cps.toList < a.cps.toList := by
      have : ltCps b.cps.toList a.cps.toList = false := h
      rw [ltCps_eq] at this
      exact of_decide_eq_false this
    exact PySem.W.str_of_cps (List.le_antisymm (List.not_lt.mp h') (List.not_lt.mp c))
theorem srt_ltS {ls : List Str} (s : sortedS ls = true) (n : ls.Nodup) : ls.Pairwise ltS := by
  have h := sorted_pw s
  have k : ls.Pairwise (· ≠ ·) := n
  exact List.Pairwise.imp₂ (fun a b x y => ltS_of x y) h k
theorem leads_sorted {S : LS} {sh ls : List Str} (s : sortedS ls = true) (n : ls.Nodup) (r : Str) : (leadsTo S sh ls r).Pairwise fun a b => ltS a.1 b.1 := by
  unfold leadsTo
  rw [List.pairwise_filterMap]
  refine (srt_ltS s n).imp fun {a b} h x hx y hy => ?_
  have e1 : ∀ {c : Str} {z : Str × Str}, lead S sh r c = some z → z.1 = c := fun {c z} e => by
    unfold lead at e
    cases hk : look S.lines c with
    | none => rw [hk] at e; cases e
    | some q =>
      rw [hk] at e
      have e : (if c ∈ sh then none else if q.1 = r then some (c, q.2.1) else if q.2.1 = r then some (c, q.1) else none) = some z := e
      by_cases h1 : c ∈ sh
      · rw [if_pos h1] at e; cases e
      rw [if_neg h1] at e
      by_cases h2 : q.1 = r
      · rw [if_pos h2] at e
        cases e
        rfl
      rw [if_neg h2] at e
      by_cases h3 : q.2.1 = r
      · rw [if_pos h3] at e
        cases e
        rfl
      rw [if_neg h3] at e
      cases e
  rw [e1 hx, e1 hy]
  exact h
theorem word_depth : ∀ w : List Str, PyData.depthAll (w.map PyData.str) = 0
  | [] => by simp only [List.map_nil, PyData.depthAll]
  | x :: w => by
    rw [List.map_cons]
    simp only [PyData.depthAll, PyData.depth, word_depth w]
    rfl
theorem words_alike (a b : List Str) : PySem.W.AlikeAll [wordD a, wordD b] := by
  refine ⟨fun x hx y hy => ?_, fun x hx => ?_⟩
  · simp only [List.mem_cons, List.not_mem_nil, or_false] at hx hy
    rcases hx with rfl | rfl <;> rcases hy with rfl | rfl <;> exact wordD_alike _ _
  · simp only [List.mem_cons, List.not_mem_nil, or_false] at hx
    rcases hx with rfl | rfl <;> (unfold wordD; intro z; cases z)
theorem words_depth (a b : List Str) : PyData.depthAll [wordD a, wordD b] ≤ 10 := by
  unfold wordD
  simp only [PyData.depthAll, PyData.depth, word_depth]
  decide
theorem word_dp {K : PySem.W.Frag} {H : Hp} {a : Addr} {w : List Str} (h : H a = some (.lst (w.map V.str))) : Dp K H (.ref a) (wordD w) := names_dp h
def spBestL : Sp := fun vs H Q _ => ∃ (m l d a b s r : Addr) (S : LS) (sh xs : List Str), vs = [.ref m, .ref s, .ref r] ∧ WAt H m l d a b S ∧ H s = some (.lst (sh.map V.str)) ∧ H r = some (.lst (xs.map V.str)) ∧ xs.Nodup ∧ (∀ x ∈ xs, x ∈ S.rooms) ∧ xs ≠ [] ∧
  ∀ (D : Addr) (H' : Hp) (kvs : List (Key × V)) (tb : List (Str × List Str)), H' D = some (.dK kvs) → Kr (ListN H') kvs tb → (∀ ls, Srt ls (keys S.lines) → BestAt (leadsTo S sh ls) S.rooms xs tb S.rooms.length) → Same H H' → Q (.ref D) H'
theorem srt_ex (xs : List Str) : ∃ ys, Srt ys xs := by
  refine ⟨xs.mergeSort (fun a b => !ltCps b.cps.toList a.cps.toList), List.mergeSort_perm _ _, risingS_sub ?_⟩
  refine (List.pairwise_mergeSort (le := fun a b : Str => !ltCps b.cps.toList a.cps.toList) (fun a b c h k => ?_) (fun a b => ?_) xs).imp fun {a b} h => by simpa using h
  · have h1 : leS a b := by simpa using h
    have h2 : leS b c := by simpa using k
    have h3 : leS a c := le_tr h1 h2
    simpa using h3
  · rw [ltCps_eq, ltCps_eq]
    by_cases h : b.cps.toList < a.cps.toList
    · have : ¬ a.cps.toList < b.cps.toList := fun k => List.lt_irrefl _ (List.lt_trans h k)
      simp [h, this]
    · simp [h]
theorem no_cand {tb : List (Str × List Str)} {sh : List Str} {d : Str × Str × Str} (h : d.1 ∈ sh ∨ d.2.1 ∈ keys tb ∨ look tb d.2.2 = none) : ∀ r c, ¬ cand tb sh [d] r c := fun r c ⟨x, m, k1, k2, k3, w, k4, _⟩ => by
  rw [List.mem_singleton.mp m] at k1 k2 k4
  rcases h with h | h | h
  · exact k1 h
  · exact k3 (by rw [← k2]; exact h)
  · rw [h] at k4
    cases k4
end SM
/-! Part W10: what is due of a way. -/
namespace SM
open PySem PySem.Spec PyProof.Rows L2
theorem way_ok {S : LS} (o : S.Ok) {sh lsx xs w hs ls : List Str} (h : Wy (leadsTo S sh lsx) xs w hs ls) (k : ∀ x ∈ xs, okName x = true) : ∀ z ∈ w, okName z = true := by
  induction h with
  | start m => exact fun z mz => by rw [List.mem_singleton.mp mz]; exact k _ m
  | step h mq ih =>
    intro z mz
    rcases List.mem_append.mp mz with mz | mz
    · exact ih z mz
    · have r2 := o.rG _ (leads_next o mq)
      obtain ⟨e, k1, _⟩ := lead_is (l := _) (b := _) mq
      have l1 := o.lG _ (List.mem_map_of_mem ((look_iff o.lN).mp k1))
      simp only [List.mem_cons, List.not_mem_nil, or_false] at mz
      rcases mz with e | e
      · rw [e]
        exact l1
      · rw [e]
        exact r2
def TupG (H : Hp) : Addr → List Str → Prop := fun t w => ∃ wa, H t = some (.tup [.int w.length, .ref wa]) ∧ H wa = some (.lst (w.map V.str))
theorem tupW_dp {K : PySem.W.Frag} {H : Hp} {t : Addr} {w : List Str} (h : TupG H t w) : Dp K H (.ref t) (tupW w) := by
  obtain ⟨wa, a, b⟩ := h
  exact .tup (SqT.of a) (.cons (.int _) (.cons (word_dp b) .nil))
theorem tups_dp {K : PySem.W.Frag} {H : Hp} : ∀ {ts : List Addr} {ws : List (List Str)}, Paired (TupG H) ts ws → DpAll K H (ts.map V.ref) (ws.map tupW)
  | _, _, .nil => .nil
  | _, _, .cons h t => .cons (tupW_dp h) (tups_dp t)
theorem tupW_sm {w : List Str} (h : ∀ z ∈ w, okName z = true) (l : w.length ≤ 49) : Sm 2 1668 (tupW w) :=
  Sm.tup (ds := [.int w.length, wordD w]) (k := 1) (w := 833) (.cons ((sm_int (by omega) (by omega)).mono (by decide) (by decide)) (.cons ((names_sm h).mono (Nat.le_refl _) (by omega)) .nil))
theorem tups_fine {ws : List (List Str)} (h : ∀ w ∈ ws, w.length ≤ 49 ∧ ∀ z ∈ w, okName z = true) (l : ws.length ≤ 24) : Fine (.list (ws.map tupW)) :=
  (Sm.lst (SmAll.map (k := 2) (w := 1668) tupW fun w mw => tupW_sm (h w mw).2 (h w mw).1)).fine (by decide) (by rw [List.length_map]; omega)
theorem tups_eqv (ws : List (List Str)) : PyData.eqv (.list (ws.map tupW)) (.list []) = decide (ws = []) := by
  cases ws with
  | nil => simp [PyData.eqv, PyData.eqvAll]
  | cons w r => simp [PyData.eqv, PyData.eqvAll]
theorem tups_alike (ws : List (List Str)) : PySem.W.AlikeAll (ws.map tupW) := by
  refine ⟨fun x hx y hy => ?_, fun x hx => ?_⟩
  · obtain ⟨w, _, rfl⟩ := List.mem_map.mp hx
    obtain ⟨v, _, rfl⟩ := List.mem_map.mp hy
    exact tupW_alike w v
  · obtain ⟨w, _, rfl⟩ := List.mem_map.mp hx
    unfold tupW
    intro z
    cases z
theorem tups_depth : ∀ ws : List (List Str), PyData.depthAll (ws.map tupW) ≤ 10
  | [] => by simp only [List.map_nil, PyData.depthAll]; decide
  | w :: r => by
    have ih := tups_depth r
    rw [List.map_cons]
    unfold tupW wordD
    unfold tupW wordD at ih
    simp only [PyData.depthAll, PyData.depth, word_depth]
    omega
/-- what is due -/
def DueW (H : Hp) (dv : V) (ws : List (List Str)) : Prop := (dv = .non ∧ ws = []) ∨ ∃ wa w, dv = .ref wa ∧ H wa = some (.lst (w.map V.str)) ∧ w ∈ ws ∧ ∀ w' ∈ ws, leW w w'
theorem DueW.same {H H' : Hp} {dv : V} {ws : List (List Str)} (h : DueW H dv ws) (s : Same H H') : DueW H' dv ws :=
  h.imp id fun ⟨wa, w, a, b, c⟩ => ⟨wa, w, a, s _ _ b, c⟩
theorem least_of {w : List Str} {ws : List (List Str)} (h : ∀ e' ∈ ws.map tupW, PySem.W.dataLt e' (tupW w) = false) : ∀ w' ∈ ws, leW w w' := fun w' mw => by
  have k := h (tupW w') (List.mem_map_of_mem mw)
  rcases ltW_tri w w' with z | z | z
  · exact .inr z
  · exact .inl z
  · rw [(tupW_lt w' w).mpr z] at k
    cases k
def DueIs (ws : List (List Str)) : Option (List Str) → Prop
  | none => ws = []
  | some w => ws ≠ [] ∧ ∀ wd ∈ ws, (∀ w' ∈ ws, leW wd w') → wd = w
/-- the program's answer and the law's are one -/
theorem due_is {S : LS} (o : S.Ok) {sh ls ss xs : List Str} {tb : List (Str × List Str)} (b : BestAt (leadsTo S sh ls) S.rooms xs tb S.rooms.length) (p : ss.Perm S.sources) {R : Option (List Str)} (op : Opt (leadsTo S sh ls) ss xs R) : DueIs (S.sources.filterMap (look tb)) R := by
  have src : ∀ w ∈ S.sources.filterMap (look tb), IsW (leadsTo S sh ls) ss w ∧ lastR w ∈ xs := fun w mw => by
    obtain ⟨r, mr, e⟩ := List.mem_filterMap.mp mw
    obtain ⟨i1, i2, _⟩ := b.val r w e
    exact ⟨i1.to (p.mem_iff.mpr mr), i2⟩
  cases R with
  | none =>
    refine List.eq_nil_iff_forall_not_mem.mpr fun w mw => ?_
    obtain ⟨i1, i2⟩ := src w mw
    exact op w i1 i2
  | some w =>
    obtain ⟨iw, me, least⟩ := op
    obtain ⟨r, mr, ir⟩ := iw.from
    obtain ⟨w', ew'⟩ := key_look (b.shut o.rN ir me)
    have mw' : w' ∈ S.sources.filterMap (look tb) := List.mem_filterMap.mpr ⟨r, p.mem_iff.mp mr, ew'⟩
    refine ⟨(fun z => by rw [z] at mw'; cases mw'), fun wd md ld => ?_⟩
    obtain ⟨i1, i2⟩ := src wd md
    exact leW_anti (leW_trans (ld w' mw') ((b.val r w' ew').2.2.1 w ir me)) (least wd i1 i2)
theorem Paired.monoR {α β : Type} {R R' : α → β → Prop} : ∀ {xs : List α} {ys : List β}, Paired R xs ys → (∀ a b, b ∈ ys → R a b → R' a b) → Paired R' xs ys
  | _, _, .nil, _ => .nil
  | _, _, .cons h t, i => .cons (i _ _ (.head _) h) (Paired.monoR t fun a b m => i a b (.tail _ m))
end SM
namespace SM
open PySem PySem.Spec PyProof.Rows L2
open Evl (tCut pss_cut)
def topS (i : Nat) : Stmt := PySem.Challenge.pw_stillmain_k32_way_fewest_first.main.body.getD i (.Pass ⟨0, 0, 0, 0⟩)
abbrev s_need : Stmt := topS 8
abbrev s_is_whole : Stmt := topS 14
abbrev s_is_name : Stmt := topS 15
abbrev s_is_cost : Stmt := topS 16
abbrev s_Layout___init__ : Stmt := inClass (topS 28) 0
abbrev s_Layout_add_room : Stmt := inClass (topS 28) 1
abbrev s_Layout_add_line : Stmt := inClass (topS 28) 2
abbrev s_Layout_add_drain : Stmt := inClass (topS 28) 3
abbrev s_Layout_add_source : Stmt := inClass (topS 28) 4
abbrev s_Layout_rooms : Stmt := inClass (topS 28) 9
abbrev s_Layout_lines : Stmt := inClass (topS 28) 10
abbrev s_Layout_drains : Stmt := inClass (topS 28) 11
abbrev s_Layout_sources : Stmt := inClass (topS 28) 12
abbrev s_Layout_line : Stmt := inClass (topS 28) 13
abbrev s_Layout_drain : Stmt := inClass (topS 28) 14
abbrev s_Layout__refuse_taken : Stmt := inClass (topS 28) 17
abbrev s_Layout__refuse_no_room : Stmt := inClass (topS 28) 18
abbrev s_Layout__refuse_no_line : Stmt := inClass (topS 28) 19
abbrev s_Layout__refuse_no_drain : Stmt := inClass (topS 28) 20
/-- the errors' bases' chain, M the common one -/
abbrev bmM (M : Addr) : List Value := [.ref M, .type "ValueError", .type "Exception", .type "BaseException", .type "object"]
/-- what the top has made of the program's text -/
structure Lx (K : PySem.W.Frag) (mg : Str → Option Value) (C : Nat → Addr) (M L : Addr) : Prop where
  d_need : DefAt K mg "need" s_need
  d_is_whole : DefAt K mg "is_whole" s_is_whole
  d_is_name : DefAt K mg "is_name" s_is_name
  d_is_cost : DefAt K mg "is_cost" s_is_cost
  m_init : MethAt K L "__init__" "Layout.__init__" s_Layout___init__
  m_add_room : MethAt K L "add_room" "Layout.add_room" s_Layout_add_room
  m_add_line : MethAt K L "add_line" "Layout.add_line" s_Layout_add_line
  m_add_drain : MethAt K L "add_drain" "Layout.add_drain" s_Layout_add_drain
  m_add_source : MethAt K L "add_source" "Layout.add_source" s_Layout_add_source
  m_rooms : MethAt K L "rooms" "Layout.rooms" s_Layout_rooms
  m_lines : MethAt K L "lines" "Layout.lines" s_Layout_lines
  m_drains : MethAt K L "drains" "Layout.drains" s_Layout_drains
  m_sources : MethAt K L "sources" "Layout.sources" s_Layout_sources
  m_line : MethAt K L "line" "Layout.line" s_Layout_line
  m_drain : MethAt K L "drain" "Layout.drain" s_Layout_drain
  m__refuse_taken : MethAt K L "_refuse_taken" "Layout._refuse_taken" s_Layout__refuse_taken
  m__refuse_no_room : MethAt K L "_refuse_no_room" "Layout._refuse_no_room" s_Layout__refuse_no_room
  m__refuse_no_line : MethAt K L "_refuse_no_line" "Layout._refuse_no_line" s_Layout__refuse_no_line
  m__refuse_no_drain : MethAt K L "_refuse_no_drain" "Layout._refuse_no_drain" s_Layout__refuse_no_drain
  mkL : PySem.W.makesIn K L = true
  kL : PySem.W.keepIn K (.ref L) = true
  gL : mg "Layout" = some (.ref L)
  cl : Cls K L
  n_rooms : NoAttr K L "_rooms"
  n_lines : NoAttr K L "_lines"
  n_drains : NoAttr K L "_drains"
  n_sources : NoAttr K L "_sources"
  g_LONGEST_NAME : ∃ t, mg "LONGEST_NAME" = some (.int 8 t)
  g_HIGHEST_COST : ∃ t, mg "HIGHEST_COST" = some (.int 99 t)
  g_MOST_ROOMS : ∃ t, mg "MOST_ROOMS" = some (.int 24 t)
  g_MOST_LINES : ∃ t, mg "MOST_LINES" = some (.int 40 t)
  g_MOST_DRAINS : ∃ t, mg "MOST_DRAINS" = some (.int 12 t)
  b_len : mg "len" = none
  b_all : mg "all" = none
  b_isinstance : mg "isinstance" = none
  b_str : mg "str" = none
  b_int : mg "int" = none
  b_bool : mg "bool" = none
  b_sorted : mg "sorted" = none
  b_list : mg "list" = none
  b_set : mg "set" = none
  gM : mg "MainsError" = some (.ref M)
  eM : ErrC K M [.type "ValueError", .type "Exception", .type "BaseException", .type "object"]
  e : ∀ n, n < 4 → ErrC K (C n) (bmM M)
  gc : ClsGet K
  nd : (M :: (List.range 4).map C).Nodup
  g0 : mg "Wrong" = some (.ref (C 0))
  n0 : PySem.W.findIn K (.ref (C 0)) "at" = some none
  t0 : InitAt K (C 0) "Wrong.__init__" (inClass (topS 3) 0)
  g1 : mg "There" = some (.ref (C 1))
  n1 : PySem.W.findIn K (.ref (C 1)) "name" = some none
  t1 : InitAt K (C 1) "There.__init__" (inClass (topS 4) 0)
  g2 : mg "Lacks" = some (.ref (C 2))
  n2 : PySem.W.findIn K (.ref (C 2)) "name" = some none
  t2 : InitAt K (C 2) "Lacks.__init__" (inClass (topS 5) 0)
  g3 : mg "TooMany" = some (.ref (C 3))
  n3 : PySem.W.findIn K (.ref (C 3)) "most" = some none
  t3 : InitAt K (C 3) "TooMany.__init__" (inClass (topS 6) 0)
section
variable {P : Program} {w : World} {K : PySem.W.Frag} {mg : Str → Option Value} {base : Heap} {C : Nat → Addr} {M L : Addr}
theorem io_0 (T : Lx K mg C M L) : InitOk P w K mg base (C 0) "at" := by
  obtain ⟨fI, fd, F, iC, tI⟩ := T.t0
  exact ⟨fI, fd, iC, tI, F.binds (ps := ["self", "at"]) fun _ _ _ _ _ _ us hl => match us, hl with | [_, _], _ => rfl,
    init_ok F (T.e 0 (by decide)) T.n0 ⟨rfl, rfl, rfl, by decide +kernel, rfl, by decide +kernel, by decide +kernel⟩ fun _ _ _ _ _ _ => pss_one (ps_ost (pv 0) (pv 1))⟩
theorem io_1 (T : Lx K mg C M L) : InitOk P w K mg base (C 1) "name" := by
  obtain ⟨fI, fd, F, iC, tI⟩ := T.t1
  exact ⟨fI, fd, iC, tI, F.binds (ps := ["self", "name"]) fun _ _ _ _ _ _ us hl => match us, hl with | [_, _], _ => rfl,
    init_ok F (T.e 1 (by decide)) T.n1 ⟨rfl, rfl, rfl, by decide +kernel, rfl, by decide +kernel, by decide +kernel⟩ fun _ _ _ _ _ _ => pss_one (ps_ost (pv 0) (pv 1))⟩
theorem io_2 (T : Lx K mg C M L) : InitOk P w K mg base (C 2) "name" := by
  obtain ⟨fI, fd, F, iC, tI⟩ := T.t2
  exact ⟨fI, fd, iC, tI, F.binds (ps := ["self", "name"]) fun _ _ _ _ _ _ us hl => match us, hl with | [_, _], _ => rfl,
    init_ok F (T.e 2 (by decide)) T.n2 ⟨rfl, rfl, rfl, by decide +kernel, rfl, by decide +kernel, by decide +kernel⟩ fun _ _ _ _ _ _ => pss_one (ps_ost (pv 0) (pv 1))⟩
theorem io_3 (T : Lx K mg C M L) : InitOk P w K mg base (C 3) "most" := by
  obtain ⟨fI, fd, F, iC, tI⟩ := T.t3
  exact ⟨fI, fd, iC, tI, F.binds (ps := ["self", "most"]) fun _ _ _ _ _ _ us hl => match us, hl with | [_, _], _ => rfl,
    init_ok F (T.e 3 (by decide)) T.n3 ⟨rfl, rfl, rfl, by decide +kernel, rfl, by decide +kernel, by decide +kernel⟩ fun _ _ _ _ _ _ => pss_one (ps_ost (pv 0) (pv 1))⟩
abbrev OX (P : Program) (w : World) := L2.CX P w
theorem sc_need : FnScope ["at", "fits"] ["at", "fits"] (defScope s_need) := ⟨rfl, rfl, rfl, by decide +kernel, rfl, by decide +kernel, by decide +kernel⟩
theorem ok_need (T : Lx K mg C M L) : OkF P w K mg base (L2.CX P w) 3 "need" ["at", "fits"] (spNeed C) := by
  refine T.d_need.okX sc_need (fun _ _ _ _ _ _ us hl => match us, hl with | [_, _], _ => rfl) (fun vs H Q E h => ?_) (fun f cdv A outer s H vs Q E hr h => ?_)
  · obtain ⟨y, b, rfl, _⟩ := h
    rfl
  · obtain ⟨y, b, rfl, h1, h2⟩ := h
    refine ⟨_, (pss_one (ps_if (pt_not (pt_val (pv 1))) (pss_one (ps_raise1 (C := C 0) (f := "at") (W := fun cls d _ H => E cls d H) rfl (T.e 0 (by decide)) (io_0 T) T.g0 (hr.mono (by decide)) (takes_of rfl rfl rfl rfl) (pv 0))) pss_nil)), ?_⟩
    refine ⟨_, rfl, _, rfl, ?_⟩
    cases b with
    | true => exact if_f rfl (h1 rfl)
    | false => exact if_t rfl ⟨_, rfl, raise1 fun d hd => (h2 rfl).out hd⟩
theorem sc_is_whole : FnScope ["thing"] ["thing"] (defScope s_is_whole) := ⟨rfl, rfl, rfl, by decide +kernel, rfl, by decide +kernel, by decide +kernel⟩
theorem ok_is_whole (T : Lx K mg C M L) : OkF P w K mg base CX0 1 "is_whole" ["thing"] (spIsWhole K) := by
  refine T.d_is_whole.ok sc_is_whole (fun _ _ _ _ _ _ us hl => match us, hl with | [_], _ => rfl) (fun vs H Q E h => ?_) (fun f cdv A outer s H vs Q E hr h => ?_)
  · obtain ⟨x, b, rfl, _⟩ := h
    rfl
  · obtain ⟨x, b, rfl, ⟨t, i, j, ty, hi, hj, rfl⟩, k⟩ := h
    refine ⟨_, (pss_one (ps_ret (pe_and (pe_callB call_isi (by rfl) T.b_isinstance (by decide +kernel) (pa_cons (pv 0) (pa_cons (pe_bltn (v := .ty "int") (by rfl) T.b_int (by decide +kernel) rfl) pa_nil))) (pe_one (pe_not (pe_callB call_isi (by rfl) T.b_isinstance (by decide +kernel) (pa_cons (pv 0) (pa_cons (pe_bltn (v := .ty "bool") (by rfl) T.b_bool (by decide +kernel) rfl) pa_nil)))))))), ?_⟩
    refine ⟨_, rfl, _, .ty "int", t, _, i, rfl, .ty _, ty, hi, _, rfl, ?_⟩
    cases i with
    | false => exact k
    | true => exact ⟨_, rfl, _, .ty "bool", t, _, j, rfl, .ty _, ty, hj, _, rfl, k⟩
theorem sc_is_cost : FnScope ["thing"] ["thing"] (defScope s_is_cost) := ⟨rfl, rfl, rfl, by decide +kernel, rfl, by decide +kernel, by decide +kernel⟩
theorem ok_is_cost (T : Lx K mg C M L) : OkF P w K mg base CX0 2 "is_cost" ["thing"] (spIsCost K) := by
  refine T.d_is_cost.ok sc_is_cost (fun _ _ _ _ _ _ us hl => match us, hl with | [_], _ => rfl) (fun vs H Q E h => ?_) (fun f cdv A outer s H vs Q E hr h => ?_)
  · obtain ⟨x, b, rfl, _⟩ := h
    rfl
  · obtain ⟨x, b, rfl, hc, k⟩ := h
    obtain ⟨tk, gk⟩ := T.g_HIGHEST_COST
    refine ⟨_, (pss_one (ps_ret (pe_and (pe_f (ok_is_whole T) (hr.mono (by decide)) pass0 (pa_cons (pv 0) pa_nil)) (pe_one (pe_chain op_le op_le pe_int (pv 0) (pe_glob (v := .int 99) (by rfl) gk ⟨_, rfl⟩)))))), ?_⟩
    rcases hc with ⟨i, rfl, rfl⟩ | ⟨rfl, hw⟩
    · refine ⟨_, rfl, .int i, true, rfl, WholeQ.int i, _, rfl, _, rfl, _, _, rfl, rfl, _, rfl, ?_⟩
      unfold okCost at k
      by_cases e : decide (0 ≤ i) = true
      · rw [e, Bool.true_and] at k
        exact if_t e ⟨_, _, rfl, rfl, k⟩
      · have e' := Bool.eq_false_iff.mpr e
        rw [e', Bool.false_and] at k
        exact if_f e' k
    · exact ⟨_, rfl, x, false, rfl, hw, _, rfl, k⟩
theorem sc_is_name : FnScope ["thing", "sign"] ["thing"] (defScope s_is_name) := ⟨rfl, rfl, rfl, by decide +kernel, rfl, by decide +kernel, by decide +kernel⟩
theorem ok_is_name (T : Lx K mg C M L) : OkF P w K mg base CX0 1 "is_name" ["thing"] (spIsName K) := by
  refine T.d_is_name.ok sc_is_name (fun _ _ _ _ _ _ us hl => match us, hl with | [_], _ => rfl) (fun vs H Q E h => ?_) (fun f cdv A outer s H vs Q E hr h => ?_)
  · obtain ⟨x, b, rfl, _⟩ := h
    rfl
  · obtain ⟨x, b, rfl, hn, k⟩ := h
    obtain ⟨tk, gk⟩ := T.g_LONGEST_NAME
    refine ⟨_, (pss_cons (ps_if (pw_or (pt_not (pt_val (pe_callB call_isi (by rfl) T.b_isinstance (by decide +kernel) (pa_cons (pv 0) (pa_cons (pe_bltn (v := .ty "str") (by rfl) T.b_str (by decide +kernel) rfl) pa_nil))))) (pw_or1 (pt_not (pt_chain op_le op_le pe_int (pe_callB call_len_str (by rfl) T.b_len PySem.boot_len (pa_cons (pv 0) pa_nil)) (pe_glob (v := .int 8) (by rfl) gk ⟨_, rfl⟩))))).pt (pss_one (ps_ret pe_bl)) pss_nil) (pss_one (ps_ret (pe_callB (cr_all rfl) (by rfl) T.b_all (by decide +kernel) (pa_cons (pe_lc (own := [("sign", 1)]) rfl sc_is_name.nd (pi_str (pv 0)) (blkOk_by (N := ["thing", "sign"]) (sc := (defScope s_is_name)) (by decide +kernel)) (fun _ _ _ _ _ => (pg_name (i := 1) sc_is_name.nd rfl (Or.inl rfl))) (fun _ _ _ _ _ => pts_nil) (fun _ _ _ _ _ => (pe_chain op_le_str op_le_str pe_str (pv 1) pe_str))) pa_nil))))), ?_⟩
    rcases hn with ⟨z, rfl, hz, rfl⟩ | ⟨rfl, t, ty, hk⟩
    · refine ⟨_, rfl, _, .ty "str", _, _, true, rfl, .ty _, .base (.str z), kit_ty (by decide +kernel), _, rfl, ?_⟩
      refine if_f rfl ?_
      refine ⟨_, rfl, _, rfl, hz, _, _, rfl, rfl, _, rfl, ?_⟩
      have no : ∀ {b : Bool}, okName z = b → b = false → Q (.bl false) H := fun e1 e2 => by
        have q := k H fun _ _ e => e
        rw [e1, e2] at q
        exact q
      by_cases e1 : decide ((1 : Int) ≤ (z.cps.size : Int)) = true
      · refine if_t e1 ⟨_, _, rfl, rfl, _, rfl, ?_⟩
        by_cases e2 : decide ((z.cps.size : Int) ≤ 8) = true
        · refine if_f (by show (!decide ((z.cps.size : Int) ≤ 8)) = false; rw [e2]; rfl) ?_
          refine ⟨_, rfl, z, rfl, fun D hD => lc_it walk_str (fun i H1 => Same H H1 ∧ H1 D = some (.lst (((z.cps.toList.take i).map okSign).map V.bl))) ⟨Same.newp hD, upd_same⟩ (fun _ _ _ _ => True.intro) ?_ ?_⟩
          · rintro i x H1 H2 hi ⟨s1, h1⟩ ⟨rfl, c, hc, rfl⟩
            have acc : ∀ b, okSign c = b → ∃ acc, H2 D = some (.lst acc) ∧ acc.length < sizeLine ∧ (Same H (upd H2 D (.lst (acc ++ [V.bl b]))) ∧ upd H2 D (.lst (acc ++ [V.bl b])) D = some (.lst (((z.cps.toList.take (i + 1)).map okSign).map V.bl))) := fun b eb => by
              refine ⟨_, h1, ?_, fun a u e => ?_, ?_⟩
              · rw [List.length_map, List.length_map, List.length_take]
                have : z.cps.size ≤ 8 := by have := of_decide_eq_true e2; omega
                exact small1000 (by simp only [Array.length_toList]; omega)
              · rw [upd_ne (ne_of_none e hD)]
                exact s1 a u e
              · rw [upd_same, List.take_add_one, show z.cps.toList[i]? = some c by rw [Array.getElem?_toList]; exact hc, List.map_append, List.map_append, ← eb]
                rfl
            refine ⟨rfl, _, rfl, _, _, rfl, rfl, _, rfl, ?_⟩
            by_cases e : (!decide ([c] < sgA.cps.toList)) = true
            · refine if_t e ⟨_, _, rfl, rfl, acc _ ?_⟩
              unfold okSign
              rw [e, Bool.true_and]
              rfl
            · refine if_f (Bool.eq_false_iff.mpr e) (acc _ ?_)
              unfold okSign
              rw [Bool.eq_false_iff.mpr e, Bool.false_and]
          · rintro H1 ⟨s1, h1⟩
            rw [show z.cps.toList.take z.cps.size = z.cps.toList by rw [← Array.length_toList, List.take_length]] at h1
            refine ⟨D, z.cps.toList.map okSign, rfl, SqL.of h1, ?_⟩
            have q := k H1 s1
            have e3 : okName z = (z.cps.toList.map okSign).all id := by
              have a1 := of_decide_eq_true e1
              have a2 := of_decide_eq_true e2
              unfold okName
              rw [decide_eq_true (by omega : 1 ≤ z.cps.size), decide_eq_true (by omega : z.cps.size ≤ 8), List.all_map]
              rfl
            rw [← e3]
            exact q
        · refine if_t (by show (!decide ((z.cps.size : Int) ≤ 8)) = true; rw [Bool.eq_false_iff.mpr e2]; rfl) ?_
          refine no rfl ?_
          have a2 : ¬ z.cps.size ≤ 8 := fun h => e2 (decide_eq_true (by omega))
          unfold okName
          rw [decide_eq_false a2, Bool.and_false, Bool.false_and]
      · refine if_f (Bool.eq_false_iff.mpr e1) ⟨_, rfl, ?_⟩
        refine if_t rfl ?_
        refine no rfl ?_
        have a1 : ¬ 1 ≤ z.cps.size := fun h => e1 (decide_eq_true (by omega))
        unfold okName
        rw [decide_eq_false a1, Bool.false_and, Bool.false_and]
    · refine ⟨_, rfl, _, .ty "str", t, _, false, rfl, .ty _, ty, hk, _, rfl, ?_⟩
      exact if_t rfl (k H fun _ _ e => e)
theorem sc_Layout__refuse_taken : FnScope ["self", "name"] ["self", "name"] (defScope s_Layout__refuse_taken) := ⟨rfl, rfl, rfl, by decide +kernel, rfl, by decide +kernel, by decide +kernel⟩
theorem ok_refuse_taken (T : Lx K mg C M L) : OkM P w K mg base (L2.CX P w) 3 L "_refuse_taken" ["self", "name"] (spRefuse C L 1 LS.taken) := by
  refine T.m__refuse_taken.okX sc_Layout__refuse_taken (fun _ _ _ _ _ _ us hl => match us, hl with | [_, _], _ => rfl) (fun vs H Q E h => ?_) (fun f cdv Ar outer st H vs Q E hr h => ?_)
  · obtain ⟨La, z, S, rfl, _⟩ := h
    rfl
  · obtain ⟨La, z, S, rfl, hL, h1, h2⟩ := h
    have hu := hu_of hr
    obtain ⟨⟨dx, ob⟩, ⟨k1, r1, r2⟩, ⟨k2, l1, l2⟩, ⟨k3, d1, d2⟩, ⟨k4, s1, s2⟩, nd⟩ := id hL
    refine ⟨_, (pss_one (ps_if (pw_or (pt_cmp (pc_din hu (pv 1) (pe_fld (pv 0) rfl))) (pw_or1 (pt_cmp (pc_din hu (pv 1) (pe_fld (pv 0) rfl))))).pt (pss_one (ps_raise1 (C := C 1) (f := "name") (W := fun cls d _ H => E cls d H) rfl (T.e 1 (by decide)) (io_1 T) T.g1 (hr.mono (by decide)) (takes_of rfl rfl rfl rfl) (pv 1))) pss_nil)), ?_⟩
    refine ⟨_, rfl, _, rfl, La.p, L, dx, _, _, rfl, ob, T.cl, T.n_lines, lfl_l La, La.l, _, rfl, DGet.k (k := Sum.inr z) l1, _, rfl, ?_⟩
    by_cases hz : z ∈ keys S.lines
    · exact if_t (by rw [(l2.has.trans look_isSome), decide_eq_true hz]) ⟨_, rfl, raise1 fun d hd => (h1 (by simp [LS.taken, hz])).out hd⟩
    · refine if_f (by rw [(l2.has.trans look_isSome), decide_eq_false hz]) ?_
      refine ⟨_, rfl, _, rfl, La.p, L, dx, _, _, rfl, ob, T.cl, T.n_drains, lfl_d La, La.d, _, rfl, DGet.k (k := Sum.inr z) d1, _, rfl, ?_⟩
      by_cases hy : z ∈ keys S.drains
      · exact if_t (by rw [(d2.has.trans look_isSome), decide_eq_true hy]) ⟨_, rfl, raise1 fun d hd => (h1 (by simp [LS.taken, hy])).out hd⟩
      · exact if_f (by rw [(d2.has.trans look_isSome), decide_eq_false hy]) (h2 (by simp [LS.taken, hz, hy]))
theorem sc_Layout__refuse_no_room : FnScope ["self", "room"] ["self", "room"] (defScope s_Layout__refuse_no_room) := ⟨rfl, rfl, rfl, by decide +kernel, rfl, by decide +kernel, by decide +kernel⟩
theorem ok_refuse_no_room (T : Lx K mg C M L) : OkM P w K mg base (L2.CX P w) 3 L "_refuse_no_room" ["self", "room"] (spRefuse C L 2 (fun S z => !decide (z ∈ S.rooms))) := by
  refine T.m__refuse_no_room.okX sc_Layout__refuse_no_room (fun _ _ _ _ _ _ us hl => match us, hl with | [_, _], _ => rfl) (fun vs H Q E h => ?_) (fun f cdv Ar outer st H vs Q E hr h => ?_)
  · obtain ⟨La, z, S, rfl, _⟩ := h
    rfl
  · obtain ⟨La, z, S, rfl, hL, h1, h2⟩ := h
    have hu := hu_of hr
    obtain ⟨⟨dx, ob⟩, ⟨k1, r1, r2⟩, ⟨k2, l1, l2⟩, ⟨k3, d1, d2⟩, ⟨k4, s1, s2⟩, nd⟩ := id hL
    refine ⟨_, (pss_one (ps_if (pt_cmp (pc_dnotin hu (pv 1) (pe_fld (pv 0) rfl))) (pss_one (ps_raise1 (C := C 2) (f := "name") (W := fun cls d _ H => E cls d H) rfl (T.e 2 (by decide)) (io_2 T) T.g2 (hr.mono (by decide)) (takes_of rfl rfl rfl rfl) (pv 1))) pss_nil)), ?_⟩
    refine ⟨_, rfl, _, rfl, La.p, L, dx, _, _, rfl, ob, T.cl, T.n_rooms, lfl_r La, La.r, _, rfl, DGet.k (k := Sum.inr z) r1, _, rfl, ?_⟩
    by_cases hz : z ∈ S.rooms
    · exact if_f (by rw [(r2.has.trans uT_look), decide_eq_true hz]; rfl) (h2 (by simp [hz]))
    · exact if_t (by rw [(r2.has.trans uT_look), decide_eq_false hz]; rfl) ⟨_, rfl, raise1 fun d hd => (h1 (by simp [hz])).out hd⟩
theorem sc_Layout__refuse_no_line : FnScope ["self", "line"] ["self", "line"] (defScope s_Layout__refuse_no_line) := ⟨rfl, rfl, rfl, by decide +kernel, rfl, by decide +kernel, by decide +kernel⟩
theorem ok_refuse_no_line (T : Lx K mg C M L) : OkM P w K mg base (L2.CX P w) 3 L "_refuse_no_line" ["self", "line"] (spRefuse C L 2 (fun S z => !decide (z ∈ keys S.lines))) := by
  refine T.m__refuse_no_line.okX sc_Layout__refuse_no_line (fun _ _ _ _ _ _ us hl => match us, hl with | [_, _], _ => rfl) (fun vs H Q E h => ?_) (fun f cdv Ar outer st H vs Q E hr h => ?_)
  · obtain ⟨La, z, S, rfl, _⟩ := h
    rfl
  · obtain ⟨La, z, S, rfl, hL, h1, h2⟩ := h
    have hu := hu_of hr
    obtain ⟨⟨dx, ob⟩, ⟨k1, r1, r2⟩, ⟨k2, l1, l2⟩, ⟨k3, d1, d2⟩, ⟨k4, s1, s2⟩, nd⟩ := id hL
    refine ⟨_, (pss_one (ps_if (pt_cmp (pc_dnotin hu (pv 1) (pe_fld (pv 0) rfl))) (pss_one (ps_raise1 (C := C 2) (f := "name") (W := fun cls d _ H => E cls d H) rfl (T.e 2 (by decide)) (io_2 T) T.g2 (hr.mono (by decide)) (takes_of rfl rfl rfl rfl) (pv 1))) pss_nil)), ?_⟩
    refine ⟨_, rfl, _, rfl, La.p, L, dx, _, _, rfl, ob, T.cl, T.n_lines, lfl_l La, La.l, _, rfl, DGet.k (k := Sum.inr z) l1, _, rfl, ?_⟩
    by_cases hz : z ∈ keys S.lines
    · exact if_f (by rw [(l2.has.trans look_isSome), decide_eq_true hz]; rfl) (h2 (by simp [hz]))
    · exact if_t (by rw [(l2.has.trans look_isSome), decide_eq_false hz]; rfl) ⟨_, rfl, raise1 fun d hd => (h1 (by simp [hz])).out hd⟩
theorem sc_Layout__refuse_no_drain : FnScope ["self", "drain"] ["self", "drain"] (defScope s_Layout__refuse_no_drain) := ⟨rfl, rfl, rfl, by decide +kernel, rfl, by decide +kernel, by decide +kernel⟩
theorem ok_refuse_no_drain (T : Lx K mg C M L) : OkM P w K mg base (L2.CX P w) 3 L "_refuse_no_drain" ["self", "drain"] (spRefuse C L 2 (fun S z => !decide (z ∈ keys S.drains))) := by
  refine T.m__refuse_no_drain.okX sc_Layout__refuse_no_drain (fun _ _ _ _ _ _ us hl => match us, hl with | [_, _], _ => rfl) (fun vs H Q E h => ?_) (fun f cdv Ar outer st H vs Q E hr h => ?_)
  · obtain ⟨La, z, S, rfl, _⟩ := h
    rfl
  · obtain ⟨La, z, S, rfl, hL, h1, h2⟩ := h
    have hu := hu_of hr
    obtain ⟨⟨dx, ob⟩, ⟨k1, r1, r2⟩, ⟨k2, l1, l2⟩, ⟨k3, d1, d2⟩, ⟨k4, s1, s2⟩, nd⟩ := id hL
    refine ⟨_, (pss_one (ps_if (pt_cmp (pc_dnotin hu (pv 1) (pe_fld (pv 0) rfl))) (pss_one (ps_raise1 (C := C 2) (f := "name") (W := fun cls d _ H => E cls d H) rfl (T.e 2 (by decide)) (io_2 T) T.g2 (hr.mono (by decide)) (takes_of rfl rfl rfl rfl) (pv 1))) pss_nil)), ?_⟩
    refine ⟨_, rfl, _, rfl, La.p, L, dx, _, _, rfl, ob, T.cl, T.n_drains, lfl_d La, La.d, _, rfl, DGet.k (k := Sum.inr z) d1, _, rfl, ?_⟩
    by_cases hz : z ∈ keys S.drains
    · exact if_f (by rw [(d2.has.trans look_isSome), decide_eq_true hz]; rfl) (h2 (by simp [hz]))
    · exact if_t (by rw [(d2.has.trans look_isSome), decide_eq_false hz]; rfl) ⟨_, rfl, raise1 fun d hd => (h1 (by simp [hz])).out hd⟩
theorem sc_Layout_add_room : FnScope ["self", "room"] ["self", "room"] (defScope s_Layout_add_room) := ⟨rfl, rfl, rfl, by decide +kernel, rfl, by decide +kernel, by decide +kernel⟩
theorem ok_add_room (T : Lx K mg C M L) : OkM P w K mg base (L2.CX P w) 4 L "add_room" ["self", "room"] (spOne K C L .addRoom) := by
  refine T.m_add_room.okX sc_Layout_add_room (fun _ _ _ _ _ _ us hl => match us, hl with | [_, _], _ => rfl) (fun vs H Q E h => ?_) (fun f cdv Ar outer st H vs Q E hr h => ?_)
  · obtain ⟨La, x, b, S, rfl, _⟩ := h
    rfl
  · obtain ⟨La, x, b, S, rfl, hL, hS, hn, h0, hD⟩ := h
    have hu := hu_of hr
    obtain ⟨tk, gk⟩ := T.g_MOST_ROOMS
    refine ⟨_, (pss_cons (ps_expr (pe_f (ok_need T) (hr.mono (by decide)) (passes_call (W := fun cls d _ H => E cls d H) (takes_of rfl rfl rfl rfl) (fun _ _ _ _ h => h)) (pa_cons pe_int (pa_cons (pe_f (ok_is_name T) (hr.mono (by decide)) pass0 (pa_cons (pv 1) pa_nil)) pa_nil)))) (pss_cons (ps_if (pt_cmp (pc_din hu (pv 1) (pe_fld (pv 0) rfl))) (pss_one (ps_raise1 (C := C 1) (f := "name") (W := fun cls d _ H => E cls d H) rfl (T.e 1 (by decide)) (io_1 T) T.g1 (hr.mono (by decide)) (takes_of rfl rfl rfl rfl) (pv 1))) pss_nil) (pss_cons (ps_if (pt_cmpR op_ge (pe_callB call_lenD (by rfl) T.b_len PySem.boot_len (pa_cons (pe_fld (pv 0) rfl) pa_nil)) (pe_glob (v := .int 24) (by rfl) gk ⟨_, rfl⟩) (nomark _)) (pss_one (ps_raise1 (C := C 3) (f := "most") (W := fun cls d _ H => E cls d H) rfl (T.e 3 (by decide)) (io_3 T) T.g3 (hr.mono (by decide)) (takes_of rfl rfl rfl rfl) (pe_glob (v := .int 24) (by rfl) gk ⟨_, rfl⟩))) pss_nil) (pss_one (ps_dput hu (pe_fld (pv 0) rfl) (pv 1) pe_bl rfl))))), ?_⟩
    refine ⟨_, rfl, x, b, rfl, hn, fun H1 e1 => ⟨_, b, rfl, fun hb => ?_, fun hb => (h0 hb).along e1⟩⟩
    subst hb
    obtain ⟨z, rfl, hz⟩ := hn.yes
    have dd := hD z rfl hz
    replace hL := hL.same e1
    obtain ⟨⟨dx, ob⟩, ⟨k1, r1, r2⟩, ⟨k2, l1, l2⟩, ⟨k3, d1, d2⟩, ⟨k4, s1, s2⟩, nd⟩ := id hL
    refine ⟨_, rfl, _, rfl, La.p, L, dx, _, _, rfl, ob, T.cl, T.n_rooms, lfl_r La, La.r, _, rfl, DGet.k (k := Sum.inr z) r1, _, rfl, ?_⟩
    by_cases hin : z ∈ S.rooms
    · exact if_t (by rw [(r2.has.trans uT_look), decide_eq_true hin]) ⟨_, rfl, raise1 fun d hd => ((dd.2 (.there z) (by simp [LS.due, hin])).along e1).out hd⟩
    refine if_f (by rw [(r2.has.trans uT_look), decide_eq_false hin]) ?_
    refine ⟨_, rfl, La.p, L, dx, _, _, rfl, ob, T.cl, T.n_rooms, lfl_r La, La.r, _, rfl, r1, _, _, rfl, rfl, _, rfl, ?_⟩
    have el : (k1.length : Int) = S.rooms.length := by rw [r2.len, uT_len]
    by_cases hm : 24 ≤ S.rooms.length
    · exact if_t (decide_eq_true (by omega)) (raise1 fun d hd => ((dd.2 (.tooMany 24) (by simp [LS.due, hin, hm])).along e1).out hd)
    refine if_f (decide_eq_false (by omega)) ?_
    refine ⟨_, rfl, La.p, L, dx, _, _, rfl, ob, T.cl, T.n_rooms, lfl_r La, _, rfl, La.r, _, rfl, DPut.k (k := Sum.inr z) r1 (small1000 (by omega)), ?_⟩
    exact dd.1 (by simp [LS.due, hin, hm]) _ (hL.setR (by rw [← uT_snoc]; exact r2.put (uT_none.mpr hin) rfl)) ((Keep.of e1).trans (Keep.dput r1 (by simp [LA.ms])))
theorem sc_Layout_add_source : FnScope ["self", "room"] ["self", "room"] (defScope s_Layout_add_source) := ⟨rfl, rfl, rfl, by decide +kernel, rfl, by decide +kernel, by decide +kernel⟩
theorem ok_add_source (T : Lx K mg C M L) : OkM P w K mg base (L2.CX P w) 4 L "add_source" ["self", "room"] (spOne K C L .addSource) := by
  refine T.m_add_source.okX sc_Layout_add_source (fun _ _ _ _ _ _ us hl => match us, hl with | [_, _], _ => rfl) (fun vs H Q E h => ?_) (fun f cdv Ar outer st H vs Q E hr h => ?_)
  · obtain ⟨La, x, b, S, rfl, _⟩ := h
    rfl
  · obtain ⟨La, x, b, S, rfl, hL, hS, hn, h0, hD⟩ := h
    have hu := hu_of hr
    refine ⟨_, (pss_cons (ps_expr (pe_f (ok_need T) (hr.mono (by decide)) (passes_call (W := fun cls d _ H => E cls d H) (takes_of rfl rfl rfl rfl) (fun _ _ _ _ h => h)) (pa_cons pe_int (pa_cons (pe_f (ok_is_name T) (hr.mono (by decide)) pass0 (pa_cons (pv 1) pa_nil)) pa_nil)))) (pss_cons (ps_expr (pe_m (ok_refuse_no_room T) T.cl (hr.mono (by decide)) (passes_call (W := fun cls d _ H => E cls d H) (takes_of rfl rfl rfl rfl) (fun _ _ _ _ h => h)) (pv 0) (pa_cons (pv 1) pa_nil))) (pss_cons (ps_if (pt_cmp (pc_din hu (pv 1) (pe_fld (pv 0) rfl))) (pss_one (ps_raise1 (C := C 1) (f := "name") (W := fun cls d _ H => E cls d H) rfl (T.e 1 (by decide)) (io_1 T) T.g1 (hr.mono (by decide)) (takes_of rfl rfl rfl rfl) (pv 1))) pss_nil) (pss_one (ps_dput hu (pe_fld (pv 0) rfl) (pv 1) pe_bl rfl))))), ?_⟩
    refine ⟨_, rfl, x, b, rfl, hn, fun H1 e1 => ⟨_, b, rfl, fun hb => ?_, fun hb => (h0 hb).along e1⟩⟩
    subst hb
    obtain ⟨z, rfl, hz⟩ := hn.yes
    have dd := hD z rfl hz
    replace hL := hL.same e1
    obtain ⟨⟨dx, ob⟩, ⟨k1, r1, r2⟩, ⟨k2, l1, l2⟩, ⟨k3, d1, d2⟩, ⟨k4, s1, s2⟩, nd⟩ := id hL
    refine ⟨_, rfl, La.p, dx, _, rfl, ob, lfl_no La (by decide +kernel), _, rfl, La, z, S, rfl, hL, fun h => ?_, fun h => ?_⟩
    · have hin : z ∉ S.rooms := by simpa using h
      exact (dd.2 (.lacks z) (by simp [LS.due, hin])).along e1
    have hin : z ∈ S.rooms := by simpa using h
    refine ⟨_, rfl, _, rfl, La.p, L, dx, _, _, rfl, ob, T.cl, T.n_sources, lfl_s La, La.s, _, rfl, DGet.k (k := Sum.inr z) s1, _, rfl, ?_⟩
    by_cases hx : z ∈ S.sources
    · exact if_t (by rw [(s2.has.trans uT_look), decide_eq_true hx]) ⟨_, rfl, raise1 fun d hd => ((dd.2 (.there z) (by simp [LS.due, hin, hx])).along e1).out hd⟩
    refine if_f (by rw [(s2.has.trans uT_look), decide_eq_false hx]) ?_
    refine ⟨_, rfl, La.p, L, dx, _, _, rfl, ob, T.cl, T.n_sources, lfl_s La, _, rfl, La.s, _, rfl, DPut.k (k := Sum.inr z) s1 (small1000 (by rw [s2.len, uT_len]; have := hS.sL; omega)), ?_⟩
    exact dd.1 (by simp [LS.due, hin, hx]) _ (hL.setS (by rw [← uT_snoc]; exact s2.put (uT_none.mpr hx) rfl)) ((Keep.of e1).trans (Keep.dput s1 (by simp [LA.ms])))
theorem sc_Layout_add_drain : FnScope ["self", "drain", "room"] ["self", "drain", "room"] (defScope s_Layout_add_drain) := ⟨rfl, rfl, rfl, by decide +kernel, rfl, by decide +kernel, by decide +kernel⟩
theorem ok_add_drain (T : Lx K mg C M L) : OkM P w K mg base (L2.CX P w) 4 L "add_drain" ["self", "drain", "room"] (spAddDrain K C L) := by
  refine T.m_add_drain.okX sc_Layout_add_drain (fun _ _ _ _ _ _ us hl => match us, hl with | [_, _, _], _ => rfl) (fun vs H Q E h => ?_) (fun f cdv Ar outer st H vs Q E hr h => ?_)
  · obtain ⟨La, x, y, b, c, S, rfl, _⟩ := h
    rfl
  · obtain ⟨La, x, y, b, c, S, rfl, hL, hS, hn, hm, h0, h1, hD⟩ := h
    have hu := hu_of hr
    obtain ⟨tk, gk⟩ := T.g_MOST_DRAINS
    refine ⟨_, (pss_cons (ps_expr (pe_f (ok_need T) (hr.mono (by decide)) (passes_call (W := fun cls d _ H => E cls d H) (takes_of rfl rfl rfl rfl) (fun _ _ _ _ h => h)) (pa_cons pe_int (pa_cons (pe_f (ok_is_name T) (hr.mono (by decide)) pass0 (pa_cons (pv 1) pa_nil)) pa_nil)))) (pss_cons (ps_expr (pe_f (ok_need T) (hr.mono (by decide)) (passes_call (W := fun cls d _ H => E cls d H) (takes_of rfl rfl rfl rfl) (fun _ _ _ _ h => h)) (pa_cons pe_int (pa_cons (pe_f (ok_is_name T) (hr.mono (by decide)) pass0 (pa_cons (pv 2) pa_nil)) pa_nil)))) (pss_cons (ps_expr (pe_m (ok_refuse_taken T) T.cl (hr.mono (by decide)) (passes_call (W := fun cls d _ H => E cls d H) (takes_of rfl rfl rfl rfl) (fun _ _ _ _ h => h)) (pv 0) (pa_cons (pv 1) pa_nil))) (pss_cons (ps_expr (pe_m (ok_refuse_no_room T) T.cl (hr.mono (by decide)) (passes_call (W := fun cls d _ H => E cls d H) (takes_of rfl rfl rfl rfl) (fun _ _ _ _ h => h)) (pv 0) (pa_cons (pv 2) pa_nil))) (pss_cons (ps_if (pt_cmpR op_ge (pe_callB call_lenD (by rfl) T.b_len PySem.boot_len (pa_cons (pe_fld (pv 0) rfl) pa_nil)) (pe_glob (v := .int 12) (by rfl) gk ⟨_, rfl⟩) (nomark _)) (pss_one (ps_raise1 (C := C 3) (f := "most") (W := fun cls d _ H => E cls d H) rfl (T.e 3 (by decide)) (io_3 T) T.g3 (hr.mono (by decide)) (takes_of rfl rfl rfl rfl) (pe_glob (v := .int 12) (by rfl) gk ⟨_, rfl⟩))) pss_nil) (pss_one (ps_dput hu (pe_fld (pv 0) rfl) (pv 1) (pv 2) rfl))))))), ?_⟩
    refine ⟨_, rfl, x, b, rfl, hn, fun H1 e1 => ⟨_, b, rfl, fun hb => ?_, fun hb => (h0 hb).along e1⟩⟩
    refine ⟨_, rfl, y, c, rfl, hm.same e1, fun H2 e2 => ⟨_, c, rfl, fun hc => ?_, fun hc => (h1 hb hc).along (e1.trans e2)⟩⟩
    subst hb hc
    replace e2 := e1.trans e2
    obtain ⟨z, rfl, hz⟩ := hn.yes
    obtain ⟨r, rfl, hr2⟩ := hm.yes
    have dd := hD z r rfl rfl hz hr2
    replace hL := hL.same e2
    obtain ⟨⟨dx, ob⟩, ⟨k1, r1, r2⟩, ⟨k2, l1, l2⟩, ⟨k3, d1, d2⟩, ⟨k4, s1, s2⟩, nd⟩ := id hL
    refine ⟨_, rfl, La.p, dx, _, rfl, ob, lfl_no La (by decide +kernel), _, rfl, La, z, S, rfl, hL, fun h => ?_, fun h => ?_⟩
    · exact (dd.2 (.there z) (by simp [LS.due, h])).along e2
    refine ⟨_, rfl, La.p, dx, _, rfl, ob, lfl_no La (by decide +kernel), _, rfl, La, r, S, rfl, hL, fun h3 => ?_, fun h3 => ?_⟩
    · have hin : r ∉ S.rooms := by simpa using h3
      exact (dd.2 (.lacks r) (by simp [LS.due, h, hin])).along e2
    have hin : r ∈ S.rooms := by simpa using h3
    refine ⟨_, rfl, La.p, L, dx, _, _, rfl, ob, T.cl, T.n_drains, lfl_d La, La.d, _, rfl, d1, _, _, rfl, rfl, _, rfl, ?_⟩
    have el : (k3.length : Int) = S.drains.length := by rw [d2.len]
    by_cases hq : 12 ≤ S.drains.length
    · exact if_t (decide_eq_true (by omega)) (raise1 fun d hd => ((dd.2 (.tooMany 12) (by simp [LS.due, h, hin, hq])).along e2).out hd)
    refine if_f (decide_eq_false (by omega)) ?_
    refine ⟨_, rfl, _, rfl, La.p, L, dx, _, _, rfl, ob, T.cl, T.n_drains, lfl_d La, _, rfl, La.d, _, rfl, DPut.k (k := Sum.inr z) d1 (small1000 (by omega)), ?_⟩
    have nz : z ∉ keys S.drains := fun w => by simp [LS.taken, w] at h
    exact dd.1 (by simp [LS.due, h, hin, hq]) _ (hL.setD (d2.put (look_none.mpr nz) rfl)) ((Keep.of e2).trans (Keep.dput d1 (by simp [LA.ms])))
theorem sc_Layout_add_line : FnScope ["self", "line", "one", "other", "cost"] ["self", "line", "one", "other", "cost"] (defScope s_Layout_add_line) := ⟨rfl, rfl, rfl, by decide +kernel, rfl, by decide +kernel, by decide +kernel⟩
theorem ok_add_line (T : Lx K mg C M L) : OkM P w K mg base (L2.CX P w) 4 L "add_line" ["self", "line", "one", "other", "cost"] (spAddLine K C L) := by
  refine T.m_add_line.okX sc_Layout_add_line (fun _ _ _ _ _ _ us hl => match us, hl with | [_, _, _, _, _], _ => rfl) (fun vs H Q E h => ?_) (fun f cdv Ar outer st H vs Q E hr h => ?_)
  · obtain ⟨La, x, y, z, u, b1, b2, b3, b4, S, rfl, _⟩ := h
    rfl
  · obtain ⟨La, x, y, z, u, b1, b2, b3, b4, S, rfl, hL, hS, n1, n2, n3, n4, h0, h1, h2, h3, hD⟩ := h
    have hu := hu_of hr
    obtain ⟨tk, gk⟩ := T.g_MOST_LINES
    refine ⟨_, (pss_cons (ps_expr (pe_f (ok_need T) (hr.mono (by decide)) (passes_call (W := fun cls d _ H => E cls d H) (takes_of rfl rfl rfl rfl) (fun _ _ _ _ h => h)) (pa_cons pe_int (pa_cons (pe_f (ok_is_name T) (hr.mono (by decide)) pass0 (pa_cons (pv 1) pa_nil)) pa_nil)))) (pss_cons (ps_expr (pe_f (ok_need T) (hr.mono (by decide)) (passes_call (W := fun cls d _ H => E cls d H) (takes_of rfl rfl rfl rfl) (fun _ _ _ _ h => h)) (pa_cons pe_int (pa_cons (pe_f (ok_is_name T) (hr.mono (by decide)) pass0 (pa_cons (pv 2) pa_nil)) pa_nil)))) (pss_cons (ps_expr (pe_f (ok_need T) (hr.mono (by decide)) (passes_call (W := fun cls d _ H => E cls d H) (takes_of rfl rfl rfl rfl) (fun _ _ _ _ h => h)) (pa_cons pe_int (pa_cons (pe_and (pe_f (ok_is_name T) (hr.mono (by decide)) pass0 (pa_cons (pv 3) pa_nil)) (pe_one (pe_cmpR op_ne (pv 3) (pv 2) (nomark _)))) pa_nil)))) (pss_cons (ps_expr (pe_f (ok_need T) (hr.mono (by decide)) (passes_call (W := fun cls d _ H => E cls d H) (takes_of rfl rfl rfl rfl) (fun _ _ _ _ h => h)) (pa_cons pe_int (pa_cons (pe_f (ok_is_cost T) (hr.mono (by decide)) pass0 (pa_cons (pv 4) pa_nil)) pa_nil)))) (pss_cons (ps_expr (pe_m (ok_refuse_taken T) T.cl (hr.mono (by decide)) (passes_call (W := fun cls d _ H => E cls d H) (takes_of rfl rfl rfl rfl) (fun _ _ _ _ h => h)) (pv 0) (pa_cons (pv 1) pa_nil))) (pss_cons (ps_expr (pe_m (ok_refuse_no_room T) T.cl (hr.mono (by decide)) (passes_call (W := fun cls d _ H => E cls d H) (takes_of rfl rfl rfl rfl) (fun _ _ _ _ h => h)) (pv 0) (pa_cons (pv 2) pa_nil))) (pss_cons (ps_expr (pe_m (ok_refuse_no_room T) T.cl (hr.mono (by decide)) (passes_call (W := fun cls d _ H => E cls d H) (takes_of rfl rfl rfl rfl) (fun _ _ _ _ h => h)) (pv 0) (pa_cons (pv 3) pa_nil))) (pss_cons (ps_if (pt_cmpR op_ge (pe_callB call_lenD (by rfl) T.b_len PySem.boot_len (pa_cons (pe_fld (pv 0) rfl) pa_nil)) (pe_glob (v := .int 40) (by rfl) gk ⟨_, rfl⟩) (nomark _)) (pss_one (ps_raise1 (C := C 3) (f := "most") (W := fun cls d _ H => E cls d H) rfl (T.e 3 (by decide)) (io_3 T) T.g3 (hr.mono (by decide)) (takes_of rfl rfl rfl rfl) (pe_glob (v := .int 40) (by rfl) gk ⟨_, rfl⟩))) pss_nil) (pss_one (ps_dput hu (pe_fld (pv 0) rfl) (pv 1) (pe_tup (pa_cons (pv 2) (pa_cons (pv 3) (pa_cons (pv 4) pa_nil)))) rfl)))))))))), ?_⟩
    refine ⟨_, rfl, x, b1, rfl, n1, fun H1 e1 => ⟨_, b1, rfl, fun hb1 => ?_, fun hb => (h0 hb).along e1⟩⟩
    refine ⟨_, rfl, y, b2, rfl, n2.same e1, fun H2 e2 => ⟨_, b2, rfl, fun hb2 => ?_, fun hb => (h1 hb1 hb).along (e1.trans e2)⟩⟩
    replace e2 := e1.trans e2
    subst hb1 hb2
    obtain ⟨n, rfl, g1⟩ := n1.yes
    obtain ⟨o, rfl, g2⟩ := n2.yes
    refine ⟨_, rfl, z, b3, rfl, n3.same e2, fun H3 e3 => ⟨_, rfl, ?_⟩⟩
    replace e3 := e2.trans e3
    cases b3 with
    | false => exact ⟨_, false, rfl, fun w => Bool.noConfusion w, fun _ => (h2 rfl rfl (.inl rfl)).along e3⟩
    | true =>
    obtain ⟨p, rfl, g3⟩ := n3.yes
    refine ⟨_, rfl, _, rfl, rfl, ?_⟩
    refine ⟨_, _, rfl, fun hne => ?_, fun he => ?_⟩
    rotate_left
    · have eq : V.str p = V.str o := by simpa using he
      exact (h2 rfl rfl (.inr eq)).along e3
    have ne : V.str p ≠ V.str o := by simpa using hne
    have ne' : o ≠ p := fun w => ne (by rw [w])
    refine ⟨_, rfl, u, b4, rfl, n4.same e3, ⟨_, b4, rfl, fun hb4 => ?_, fun hb => (h3 rfl rfl rfl ne hb).along e3⟩⟩
    subst hb4
    obtain ⟨c, rfl, g4⟩ := n4.yes
    have dd := hD n o p c rfl rfl rfl rfl g1 g2 g3 ne' g4
    replace hL := hL.same e3
    obtain ⟨⟨dx, ob⟩, ⟨k1, r1, r2⟩, ⟨k2, l1, l2⟩, ⟨k3, d1, d2⟩, ⟨k4, s1, s2⟩, nd⟩ := id hL
    refine ⟨_, rfl, La.p, dx, _, rfl, ob, lfl_no La (by decide +kernel), _, rfl, La, n, S, rfl, hL, fun h => ?_, fun ht => ?_⟩
    · exact (dd.2 (.there n) (by simp [LS.due, h])).along e3
    refine ⟨_, rfl, La.p, dx, _, rfl, ob, lfl_no La (by decide +kernel), _, rfl, La, o, S, rfl, hL, fun h => ?_, fun h => ?_⟩
    · have hin : o ∉ S.rooms := by simpa using h
      exact (dd.2 (.lacks o) (by simp [LS.due, ht, hin])).along e3
    have ho : o ∈ S.rooms := by simpa using h
    refine ⟨_, rfl, La.p, dx, _, rfl, ob, lfl_no La (by decide +kernel), _, rfl, La, p, S, rfl, hL, fun h => ?_, fun h => ?_⟩
    · have hin : p ∉ S.rooms := by simpa using h
      exact (dd.2 (.lacks p) (by simp [LS.due, ht, ho, hin])).along e3
    have hp : p ∈ S.rooms := by simpa using h
    refine ⟨_, rfl, La.p, L, dx, _, _, rfl, ob, T.cl, T.n_lines, lfl_l La, La.l, _, rfl, l1, _, _, rfl, rfl, _, rfl, ?_⟩
    have el : (k2.length : Int) = S.lines.length := by rw [l2.len]
    by_cases hq : 40 ≤ S.lines.length
    · exact if_t (decide_eq_true (by omega)) (raise1 fun d hd => ((dd.2 (.tooMany 40) (by simp [LS.due, ht, ho, hp, hq])).along e3).out hd)
    refine if_f (decide_eq_false (by omega)) ?_
    refine ⟨_, rfl, _, rfl, _, rfl, (by show 3 ≤ sizeLine; decide), fun t2 ht2 => ?_⟩
    have e4 : Same H3 (upd H3 t2 (.tup [.str o, .str p, .int c])) := Same.newp ht2
    replace hL := hL.same e4
    clear r1 r2 d1 d2 s1 s2
    have l1' := e4 _ _ l1
    have ob' := e4 _ _ ob
    refine ⟨_, rfl, La.p, L, dx, _, _, rfl, ob', T.cl, T.n_lines, lfl_l La, _, rfl, La.l, _, rfl, DPut.k (k := Sum.inr n) l1' (small1000 (by omega)), ?_⟩
    have nz : n ∉ keys S.lines := fun w => by simp [LS.taken, w] at ht
    obtain ⟨kk, q1, q2⟩ := hL.ln
    rw [l1'] at q1
    cases q1
    exact dd.1 (by simp [LS.due, ht, ho, hp, hq]) _ (hL.setL (q2.put (look_none.mpr nz) ⟨t2, rfl, upd_same⟩)) ((Keep.of (e3.trans e4)).trans (Keep.dput l1' (by simp [LA.ms])))
theorem sc_Layout_rooms : FnScope ["self"] ["self"] (defScope s_Layout_rooms) := ⟨rfl, rfl, rfl, by decide +kernel, rfl, by decide +kernel, by decide +kernel⟩
theorem ok_rooms (T : Lx K mg C M L) : OkM P w K mg base CX0 1 L "rooms" ["self"] (spSorted L (·.rooms)) := by
  refine T.m_rooms.ok sc_Layout_rooms (fun _ _ _ _ _ _ us hl => match us, hl with | [_], _ => rfl) (fun vs H Q E h => ?_) (fun f cdv Ar outer st H vs Q E hr h => ?_)
  · obtain ⟨La, S, rfl, _⟩ := h
    rfl
  · obtain ⟨La, S, rfl, hL, hS, k⟩ := h
    obtain ⟨⟨dx, ob⟩, ⟨k1, r1, r2⟩, ⟨k2, l1, l2⟩, ⟨k3, d1, d2⟩, ⟨k4, s1, s2⟩, nd⟩ := id hL
    refine ⟨_, (pss_one (ps_ret (pe_callB (call_sortedD rfl) (by rfl) T.b_sorted (by decide +kernel) (pa_cons (pe_fld (pv 0) rfl) pa_nil)))), ?_⟩
    exact ⟨_, rfl, La.p, L, dx, _, _, rfl, ob, T.cl, T.n_rooms, lfl_r La, La.r, _, S.rooms, rfl, .inl r1, (r2.names.trans (by rw [keys_uT])), (by have := hS.rL; omega), fun ys p a b c => k _ p ys a b (Same.newp c) c upd_same⟩
theorem sc_Layout_lines : FnScope ["self"] ["self"] (defScope s_Layout_lines) := ⟨rfl, rfl, rfl, by decide +kernel, rfl, by decide +kernel, by decide +kernel⟩
theorem ok_lines (T : Lx K mg C M L) : OkM P w K mg base CX0 1 L "lines" ["self"] (spSorted L (fun S => keys S.lines)) := by
  refine T.m_lines.ok sc_Layout_lines (fun _ _ _ _ _ _ us hl => match us, hl with | [_], _ => rfl) (fun vs H Q E h => ?_) (fun f cdv Ar outer st H vs Q E hr h => ?_)
  · obtain ⟨La, S, rfl, _⟩ := h
    rfl
  · obtain ⟨La, S, rfl, hL, hS, k⟩ := h
    obtain ⟨⟨dx, ob⟩, ⟨k1, r1, r2⟩, ⟨k2, l1, l2⟩, ⟨k3, d1, d2⟩, ⟨k4, s1, s2⟩, nd⟩ := id hL
    refine ⟨_, (pss_one (ps_ret (pe_callB (call_sortedD rfl) (by rfl) T.b_sorted (by decide +kernel) (pa_cons (pe_fld (pv 0) rfl) pa_nil)))), ?_⟩
    exact ⟨_, rfl, La.p, L, dx, _, _, rfl, ob, T.cl, T.n_lines, lfl_l La, La.l, _, keys S.lines, rfl, .inl l1, l2.names, (by have := hS.lL; rw [keys, List.length_map]; omega), fun ys p a b c => k _ p ys a b (Same.newp c) c upd_same⟩
theorem sc_Layout_drains : FnScope ["self"] ["self"] (defScope s_Layout_drains) := ⟨rfl, rfl, rfl, by decide +kernel, rfl, by decide +kernel, by decide +kernel⟩
theorem ok_drains (T : Lx K mg C M L) : OkM P w K mg base CX0 1 L "drains" ["self"] (spSorted L (fun S => keys S.drains)) := by
  refine T.m_drains.ok sc_Layout_drains (fun _ _ _ _ _ _ us hl => match us, hl with | [_], _ => rfl) (fun vs H Q E h => ?_) (fun f cdv Ar outer st H vs Q E hr h => ?_)
  · obtain ⟨La, S, rfl, _⟩ := h
    rfl
  · obtain ⟨La, S, rfl, hL, hS, k⟩ := h
    obtain ⟨⟨dx, ob⟩, ⟨k1, r1, r2⟩, ⟨k2, l1, l2⟩, ⟨k3, d1, d2⟩, ⟨k4, s1, s2⟩, nd⟩ := id hL
    refine ⟨_, (pss_one (ps_ret (pe_callB (call_sortedD rfl) (by rfl) T.b_sorted (by decide +kernel) (pa_cons (pe_fld (pv 0) rfl) pa_nil)))), ?_⟩
    exact ⟨_, rfl, La.p, L, dx, _, _, rfl, ob, T.cl, T.n_drains, lfl_d La, La.d, _, keys S.drains, rfl, .inl d1, d2.names, (by have := hS.dL; rw [keys, List.length_map]; omega), fun ys p a b c => k _ p ys a b (Same.newp c) c upd_same⟩
theorem sc_Layout_sources : FnScope ["self"] ["self"] (defScope s_Layout_sources) := ⟨rfl, rfl, rfl, by decide +kernel, rfl, by decide +kernel, by decide +kernel⟩
theorem ok_sources (T : Lx K mg C M L) : OkM P w K mg base CX0 1 L "sources" ["self"] (spSorted L (·.sources)) := by
  refine T.m_sources.ok sc_Layout_sources (fun _ _ _ _ _ _ us hl => match us, hl with | [_], _ => rfl) (fun vs H Q E h => ?_) (fun f cdv Ar outer st H vs Q E hr h => ?_)
  · obtain ⟨La, S, rfl, _⟩ := h
    rfl
  · obtain ⟨La, S, rfl, hL, hS, k⟩ := h
    obtain ⟨⟨dx, ob⟩, ⟨k1, r1, r2⟩, ⟨k2, l1, l2⟩, ⟨k3, d1, d2⟩, ⟨k4, s1, s2⟩, nd⟩ := id hL
    refine ⟨_, (pss_one (ps_ret (pe_callB (call_sortedD rfl) (by rfl) T.b_sorted (by decide +kernel) (pa_cons (pe_fld (pv 0) rfl) pa_nil)))), ?_⟩
    exact ⟨_, rfl, La.p, L, dx, _, _, rfl, ob, T.cl, T.n_sources, lfl_s La, La.s, _, S.sources, rfl, .inl s1, (s2.names.trans (by rw [keys_uT])), (by have := hS.sL; omega), fun ys p a b c => k _ p ys a b (Same.newp c) c upd_same⟩
theorem sc_Layout_line : FnScope ["self", "line"] ["self", "line"] (defScope s_Layout_line) := ⟨rfl, rfl, rfl, by decide +kernel, rfl, by decide +kernel, by decide +kernel⟩
theorem ok_line (T : Lx K mg C M L) : OkM P w K mg base (L2.CX P w) 4 L "line" ["self", "line"] (spAsk K C L (fun S z => look S.lines z) (fun e v _ H' => LineG H' v e)) := by
  refine T.m_line.okX sc_Layout_line (fun _ _ _ _ _ _ us hl => match us, hl with | [_, _], _ => rfl) (fun vs H Q E h => ?_) (fun f cdv Ar outer st H vs Q E hr h => ?_)
  · obtain ⟨La, x, b, S, rfl, _⟩ := h
    rfl
  · obtain ⟨La, x, b, S, rfl, hL, hS, hn, h0, hD⟩ := h
    have hu := hu_of hr
    refine ⟨_, (pss_cons (ps_expr (pe_f (ok_need T) (hr.mono (by decide)) (passes_call (W := fun cls d _ H => E cls d H) (takes_of rfl rfl rfl rfl) (fun _ _ _ _ h => h)) (pa_cons pe_int (pa_cons (pe_f (ok_is_name T) (hr.mono (by decide)) pass0 (pa_cons (pv 1) pa_nil)) pa_nil)))) (pss_cons (ps_expr (pe_m (ok_refuse_no_line T) T.cl (hr.mono (by decide)) (passes_call (W := fun cls d _ H => E cls d H) (takes_of rfl rfl rfl rfl) (fun _ _ _ _ h => h)) (pv 0) (pa_cons (pv 1) pa_nil))) (pss_one (ps_ret (pe_dget hu (pe_fld (pv 0) rfl) (pv 1) (fun _ _ => rfl)))))), ?_⟩
    refine ⟨_, rfl, x, b, rfl, hn, fun H1 e1 => ⟨_, b, rfl, fun hb => ?_, fun hb => (h0 hb).along e1⟩⟩
    subst hb
    obtain ⟨z, rfl, hz⟩ := hn.yes
    have dd := hD z rfl hz
    replace hL := hL.same e1
    obtain ⟨⟨dx, ob⟩, ⟨k1, r1, r2⟩, ⟨k2, l1, l2⟩, ⟨k3, d1, d2⟩, ⟨k4, s1, s2⟩, nd⟩ := id hL
    refine ⟨_, rfl, La.p, dx, _, rfl, ob, lfl_no La (by decide +kernel), _, rfl, La, z, S, rfl, hL, fun h => ?_, fun h => ?_⟩
    · have hin : z ∉ keys S.lines := by simpa using h
      exact (dd.1 (look_none.mpr hin)).along e1
    cases el : look S.lines z with
    | none => exact absurd (by simpa using h) (look_none.mp el)
    | some a =>
      obtain ⟨v, ev, gv⟩ := l2.get el
      exact ⟨_, rfl, La.p, L, dx, _, _, rfl, ob, T.cl, T.n_lines, lfl_l La, _, rfl, La.l, v, rfl, (by have g := DGet.k (k := Sum.inr z) l1; rw [ev] at g; exact g), dd.2 a el _ _ e1 gv⟩
theorem sc_Layout_drain : FnScope ["self", "drain"] ["self", "drain"] (defScope s_Layout_drain) := ⟨rfl, rfl, rfl, by decide +kernel, rfl, by decide +kernel, by decide +kernel⟩
theorem ok_drain (T : Lx K mg C M L) : OkM P w K mg base (L2.CX P w) 4 L "drain" ["self", "drain"] (spAsk K C L (fun S z => look S.drains z) (fun r v _ _ => v = .str r)) := by
  refine T.m_drain.okX sc_Layout_drain (fun _ _ _ _ _ _ us hl => match us, hl with | [_, _], _ => rfl) (fun vs H Q E h => ?_) (fun f cdv Ar outer st H vs Q E hr h => ?_)
  · obtain ⟨La, x, b, S, rfl, _⟩ := h
    rfl
  · obtain ⟨La, x, b, S, rfl, hL, hS, hn, h0, hD⟩ := h
    have hu := hu_of hr
    refine ⟨_, (pss_cons (ps_expr (pe_f (ok_need T) (hr.mono (by decide)) (passes_call (W := fun cls d _ H => E cls d H) (takes_of rfl rfl rfl rfl) (fun _ _ _ _ h => h)) (pa_cons pe_int (pa_cons (pe_f (ok_is_name T) (hr.mono (by decide)) pass0 (pa_cons (pv 1) pa_nil)) pa_nil)))) (pss_cons (ps_expr (pe_m (ok_refuse_no_drain T) T.cl (hr.mono (by decide)) (passes_call (W := fun cls d _ H => E cls d H) (takes_of rfl rfl rfl rfl) (fun _ _ _ _ h => h)) (pv 0) (pa_cons (pv 1) pa_nil))) (pss_one (ps_ret (pe_dget hu (pe_fld (pv 0) rfl) (pv 1) (fun _ _ => rfl)))))), ?_⟩
    refine ⟨_, rfl, x, b, rfl, hn, fun H1 e1 => ⟨_, b, rfl, fun hb => ?_, fun hb => (h0 hb).along e1⟩⟩
    subst hb
    obtain ⟨z, rfl, hz⟩ := hn.yes
    have dd := hD z rfl hz
    replace hL := hL.same e1
    obtain ⟨⟨dx, ob⟩, ⟨k1, r1, r2⟩, ⟨k2, l1, l2⟩, ⟨k3, d1, d2⟩, ⟨k4, s1, s2⟩, nd⟩ := id hL
    refine ⟨_, rfl, La.p, dx, _, rfl, ob, lfl_no La (by decide +kernel), _, rfl, La, z, S, rfl, hL, fun h => ?_, fun h => ?_⟩
    · have hin : z ∉ keys S.drains := by simpa using h
      exact (dd.1 (look_none.mpr hin)).along e1
    cases el : look S.drains z with
    | none => exact absurd (by simpa using h) (look_none.mp el)
    | some a =>
      obtain ⟨v, ev, gv⟩ := d2.get el
      exact ⟨_, rfl, La.p, L, dx, _, _, rfl, ob, T.cl, T.n_drains, lfl_d La, _, rfl, La.d, v, rfl, (by have g := DGet.k (k := Sum.inr z) d1; rw [ev] at g; exact g), dd.2 a el _ _ e1 gv⟩
theorem sc_Layout___init__ : FnScope ["self"] ["self"] (defScope s_Layout___init__) := ⟨rfl, rfl, rfl, by decide +kernel, rfl, by decide +kernel, by decide +kernel⟩
theorem ok_initL (T : Lx K mg C M L) : OkM P w K mg base CX0 1 L "__init__" ["self"] (spInitL L) := by
  refine T.m_init.ok sc_Layout___init__ (fun _ _ _ _ _ _ us hl => match us, hl with | [_], _ => rfl) (fun vs H Q E h => ?_) (fun f cdv Ar outer st H vs Q E hr h => ?_)
  · obtain ⟨p, dx, rfl, _⟩ := h
    rfl
  · obtain ⟨p, dx, rfl, hp, k⟩ := h
    refine ⟨_, (pss_cons (ps_fld (pv 0) pe_dnewK rfl) (pss_cons (ps_fld (pv 0) pe_dnewK rfl) (pss_cons (ps_fld (pv 0) pe_dnewK rfl) (pss_one (ps_fld (pv 0) pe_dnewK rfl))))), ?_⟩
    intro r hr0
    have npr : p ≠ r := ne_of_none hp hr0
    refine ⟨_, rfl, p, L, dx, [], rfl, (by rw [upd_ne npr]; exact hp), T.cl, T.n_rooms, (by show 0 < 1000; decide), ?_⟩
    intro l hl0
    have npl : p ≠ l := ne_of_none upd_same hl0
    have nrl : r ≠ l := ne_of_none ((upd_ne npr.symm).trans upd_same) hl0
    refine ⟨_, rfl, p, L, dx, _, rfl, (by rw [upd_ne npl]; exact upd_same), T.cl, T.n_lines, (by show 1 < 1000; decide), ?_⟩
    intro d hd0
    have npd : p ≠ d := ne_of_none upd_same hd0
    have nld : l ≠ d := ne_of_none ((upd_ne npl.symm).trans upd_same) hd0
    have nrd : r ≠ d := ne_of_none (by rw [upd_ne npr.symm, upd_ne nrl, upd_ne npr.symm]; exact upd_same) hd0
    refine ⟨_, rfl, p, L, dx, _, rfl, (by rw [upd_ne npd]; exact upd_same), T.cl, T.n_drains, (by rw [pf2]; show 2 < 1000; decide), ?_⟩
    intro s hs0
    have nps : p ≠ s := ne_of_none upd_same hs0
    have nds : d ≠ s := ne_of_none ((upd_ne npd.symm).trans upd_same) hs0
    have nls : l ≠ s := ne_of_none (by rw [upd_ne npl.symm, upd_ne nld, upd_ne npl.symm]; exact upd_same) hs0
    have nrs : r ≠ s := ne_of_none (by rw [upd_ne npr.symm, upd_ne nrd, upd_ne npr.symm, upd_ne nrl, upd_ne npr.symm]; exact upd_same) hs0
    refine ⟨_, rfl, p, L, dx, _, rfl, (by rw [upd_ne nps]; exact upd_same), T.cl, T.n_sources, (by rw [pf2, pf3]; show 3 < 1000; decide), ?_⟩
    have low : ∀ b u, H b = some u → b ≠ p → b ≠ r ∧ b ≠ l ∧ b ≠ d ∧ b ≠ s := fun b u e nb => by
      have q1 : b ≠ r := ne_of_none e hr0
      have q2 : b ≠ l := ne_of_none (by rw [upd_ne nb, upd_ne q1]; exact e) hl0
      have q3 : b ≠ d := ne_of_none (by rw [upd_ne nb, upd_ne q2, upd_ne nb, upd_ne q1]; exact e) hd0
      have q4 : b ≠ s := ne_of_none (by rw [upd_ne nb, upd_ne q3, upd_ne nb, upd_ne q2, upd_ne nb, upd_ne q1]; exact e) hs0
      exact ⟨q1, q2, q3, q4⟩
    refine k ⟨p, r, l, d, s⟩ _ rfl ⟨⟨dx, upd_same.trans (by rw [pf2, pf3, pf4]; rfl)⟩, ⟨[], ?_, .nil⟩, ⟨[], ?_, .nil⟩, ⟨[], ?_, .nil⟩, ⟨[], ?_, .nil⟩, ?_⟩ (fun b u e nb => ?_) (fun b hb => ?_) (fun b e => ?_)
    · rw [upd_ne npr.symm, upd_ne nrs, upd_ne npr.symm, upd_ne nrd, upd_ne npr.symm, upd_ne nrl, upd_ne npr.symm]
      exact upd_same
    · rw [upd_ne npl.symm, upd_ne nls, upd_ne npl.symm, upd_ne nld, upd_ne npl.symm]
      exact upd_same
    · rw [upd_ne npd.symm, upd_ne nds, upd_ne npd.symm]
      exact upd_same
    · rw [upd_ne nps.symm]
      exact upd_same
    · show [r, l, d, s].Nodup
      simp [nrl, nrd, nrs, nld, nls, nds]
    · obtain ⟨q1, q2, q3, q4⟩ := low b u e nb
      rw [upd_ne nb, upd_ne q4, upd_ne nb, upd_ne q3, upd_ne nb, upd_ne q2, upd_ne nb, upd_ne q1]
      exact e
    · have hb' : b = r ∨ b = l ∨ b = d ∨ b = s := by simpa [LA.ms] using hb
      rcases hb' with rfl | rfl | rfl | rfl
      · exact hr0
      · rw [upd_ne npl.symm, upd_ne nrl.symm] at hl0
        exact hl0
      · rw [upd_ne npd.symm, upd_ne nld.symm, upd_ne npd.symm, upd_ne nrd.symm] at hd0
        exact hd0
      · rw [upd_ne nps.symm, upd_ne nds.symm, upd_ne nps.symm, upd_ne nls.symm, upd_ne nps.symm, upd_ne nrs.symm] at hs0
        exact hs0
    · by_cases z0 : b = p
      · rw [z0, upd_same] at e
        cases e
      rw [upd_ne z0] at e
      by_cases z4 : b = s
      · rw [z4, upd_same] at e
        cases e
      rw [upd_ne z4, upd_ne z0] at e
      by_cases z3 : b = d
      · rw [z3, upd_same] at e
        cases e
      rw [upd_ne z3, upd_ne z0] at e
      by_cases z2 : b = l
      · rw [z2, upd_same] at e
        cases e
      rw [upd_ne z2, upd_ne z0] at e
      by_cases z1 : b = r
      · rw [z1, upd_same] at e
        cases e
      rw [upd_ne z1] at e
      exact e
end
end SM
namespace SM
open PySem PySem.Spec PyProof.Rows L2
open Evl (tCut pss_cut)
abbrev s_are_names : Stmt := topS 17
abbrev s_is_stretch : Stmt := topS 18
abbrev s_switches_in : Stmt := topS 20
abbrev s_refuse_no_switch : Stmt := topS 21
abbrev s_refuse_no_room : Stmt := topS 22
abbrev s__refuse_first_beside : Stmt := topS 23
abbrev s_leads_of : Stmt := topS 30
abbrev s_first_way : Stmt := topS 31
abbrev s_way_to : Stmt := topS 33
abbrev s__check_stretch : Stmt := topS 34
/-- what the top has made of the program's further text -/
structure Rx (K : PySem.W.Frag) (mg : Str → Option Value) (C : Nat → Addr) (M L : Addr) : Prop extends Lx K mg C M L where
  r_are_names : DefAt K mg "are_names" s_are_names
  r_is_stretch : DefAt K mg "is_stretch" s_is_stretch
  r_switches_in : DefAt K mg "switches_in" s_switches_in
  r_refuse_no_switch : DefAt K mg "refuse_no_switch" s_refuse_no_switch
  r_refuse_no_room : DefAt K mg "refuse_no_room" s_refuse_no_room
  r_refuse_first_beside : DefAt K mg "_refuse_first_beside" s__refuse_first_beside
  r_leads_of : DefAt K mg "leads_of" s_leads_of
  r_first_way : DefAt K mg "first_way" s_first_way
  r_way_to : DefAt K mg "way_to" s_way_to
  r_check_stretch : DefAt K mg "_check_stretch" s__check_stretch
  g_MOST_NAMES : ∃ t, mg "MOST_NAMES" = some (.int 60 t)
  g_MOST_IN_STRETCH : ∃ t, mg "MOST_IN_STRETCH" = some (.int 24 t)
  i_ha : PySem.W.findIn K (.ref L) "__class__" = some (some (.builtin "object.__class__"))
  i_hn : PySem.W.specialIn K (.builtin "object.__class__") "__get__" = some (some (.builtin "getset_descriptor.__get__"))
  i_ht : PySem.W.takesIn K (.builtin "object.__class__") = some true
  i_hm : PySem.W.mroIn K L (.type "object") = some true
section
variable {P : Program} {w : World} {K : PySem.W.Frag} {mg : Str → Option Value} {base : Heap} {C : Nat → Addr} {M L : Addr}
theorem sc_are_names : FnScope ["thing", "member"] ["thing"] (defScope s_are_names) := ⟨rfl, rfl, rfl, by decide +kernel, rfl, by decide +kernel, by decide +kernel⟩
theorem ro_are_names (T : Rx K mg C M L) : OkF P w K mg base CX0 2 "are_names" ["thing"] (spAreNamesG) := by
  refine T.r_are_names.ok sc_are_names (fun _ _ _ _ _ _ us hl => match us, hl with | [_], _ => rfl) (fun vs H Q E h => ?_) (fun f cdv Ar outer st H vs Q E hr h => ?_)
  · obtain ⟨l, xs, rfl, _⟩ := h
    rfl
  · obtain ⟨l, xs, rfl, hl, nd, len, ok, k⟩ := h
    obtain ⟨tk, gk⟩ := T.g_MOST_NAMES
    refine ⟨_, (pss_cons (ps_if (pw_or (pt_not (pt_val (pe_callB call_isi (by rfl) T.b_isinstance (by decide +kernel) (pa_cons (pv 0) (pa_cons (pe_bltn (v := .ty "list") (by rfl) T.b_list (by decide +kernel) rfl) pa_nil))))) (pw_or1 (pt_cmpR op_gt (pe_callB call_len_seq (by rfl) T.b_len PySem.boot_len (pa_cons (pv 0) pa_nil)) (pe_glob (v := .int 60) (by rfl) gk ⟨_, rfl⟩) (nomark _)))).pt (pss_one (ps_ret pe_bl)) pss_nil) (pss_one (ps_ret (pe_and (pe_callB (cr_all rfl) (by rfl) T.b_all (by decide +kernel) (pa_cons (pe_lc (own := [("member", 1)]) rfl sc_are_names.nd (pi_list (pv 0)) (blkOk_by (N := ["thing", "member"]) (sc := (defScope s_are_names)) (by decide +kernel)) (fun _ _ _ _ _ => (pg_name (i := 1) sc_are_names.nd rfl (Or.inl rfl))) (fun _ _ _ _ _ => pts_nil) (fun _ _ _ _ _ => (pe_f (ok_is_name T.toLx) (hr.mono (by decide)) pass0 (pa_cons (pv 1) pa_nil)))) pa_nil)) (pe_one (pe_cmpR op_eq (pe_lenSetN rfl (by rfl) T.b_len (by rfl) T.b_set (pv 0)) (pe_callB call_len_seq (by rfl) T.b_len PySem.boot_len (pa_cons (pv 0) pa_nil)) (nomark _))))))), ?_⟩
    refine ⟨_, rfl, _, .ty "list", _, _, true, rfl, .ty _, .base (.lst hl), kit_ty (by decide +kernel), _, rfl, ?_⟩
    refine if_f rfl ?_
    refine ⟨_, rfl, l, _, rfl, .inl (SqL.of hl), _, _, rfl, rfl, _, rfl, ?_⟩
    refine if_f (decide_eq_false (by rw [List.length_map]; omega)) ?_
    refine ⟨_, rfl, l, rfl, ⟨_, SqL.of hl⟩, fun D hD => ?_⟩
    refine lc_list (K := K) (a := l) (xs := xs.map V.str) (fun i H1 => Same H H1 ∧ H1 D = some (.lst ((List.replicate i true).map V.bl))) ⟨Same.newp hD, upd_same⟩ (fun i H1 _ q => SqL.of (q.1 _ _ hl)) ?_ ?_
    · rintro i y H1 hi ⟨e1, h1⟩
      obtain ⟨z, mz, rfl⟩ := List.mem_map.mp (List.mem_of_getElem? hi)
      have li : i < xs.length := by
        have := (List.getElem?_eq_some_iff.mp hi).1
        rw [List.length_map] at this
        exact this
      refine ⟨rfl, _, rfl, .str z, true, rfl, NameQ.of (ok z mz), fun H2 e2 => ⟨_, e2 _ _ h1, ?_, fun b u e => ?_, ?_⟩⟩
      · rw [List.length_map, List.length_replicate]
        exact small1000 (by omega)
      · rw [upd_ne (ne_of_none e hD)]
        exact e2 _ _ (e1 _ _ e)
      · rw [upd_same, show List.replicate (i + 1) true = List.replicate i true ++ [true] by rw [List.replicate_succ', ], List.map_append]
        rfl
    · rintro H1 ⟨e1, h1⟩
      have hl1 := e1 _ _ hl
      refine ⟨D, _, rfl, SqL.of h1, _, rfl, ?_⟩
      rw [show (List.replicate (xs.map V.str).length true).all id = true by rw [List.all_replicate]; simp]
      refine if_t rfl ⟨_, rfl, l, xs, rfl, SqL.of hl1, nd, scan60 len, _, rfl, l, _, rfl, .inl (SqL.of hl1), rfl, ?_⟩
      rw [List.length_map]
      show Q (.bl (decide (V.int xs.length = V.int xs.length))) H1
      rw [decide_eq_true rfl]
      exact k H1 e1
theorem sc_is_stretch : FnScope ["thing"] ["thing"] (defScope s_is_stretch) := ⟨rfl, rfl, rfl, by decide +kernel, rfl, by decide +kernel, by decide +kernel⟩
theorem ro_is_stretch (T : Rx K mg C M L) : OkF P w K mg base CX0 3 "is_stretch" ["thing"] (spStretchG) := by
  refine T.r_is_stretch.ok sc_is_stretch (fun _ _ _ _ _ _ us hl => match us, hl with | [_], _ => rfl) (fun vs H Q E h => ?_) (fun f cdv Ar outer st H vs Q E hr h => ?_)
  · obtain ⟨l, xs, rfl, _⟩ := h
    rfl
  · obtain ⟨l, xs, rfl, hl, nd, l1, l24, ok, k⟩ := h
    obtain ⟨tk, gk⟩ := T.g_MOST_IN_STRETCH
    refine ⟨_, (pss_one (ps_ret (pe_and (pe_f (ro_are_names T) (hr.mono (by decide)) pass0 (pa_cons (pv 0) pa_nil)) (pe_one (pe_chain op_le op_le pe_int (pe_callB call_len_seq (by rfl) T.b_len PySem.boot_len (pa_cons (pv 0) pa_nil)) (pe_glob (v := .int 24) (by rfl) gk ⟨_, rfl⟩)))))), ?_⟩
    refine ⟨_, rfl, l, xs, rfl, hl, nd, by omega, ok, fun H1 e1 => ?_⟩
    have hl1 := e1 _ _ hl
    refine ⟨_, rfl, if_t rfl ⟨_, rfl, l, _, rfl, .inl (SqL.of hl1), _, _, rfl, rfl, _, rfl, ?_⟩⟩
    rw [List.length_map]
    refine if_t (decide_eq_true (by omega)) ⟨_, _, rfl, rfl, ?_⟩
    show Q (.bl (decide ((xs.length : Int) ≤ 24))) H1
    rw [decide_eq_true (show (xs.length : Int) ≤ 24 by omega)]
    exact k H1 e1
theorem sc_switches_in : FnScope ["layout", "line"] ["layout"] (defScope s_switches_in) := ⟨rfl, rfl, rfl, by decide +kernel, rfl, by decide +kernel, by decide +kernel⟩
theorem ro_switches_in (T : Rx K mg C M L) : OkF P w K mg base CX0 5 "switches_in" ["layout"] (spSwitchesIn L) := by
  refine T.r_switches_in.ok sc_switches_in (fun _ _ _ _ _ _ us hl => match us, hl with | [_], _ => rfl) (fun vs H Q E h => ?_) (fun f cdv Ar outer st H vs Q E hr h => ?_)
  · obtain ⟨La, S, rfl, _⟩ := h
    rfl
  · obtain ⟨La, S, rfl, hL, hS, k⟩ := h
    obtain ⟨⟨dx, ob⟩, _⟩ := id hL
    refine ⟨_, (pss_one (ps_ret (pe_lc (own := [("line", 1)]) rfl sc_switches_in.nd (pi_list (pe_m0 (ok_lines T.toLx) T.cl (hr.mono (by decide)) pass0 (pv 0))) (blkOk_by (N := ["layout", "line"]) (sc := (defScope s_switches_in)) (by decide +kernel)) (fun _ _ _ _ _ => (pg_name (i := 1) sc_switches_in.nd rfl (Or.inl rfl))) (fun _ _ _ _ _ => (pts_one (pt_cmpR op_gt (pe_ix (ix_tupK (K := K) rfl) (pe_m (ok_line T.toLx) T.cl (hr.mono (by decide)) passL (pv 0) (pa_cons (pv 1) pa_nil)) pe_int (fun _ _ => rfl)) pe_int (nomark _)))) (fun _ _ _ _ _ => (pv 1))))), ?_⟩
    refine ⟨_, rfl, La.p, dx, _, rfl, ob, lfl_no La (by decide +kernel), La, S, rfl, hL, hS, fun H1 p ls pl sl e1 np hp => ?_⟩
    replace pl : ls.Perm (keys S.lines) := pl
    refine ⟨p, rfl, ⟨_, SqL.of hp⟩, fun D hD => ?_⟩
    have n40 : ls.length ≤ 40 := by
      rw [pl.length_eq, keys, List.length_map]
      exact hS.lL
    refine lc_list (K := K) (a := p) (xs := ls.map V.str) (fun i H2 => Same H1 H2 ∧ H2 D = some (.lst (((ls.take i).filter fun l => decide (l ∈ swOf S)).map V.str))) ⟨Same.newp hD, upd_same⟩ (fun i H1 _ q => SqL.of (q.1 _ _ hp)) ?_ ?_
    · rintro i y H2 hi ⟨e2, h2⟩
      rw [List.getElem?_map] at hi
      obtain ⟨z, ez, rfl⟩ := Option.map_eq_some_iff.mp hi
      have hk : z ∈ keys S.lines := pl.mem_iff.mp (List.mem_of_getElem? ez)
      have e3 := e1.trans e2
      refine ⟨rfl, _, rfl, La.p, dx, _, rfl, e3 _ _ ob, lfl_no La (by decide +kernel), _, rfl, La, .str z, true, S, rfl, hL.same e3, hS, NameQ.of (hS.lG z hk), (fun w => Bool.noConfusion w), fun z1 ez1 _ => ?_⟩
      cases ez1
      refine ⟨fun no => absurd hk (look_none.mp no), fun e el H3 v e4 told => ?_⟩
      obtain ⟨t, rfl, ht⟩ := told
      refine ⟨t, _, 2, _, rfl, rfl, SqT.of ht, rfl, _, _, rfl, rfl, _, rfl, ?_⟩
      have ea : (z ∈ swOf S) ↔ 0 < e.2.2 := sw_iff hS el
      have tk : ls.take (i + 1) = ls.take i ++ [z] := by
        rw [List.take_add_one, ez]
        rfl
      by_cases hb : 0 < e.2.2
      · refine if_t (decide_eq_true hb) ⟨_, rfl, _, e4 _ _ h2, ?_, fun b u w => ?_, ?_⟩
        · rw [List.length_map]
          refine small1000 ?_
          have a1 := List.length_filter_le (fun l => decide (l ∈ swOf S)) (ls.take i)
          rw [List.length_take] at a1
          omega
        · rw [upd_ne (ne_of_none w hD)]
          exact e4 _ _ (e2 _ _ w)
        · rw [upd_same, tk, List.filter_append, List.filter_cons, if_pos (decide_eq_true (ea.mpr hb)), List.map_append]
          rfl
      · refine if_f (decide_eq_false hb) ⟨fun b u w => e4 _ _ (e2 _ _ w), ?_⟩
        rw [tk, List.filter_append, List.filter_cons, if_neg (by simp [ea, hb]), List.filter_nil, List.append_nil]
        exact e4 _ _ h2
    · rintro H2 ⟨e2, h2⟩
      rw [List.length_map, List.take_length] at h2
      exact k H2 D _ (sw_srt hS ⟨pl, sl⟩) (e1.trans e2) (e1.free hD) h2
theorem sc__refuse_first_beside : FnScope ["names", "there", "name"] ["names", "there"] (defScope s__refuse_first_beside) := ⟨rfl, rfl, rfl, by decide +kernel, rfl, by decide +kernel, by decide +kernel⟩
theorem ro_refuse_first_beside (T : Rx K mg C M L) : OkF P w K mg base (L2.CX P w) 3 "_refuse_first_beside" ["names", "there"] (spBesideG) := by
  refine T.r_refuse_first_beside.okX sc__refuse_first_beside (fun _ _ _ _ _ _ us hl => match us, hl with | [_, _], _ => rfl) (fun vs H Q E h => ?_) (fun f cdv Ar outer st H vs Q E hr h => ?_)
  · obtain ⟨a, b, xs, ys, rfl, _⟩ := h
    rfl
  · obtain ⟨a, b, xs, ys, rfl, ha, hb, sub, k⟩ := h
    refine ⟨_, (pss_one (ps_for (passes_of rfl) rfl (pi_list (pv 0)) (pg_name (i := 2) sc__refuse_first_beside.nd rfl (Or.inl rfl)) (pss_one (ps_if (pt_cmpR (op_notIn_seqK (K := K) rfl) (pv 2) (pv 1) rfl) (pss_one (ps_raise1 (C := C 2) (f := "name") (W := fun cls d _ H => E cls d H) rfl (T.e 2 (by decide)) (io_2 T.toLx) T.g2 (hr.mono (by decide)) (takes_of rfl rfl rfl rfl) (pv 2))) pss_nil)))), ?_⟩
    refine ⟨_, rfl, a, rfl, ⟨_, SqL.of ha⟩, ?_⟩
    refine for_list (K := K) (a := a) (xs := xs.map V.str) (fun i σ H1 => H1 = H ∧ ∃ x : Option V, σ = [some (.ref a), some (.ref b), x]) ⟨rfl, _, rfl⟩ (fun i σ H1 _ q => by rw [q.1]; exact SqL.of ha) ?_ ?_
    · rintro i y σ H1 hi ⟨rfl, x, rfl⟩
      obtain ⟨z, mz, rfl⟩ := List.mem_map.mp (List.mem_of_getElem? hi)
      refine ⟨_, rfl, _, rfl, b, _, rfl, .inl (SqL.of hb), rfl, flat_strs _, _, rfl, ?_⟩
      refine if_f ?_ ⟨rfl, _, rfl⟩
      show (!inV (.str z) (ys.map V.str)) = false
      rw [inV_strs, decide_eq_true (sub z mz)]
      rfl
    · rintro σ H1 ⟨rfl, _⟩
      exact k _ fun _ _ e => e
theorem sc_refuse_no_switch : FnScope ["layout", "names"] ["layout", "names"] (defScope s_refuse_no_switch) := ⟨rfl, rfl, rfl, by decide +kernel, rfl, by decide +kernel, by decide +kernel⟩
theorem ro_refuse_no_switch (T : Rx K mg C M L) : OkF P w K mg base CX0 6 "refuse_no_switch" ["layout", "names"] (spHasG L swOf) := by
  refine T.r_refuse_no_switch.ok sc_refuse_no_switch (fun _ _ _ _ _ _ us hl => match us, hl with | [_, _], _ => rfl) (fun vs H Q E h => ?_) (fun f cdv Ar outer st H vs Q E hr h => ?_)
  · obtain ⟨La, S, a, xs, rfl, _⟩ := h
    rfl
  · obtain ⟨La, S, a, xs, rfl, hL, hS, ha, sub, k⟩ := h
    refine ⟨_, (pss_one (ps_expr (pe_f (ro_refuse_first_beside T) (hr.mono (by decide)) passL (pa_cons (pv 1) (pa_cons (pe_f (ro_switches_in T) (hr.mono (by decide)) pass0 (pa_cons (pv 0) pa_nil)) pa_nil))))), ?_⟩
    refine ⟨_, rfl, _, rfl, La, S, rfl, hL, hS, fun H1 p ys sy e1 np hp => ?_⟩
    exact ⟨a, p, xs, ys, rfl, e1 _ _ ha, hp, fun x hx => sy.1.mem_iff.mpr (sub x hx), fun H2 e2 => k H2 (e1.trans e2)⟩
theorem sc_refuse_no_room : FnScope ["layout", "names"] ["layout", "names"] (defScope s_refuse_no_room) := ⟨rfl, rfl, rfl, by decide +kernel, rfl, by decide +kernel, by decide +kernel⟩
theorem ro_refuse_no_room (T : Rx K mg C M L) : OkF P w K mg base CX0 4 "refuse_no_room" ["layout", "names"] (spHasG L (·.rooms)) := by
  refine T.r_refuse_no_room.ok sc_refuse_no_room (fun _ _ _ _ _ _ us hl => match us, hl with | [_, _], _ => rfl) (fun vs H Q E h => ?_) (fun f cdv Ar outer st H vs Q E hr h => ?_)
  · obtain ⟨La, S, a, xs, rfl, _⟩ := h
    rfl
  · obtain ⟨La, S, a, xs, rfl, hL, hS, ha, sub, k⟩ := h
    obtain ⟨⟨dx, ob⟩, _⟩ := id hL
    refine ⟨_, (pss_one (ps_expr (pe_f (ro_refuse_first_beside T) (hr.mono (by decide)) passL (pa_cons (pv 1) (pa_cons (pe_m0 (ok_rooms T.toLx) T.cl (hr.mono (by decide)) pass0 (pv 0)) pa_nil))))), ?_⟩
    refine ⟨_, rfl, _, rfl, La.p, dx, _, rfl, ob, lfl_no La (by decide +kernel), La, S, rfl, hL, hS, fun H1 p ys py sy e1 np hp => ?_⟩
    exact ⟨a, p, xs, ys, rfl, e1 _ _ ha, hp, fun x hx => py.mem_iff.mpr (sub x hx), fun H2 e2 => k H2 (e1.trans e2)⟩
end
end SM
namespace SM
open PySem PySem.Spec PyProof.Rows L2
open Evl (tCut pss_cut)
section
variable {P : Program} {w : World} {K : PySem.W.Frag} {mg : Str → Option Value} {base : Heap} {C : Nat → Addr} {M L : Addr}
theorem sc_leads_of : FnScope ["layout", "shut", "leads", "room", "line", "one", "other", "_"] ["layout", "shut"] (defScope s_leads_of) := ⟨rfl, rfl, rfl, by decide +kernel, rfl, by decide +kernel, by decide +kernel⟩
theorem ro_leads_of (T : Rx K mg C M L) : OkF P w K mg base CX0 5 "leads_of" ["layout", "shut"] (spLeadsOf L) := by
  refine T.r_leads_of.ok sc_leads_of (fun _ _ _ _ _ _ us hl => match us, hl with | [_, _], _ => rfl) (fun vs H Q E h => ?_) (fun f cdv Ar outer st H vs Q E hr h => ?_)
  · obtain ⟨La, S, a, sh, rfl, _⟩ := h
    rfl
  · obtain ⟨La, S, a, sh, rfl, hL, hS, ha, k⟩ := h
    have hu := hu_of hr
    obtain ⟨⟨dx, ob⟩, _⟩ := id hL
    refine ⟨_, (pss_cons (ps_setDc (i := 2) (own := [("room", 3)]) rfl sc_leads_of.nd rfl rfl (swD_true rfl rfl rfl (by decide +kernel)) (pi_list (pe_m0 (ok_rooms T.toLx) T.cl (hr.mono (by decide)) pass0 (pv 0))) (blkOk_by (N := ["layout", "shut", "leads", "room", "line", "one", "other", "_"]) (sc := (defScope s_leads_of)) (by decide +kernel)) (fun _ _ _ _ _ => (pg_name (i := 3) sc_leads_of.nd rfl (Or.inl rfl))) (fun _ _ _ _ _ => pts_nil) (fun _ _ _ _ _ => (pv 3)) (fun _ _ _ _ _ => (pe_lst pa_nil))) (pss_cons (ps_for PassesOwn.never rfl (pi_list (pe_m0 (ok_lines T.toLx) T.cl (hr.mono (by decide)) pass0 (pv 0))) (pg_name (i := 4) sc_leads_of.nd rfl (Or.inl rfl)) (pss_one (ps_if (pt_cmpR (op_notIn_seqK (K := K) rfl) (pv 4) (pv 1) rfl) (pss_cons (ps_asg (pe_m (ok_line T.toLx) T.cl (hr.mono (by decide)) passL (pv 0) (pa_cons (pv 4) pa_nil)) (pg_tupK (K := K) (n := 3) rfl rfl (pgs_cons (pg_name (i := 5) sc_leads_of.nd rfl (Or.inl rfl)) (pgs_cons (pg_name (i := 6) sc_leads_of.nd rfl (Or.inl rfl)) (pgs_cons (pg_name (i := 7) sc_leads_of.nd rfl (Or.inl rfl)) pgs_nil))))) (pss_cons (ps_expr (pe_bm PySem.F.plainAttrs_list PySem.F.slot_list_append PySem.F.type_list_append mt_append (pe_dget hu (pv 2) (pv 5) (fun _ _ => rfl)) (pa_cons (pe_tup (pa_cons (pv 4) (pa_cons (pv 6) pa_nil))) pa_nil))) (pss_one (ps_expr (pe_bm PySem.F.plainAttrs_list PySem.F.slot_list_append PySem.F.type_list_append mt_append (pe_dget hu (pv 2) (pv 6) (fun _ _ => rfl)) (pa_cons (pe_tup (pa_cons (pv 4) (pa_cons (pv 5) pa_nil))) pa_nil)))))) pss_nil))) (pss_one (ps_ret (pv 2))))), ?_⟩
    refine ⟨_, rfl, La.p, dx, _, rfl, ob, lfl_no La (by decide +kernel), La, S, rfl, hL, hS, fun H1 pr rs pl sl e1 np hp => ?_⟩
    have rN : rs.Nodup := pl.nodup_iff.mpr hS.rN
    have r24 : rs.length ≤ 24 := Nat.le_trans (Nat.le_of_eq pl.length_eq) hS.rL
    refine ⟨pr, rfl, ⟨_, SqL.of hp⟩, fun D hD => ?_⟩
    refine dc_it walk_list (fun i H2 => Same H1 H2 ∧ ∃ g : Str → Addr, H2 D = some (.dK ((rs.take i).map fun r => (Sum.inr r, V.ref (g r)))) ∧ (∀ r ∈ rs.take i, ∀ s ∈ rs.take i, g r = g s → r = s) ∧ ∀ r ∈ rs.take i, H2 (g r) = some (.lst []) ∧ H1 (g r) = none)
      ⟨Same.newp hD, fun _ => D, upd_same, (fun r m => by cases m), (fun r m => by cases m)⟩ (fun i H2 _ q => SqL.of (q.1 _ _ hp)) ?_ ?_
    · rintro i x H2 H3 hi ⟨e2, g, d2, inj, g0⟩ ⟨rfl, ex⟩
      rw [List.getElem?_map] at ex
      obtain ⟨z, ez, rfl⟩ := Option.map_eq_some_iff.mp ex
      have tk : rs.take (i + 1) = rs.take i ++ [z] := by
        rw [List.take_add_one, ez]
        rfl
      have new : z ∉ rs.take i := fun m => by
        have n2 : (rs.take (i + 1)).Nodup := rN.take
        rw [tk] at n2
        exact (List.nodup_append.mp n2).2.2 z m z (.head _) rfl
      refine ⟨rfl, _, rfl, (by show 0 ≤ sizeLine; decide), fun l hl => ?_⟩
      have nDl : D ≠ l := ne_of_none d2 hl
      refine ⟨_, Sum.inr z, rfl, (upd_ne nDl).trans d2, small1000 ?_, fun b u w => ?_, (fun r => if r = z then l else g r), ?_, ?_, ?_⟩
      · rw [List.length_map, List.length_take]
        omega
      · rw [upd_ne (ne_of_none w hD), upd_ne (ne_of_none (e2 _ _ w) hl)]
        exact e2 _ _ w
      · rw [upd_same, putK_new _ (valV_none new), tk, List.map_append]
        have e4 : ∀ r ∈ rs.take i, ((Sum.inr r : Key), V.ref (g r)) = (Sum.inr r, V.ref (if r = z then l else g r)) := fun r m => by
          rw [if_neg fun w => new (by rw [← w]; exact m)]
        rw [List.map_congr_left e4]
        show some (HO.dK (_ ++ [(Sum.inr z, V.ref l)])) = some (HO.dK (_ ++ [(Sum.inr z, V.ref (if z = z then l else g z))]))
        rw [if_pos rfl]
      · rw [tk]
        intro r mr s ms
        have old : ∀ r ∈ rs.take i, g r ≠ l := fun r m w => by
          have q := (g0 r m).1
          rw [w, hl] at q
          cases q
        show (if r = z then l else g r) = (if s = z then l else g s) → r = s
        rcases List.mem_append.mp mr with mr | mr <;> rcases List.mem_append.mp ms with ms | ms
        · rw [if_neg (fun w => new (by rw [← w]; exact mr)), if_neg (fun w => new (by rw [← w]; exact ms))]
          exact inj r mr s ms
        · rw [List.mem_singleton.mp ms, if_neg (fun w => new (by rw [← w]; exact mr)), if_pos rfl]
          exact fun w => absurd w (old r mr)
        · rw [List.mem_singleton.mp mr, if_pos rfl, if_neg (fun w => new (by rw [← w]; exact ms))]
          exact fun w => absurd w.symm (old s ms)
        · rw [List.mem_singleton.mp mr, List.mem_singleton.mp ms]
          exact fun _ => rfl
      · rw [tk]
        intro r mr
        show upd (upd H3 l (.lst [])) D (.dK (putK ((rs.take i).map fun r => (Sum.inr r, V.ref (g r))) (Sum.inr z) (V.ref l))) (if r = z then l else g r) = some (.lst []) ∧ H1 (if r = z then l else g r) = none
        rcases List.mem_append.mp mr with mr | mr
        · rw [if_neg (fun w => new (by rw [← w]; exact mr))]
          refine ⟨?_, (g0 r mr).2⟩
          have q := (g0 r mr).1
          rw [upd_ne (ne_of q d2 (by intro w; cases w)), upd_ne (ne_of_none q hl)]
          exact q
        · rw [List.mem_singleton.mp mr, if_pos rfl]
          exact ⟨(upd_ne nDl.symm).trans upd_same, e2.free hl⟩
    · rintro H2 ⟨e2, g, d2, inj, g0⟩
      rw [List.length_map, List.take_length] at d2 inj g0
      have e12 := e1.trans e2
      have gN : ∀ r ∈ rs, H (g r) = none := fun r m => e1.free (g0 r m).2
      have DN : H D = none := e1.free hD
      refine ⟨_, rfl, La.p, dx, _, rfl, e12 _ _ ob, lfl_no La (by decide +kernel), La, S, rfl, hL.same e12, hS, fun H3 p2 ls pl2 sl2 e3 np2 hp2 => ?_⟩
      replace pl2 : ls.Perm (keys S.lines) := pl2
      have l40 : ls.length ≤ 40 := by
        rw [pl2.length_eq, keys, List.length_map]
        exact hS.lL
      have np : ∀ r ∈ rs, g r ≠ p2 := fun r m => ne_of_none (g0 r m).1 np2
      have nD2 : D ≠ p2 := ne_of_none d2 np2
      refine ⟨p2, rfl, ⟨_, SqL.of hp2⟩, ?_⟩
      refine for_list (K := K) (a := p2) (xs := ls.map V.str) (fun i σ H4 => Same H H4 ∧ H4 p2 = some (.lst (ls.map V.str)) ∧ (∃ x y u v w : Option V, σ = [some (.ref La.p), some (.ref a), some (.ref D), x, y, u, v, w]) ∧
        H4 D = some (.dK (rs.map fun r => (Sum.inr r, V.ref (g r)))) ∧ ∀ r ∈ rs, PairsAt H4 (g r) (leadsTo S sh (ls.take i) r)) ⟨e12.trans e3, hp2, ⟨_, _, _, _, _, rfl⟩, e3 _ _ d2, fun r m => ⟨[], e3 _ _ (g0 r m).1, .nil⟩⟩ (fun i σ H4 _ q => SqL.of q.2.1) ?_ ?_
      · rintro i y σ H4 hi ⟨e4, h4, ⟨x1, x2, x3, x4, x5, rfl⟩, d4, pa⟩
        rw [List.getElem?_map] at hi
        obtain ⟨z, ez, rfl⟩ := Option.map_eq_some_iff.mp hi
        have hk : z ∈ keys S.lines := pl2.mem_iff.mp (List.mem_of_getElem? ez)
        have tk : ls.take (i + 1) = ls.take i ++ [z] := by
          rw [List.take_add_one, ez]
          rfl
        refine ⟨_, rfl, _, rfl, a, _, rfl, .inl (SqL.of (e4 _ _ ha)), rfl, flat_strs _, _, rfl, ?_⟩
        by_cases hz : z ∈ sh
        · refine if_f (by show (!inV (.str z) (sh.map V.str)) = false; rw [inV_strs, decide_eq_true hz]; rfl) ⟨e4, h4, ⟨_, _, _, _, _, rfl⟩, d4, fun r m => ?_⟩
          have q := pa r m
          rw [tk, leadsTo_snoc, lead_shut hz]
          simpa using q
        refine if_t (by show (!inV (.str z) (sh.map V.str)) = true; rw [inV_strs, decide_eq_false hz]; rfl) ?_
        refine ⟨_, rfl, La.p, dx, _, rfl, e4 _ _ ob, lfl_no La (by decide +kernel), _, rfl, La, .str z, true, S, rfl, hL.same e4, hS, NameQ.of (hS.lG z hk), (fun w => Bool.noConfusion w), fun z1 ez1 _ => ?_⟩
        cases ez1
        refine ⟨fun no => absurd hk (look_none.mp no), fun e el H5 v e5 told => ?_⟩
        obtain ⟨t, rfl, ht5⟩ := told
        have ml := (look_iff hS.lN).mp el
        obtain ⟨r1, r2, ne, _⟩ := hS.lI _ ml
        replace r1 := pl.mem_iff.mpr r1
        replace r2 := pl.mem_iff.mpr r2
        have d5 := e5 _ _ d4
        have pa5 : ∀ r ∈ rs, PairsAt H5 (g r) (leadsTo S sh (ls.take i) r) := fun r m => (pa r m).same e5
        have h5 := e5 _ _ h4
        have e45 := e4.trans e5
        clear e5
        obtain ⟨us, hu1, hu2⟩ := pa5 _ r1
        have lu : us.length ≤ i := by
          rw [Paired.length hu2]
          refine Nat.le_trans leadsTo_len ?_
          rw [List.length_take]
          omega
        have li : i < 40 := by
          have := (List.getElem?_eq_some_iff.mp ez).1
          omega
        refine ⟨t, _, rfl, SqT.of ht5, rfl, _, _, rfl, _, _, rfl, _, _, rfl, rfl, ?_⟩
        refine ⟨_, rfl, _, rfl, D, _, rfl, dget_of d5 (valV_map r1), .inl ⟨rfl, _, SqL.of hu1⟩, _, rfl, _, rfl, (by show 2 ≤ sizeLine; decide), fun t2 ht2 => ?_⟩
        have e6 : Same H5 (upd H5 t2 (.tup [.str z, .str e.2.1])) := Same.newp ht2
        refine ⟨_, _, _, rfl, rfl, e6 _ _ hu1, ?_, ?_⟩
        · rw [List.length_map]
          exact small1000 (by omega)
        have lp := LeadsAt.push (p := (z, e.2.1)) (e6 _ _ d5) inj (fun r m => (pa5 r m).same e6) r1 (e6 _ _ hu1) (t := t2) upd_same
        have e7 : Same H (upd (upd H5 t2 (.tup [.str z, .str e.2.1])) (g e.1) (.lst (us.map V.ref ++ [.ref t2]))) := fun b u w => by
          rw [upd_ne (ne_of_none w (gN _ r1))]
          exact e6 _ _ (e45 _ _ w)
        have h7 : upd (upd H5 t2 (.tup [.str z, .str e.2.1])) (g e.1) (.lst (us.map V.ref ++ [.ref t2])) p2 = some (.lst (ls.map V.str)) := (upd_ne (np _ r1).symm).trans (e6 _ _ h5)
        obtain ⟨d7, pa7⟩ := lp
        generalize upd (upd H5 t2 (.tup [.str z, .str e.2.1])) (g e.1) (.lst (us.map V.ref ++ [.ref t2])) = H7 at e7 h7 d7 pa7 ⊢
        have pb := pa7 _ r2
        rw [if_neg (Ne.symm ne)] at pb
        obtain ⟨ws, hw1, hw2⟩ := pb
        have lw : ws.length ≤ i := by
          rw [Paired.length hw2]
          refine Nat.le_trans leadsTo_len ?_
          rw [List.length_take]
          omega
        refine ⟨_, rfl, _, rfl, D, _, rfl, dget_of d7 (valV_map r2), .inl ⟨rfl, _, SqL.of hw1⟩, _, rfl, _, rfl, (by show 2 ≤ sizeLine; decide), fun t3 ht3 => ?_⟩
        have e8 : Same H7 (upd H7 t3 (.tup [.str z, .str e.1])) := Same.newp ht3
        refine ⟨_, _, _, rfl, rfl, e8 _ _ hw1, ?_, ?_⟩
        · rw [List.length_map]
          exact small1000 (by omega)
        obtain ⟨d9, pa9⟩ := LeadsAt.push (p := (z, e.1)) (e8 _ _ d7) inj (fun r m => (pa7 r m).same e8) r2 (e8 _ _ hw1) (t := t3) upd_same
        refine ⟨fun b u w => ?_, (upd_ne (np _ r2).symm).trans (e8 _ _ h7), ⟨_, _, _, _, _, rfl⟩, d9, fun r m => ?_⟩
        · rw [upd_ne (ne_of_none w (gN _ r2))]
          exact e8 _ _ (e7 _ _ w)
        · have q := pa9 r m
          rw [tk, leadsTo_snoc]
          by_cases c2 : r = e.2.1
          · subst c2
            rw [if_pos rfl, if_neg (Ne.symm ne)] at q
            rw [lead_other el hz ne]
            exact q
          rw [if_neg c2] at q
          by_cases c1 : r = e.1
          · subst c1
            rw [if_pos rfl] at q
            rw [lead_one el hz]
            exact q
          rw [if_neg c1] at q
          rw [lead_off el (Ne.symm c1) (Ne.symm c2)]
          simpa using q
      · rintro σ H4 ⟨e4, h4, ⟨x1, x2, x3, x4, x5, rfl⟩, d4, pa⟩
        rw [List.length_map, List.take_length] at pa
        exact ⟨_, rfl, k H4 D rs ls ⟨pl, sl⟩ ⟨pl2, sl2⟩ e4 DN ⟨g, d4, inj, pa⟩⟩
end
end SM
namespace SM
open PySem PySem.Spec PyProof.Rows L2
open Evl (tCut pss_cut)
section
variable {P : Program} {w : World} {K : PySem.W.Frag} {mg : Str → Option Value} {base : Heap} {C : Nat → Addr} {M L : Addr}
theorem sc__check_stretch : FnScope ["layout", "shut", "rooms"] ["layout", "shut", "rooms"] (defScope s__check_stretch) := ⟨rfl, rfl, rfl, by decide +kernel, rfl, by decide +kernel, by decide +kernel⟩
theorem ro_check_stretch (T : Rx K mg C M L) : OkF P w K mg base CX0 7 "_check_stretch" ["layout", "shut", "rooms"] (spCheckG L) := by
  refine T.r_check_stretch.ok sc__check_stretch (fun _ _ _ _ _ _ us hl => match us, hl with | [_, _, _], _ => rfl) (fun vs H Q E h => ?_) (fun f cdv Ar outer st H vs Q E hr h => ?_)
  · obtain ⟨La, S, a, b, sh, xs, rfl, _⟩ := h
    rfl
  · obtain ⟨La, S, a, b, sh, xs, rfl, A, k⟩ := h
    obtain ⟨⟨dx, ob⟩, _⟩ := id A.lay
    refine ⟨_, (pss_cons (ps_expr (pe_f (ok_need T.toLx) (hr.mono (by decide)) passL (pa_cons pe_int (pa_cons (pe_callB call_isi (by rfl) T.b_isinstance (by decide +kernel) (pa_cons (pv 0) (pa_cons (pe_glob (v := .ref L) (by rfl) T.gL rfl) pa_nil))) pa_nil)))) (pss_cons (ps_expr (pe_f (ok_need T.toLx) (hr.mono (by decide)) passL (pa_cons pe_int (pa_cons (pe_f (ro_are_names T) (hr.mono (by decide)) pass0 (pa_cons (pv 1) pa_nil)) pa_nil)))) (pss_cons (ps_expr (pe_f (ok_need T.toLx) (hr.mono (by decide)) passL (pa_cons pe_int (pa_cons (pe_f (ro_is_stretch T) (hr.mono (by decide)) pass0 (pa_cons (pv 2) pa_nil)) pa_nil)))) (pss_cons (ps_expr (pe_f (ro_refuse_no_switch T) (hr.mono (by decide)) pass0 (pa_cons (pv 0) (pa_cons (pv 1) pa_nil)))) (pss_one (ps_expr (pe_f (ro_refuse_no_room T) (hr.mono (by decide)) pass0 (pa_cons (pv 0) (pa_cons (pv 2) pa_nil))))))))), ?_⟩
    refine ⟨_, rfl, _, .ref L, _, _, true, rfl, .own L, .base (.ins ob T.cl T.i_ha T.i_hn T.i_ht T.i_hm), kit_self, _, true, rfl, fun _ => ?_, fun w => Bool.noConfusion w⟩
    refine ⟨_, rfl, a, sh, rfl, A.ha, A.na, A.la, fun x m => A.ok.lG x (swOf_sub (A.sa x m)), fun H1 e1 => ⟨_, true, rfl, fun _ => ?_, fun w => Bool.noConfusion w⟩⟩
    have A1 := A.same L e1
    refine ⟨_, rfl, b, xs, rfl, A1.hb, A1.nb, A1.lb, Nat.le_trans (nodup_len A1.nb A1.sb) A1.ok.rL, fun x m => A1.ok.rG x (A1.sb x m), fun H2 e2 => ⟨_, true, rfl, fun _ => ?_, fun w => Bool.noConfusion w⟩⟩
    have A2 := A1.same L e2
    refine ⟨_, rfl, _, rfl, La, S, a, sh, rfl, A2.lay, A2.ok, A2.ha, A2.sa, fun H3 e3 => ?_⟩
    have A3 := A2.same L e3
    exact ⟨_, rfl, _, rfl, La, S, b, xs, rfl, A3.lay, A3.ok, A3.hb, A3.sb, fun H4 e4 => k H4 (((e1.trans e2).trans e3).trans e4)⟩
end
end SM
namespace SM
open PySem PySem.Spec PyProof.Rows L2
open Evl (tCut pss_cut)
section
variable {P : Program} {w : World} {K : PySem.W.Frag} {mg : Str → Option Value} {base : Heap} {C : Nat → Addr} {M L : Addr}
end
end SM
namespace SM
open PySem PySem.Spec PyProof.Rows L2
open Evl (tCut pss_cut)
section
variable {P : Program} {w : World} {K : PySem.W.Frag} {mg : Str → Option Value} {base : Heap} {C : Nat → Addr} {M L : Addr}
theorem sc_first_way : FnScope ["leads", "starts", "ends", "ways", "room", "found", "at", "way", "line", "other"] ["leads", "starts", "ends"] (defScope s_first_way) := ⟨rfl, rfl, rfl, by decide +kernel, rfl, by decide +kernel, by decide +kernel⟩
theorem ro_first_way (T : Rx K mg C M L) : OkF P w K mg base CX0 1 "first_way" ["leads", "starts", "ends"] (spFirstWay) := by
  refine T.r_first_way.ok sc_first_way (fun _ _ _ _ _ _ us hl => match us, hl with | [_, _, _], _ => rfl) (fun vs H Q E h => ?_) (fun f cdv Ar outer st H vs Q E hr h => ?_)
  · obtain ⟨a, b, c, rs, xs, es, f, rfl, _⟩ := h
    rfl
  · obtain ⟨a, b, c, rs, xs, es, f, rfl, hA, hb, hc, xN, xr, r24, fr, k⟩ := h
    have hu := hu_of hr
    refine ⟨_, (pss_cons (ps_setLc (i := 3) (own := [("room", 4)]) rfl sc_first_way.nd rfl rfl (sw_true rfl rfl rfl (by decide +kernel)) (pi_list (pe_callB cr_sortedS (by rfl) T.b_sorted (by decide +kernel) (pa_cons (pv 1) pa_nil))) (blkOk_by (N := ["leads", "starts", "ends", "ways", "room", "found", "at", "way", "line", "other"]) (sc := (defScope s_first_way)) (by decide +kernel)) (fun _ _ _ _ _ => (pg_name (i := 4) sc_first_way.nd rfl (Or.inl rfl))) (fun _ _ _ _ _ => pts_nil) (fun _ _ _ _ _ => (pe_lst (pa_cons (pv 4) pa_nil)))) (pss_cons (ps_setDc (i := 5) (own := [("room", 4)]) rfl sc_first_way.nd rfl rfl (swD_true rfl rfl rfl (by decide +kernel)) (pi_list (pv 1)) (blkOk_by (N := ["leads", "starts", "ends", "ways", "room", "found", "at", "way", "line", "other"]) (sc := (defScope s_first_way)) (by decide +kernel)) (fun _ _ _ _ _ => (pg_name (i := 4) sc_first_way.nd rfl (Or.inl rfl))) (fun _ _ _ _ _ => pts_nil) (fun _ _ _ _ _ => (pv 4)) (fun _ _ _ _ _ => pe_bl)) (pss_cons (ps_set (i := 6) sc_first_way.nd rfl (Or.inl rfl) pe_int) (pss_cons (ps_while PassesOwn.never (pt_cmpR op_lt (pv 6) (pe_callB call_len_seq (by rfl) T.b_len PySem.boot_len (pa_cons (pv 3) pa_nil)) (nomark _)) (pss_cons (ps_set (i := 7) sc_first_way.nd rfl (Or.inl rfl) (pe_ix ix_list (pv 3) (pv 6) (fun _ _ => rfl))) (pss_cons (ps_aug (i := 6) sc_first_way.nd rfl (Or.inl rfl) pe_int ip_add) (pss_cons (ps_if (pt_cmpR (op_in_seqK (K := K) rfl) (pe_ix ix_list (pv 7) (pe_un un_neg pe_int) (fun _ _ => rfl)) (pv 2) rfl) (pss_one (ps_ret (pv 7))) pss_nil) (pss_one (ps_for PassesOwn.never rfl (pi_list (pe_dget hu (pv 0) (pe_ix ix_list (pv 7) (pe_un un_neg pe_int) (fun _ _ => rfl)) (fun _ _ => rfl))) (pg_tupK (K := K) (n := 2) rfl rfl (pgs_cons (pg_name (i := 8) sc_first_way.nd rfl (Or.inl rfl)) (pgs_cons (pg_name (i := 9) sc_first_way.nd rfl (Or.inl rfl)) pgs_nil))) (pss_one (ps_if (pt_cmp (pc_dnotin hu (pv 9) (pv 5))) (pss_cons (ps_dput hu (pv 5) (pv 9) pe_bl rfl) (pss_one (ps_expr (pe_bm PySem.F.plainAttrs_list PySem.F.slot_list_append PySem.F.type_list_append mt_append (pv 3) (pa_cons (pe_op op_cat (pv 7) (pe_lst (pa_cons (pv 8) (pa_cons (pv 9) pa_nil)))) pa_nil))))) pss_nil)))))))) (pss_one (ps_ret pe_non)))))), ?_⟩
    have x24 : xs.length ≤ 24 := Nat.le_trans (nodup_len xN xr) r24
    refine ⟨_, rfl, b, xs, rfl, SqL.of hb, by omega, fun ss q py sy hq => ?_⟩
    have nq : ss.Nodup := py.nodup_iff.mpr xN
    have s24 : ss.length ≤ 24 := by rw [py.length_eq]; exact x24
    have e1 : Same H (upd H q (.lst (ss.map V.str))) := Same.newp hq
    have hq1 : upd H q (.lst (ss.map V.str)) q = some (.lst (ss.map V.str)) := upd_same
    generalize upd H q (.lst (ss.map V.str)) = H1 at e1 hq1 ⊢
    refine ⟨q, rfl, ⟨_, SqL.of hq1⟩, fun D hD => ?_⟩
    have DN : H D = none := e1.free hD
    refine lc_list (K := K) (a := q) (xs := ss.map V.str) (fun i G => Same H1 G ∧ ∃ gs : List Addr, G D = some (.lst (gs.map V.ref)) ∧ Lists G gs ((ss.take i).map fun r => [r]) ∧ ∀ g ∈ gs, H g = none) ⟨Same.newp hD, [], upd_same, .nil, (fun g m => by cases m)⟩ (fun i G _ q' => SqL.of (q'.1 _ _ hq1)) ?_ ?_
    · rintro i y G hi ⟨e2, gs, gD, lG, gN⟩
      rw [List.getElem?_map] at hi
      obtain ⟨z, ez, rfl⟩ := Option.map_eq_some_iff.mp hi
      have li : i < ss.length := (List.getElem?_eq_some_iff.mp ez).1
      have tk : ss.take (i + 1) = ss.take i ++ [z] := by
        rw [List.take_add_one, ez]
        rfl
      refine ⟨rfl, _, rfl, (by show 1 ≤ sizeLine; decide), fun g hg => ?_⟩
      have e3 : Same G (upd G g (.lst [.str z])) := Same.newp hg
      have ngD : g ≠ D := (ne_of_none gD hg).symm
      refine ⟨_, e3 _ _ gD, ?_, fun c0 u w => ?_, gs ++ [g], ?_, ?_, fun g' m => ?_⟩
      · rw [List.length_map, Paired.length lG, List.length_map, List.length_take]
        exact small1000 (by omega)
      · rw [upd_ne (ne_of_none w hD)]
        exact e3 _ _ (e2 _ _ w)
      · rw [upd_same, List.map_append]
        rfl
      · rw [tk, List.map_append]
        have l2 := lG.same e3
        refine Lists.snoc (l2.off (Lists.all_ne l2 (e3 _ _ gD))) ?_
        exact (upd_ne ngD).trans upd_same
      · rcases List.mem_append.mp m with m | m
        · exact gN g' m
        · rw [List.mem_singleton.mp m]
          exact (e1.trans e2).free hg
    rintro H2 ⟨e2, gs0, hD2, lG0, gN0⟩
    rw [List.length_map, List.take_length] at lG0
    have e12 := e1.trans e2
    have hb2 := e12 _ _ hb
    refine ⟨_, rfl, b, rfl, ⟨_, SqL.of hb2⟩, fun E hE => ?_⟩
    have EN : H E = none := e12.free hE
    have nDE : D ≠ E := ne_of_none hD2 hE
    refine dc_it walk_list (fun i H3 => Same H2 H3 ∧ ∃ kvs, H3 E = some (.dK kvs) ∧ Kr TrueG kvs (uT (xs.take i))) ⟨Same.newp hE, [], upd_same, .nil⟩ (fun i H3 _ q => SqL.of (q.1 _ _ hb2)) ?_ ?_
    · rintro i x H3 H4 hi ⟨e3, kvs, h3, hk⟩ ⟨rfl, ex⟩
      rw [List.getElem?_map] at ex
      obtain ⟨z, ez, rfl⟩ := Option.map_eq_some_iff.mp ex
      have tk : xs.take (i + 1) = xs.take i ++ [z] := by
        rw [List.take_add_one, ez]
        rfl
      have new : z ∉ xs.take i := fun m => by
        have n2 : (xs.take (i + 1)).Nodup := xN.take
        rw [tk] at n2
        exact (List.nodup_append.mp n2).2.2 z m z (.head _) rfl
      refine ⟨rfl, _, rfl, _, Sum.inr z, rfl, h3, small1000 ?_, fun c u w => ?_, _, upd_same, ?_⟩
      · rw [hk.len, uT_len, List.length_take]
        omega
      · rw [upd_ne (ne_of_none w hE)]
        exact e3 _ _ w
      · rw [tk, ← uT_snoc]
        exact hk.put (uT_none.mpr new) rfl
    rintro H3 ⟨e3, kv0, hE3, hk0⟩
    rw [List.length_map, List.take_length] at hk0
    have e13 := e12.trans e3
    have hD3 := e3 _ _ hD2
    have lG3 := lG0.same e3
    dsimp only [gName, tSeq]
    have ok0 : BfsOk rs (ss.map fun r => [r]) xs := ⟨xN, xr, by rw [List.length_map, py.length_eq], fun w mw => by
      obtain ⟨r, mr, rfl⟩ := List.mem_map.mp mw
      have := List.length_pos_of_mem (py.mem_iff.mp mr)
      show 1 ≤ 2 * xs.length
      omega, fun w mw => by
      obtain ⟨r, mr, rfl⟩ := List.mem_map.mp mw
      exact ⟨by simp, xr r (py.mem_iff.mp mr)⟩⟩
    refine while_by (fun σ G => ∃ (y1 y2 y3 y4 : Option V) (i : Nat) (kvs : List (Key × V)) (gs : List Addr) (ws : List (List Str)) (fs : List Str), σ = [some (.ref a), some (.ref b), some (.ref c), some (.ref D), y1, some (.ref E), some (.int i), y2, y3, y4] ∧ Same H G ∧ G D = some (.lst (gs.map V.ref)) ∧ Lists G gs ws ∧ (∀ g ∈ gs, H g = none) ∧ G E = some (.dK kvs) ∧ Kr TrueG kvs (uT fs) ∧ BfsOk rs ws fs ∧ i ≤ 24 ∧ bfs f es (25 - i) ws fs i = firstWay f ss xs es)
      (fun σ G => match σ with
        | [_, _, _, _, _, _, some (.int i), _, _, _] => (30 - i).toNat
        | _ => 0) ⟨_, _, _, _, 0, kv0, gs0, _, xs, rfl, e13, hD3, lG3, gN0, hE3, hk0, ok0, Nat.zero_le _, rfl⟩ ?_ ?_
    · rintro σ G ⟨y1, y2, y3, y4, i, kvs, gs, ws, fs, rfl, eG, gD, lG, gN, gE, hk, ok, i24, run⟩
      have lws : ws.length ≤ 24 := by
        rw [ok.len]
        exact Nat.le_trans (nodup_len ok.nd ok.sub) r24
      have lgs : gs.length = ws.length := Paired.length lG
      refine ⟨_, rfl, _, rfl, D, _, rfl, .inl (SqL.of gD), _, _, rfl, rfl, _, rfl, ?_⟩
      rw [List.length_map, lgs]
      by_cases lt : i < ws.length
      · refine if_t (decide_eq_true (by omega)) ?_
        obtain ⟨g, eg, ag⟩ := atI_refs (ts := gs) (v := (i : Int)) (by omega) (by omega)
        rw [Int.toNat_natCast] at eg
        obtain ⟨w, ew, hg⟩ := lG.at eg
        refine ⟨_, rfl, _, rfl, D, _, i, _, rfl, rfl, SqL.of gD, ag, ?_⟩
        refine ⟨_, rfl, _, _, rfl, rfl, ?_⟩
        have wl : w.length ≤ 50 := by
          have := ok.short w (List.mem_of_getElem? ew)
          rw [← ok.len] at this
          omega
        obtain ⟨wne, wr⟩ := ok.last w (List.mem_of_getElem? ew)
        have al : atI (w.map V.str) (-1) = some (.str (lastR w)) := by
          refine atI_last ?_
          rw [List.length_map, List.getElem?_map, ← List.getLast?_eq_getElem?]
          unfold lastR
          rw [List.getLast?_eq_some_getLast wne]
          rfl
        have hcG := eG _ _ hc
        refine ⟨_, rfl, 1, rfl, g, _, -1, _, rfl, rfl, SqL.of hg, al, _, rfl, c, _, rfl, .inl (SqL.of hcG), rfl, flat_strs _, _, rfl, ?_⟩
        have iv : inV (.str (lastR w)) (es.map V.str) = decide (lastR w ∈ es) := inV_strs _ _
        have st : bfs f es (25 - i) ws fs i = if lastR w ∈ es then some w else bfs f es (25 - (i + 1)) ((f (lastR w)).foldl (growS w) (ws, fs)).1 ((f (lastR w)).foldl (growS w) (ws, fs)).2 (i + 1) := by
          rw [show 25 - i = (24 - i) + 1 by omega, show 25 - (i + 1) = 24 - i by omega]
          show (match ws[i]? with | none => none | some w => _) = _
          rw [ew]
        by_cases he : lastR w ∈ es
        · refine if_t (by show inV (.str (lastR w)) (es.map V.str) = true; rw [iv, decide_eq_true he]) ?_
          rw [if_pos he, run] at st
          exact ⟨_, rfl, k G (.ref g) ss ⟨py, sy⟩ eG (fun g' e => by cases e; exact gN _ (List.mem_of_getElem? eg)) (by rw [st]; exact ⟨g, rfl, hg⟩)⟩
        · refine if_f (by show inV (.str (lastR w)) (es.map V.str) = false; rw [iv, decide_eq_false he]) ?_
          rw [if_neg he, run] at st
          obtain ⟨g0, qa, inj, pa⟩ := id hA
          obtain ⟨ts, ht1, ht2⟩ := pa _ wr
          refine ⟨_, rfl, _, rfl, 1, rfl, g, _, -1, _, rfl, rfl, SqL.of hg, al, a, _, rfl, dget_of (eG _ _ qa) (valV_map wr), g0 (lastR w), rfl, ⟨_, SqL.of (eG _ _ ht1)⟩, ?_⟩
          refine for_list (K := K) (a := g0 (lastR w)) (xs := ts.map V.ref) (fun j σ G2 => ∃ (y1 y3 y4 : Option V) (kv2 : List (Key × V)) (gs2 : List Addr) (ws2 : List (List Str)) (fs2 : List Str), σ = [some (.ref a), some (.ref b), some (.ref c), some (.ref D), y1, some (.ref E), some (.int ((i + 1 : Nat) : Int)), some (.ref g), y3, y4] ∧ Same H G2 ∧ G2 D = some (.lst (gs2.map V.ref)) ∧ Lists G2 gs2 ws2 ∧ (∀ g ∈ gs2, H g = none) ∧ G2 E = some (.dK kv2) ∧ Kr TrueG kv2 (uT fs2) ∧ BfsOk rs ws2 fs2 ∧ G2 g = some (.lst (w.map V.str)) ∧ w ∈ ws2 ∧ ((f (lastR w)).take j).foldl (growS w) (ws, fs) = (ws2, fs2))
            ⟨_, _, _, kvs, gs, ws, fs, rfl, eG, gD, lG, gN, gE, hk, ok, hg, List.mem_of_getElem? ew, rfl⟩ (fun j σ G2 _ q => by
              obtain ⟨_, _, _, _, _, _, _, _, s2, _⟩ := q
              exact SqL.of (s2 _ _ ht1)) ?_ ?_
          · rintro j x σ2 G2 hj ⟨z1, z3, z4, kv2, gs2, ws2, fs2, rfl, s2, gD2, lG2, gN2, gE2, hk2, ok2, hg2, mw2, fo⟩
            rw [List.getElem?_map] at hj
            obtain ⟨t, et, rfl⟩ := Option.map_eq_some_iff.mp hj
            obtain ⟨q, eq, hq⟩ := Paired.at ht2 et
            have mq : q ∈ f (lastR w) := List.mem_of_getElem? eq
            have mqr : q.2 ∈ rs := fr _ wr q mq
            have tk : (f (lastR w)).take (j + 1) = (f (lastR w)).take j ++ [q] := by
              rw [List.take_add_one, eq]
              rfl
            have fo2 : ((f (lastR w)).take (j + 1)).foldl (growS w) (ws, fs) = growS w (ws2, fs2) q := by
              rw [tk, List.foldl_append, fo]
              rfl
            refine ⟨t, _, rfl, SqT.of (s2 _ _ hq), rfl, _, _, rfl, _, _, rfl, rfl, ?_⟩
            refine ⟨_, rfl, _, rfl, E, _, rfl, DGet.k (k := Sum.inr q.2) gE2, _, rfl, ?_⟩
            by_cases hm : q.2 ∈ fs2
            · refine if_f (by rw [hk2.has, uT_look, decide_eq_true hm]; rfl) ⟨_, _, _, kv2, gs2, ws2, fs2, rfl, s2, gD2, lG2, gN2, gE2, hk2, ok2, hg2, mw2, ?_⟩
              rw [fo2]
              exact if_pos hm
            refine if_t (by rw [hk2.has, uT_look, decide_eq_false hm]; rfl) ?_
            have ok3 := ok2.grow mw2 mqr
            have ge : growS w (ws2, fs2) q = (ws2 ++ [w ++ [q.1, q.2]], fs2 ++ [q.2]) := if_neg hm
            rw [ge] at ok3 fo2
            have f24 : fs2.length + 1 ≤ 24 := by
              have h := Nat.le_trans (nodup_len ok3.nd ok3.sub) r24
              rw [List.length_append, List.length_singleton] at h
              exact h
            have lg2 : gs2.length = fs2.length := by rw [Paired.length lG2, ok2.len]
            refine ⟨_, rfl, _, rfl, E, _, rfl, DPut.k (k := Sum.inr q.2) gE2 (small1000 (by rw [hk2.len, uT_len]; omega)), ?_⟩
            have hk3 : Kr TrueG (putK kv2 (Sum.inr q.2) (.bl true)) (uT (fs2 ++ [q.2])) := by
              rw [← uT_snoc]
              exact hk2.put (uT_none.mpr hm) rfl
            generalize putK kv2 (Sum.inr q.2) (.bl true) = kv3 at hk3 ⊢
            have gD3 : upd G2 E (.dK kv3) D = some (.lst (gs2.map V.ref)) := (upd_ne nDE).trans gD2
            have hg3 : upd G2 E (.dK kv3) g = some (.lst (w.map V.str)) := (upd_ne (ne_of hg2 gE2 (by intro w; cases w))).trans hg2
            have lG3 : Lists (upd G2 E (.dK kv3)) gs2 ws2 := Paired.mono (fun g xs h => (upd_ne (ne_of h gE2 (by intro w; cases w))).trans h) lG2
            have s3 : Same H (upd G2 E (.dK kv3)) := fun c0 u0 w0 => by
              rw [upd_ne (ne_of_none w0 EN)]
              exact s2 _ _ w0
            have gE3 : upd G2 E (.dK kv3) E = some (.dK kv3) := upd_same
            generalize upd G2 E (.dK kv3) = G3 at gD3 hg3 lG3 s3 gE3 ⊢
            refine ⟨_, rfl, .inl ⟨rfl, _, SqL.of gD3⟩, _, rfl, _, rfl, _, rfl, (by show 2 ≤ sizeLine; decide), fun l2 hl2 => ?_⟩
            have e4 : Same G3 (upd G3 l2 (.lst [.str q.1, .str q.2])) := Same.newp hl2
            refine ⟨g, l2, w.map V.str, [q.1, q.2].map V.str, rfl, rfl, e4 _ _ hg3, upd_same, ?_, fun r hr => ?_⟩
            · rw [List.length_map]
              show w.length + 2 ≤ sizeLine
              exact Nat.le_of_lt (small1000 (by omega))
            rw [← List.map_append]
            have e5 := e4.trans (Same.newp (o := .lst ((w ++ [q.1, q.2]).map V.str)) hr)
            have hr5 : upd (upd G3 l2 (.lst [.str q.1, .str q.2])) r (.lst ((w ++ [q.1, q.2]).map V.str)) r = some (.lst ((w ++ [q.1, q.2]).map V.str)) := upd_same
            have rN := s3.free (e4.free hr)
            have rD : r ≠ D := (ne_of_none (e4 _ _ gD3) hr).symm
            generalize upd (upd G3 l2 (.lst [.str q.1, .str q.2])) r (.lst ((w ++ [q.1, q.2]).map V.str)) = G5 at e5 hr5 ⊢
            refine ⟨D, _, _, rfl, rfl, e5 _ _ gD3, ?_, _, _, _, kv3, gs2 ++ [r], ws2 ++ [w ++ [q.1, q.2]], fs2 ++ [q.2], rfl, fun c0 u0 w0 => ?_, ?_, ?_, fun g' m => ?_, ?_, hk3, ok3, ?_, List.mem_append_left _ mw2, fo2⟩
            · rw [List.length_map]
              exact small1000 (by omega)
            · rw [upd_ne (ne_of_none w0 DN)]
              exact e5 _ _ (s3 _ _ w0)
            · rw [upd_same, List.map_append]
              rfl
            · have l5 := lG3.same e5
              exact Lists.snoc (l5.off (Lists.all_ne l5 (e5 _ _ gD3))) ((upd_ne rD).trans hr5)
            · rcases List.mem_append.mp m with m | m
              · exact gN2 g' m
              · rw [List.mem_singleton.mp m]
                exact rN
            · exact (upd_ne nDE.symm).trans (e5 _ _ gE3)
            · have gnD : g ≠ D := by
                obtain ⟨jj, hjj⟩ := List.getElem?_of_mem (List.mem_of_getElem? eg)
                exact Lists.all_ne lG gD g (List.mem_of_getElem? eg)
              exact (upd_ne gnD).trans (e5 _ _ hg3)
          · rintro σ2 G2 ⟨z1, z3, z4, kv2, gs2, ws2, fs2, rfl, s2, gD2, lG2, gN2, gE2, hk2, ok2, hg2, mw2, fo⟩
            rw [List.length_map, Paired.length ht2, List.take_length] at fo
            rw [fo] at st
            refine ⟨⟨z1, _, z3, z4, i + 1, kv2, gs2, ws2, fs2, rfl, s2, gD2, lG2, gN2, gE2, hk2, ok2, by omega, st.symm⟩, ?_⟩
            show (30 - ((i + 1 : Nat) : Int)).toNat < (30 - (i : Int)).toNat
            omega
      · refine if_f (decide_eq_false (by omega)) ?_
        have en : bfs f es (25 - i) ws fs i = none := by
          rw [show 25 - i = (24 - i) + 1 by omega]
          unfold bfs
          rw [List.getElem?_eq_none (by omega)]
        rw [en] at run
        exact k G .non ss ⟨py, sy⟩ eG (fun g eg => by cases eg) (by rw [← run]; rfl)
    · rintro σ G Q Q' m ⟨x, hx, y, hy, p, ys, h1, h2, i, j, h3, h4, b, h5, q⟩
      exact ⟨x, hx, y, hy, p, ys, h1, h2, i, j, h3, h4, b, h5, m _ _ q⟩
theorem sc_way_to : FnScope ["layout", "shut", "rooms"] ["layout", "shut", "rooms"] (defScope s_way_to) := ⟨rfl, rfl, rfl, by decide +kernel, rfl, by decide +kernel, by decide +kernel⟩
theorem ro_way_to (T : Rx K mg C M L) : OkF P w K mg base CX0 8 "way_to" ["layout", "shut", "rooms"] (spWayTo L) := by
  refine T.r_way_to.ok sc_way_to (fun _ _ _ _ _ _ us hl => match us, hl with | [_, _, _], _ => rfl) (fun vs H Q E h => ?_) (fun f cdv Ar outer st H vs Q E hr h => ?_)
  · obtain ⟨La, S, a, b, sh, xs, rfl, _⟩ := h
    rfl
  · obtain ⟨La, S, a, b, sh, xs, rfl, A, k⟩ := h
    refine ⟨_, (pss_cons (ps_expr (pe_f (ro_check_stretch T) (hr.mono (by decide)) pass0 (pa_cons (pv 0) (pa_cons (pv 1) (pa_cons (pv 2) pa_nil))))) (pss_one (ps_ret (pe_f (ro_first_way T) (hr.mono (by decide)) pass0 (pa_cons (pe_f (ro_leads_of T) (hr.mono (by decide)) pass0 (pa_cons (pv 0) (pa_cons (pv 1) pa_nil))) (pa_cons (pe_m0 (ok_sources T.toLx) T.cl (hr.mono (by decide)) pass0 (pv 0)) (pa_cons (pv 2) pa_nil))))))), ?_⟩
    refine ⟨_, rfl, _, rfl, _, rfl, La, S, a, b, sh, xs, rfl, A, fun H1 e1 => ?_⟩
    have A1 := A.same L e1
    refine ⟨_, rfl, _, rfl, La, S, a, sh, rfl, A1.lay, A1.ok, A1.ha, fun H2 p rs ls srs sls e2 np lp => ?_⟩
    have A2 := A1.same L e2
    have hS := A2.ok
    obtain ⟨⟨dx, ob⟩, _⟩ := id A2.lay
    refine ⟨_, rfl, La.p, dx, _, rfl, ob, lfl_no La (by decide +kernel), La, S, rfl, A2.lay, hS, fun H4 d ss px sx e4 nd hd => ?_⟩
    replace px : ss.Perm S.sources := px
    refine ⟨_, rfl, p, d, b, rs, ss, xs, _, rfl, lp.same e4, hd, e4 _ _ A2.hb, px.nodup_iff.mpr hS.sN, fun x m => srs.1.mem_iff.mpr (hS.sI x (px.mem_iff.mp m)), Nat.le_trans (Nat.le_of_eq srs.1.length_eq) hS.rL, fun r mr q mq => ?_, fun H5 v ss2 s2 e5 fv res => ?_⟩
    · obtain ⟨e, me, _, hb⟩ := (mem_leads hS (fun l m => sls.1.mem_iff.mpr m)).mp ⟨q.1, mq⟩
      obtain ⟨i1, i2, _⟩ := hS.lI e me
      rcases hb with ⟨_, w⟩ | ⟨_, w⟩
      · rw [← w]
        exact srs.1.mem_iff.mpr i2
      · rw [← w]
        exact srs.1.mem_iff.mpr i1
    · have e14 := (e1.trans e2).trans e4
      obtain rfl : ss2 = ss := Srt.one s2 ⟨List.Perm.refl _, sx⟩
      exact k H5 v ls ss2 sls ⟨px, sx⟩ (e14.trans e5) (fun g eg => e14.free (fv g eg)) res
end
end SM
namespace SM
open PySem PySem.Spec PyProof.Rows L2
open Evl (tCut pss_cut)
abbrev s__law_bag : Stmt := topS 36
abbrev s__law_take : Stmt := topS 37
abbrev s__law_alike : Stmt := topS 38
abbrev s__law_name : Stmt := topS 39
abbrev s__law_names : Stmt := topS 40
abbrev s__law_cost : Stmt := topS 41
abbrev s__law_ends : Stmt := topS 42
abbrev s__law_lines : Stmt := topS 43
abbrev s__law_world : Stmt := topS 44
abbrev s__law_laid : Stmt := topS 45
abbrev s__law_switches : Stmt := topS 46
abbrev s__law_some : Stmt := topS 47
abbrev s__law_stretch : Stmt := topS 48
abbrev s__law_best : Stmt := topS 49
abbrev s_law : Stmt := topS 50
/-- what the top has made of the law's text -/
structure Tx (K : PySem.W.Frag) (mg : Str → Option Value) (C : Nat → Addr) (M L : Addr) : Prop extends Rx K mg C M L where
  d_bag : DefAt K mg "_law_bag" s__law_bag
  d_take : DefAt K mg "_law_take" s__law_take
  d_alike : DefAt K mg "_law_alike" s__law_alike
  d_name : DefAt K mg "_law_name" s__law_name
  d_names : DefAt K mg "_law_names" s__law_names
  d_cost : DefAt K mg "_law_cost" s__law_cost
  d_ends : DefAt K mg "_law_ends" s__law_ends
  d_lines : DefAt K mg "_law_lines" s__law_lines
  d_world : DefAt K mg "_law_world" s__law_world
  d_laid : DefAt K mg "_law_laid" s__law_laid
  d_switches : DefAt K mg "_law_switches" s__law_switches
  d_some : DefAt K mg "_law_some" s__law_some
  d_stretch : DefAt K mg "_law_stretch" s__law_stretch
  d_best : DefAt K mg "_law_best" s__law_best
  d_law : DefAt K mg "law" s_law
  b_abs : mg "abs" = none
  b_range : mg "range" = none
  b_repr : mg "repr" = none
  b_enumerate : mg "enumerate" = none
  b_ValueError : mg "ValueError" = none
  b_dict : mg "dict" = none
  b_min : mg "min" = none
section
variable {P : Program} {w : World} {K : PySem.W.Frag} {mg : Str → Option Value} {base : Heap} {C : Nat → Addr} {M L : Addr}
theorem sc__law_bag : FnScope ["_law_script", "_law_cell"] ["_law_script"] (defScope s__law_bag) := ⟨rfl, rfl, rfl, by decide +kernel, rfl, by decide +kernel, by decide +kernel⟩
theorem ok_bag (T : Tx K mg C M L) : OkF P w K mg base CX0 1 "_law_bag" ["_law_script"] (spBag K) := by
  refine T.d_bag.ok sc__law_bag (fun _ _ _ _ _ _ us hl => match us, hl with | [_], _ => rfl) (fun vs H Q E h => ?_) (fun f cdv A outer s H vs Q E hr h => ?_)
  · obtain ⟨a, ns, rfl, _⟩ := h
    rfl
  · obtain ⟨a, ns, rfl, hS, hl, k⟩ := h
    refine ⟨_, (pss_one (ps_ret (pe_lst (pa_cons pe_int (pa_cons pe_int (pa_cons pe_int (pa_cons (pe_lc (own := [("_law_cell", 1)]) rfl sc__law_bag.nd (pi_list (pe_slice sl_list (pv 0) po_none (po_some pe_int))) (blkOk_by (N := ["_law_script", "_law_cell"]) (sc := (defScope s__law_bag)) (by decide +kernel)) (fun _ _ _ _ _ => (pg_name (i := 1) sc__law_bag.nd rfl (Or.inl rfl))) (fun _ _ _ _ _ => pts_nil) (fun _ _ _ _ _ => (pe_callB call_abs (by rfl) T.b_abs (by decide +kernel) (pa_cons (pv 1) pa_nil)))) pa_nil))))))), ?_⟩
    have hc : cutV (ns.map V.int) none (some 63) = ns.map V.int := by
      unfold cutV
      rw [HT.sIx_none, show (63 : Int) = ((63 : Nat) : Int) from rfl, HT.sIx_nat, List.length_map]
      simp only [List.drop_zero, Nat.sub_zero]
      rw [List.take_of_length_le (by rw [List.length_map]; omega)]
    refine ⟨_, rfl, _, rfl, a, _, rfl, hS, fun c hc0 => ?_⟩
    rw [hc]
    have s0 : Same H (upd H c (.lst (ns.map V.int))) := Same.newp hc0
    refine ⟨c, rfl, ⟨_, SqL.of upd_same⟩, fun D hD => ?_⟩
    have nDc : D ≠ c := fun z => by
      rw [z, upd_same] at hD
      cases hD
    have hD0 : H D = none := by
      rw [upd_ne nDc] at hD
      exact hD
    refine lc_list (K := K) (a := c) (xs := ns.map V.int) (fun i H1 => Same H H1 ∧ H1 c = some (.lst (ns.map V.int)) ∧ H1 D = some (.lst (((ns.take i).map fun n => if n < 0 then -n else n).map V.int)))
      ⟨s0.trans (Same.newp hD), (upd_ne (Ne.symm nDc)).trans upd_same, upd_same⟩ (fun i H1 _ z => SqL.of z.2.1) ?_ ?_
    · rintro i x H1 hi ⟨z1, z2, z3⟩
      obtain ⟨n, hn, rfl⟩ : ∃ n, ns[i]? = some n ∧ x = V.int n := by
        rw [List.getElem?_map] at hi
        cases e : ns[i]? with
        | none =>
          rw [e] at hi
          cases hi
        | some n =>
          rw [e] at hi
          exact ⟨n, rfl, (Option.some.inj hi).symm⟩
      have lt : i < ns.length := (List.getElem?_eq_some_iff.mp hn).1
      refine ⟨rfl, _, rfl, n, rfl, _, z3, ?_, ?_⟩
      · rw [List.length_map, List.length_map, List.length_take]
        exact small1000 (by omega)
      · have tk : ns.take (i + 1) = ns.take i ++ [n] := by
          rw [List.take_add_one, hn]
          rfl
        refine ⟨fun b o e => ?_, ?_, ?_⟩
        · have nb : b ≠ D := fun q => by
            rw [q, hD0] at e
            cases e
          rw [upd_ne nb]
          exact z1 b o e
        · rw [upd_ne (Ne.symm nDc)]
          exact z2
        · rw [upd_same, tk, List.map_append, List.map_append]
          rfl
    · rintro H1 ⟨z1, z2, z3⟩
      rw [List.length_map, List.take_length] at z3
      refine ⟨by show 4 ≤ sizeLine; decide, fun p hp => ?_⟩
      have npD : p ≠ D := fun z => by
        rw [z, z3] at hp
        cases hp
      refine k _ p D (z1.trans (Same.newp hp)) (z1.free hp) hD0 ⟨0, 1234567891, 0, _, upd_same, (upd_ne (Ne.symm npD)).trans z3, by decide, by decide, by decide, by decide, ?_⟩
      intro n hn
      obtain ⟨m, _, rfl⟩ := List.mem_map.mp hn
      show 0 ≤ if m < 0 then -m else m
      split <;> omega
theorem sc__law_take : FnScope ["_law_bag_here", "_law_many", "_law_cell", "_law_value", "_law_first", "_law_second"] ["_law_bag_here", "_law_many"] (defScope s__law_take) := ⟨rfl, rfl, rfl, by decide +kernel, rfl, by decide +kernel, by decide +kernel⟩
theorem ok_take (T : Tx K mg C M L) : OkF P w K mg base CX0 1 "_law_take" ["_law_bag_here", "_law_many"] spTake := by
  refine T.d_take.ok sc__law_take (fun _ _ _ _ _ _ us hl => match us, hl with | [_, _], _ => rfl) (fun vs H Q E h => ?_) (fun f cdv A outer s H vs Q E hr h => ?_)
  · obtain ⟨p, q, m, rfl, _⟩ := h
    rfl
  · obtain ⟨p, q, m, rfl, B, m0, m1, k⟩ := h
    have npq := B.ne
    refine ⟨_, (pss_cut (ps_if (pt_cmpR op_eq (pe_ix ix_list (pv 0) pe_int (fun _ _ => rfl)) pe_int (nomark _)) (pss_cons (ps_set (i := 2) sc__law_take.nd rfl (Or.inl rfl) pe_int) (pss_cut (ps_if (pt_cmpR op_lt (pe_ix ix_list (pv 0) pe_int (fun _ _ => rfl)) (pe_callB call_len_seq (by rfl) T.b_len PySem.boot_len (pa_cons (pe_ix ix_list (pv 0) pe_int (fun _ _ => rfl)) pa_nil)) (nomark _)) (pss_one (ps_set (i := 2) sc__law_take.nd rfl (Or.inl rfl) (pe_ix ix_list (pe_ix ix_list (pv 0) pe_int (fun _ _ => rfl)) (pe_ix ix_list (pv 0) pe_int (fun _ _ => rfl)) (fun _ _ => rfl)))) pss_nil) (pss_cons (ps_augS (pv 0) pe_int get_list pe_int ip_add set_list) (pss_cut (ps_if (pt_cmpR op_ge (pv 2) pe_int (nomark _)) (pss_one (ps_asg (pv 2) (pg_sub (pv 0) pe_int set_list))) pss_nil) (pss_one (ps_asg (pe_op op_mod (pe_op op_add (pe_op op_add (pe_op op_mul (pe_ix ix_list (pv 0) pe_int (fun _ _ => rfl)) pe_int) (pe_op op_mod (pv 2) pe_int)) (pe_op op_mul pe_int (pe_ix ix_list (pv 0) pe_int (fun _ _ => rfl)))) pe_int) (pg_sub (pv 0) pe_int set_list))))))) pss_nil) (pss_cons (ps_if (pt_cmpR op_gt (pe_ix ix_list (pv 0) pe_int (fun _ _ => rfl)) pe_int (nomark _)) (pss_cons (ps_set (i := 3) sc__law_take.nd rfl (Or.inl rfl) (pe_op op_mod (pe_ix ix_list (pv 0) pe_int (fun _ _ => rfl)) (pv 1))) (pss_cons (ps_asg (pe_op op_fdiv (pe_ix ix_list (pv 0) pe_int (fun _ _ => rfl)) (pv 1)) (pg_sub (pv 0) pe_int set_list)) (pss_one (ps_ret (pv 3))))) pss_nil) (pss_cons (ps_set (i := 4) sc__law_take.nd rfl (Or.inl rfl) (pe_op op_mod (pe_op op_mul (pe_op op_add (pe_ix ix_list (pv 0) pe_int (fun _ _ => rfl)) pe_int) pe_int) pe_int)) (pss_cons (ps_set (i := 5) sc__law_take.nd rfl (Or.inl rfl) (pe_op op_mod (pe_op op_mul (pe_op op_mod (pe_op op_mul (pv 4) (pv 4)) pe_int) pe_int) pe_int)) (pss_cons (ps_if (pt_cmpR op_gt (pv 1) pe_int (nomark _)) (pss_one (ps_ret (pe_op op_mod (pe_op op_add (pe_op op_mul (pv 5) pe_int) (pv 4)) (pv 1)))) pss_nil) (pss_one (ps_ret (pe_op op_mod (pe_op op_fdiv (pv 5) pe_int) (pv 1))))))))), ?_⟩
    obtain ⟨a, b, c, ns, B⟩ := B
    -- the word between the filling and the drawing
    refine ⟨fun σ1 H1 => (∃ x : Option V, σ1 = [some (.ref p), some (.int m), x, none, none, none]) ∧ Bag H1 p q ∧ But p H H1, ?_, ?_⟩
    · refine ⟨_, rfl, p, _, 0, _, rfl, rfl, SqL.of B.top, rfl, rfl, _, rfl, ?_⟩
      refine ite2 (fun _ => ?_) (fun _ => ⟨⟨_, rfl⟩, ⟨a, b, c, ns, B⟩, But.refl p H⟩)
      -- cell = 0; if bag[2] < len(bag[3]): cell = bag[3][bag[2]]
      refine ⟨fun σ1 H1 => (∃ x : Int, 0 ≤ x ∧ σ1 = [some (.ref p), some (.int m), some (.int x), none, none, none]) ∧ H1 = H, ?_, ?_⟩
      · refine ⟨_, rfl, p, _, 2, _, rfl, rfl, SqL.of B.top, rfl, _, rfl, p, _, 3, _, rfl, rfl, SqL.of B.top, rfl, q, _, rfl, .inl (SqL.of B.low), _, _, rfl, rfl, _, rfl, ?_⟩
        refine ite2 (fun hc => ?_) (fun _ => ⟨⟨0, by decide, rfl⟩, rfl⟩)
        have hlt := of_decide_eq_true hc
        rw [List.length_map] at hlt
        have c0 := B.c0
        have hg : ns[c.toNat]? = some (ns[c.toNat]'(by omega)) := List.getElem?_eq_getElem (by omega)
        have hat : atI (ns.map V.int) c = some (.int (ns[c.toNat]'(by omega))) := by
          have e := atI_nat (xs := ns.map V.int) (j := c.toNat) (v := .int (ns[c.toNat]'(by omega))) (by rw [List.getElem?_map, hg]; rfl)
          rw [Int.toNat_of_nonneg c0] at e
          exact e
        refine ⟨_, rfl, p, _, 3, _, rfl, rfl, SqL.of B.top, rfl, _, rfl, p, _, 2, _, rfl, rfl, SqL.of B.top, rfl, q, _, c, _, rfl, rfl, SqL.of B.low, hat, ?_⟩
        exact ⟨⟨_, B.nn _ (List.getElem_mem _), rfl⟩, rfl⟩
      · rintro σ1 H1 ⟨⟨x, x0, rfl⟩, rfl⟩
        -- bag[2] += 1
        refine ⟨_, rfl, p, _, 2, _, rfl, rfl, SqL.of B.top, by decide, rfl, _, _, rfl, rfl, p, _, 2, 2, rfl, rfl, B.top, rfl, ?_⟩
        have B2 : BagIs (upd H1 p (.lst [.int a, .int b, .int (c + 1), .ref q])) p q a b (c + 1) ns :=
          ⟨upd_same, (upd_ne (Ne.symm npq)).trans B.low, B.a0, B.b0, B.b1, by have := B.c0; omega, B.nn⟩
        -- if cell >= 10 ** 18: bag[0] = cell
        refine ⟨fun σ2 H2 => σ2 = [some (.ref p), some (.int m), some (.int x), none, none, none] ∧ But p H1 H2 ∧ ∃ a2, BagIs H2 p q a2 b (c + 1) ns, ?_, ?_⟩
        · refine ⟨_, rfl, _, _, rfl, rfl, _, rfl, ?_⟩
          refine ite2 (fun _ => ?_) (fun _ => ⟨rfl, But.upd, a, B2⟩)
          refine ⟨_, rfl, _, rfl, p, _, 0, 0, rfl, rfl, B2.top, rfl, ?_⟩
          exact ⟨rfl, But.upd.trans But.upd, x, upd_same, (upd_ne (Ne.symm npq)).trans B2.low, x0, B2.b0, B2.b1, B2.c0, B2.nn⟩
        · rintro σ2 H2 ⟨rfl, K2, a2, B3⟩
          refine ⟨_, rfl, p, _, 1, _, rfl, rfl, SqL.of B3.top, rfl, _, _, rfl, rfl, .inr ⟨by decide, by decide⟩, _, rfl, _, _, rfl, rfl, pos31, _, _, rfl, rfl,
            _, rfl, p, _, 2, _, rfl, rfl, SqL.of B3.top, rfl, _, _, rfl, rfl, .inl ⟨by decide, by decide⟩, _, _, rfl, rfl, _, _, rfl, rfl, pos31,
            _, rfl, p, _, 1, 1, rfl, rfl, B3.top, rfl, ?_⟩
          refine ⟨⟨_, rfl⟩, ⟨a2, _, c + 1, ns, upd_same, (upd_ne (Ne.symm npq)).trans B3.low, B3.a0, ?_, ?_, B3.c0, B3.nn⟩, K2.trans But.upd⟩
          · exact Int.emod_nonneg _ (by decide)
          · exact Int.emod_lt_of_pos _ (by decide)
    · rintro σ1 H1 ⟨⟨x, rfl⟩, ⟨a1, b1, c1, ns1, B1⟩, K1⟩
      -- if bag[0] > 0
      refine ⟨_, rfl, p, _, 0, _, rfl, rfl, SqL.of B1.top, rfl, _, _, rfl, rfl, _, rfl, ?_⟩
      refine ite2 (fun ha => ?_) (fun _ => ?_)
      · refine ⟨_, rfl, p, _, 0, _, rfl, rfl, SqL.of B1.top, rfl, _, rfl, _, _, rfl, rfl, m0, _, rfl, p, _, 0, _, rfl, rfl, SqL.of B1.top, rfl, _, rfl, _, _, rfl, rfl, ⟨m0, m1⟩,
          _, rfl, p, _, 0, 0, rfl, rfl, B1.top, rfl, _, rfl, ?_⟩
        refine k _ _ (Int.emod_nonneg _ (by omega)) (Int.emod_lt_of_pos _ m0) ⟨_, b1, c1, ns1, upd_same, (upd_ne (Ne.symm npq)).trans B1.low, Int.ediv_nonneg B1.a0 (by omega), B1.b0, B1.b1, B1.c0, B1.nn⟩ (K1.trans But.upd)
      · have f1 := fst_ok B1.b0 B1.b1
        refine ⟨_, rfl, p, _, 1, _, rfl, rfl, SqL.of B1.top, rfl, _, _, rfl, rfl, _, _, rfl, rfl, .inr ⟨by decide, by decide⟩, _, _, rfl, rfl, posA, ?_⟩
        generalize (b1 + 1) * 39373 % 1000000007 = g1 at f1 ⊢
        refine ⟨_, rfl, _, rfl, _, _, rfl, rfl, .inl ⟨by omega, by omega⟩, _, _, rfl, rfl, posB, _, _, rfl, rfl, .inr ⟨by decide, by decide⟩, _, _, rfl, rfl, posB, ?_⟩
        have f2 := snd_ok (g1 * g1 % 998244353 * 30011)
        generalize g1 * g1 % 998244353 * 30011 % 998244353 = g2 at f2 ⊢
        refine ⟨_, rfl, _, _, rfl, rfl, _, rfl, ?_⟩
        refine ite2 (fun _ => ?_) (fun _ => ?_)
        · refine ⟨_, rfl, _, _, rfl, rfl, .inr ⟨by decide, by decide⟩, _, rfl, _, _, rfl, rfl, _, rfl, _, _, rfl, rfl, m0, ?_⟩
          exact k _ _ (Int.emod_nonneg _ (by omega)) (Int.emod_lt_of_pos _ m0) ⟨a1, b1, c1, ns1, B1⟩ K1
        · refine ⟨_, rfl, _, _, rfl, rfl, ⟨by decide, by decide⟩, _, rfl, _, _, rfl, rfl, m0, ?_⟩
          exact k _ _ (Int.emod_nonneg _ (by omega)) (Int.emod_lt_of_pos _ m0) ⟨a1, b1, c1, ns1, B1⟩ K1
theorem sc__law_alike : FnScope ["_law_found", "_law_due"] ["_law_found", "_law_due"] (defScope s__law_alike) := ⟨rfl, rfl, rfl, by decide +kernel, rfl, by decide +kernel, by decide +kernel⟩
theorem lo_alike (T : Tx K mg C M L) : OkQ P w K mg base CX0 1 "_law_alike" ["_law_found", "_law_due"] (spAlike K) := by
  refine T.d_alike.okQ sc__law_alike (fun _ _ _ _ _ _ us hl => match us, hl with | [_, _], _ => rfl) (fun vs H Q E h => ?_) (fun f cdv Ar outer st H vs Q E qa hr h => ?_)
  · obtain ⟨x, y, d, rfl, _⟩ := h
    rfl
  · obtain ⟨x, y, d, rfl, hx, hy, hf, k⟩ := h
    have hu := hu64 hr
    refine ⟨_, (pss_one (ps_ret (pe_and (pe_cmpR (op_eqD hu) (pv 0) (pv 1) (nomark _)) (pe_one (pe_cmpR op_eq (pe_callB (call_reprD qa hr) (by rfl) T.b_repr (by decide +kernel) (pa_cons (pv 0) pa_nil)) (pe_callB (call_reprD qa hr) (by rfl) T.b_repr (by decide +kernel) (pa_cons (pv 1) pa_nil)) (nomark _)))))), ?_⟩
    refine ⟨_, rfl, _, rfl, d, d, hx, hy, hf.shaped, hf.shaped, _, rfl, ?_⟩
    rw [eqv_self d hf.lay]
    refine ⟨_, rfl, x, d, rfl, hx, hf, _, rfl, y, d, rfl, hy, hf, rfl, ?_⟩
    have e : decide (V.str d.shown = V.str d.shown) = true := decide_eq_true rfl
    rw [e]
    exact k
theorem sc__law_name : FnScope ["_law_bag_here", "_law_words", "_law_way", "_law_letters", "_law_k"] ["_law_bag_here"] (defScope s__law_name) := ⟨rfl, rfl, rfl, by decide +kernel, rfl, by decide +kernel, by decide +kernel⟩
theorem lo_name (T : Tx K mg C M L) : OkF P w K mg base CX0 2 "_law_name" ["_law_bag_here"] (spNameL) := by
  refine T.d_name.ok sc__law_name (fun _ _ _ _ _ _ us hl => match us, hl with | [_], _ => rfl) (fun vs H Q E h => ?_) (fun f cdv Ar outer st H vs Q E hr h => ?_)
  · obtain ⟨p, q, rfl, _⟩ := h
    rfl
  · obtain ⟨p, q, rfl, B, k⟩ := h
    refine ⟨_, (pss_cons (ps_set (i := 1) sc__law_name.nd rfl (Or.inl rfl) (pe_lst (pa_cons pe_str (pa_cons pe_str (pa_cons pe_str (pa_cons pe_str (pa_cons pe_str (pa_cons pe_str (pa_cons pe_str (pa_cons pe_str (pa_cons pe_str (pa_cons pe_str (pa_cons pe_str (pa_cons pe_str pa_nil)))))))))))))) (pss_cons (ps_set (i := 2) sc__law_name.nd rfl (Or.inl rfl) (pe_f (ok_take T) (hr.mono (by decide)) pass0 (pa_cons (pv 0) (pa_cons pe_int pa_nil)))) (pss_cons (ps_if (pt_cmpR op_eq (pv 2) pe_int (nomark _)) (pss_one (ps_ret (pe_ix ix_list (pv 1) (pe_f (ok_take T) (hr.mono (by decide)) pass0 (pa_cons (pv 0) (pa_cons pe_int pa_nil))) (fun _ _ => rfl)))) pss_nil) (pss_cons (ps_set (i := 3) sc__law_name.nd rfl (Or.inr rfl) pe_str) (pss_one (ps_ret (pe_join pe_str (pe_lc (own := [("_law_k", 4)]) rfl sc__law_name.nd (pi_range1 rfl T.b_range (pa_cons (pe_op op_add pe_int (pe_f (ok_take T) (hr.mono (by decide)) pass0 (pa_cons (pv 0) (pa_cons (pe_ix ix_list (pe_lst (pa_cons pe_int (pa_cons pe_int (pa_cons pe_int pa_nil)))) (pe_op op_sub (pv 2) pe_int) (fun _ _ => rfl)) pa_nil)))) pa_nil)) (blkOk_by (N := ["_law_bag_here", "_law_words", "_law_way", "_law_letters", "_law_k"]) (sc := (defScope s__law_name)) (by decide +kernel)) (fun _ _ _ _ _ => (pg_name (i := 4) sc__law_name.nd rfl (Or.inl rfl))) (fun _ _ _ _ _ => pts_nil) (fun _ _ _ _ _ => (pe_ix ix_str (pv 3) (pe_f (ok_take T) (hr.mono (by decide)) pass0 (pa_cons (pv 0) (pa_cons pe_int pa_nil))) (fun _ _ => rfl))))))))))), ?_⟩
    refine ⟨(by show 12 ≤ sizeLine; decide), fun l hl => ?_⟩
    have e1 := Same.newp (o := .lst (wordsL.map V.str)) hl
    have B1 := B.same e1
    refine ⟨_, rfl, p, q, 4, rfl, B1, by decide, by decide, fun v H2 v0 v1 B2 but => ?_⟩
    have K2 : Keep [p] H H2 := (Keep.of e1).trans (Keep.bag B1 B2 but (by simp))
    have hl2 : H2 l = some (.lst (wordsL.map V.str)) := (Keep.bag (ms := [p]) B1 B2 but (by simp)).flat l _ upd_same (flat_strs wordsL)
    refine ⟨_, rfl, rfl, _, rfl, ?_⟩
    by_cases e : v = 0
    · refine if_t (decide_eq_true (by rw [e])) ?_
      refine ⟨_, rfl, _, rfl, p, q, 12, rfl, B2, by decide, by decide, fun v3 H3 w0 w1 B3 but3 => ?_⟩
      have K3 : Keep [p] H2 H3 := Keep.bag B2 B3 but3 (by simp)
      obtain ⟨y, hy, ey⟩ := atI_some (xs := wordsL.map V.str) w0 (by show v3 < 12; exact w1)
      obtain ⟨z, hz, rfl⟩ := List.mem_map.mp hy
      exact ⟨l, _, v3, _, rfl, rfl, SqL.of (K3.flat l _ hl2 (flat_strs wordsL)), ey, k z H3 (wordsL_ok z hz) B3 (K2.trans K3)⟩
    refine if_f (decide_eq_false fun z => e (by injection z)) ?_
    refine ⟨⟨_, rfl⟩, _, rfl, (by show 3 ≤ sizeLine; decide), fun l2 hl2' => ⟨_, rfl, _, _, rfl, rfl, ?_⟩⟩
    have ey : ∃ y, y ∈ [V.int 2, V.int 8, V.int 1] ∧ atI [V.int 2, V.int 8, V.int 1] (v - 1) = some y := atI_some (by omega) (by show v - 1 < 3; omega)
    obtain ⟨y, hy, ey⟩ := ey
    obtain ⟨m, rfl, m0, m8⟩ : ∃ m : Int, y = .int m ∧ 0 < m ∧ m ≤ 8 := by
      simp only [List.mem_cons, List.not_mem_nil, or_false] at hy
      rcases hy with rfl | rfl | rfl
      · exact ⟨2, rfl, by decide, by decide⟩
      · exact ⟨8, rfl, by decide, by decide⟩
      · exact ⟨1, rfl, by decide, by decide⟩
    refine ⟨l2, _, _, _, rfl, rfl, SqL.of upd_same, ey, ?_⟩
    have e3 := Same.newp (o := .lst [V.int 2, V.int 8, V.int 1]) hl2'
    have B3 := B2.same e3
    refine ⟨p, q, m, rfl, B3, m0, by omega, fun u H4 u0 u1 B4 but4 => ⟨_, _, rfl, rfl, 1 + u, rfl, by omega, by omega, fun D hD => ?_⟩⟩
    have K4 : Keep [p] H H4 := (K2.trans (Keep.of e3)).trans (Keep.bag B3 B4 but4 (by simp))
    refine lc_range (lo := 0) (n := (1 + u).toNat) (fun i H1 => Bag H1 p q ∧ Keep [p] H H1 ∧ ∃ cs : List Nat, cs.length = i ∧ (∀ c ∈ cs, okSign c = true) ∧ H1 D = some (.lst ((cs.map fun c => (⟨#[c]⟩ : Str)).map V.str)))
      ⟨B4.same (Same.newp hD), K4.trans (Keep.of (Same.newp hD)), [], rfl, (by intro c hc; cases hc), upd_same⟩ ?_ ?_
    · rintro i H1 hi ⟨B5, K5, cs, hcs, okc, h1⟩
      refine ⟨rfl, _, rfl, _, rfl, p, q, 26, rfl, B5, by decide, by decide, fun w H6 w0 w1 B6 but6 => ?_⟩
      have K6 : Keep [p] H1 H6 := Keep.bag B5 B6 but6 (by simp)
      obtain ⟨c, hc, ec⟩ := atI_some (xs := lettersL.cps.toList) w0 (by rw [lettersL_len]; exact w1)
      refine ⟨lettersL, w, c, rfl, rfl, (by show 26 ≤ sizeLine; decide), ec, _, K6.flat D _ h1 (flat_strs _), ?_, ?_⟩
      · rw [List.length_map, List.length_map]
        exact small1000 (by omega)
      · have hp : D ≠ p := fun z => by
          rw [z] at hD
          exact B4.there.1 hD
        have hq : D ≠ q := fun z => by
          rw [z] at hD
          exact B4.there.2 hD
        have hDn : H D = none := K4.has _ hD
        have K7 : Keep [p] H (upd H6 D (.lst (((cs.map fun c => (⟨#[c]⟩ : Str)).map V.str) ++ [V.str ⟨#[c]⟩]))) := by
          have K56 := K5.trans K6
          refine ⟨fun b v e n => ?_, fun b xs e => ?_, fun b C dx fs e => ?_, fun b xs e f => ?_, fun b e => ?_⟩
          · rw [upd_ne (ne_of_none e hDn)]
            exact K56.out b v e n
          · rw [upd_ne (ne_of_none e hDn)]
            exact K56.tup b xs e
          · rw [upd_ne (ne_of_none e hDn)]
            exact K56.ins b C dx fs e
          · rw [upd_ne (ne_of_none e hDn)]
            exact K56.flat b xs e f
          · by_cases z : b = D
            · rw [z]
              exact hDn
            · rw [upd_ne z] at e
              exact K56.has b e
        refine ⟨B6.keep (upd_ne hp.symm) (upd_ne hq.symm), K7, cs ++ [c], by rw [List.length_append, hcs]; rfl, fun x hx => ?_, ?_⟩
        · rcases List.mem_append.mp hx with z | z
          · exact okc x z
          · rw [List.mem_singleton.mp z]
            exact lettersL_ok c hc
        · rw [upd_same, List.map_append, List.map_append]
          rfl
    · rintro H1 ⟨B5, K5, cs, hcs, okc, h1⟩
      have hl : 1 ≤ cs.length ∧ cs.length ≤ 8 := by omega
      have sm : ∀ ds : List Nat, ((ds.map fun c => (⟨#[c]⟩ : Str)).map (·.length)).sum = ds.length := fun ds => by
        induction ds with
        | nil => rfl
        | cons d r ih =>
          simp only [List.map_cons, List.sum_cons, List.length_cons] at ih ⊢
          rw [ih]
          show 1 + r.length = _
          omega
      refine ⟨"", D, cs.map fun c => (⟨#[c]⟩ : Str), rfl, rfl, .inl (SqL.of h1), ?_, ?_⟩
      · rw [sm, List.length_map]
        show cs.length + cs.length * 0 ≤ 16777216
        omega
      · exact k _ H1 (okName_join hl.1 hl.2 okc) B5 K5
theorem sc__law_names : FnScope ["_law_bag_here", "_law_many", "_law_drawn", "_law_k", "_law_name_here"] ["_law_bag_here", "_law_many"] (defScope s__law_names) := ⟨rfl, rfl, rfl, by decide +kernel, rfl, by decide +kernel, by decide +kernel⟩
theorem lo_names (T : Tx K mg C M L) : OkF P w K mg base CX0 3 "_law_names" ["_law_bag_here", "_law_many"] (spNamesD) := by
  refine T.d_names.ok sc__law_names (fun _ _ _ _ _ _ us hl => match us, hl with | [_, _], _ => rfl) (fun vs H Q E h => ?_) (fun f cdv Ar outer st H vs Q E hr h => ?_)
  · obtain ⟨p, q, n, rfl, _⟩ := h
    rfl
  · obtain ⟨p, q, n, rfl, B, n0, n110, k⟩ := h
    refine ⟨_, (pss_cons (ps_set (i := 2) sc__law_names.nd rfl (Or.inr rfl) (pe_lc (own := [("_law_k", 3)]) rfl sc__law_names.nd (pi_range1 rfl T.b_range (pa_cons (pv 1) pa_nil)) (blkOk_by (N := ["_law_bag_here", "_law_many", "_law_drawn", "_law_k", "_law_name_here"]) (sc := (defScope s__law_names)) (by decide +kernel)) (fun _ _ _ _ _ => (pg_name (i := 3) sc__law_names.nd rfl (Or.inl rfl))) (fun _ _ _ _ _ => pts_nil) (fun _ _ _ _ _ => (pe_f (lo_name T) (hr.mono (by decide)) pass0 (pa_cons (pv 0) pa_nil))))) (pss_one (ps_ret (pe_lc (own := [("_law_k", 3), ("_law_name_here", 4)]) rfl sc__law_names.nd (pi_enum rfl T.b_enumerate (pa_cons (pv 2) pa_nil)) (blkOk_by (N := ["_law_bag_here", "_law_many", "_law_drawn", "_law_k", "_law_name_here"]) (sc := (defScope s__law_names)) (by decide +kernel)) (fun _ _ _ _ _ => (pg_tupK (K := K) (n := 2) rfl rfl (pgs_cons (pg_name (i := 3) sc__law_names.nd rfl (Or.inl rfl)) (pgs_cons (pg_name (i := 4) sc__law_names.nd rfl (Or.inl rfl)) pgs_nil)))) (fun _ _ _ _ _ => (pts_one (pt_cmpR (op_notIn_seqK (K := K) rfl) (pv 4) (pe_slice (sl_listK (K := K) rfl) (pv 2) po_none (po_some (pv 3))) rfl))) (fun _ _ _ _ _ => (pv 4)))))), ?_⟩
    refine ⟨_, rfl, n, rfl, by omega, by omega, fun D hD => ?_⟩
    refine lc_range (lo := 0) (n := n.toNat) (fun i H1 => Bag H1 p q ∧ Keep [p] H H1 ∧ ∃ ys : List Str, ys.length = i ∧ (∀ y ∈ ys, okName y = true) ∧ H1 D = some (.lst (ys.map V.str)))
      ⟨B.same (Same.newp hD), Keep.of (Same.newp hD), [], rfl, (by intro c hc; cases hc), upd_same⟩ ?_ ?_
    · rintro i H1 hi ⟨B1, K1, ys, hys, oky, h1⟩
      refine ⟨rfl, _, rfl, p, q, rfl, B1, fun z H2 hz B2 K2 => ?_⟩
      refine ⟨_, K2.flat D _ h1 (flat_strs _), by rw [List.length_map]; exact small1000 (by omega), ?_⟩
      have hp : D ≠ p := fun z => by
        rw [z] at hD
        exact B.there.1 hD
      have hq : D ≠ q := fun z => by
        rw [z] at hD
        exact B.there.2 hD
      refine ⟨B2.keep (upd_ne hp.symm) (upd_ne hq.symm), (K1.trans K2).over hD, ys ++ [z], by rw [List.length_append, hys]; rfl, fun x hx => ?_, ?_⟩
      · rcases List.mem_append.mp hx with w | w
        · exact oky x w
        · rw [List.mem_singleton.mp w]
          exact hz
      · rw [upd_same, List.map_append]
        rfl
    · rintro H1 ⟨B1, K1, ys, hys, oky, h1⟩
      refine ⟨_, rfl, D, _, rfl, SqL.of h1, fun D2 hD2 => ?_⟩
      have nDD : D ≠ D2 := ne_of_none h1 hD2
      refine lc_it walk_enum (fun i H2 => Same H1 H2 ∧ ∃ zs : List Str, H2 D2 = some (.lst (zs.map V.str)) ∧ zs.length ≤ i ∧ (0 < i → 0 < zs.length) ∧ zs.Nodup ∧ ∀ z ∈ zs, z ∈ ys.take i)
        ⟨Same.newp hD2, [], upd_same, Nat.le_refl _, fun z => absurd z (by omega), List.nodup_nil, (by intro z hz; cases hz)⟩ (fun i H2 _ z => SqL.of (z.1 _ _ h1)) ?_ ?_
      · rintro i x H2 H3 hi ⟨e2, zs, h2, hz, hz0, nd, sub⟩ ⟨Tt, xk, xv, rfl, hT, rfl, ek, ev⟩
        cases ek
        have hi' : i < ys.length := by
          rw [List.length_map] at hi
          exact hi
        have ey : ys[i]? = some (ys[i]'hi') := List.getElem?_eq_getElem hi'
        generalize ys[i]'hi' = y at ey
        have tk : ys.take (i + 1) = ys.take i ++ [y] := by
          rw [List.take_add_one, ey]
          rfl
        have ev' : (ys.map V.str)[i]? = some xv := ev
        rw [List.getElem?_map, ey] at ev'
        cases ev'
        have e3 : Same H2 (upd H2 Tt (.tup [V.int (i : Nat), V.str y])) := Same.newp hT
        refine ⟨Tt, _, rfl, SqT.of upd_same, rfl, _, _, rfl, _, _, rfl, rfl, rfl, _, rfl, _, rfl, _, rfl, _, rfl, D, _, rfl, SqL.of (e3 _ _ (e2 _ _ h1)), fun p2 hp2 => ?_⟩
        refine ⟨p2, _, rfl, .inl (SqL.of upd_same), rfl, cutV_flat (flat_strs ys) _ _, _, rfl, ?_⟩
        have e4 := e3.trans (Same.newp (o := .lst (cutV (ys.map V.str) none (some ((i : Nat) : Int)))) hp2)
        have h4 := e4 _ _ h2
        have nD : ∀ b u, H1 b = some u → b ≠ D2 := fun b u e => ne_of_none e hD2
        have ein : inV (V.str y) (cutV (ys.map V.str) none (some ((i : Nat) : Int))) = decide (y ∈ ys.take i) := by
          rw [cutV_take, ← List.map_take, inV_strs]
        by_cases hb : y ∈ ys.take i
        · refine if_f (by show (!inV (V.str y) (cutV (ys.map V.str) none (some ((i : Nat) : Int)))) = false; rw [ein, decide_eq_true hb]; rfl) ⟨fun b u e => e4 _ _ (e2 _ _ e), zs, h4, by omega, fun _ => ?_, nd, fun z m => ?_⟩
          · by_cases i0 : i = 0
            · subst i0
              simp at hb
            · exact hz0 (by omega)
          · rw [tk]
            exact List.mem_append_left _ (sub z m)
        · refine if_t (by show (!inV (V.str y) (cutV (ys.map V.str) none (some ((i : Nat) : Int)))) = true; rw [ein, decide_eq_false hb]; rfl) ⟨_, rfl, _, h4, by rw [List.length_map]; exact small1000 (by omega), fun b u e => ?_, zs ++ [y], ?_, ?_, ?_, ?_, ?_⟩
          · rw [upd_ne (nD b u e)]
            exact e4 _ _ (e2 _ _ e)
          · rw [upd_same, List.map_append]
            rfl
          · rw [List.length_append, List.length_singleton]
            omega
          · intro _
            rw [List.length_append, List.length_singleton]
            omega
          · exact List.nodup_append.mpr ⟨nd, by simp, fun a ha b hb2 e => hb (by rw [← List.mem_singleton.mp hb2, ← e]; exact sub a ha)⟩
          · intro x hx
            rw [tk]
            rcases List.mem_append.mp hx with w | w
            · exact List.mem_append_left _ (sub x w)
            · exact List.mem_append_right _ w
      · rintro H2 ⟨e2, zs, h2, hz, hz0, nd, sub⟩
        rw [List.length_map] at hz hz0 sub
        rw [List.take_length] at sub
        exact k D2 zs H2 h2 nd (by omega) (fun w => hz0 (by omega)) (fun z m => oky z (sub z m)) (B1.same e2) (K1.trans (Keep.of e2)) (K1.has _ hD2)
theorem sc__law_cost : FnScope ["_law_bag_here", "_law_way"] ["_law_bag_here"] (defScope s__law_cost) := ⟨rfl, rfl, rfl, by decide +kernel, rfl, by decide +kernel, by decide +kernel⟩
theorem lo_cost (T : Tx K mg C M L) : OkF P w K mg base CX0 2 "_law_cost" ["_law_bag_here"] (spCostL) := by
  refine T.d_cost.ok sc__law_cost (fun _ _ _ _ _ _ us hl => match us, hl with | [_], _ => rfl) (fun vs H Q E h => ?_) (fun f cdv Ar outer st H vs Q E hr h => ?_)
  · obtain ⟨p, q, rfl, _⟩ := h
    rfl
  · obtain ⟨p, q, rfl, B, k⟩ := h
    refine ⟨_, (pss_cons (ps_set (i := 1) sc__law_cost.nd rfl (Or.inl rfl) (pe_f (ok_take T) (hr.mono (by decide)) pass0 (pa_cons (pv 0) (pa_cons pe_int pa_nil)))) (pss_cons (ps_if (pt_cmpR op_lt (pv 1) pe_int (nomark _)) (pss_one (ps_ret (pv 1))) pss_nil) (pss_one (ps_ret (pe_ix ix_list (pe_lst (pa_cons (pe_op op_add pe_int (pe_f (ok_take T) (hr.mono (by decide)) pass0 (pa_cons (pv 0) (pa_cons pe_int pa_nil)))) (pa_cons (pe_f (ok_take T) (hr.mono (by decide)) pass0 (pa_cons (pv 0) (pa_cons pe_int pa_nil))) pa_nil))) (pe_op op_sub (pv 1) pe_int) (fun _ _ => rfl)))))), ?_⟩
    refine ⟨_, rfl, p, q, 4, rfl, B, by decide, by decide, fun v H2 v0 v1 B2 but => ?_⟩
    have K2 : Keep [p] H H2 := Keep.bag B B2 but (by simp)
    refine ⟨_, rfl, _, _, rfl, rfl, _, rfl, ?_⟩
    by_cases e : v < 2
    · refine if_t (decide_eq_true e) ⟨_, rfl, k v H2 ?_ B2 K2⟩
      unfold okCost
      rw [decide_eq_true v0, decide_eq_true (by omega : v ≤ 99)]
      rfl
    refine if_f (decide_eq_false e) ?_
    refine ⟨_, rfl, p, q, 3, rfl, B2, by decide, by decide, fun u H3 u0 u1 B3 but3 => ⟨_, _, rfl, rfl, _, rfl, p, q, 100, rfl, B3, by decide, by decide, fun w H4 w0 w1 B4 but4 => ⟨(by show 2 ≤ sizeLine; decide), fun l hl => ?_⟩⟩⟩
    have K4 := (K2.trans (Keep.bag (ms := [p]) B2 B3 but3 (by simp))).trans (Keep.bag (ms := [p]) B3 B4 but4 (by simp))
    have ey : ∃ y, y ∈ [V.int (1 + u), V.int w] ∧ atI [V.int (1 + u), V.int w] (v - 2) = some y := atI_some (by omega) (by show v - 2 < 2; omega)
    obtain ⟨y, hy, ey⟩ := ey
    obtain ⟨m, rfl, m0, m8⟩ : ∃ m : Int, y = .int m ∧ 0 ≤ m ∧ m ≤ 99 := by
      simp only [List.mem_cons, List.not_mem_nil, or_false] at hy
      rcases hy with rfl | rfl
      · exact ⟨1 + u, rfl, by omega, by omega⟩
      · exact ⟨w, rfl, by omega, by omega⟩
    refine ⟨_, rfl, _, _, rfl, rfl, l, _, v - 2, _, rfl, rfl, SqL.of upd_same, ey, ?_⟩
    refine k m _ ?_ (B4.same (Same.newp hl)) (K4.trans (Keep.of (Same.newp hl)))
    unfold okCost
    rw [decide_eq_true m0, decide_eq_true m8]
    rfl
theorem sc__law_ends : FnScope ["_law_bag_here", "_law_shape", "_law_many", "_law_k", "_law_other"] ["_law_bag_here", "_law_shape", "_law_many", "_law_k"] (defScope s__law_ends) := ⟨rfl, rfl, rfl, by decide +kernel, rfl, by decide +kernel, by decide +kernel⟩
theorem lo_ends (T : Tx K mg C M L) : OkF P w K mg base CX0 2 "_law_ends" ["_law_bag_here", "_law_shape", "_law_many", "_law_k"] (spEndsL) := by
  refine T.d_ends.ok sc__law_ends (fun _ _ _ _ _ _ us hl => match us, hl with | [_, _, _, _], _ => rfl) (fun vs H Q E h => ?_) (fun f cdv Ar outer st H vs Q E hr h => ?_)
  · obtain ⟨p, q, w, n, i, rfl, _⟩ := h
    rfl
  · obtain ⟨p, q, w, n, i, rfl, B, n1, n2, i0, i1, k⟩ := h
    refine ⟨_, (pss_cons (ps_if (pt_cmpR op_eq (pv 1) pe_int (nomark _)) (pss_one (ps_ret (pe_tup (pa_cons (pe_op op_mod (pv 3) (pv 2)) (pa_cons (pe_op op_mod (pe_op op_add (pv 3) pe_int) (pv 2)) pa_nil))))) pss_nil) (pss_cons (ps_if (pt_cmpR op_eq (pv 1) pe_int (nomark _)) (pss_one (ps_ret (pe_tup (pa_cons (pe_op op_mod (pe_op op_add (pe_op op_add (pv 3) pe_int) (pe_f (ok_take T) (hr.mono (by decide)) pass0 (pa_cons (pv 0) (pa_cons pe_int pa_nil)))) (pv 2)) (pa_cons (pe_op op_mod (pv 3) (pv 2)) pa_nil))))) pss_nil) (pss_cons (ps_set (i := 4) sc__law_ends.nd rfl (Or.inl rfl) (pe_f (ok_take T) (hr.mono (by decide)) pass0 (pa_cons (pv 0) (pa_cons (pv 2) pa_nil)))) (pss_cons (ps_if (pt_cmpR op_eq (pv 1) pe_int (nomark _)) (pss_one (ps_ret (pe_tup (pa_cons (pe_f (ok_take T) (hr.mono (by decide)) pass0 (pa_cons (pv 0) (pa_cons (pv 2) pa_nil))) (pa_cons (pv 4) pa_nil))))) pss_nil) (pss_one (ps_ret (pe_tup (pa_cons (pe_op op_mod (pv 3) (pv 2)) (pa_cons (pv 4) pa_nil))))))))), ?_⟩
    have ml : ∀ x : Int, 0 ≤ x % n ∧ x % n < n := fun x => ⟨Int.emod_nonneg _ (by omega), Int.emod_lt_of_pos _ n1⟩
    refine ⟨_, rfl, rfl, _, rfl, ?_⟩
    by_cases e2 : w = 2
    · refine if_t (decide_eq_true (by rw [e2])) ?_
      refine ⟨_, rfl, _, rfl, _, _, rfl, rfl, n1, _, rfl, _, _, rfl, rfl, _, rfl, _, _, rfl, rfl, n1, (by show 2 ≤ sizeLine; decide), fun t ht => ?_⟩
      exact k t _ _ _ upd_same (ml _).1 (ml _).2 (ml _).1 (ml _).2 (B.same (Same.newp ht)) (Keep.of (Same.newp ht))
    refine if_f (decide_eq_false fun z => e2 (by injection z)) ?_
    refine ⟨_, rfl, rfl, _, rfl, ?_⟩
    by_cases e3 : w = 3
    · refine if_t (decide_eq_true (by rw [e3])) ?_
      refine ⟨_, rfl, _, _, rfl, rfl, _, rfl, p, q, 3, rfl, B, by decide, by decide, fun u H3 u0 u1 B3 but3 => ?_⟩
      refine ⟨_, _, rfl, rfl, _, rfl, _, _, rfl, rfl, n1, _, rfl, _, rfl, _, _, rfl, rfl, n1, (by show 2 ≤ sizeLine; decide), fun t ht => ?_⟩
      exact k t _ _ _ upd_same (ml _).1 (ml _).2 (ml _).1 (ml _).2 (B3.same (Same.newp ht)) ((Keep.bag B B3 but3 (by simp)).trans (Keep.of (Same.newp ht)))
    refine if_f (decide_eq_false fun z => e3 (by injection z)) ?_
    refine ⟨_, rfl, _, rfl, p, q, n, rfl, B, n1, by omega, fun v H2 v0 v1 B2 but => ?_⟩
    have K2 : Keep [p] H H2 := Keep.bag B B2 but (by simp)
    refine ⟨_, rfl, rfl, _, rfl, ?_⟩
    by_cases e4 : w = 0
    · refine if_t (decide_eq_true (by rw [e4])) ?_
      refine ⟨_, rfl, _, rfl, p, q, n, rfl, B2, n1, by omega, fun u H3 u0 u1 B3 but3 => ⟨_, rfl, (by show 2 ≤ sizeLine; decide), fun t ht => ?_⟩⟩
      exact k t _ _ _ upd_same u0 u1 v0 v1 (B3.same (Same.newp ht)) ((K2.trans (Keep.bag B2 B3 but3 (by simp))).trans (Keep.of (Same.newp ht)))
    refine if_f (decide_eq_false fun z => e4 (by injection z)) ?_
    refine ⟨_, rfl, _, rfl, _, _, rfl, rfl, n1, _, rfl, (by show 2 ≤ sizeLine; decide), fun t ht => ?_⟩
    exact k t _ _ _ upd_same (ml _).1 (ml _).2 v0 v1 (B2.same (Same.newp ht)) (K2.trans (Keep.of (Same.newp ht)))
end
end SM
namespace SM
open PySem PySem.Spec PyProof.Rows L2
open Evl (tCut pss_cut)
section
variable {P : Program} {w : World} {K : PySem.W.Frag} {mg : Str → Option Value} {base : Heap} {C : Nat → Addr} {M L : Addr}
theorem sc__law_lines : FnScope ["_law_bag_here", "_law_rooms", "_law_names_here", "_law_shape", "_law_lines_here", "_law_k", "_law_name_here", "_law_one", "_law_other", "_law_cost_here"] ["_law_bag_here", "_law_rooms", "_law_names_here"] (defScope s__law_lines) := ⟨rfl, rfl, rfl, by decide +kernel, rfl, by decide +kernel, by decide +kernel⟩
theorem lo_lines (T : Tx K mg C M L) : OkF P w K mg base CX0 3 "_law_lines" ["_law_bag_here", "_law_rooms", "_law_names_here"] (spLinesR) := by
  refine T.d_lines.ok sc__law_lines (fun _ _ _ _ _ _ us hl => match us, hl with | [_, _, _], _ => rfl) (fun vs H Q E h => ?_) (fun f cdv Ar outer st H vs Q E hr h => ?_)
  · obtain ⟨p, q, a, b, rs, ns, rfl, _⟩ := h
    rfl
  · obtain ⟨p, q, a, b, rs, ns, rfl, B, ha, hb, rN, r1, r24, nN, n40, k⟩ := h
    have hu := hu_of hr
    refine ⟨_, (pss_cons (ps_set (i := 3) sc__law_lines.nd rfl (Or.inl rfl) (pe_f (ok_take T) (hr.mono (by decide)) pass0 (pa_cons (pv 0) (pa_cons pe_int pa_nil)))) (pss_cons (ps_set (i := 4) sc__law_lines.nd rfl (Or.inl rfl) pe_dnewK) (pss_cons (ps_for PassesOwn.never rfl (pi_enum rfl T.b_enumerate (pa_cons (pv 2) pa_nil)) (pg_tupK (K := K) (n := 2) rfl rfl (pgs_cons (pg_name (i := 5) sc__law_lines.nd rfl (Or.inl rfl)) (pgs_cons (pg_name (i := 6) sc__law_lines.nd rfl (Or.inl rfl)) pgs_nil))) (pss_cons (ps_asg (pe_f (lo_ends T) (hr.mono (by decide)) pass0 (pa_cons (pv 0) (pa_cons (pv 3) (pa_cons (pe_callB call_len_seq (by rfl) T.b_len PySem.boot_len (pa_cons (pv 1) pa_nil)) (pa_cons (pv 5) pa_nil))))) (pg_tupK (K := K) (n := 2) rfl rfl (pgs_cons (pg_name (i := 7) sc__law_lines.nd rfl (Or.inl rfl)) (pgs_cons (pg_name (i := 8) sc__law_lines.nd rfl (Or.inl rfl)) pgs_nil)))) (pss_cons (ps_set (i := 9) sc__law_lines.nd rfl (Or.inl rfl) (pe_f (lo_cost T) (hr.mono (by decide)) pass0 (pa_cons (pv 0) pa_nil))) (pss_one (ps_if (pt_cmpR op_ne (pv 7) (pv 8) (nomark _)) (pss_one (ps_dput hu (pv 4) (pv 6) (pe_tup (pa_cons (pe_ix ix_list (pv 1) (pv 7) (fun _ _ => rfl)) (pa_cons (pe_ix ix_list (pv 1) (pv 8) (fun _ _ => rfl)) (pa_cons (pv 9) pa_nil)))) rfl)) pss_nil))))) (pss_one (ps_ret (pv 4)))))), ?_⟩
    refine ⟨_, rfl, p, q, 4, rfl, B, by decide, by decide, fun w H1 w0 w1 B1 but => ?_⟩
    have K1 : Keep [p] H H1 := Keep.bag B B1 but (by simp)
    have npa : ∀ {c : Addr} {xs : List Str}, H c = some (.lst (xs.map V.str)) → ∀ {G : Hp}, Keep [p] H G → G c = some (.lst (xs.map V.str)) := fun h G kk => kk.flat _ _ h (flat_strs _)
    intro D hD
    have K2 := K1.trans (Keep.of (ms := [p]) (Same.newp (o := .dK []) hD))
    have DN : H D = none := K1.has _ hD
    refine ⟨_, rfl, b, _, rfl, SqL.of (npa hb K2), ?_⟩
    refine for_it walk_enum (fun i σ G => (∃ x1 x2 x3 x4 x5 : Option V, σ = [some (.ref p), some (.ref a), some (.ref b), some (.int w), some (.ref D), x1, x2, x3, x4, x5]) ∧ Bag G p q ∧ Keep [p] H G ∧ ∃ (kvs : List (Key × V)) (ls : List (Str × LineV)), G D = some (.dK kvs) ∧ Kr (LineG G) kvs ls ∧
        (keys ls).Nodup ∧ (∀ x ∈ keys ls, x ∈ ns.take i) ∧ ls.length ≤ i ∧ ∀ e ∈ ls, e.2.1 ∈ rs ∧ e.2.2.1 ∈ rs ∧ e.2.1 ≠ e.2.2.1 ∧ okCost e.2.2.2 = true)
      ⟨⟨_, _, _, _, _, rfl⟩, B1.same (Same.newp hD), K2, [], [], upd_same, .nil, List.nodup_nil, (by intro x m; cases m), Nat.le_refl _, (by intro x m; cases m)⟩ (fun i σ G _ z => SqL.of (npa hb z.2.2.1)) ?_ ?_
    · rintro i x σ G G1 hi ⟨⟨x1, x2, x3, x4, x5, rfl⟩, B2, K3, kvs, ls, hd, hk, kN, kS, kL, kI⟩ ⟨Tt, xk, xv, rfl, hT, rfl, ek, ev⟩
      cases ek
      have ev' : (ns.map V.str)[i]? = some xv := ev
      rw [List.getElem?_map] at ev'
      obtain ⟨z, ez, rfl⟩ := Option.map_eq_some_iff.mp ev'
      have li : i < 40 := by
        have := (List.getElem?_eq_some_iff.mp ez).1
        omega
      have tk : ns.take (i + 1) = ns.take i ++ [z] := by
        rw [List.take_add_one, ez]
        rfl
      have new : z ∉ ns.take i := fun m => by
        have n2 : (ns.take (i + 1)).Nodup := nN.take
        rw [tk] at n2
        exact (List.nodup_append.mp n2).2.2 z m z (.head _) rfl
      have e3 : Same G (upd G Tt (.tup [V.int (i : Nat), V.str z])) := Same.newp hT
      have B3 := B2.same e3
      have K4 := K3.trans (Keep.of (ms := [p]) e3)
      refine ⟨Tt, _, rfl, SqT.of upd_same, rfl, _, _, rfl, _, _, rfl, rfl, ?_⟩
      refine ⟨_, rfl, _, rfl, _, rfl, a, _, rfl, .inl (SqL.of (npa ha K4)), _, rfl, p, q, w, _, _, rfl, B3, by rw [List.length_map]; omega, by rw [List.length_map]; omega, by omega, by omega, fun t c d H5 ht c0 c1 d0 d1 B5 K5 => ?_⟩
      rw [List.length_map] at c1 d1
      refine ⟨t, _, rfl, SqT.of ht, rfl, _, _, rfl, _, _, rfl, rfl, ?_⟩
      refine ⟨_, rfl, p, q, rfl, B5, fun m H6 mok B6 K6 => ?_⟩
      have K7 := (K4.trans K5).trans K6
      have hd6 : H6 D = some (.dK kvs) := (K5.trans K6).out _ _ (e3 _ _ hd) (by simpa using (B2.nd hd).1.symm)
      have hk6 := (hk.mono fun v e ⟨t, et, w⟩ => ⟨t, et, e3 _ _ w⟩ : Kr (LineG (upd G Tt (.tup [V.int (i : Nat), V.str z]))) kvs ls).line (K5.trans K6)
      refine ⟨_, rfl, _, rfl, rfl, _, rfl, ?_⟩
      by_cases cd : V.int c = V.int d
      · refine if_f (by show (!decide (V.int c = V.int d)) = false; rw [decide_eq_true cd]; rfl) ⟨⟨_, _, _, _, _, rfl⟩, B6, K7, kvs, ls, hd6, hk6, kN, fun x m => ?_, by omega, kI⟩
        rw [tk]
        exact List.mem_append_left _ (kS x m)
      refine if_t (by show (!decide (V.int c = V.int d)) = true; rw [decide_eq_false cd]; rfl) ?_
      obtain ⟨r1', er1, ar1⟩ := atI_strs c0 c1
      obtain ⟨r2', er2, ar2⟩ := atI_strs d0 d1
      have ne : r1' ≠ r2' := fun w => cd (by
        have l1 := (List.getElem?_eq_some_iff.mp er1).1
        have l2 := (List.getElem?_eq_some_iff.mp er2).1
        have e12 : rs[c.toNat]? = rs[d.toNat]? := by rw [er1, er2, w]
        have e13 : c.toNat = d.toNat := (List.getElem?_inj l1 rN).mp e12
        rw [show c = d by omega])
      have ha6 := npa ha K7
      refine ⟨_, rfl, _, rfl, a, _, c, _, rfl, rfl, SqL.of ha6, ar1, _, rfl, _, rfl, a, _, d, _, rfl, rfl, SqL.of ha6, ar2, _, rfl, (by show 3 ≤ sizeLine; decide), fun t2 ht2 => ?_⟩
      have e7 : Same H6 (upd H6 t2 (.tup [.str r1', .str r2', .int m])) := Same.newp ht2
      have hd7 := e7 _ _ hd6
      refine ⟨_, rfl, _, rfl, D, _, rfl, DPut.k (k := Sum.inr z) hd7 (small1000 (by rw [hk6.len]; omega)), ?_⟩
      have zk : z ∉ keys ls := fun w => new (kS z w)
      refine ⟨⟨_, _, _, _, _, rfl⟩, (B6.same e7).keep (upd_ne (B6.nd hd6).1) (upd_ne (B6.nd hd6).2), (K7.trans (Keep.of e7)).over DN, _, ls ++ [(z, (r1', r2', m))], upd_same, ?_, ?_, ?_, ?_, ?_⟩
      · have off : ∀ t (xs : List V), H6 t = some (.tup xs) → upd (upd H6 t2 (.tup [.str r1', .str r2', .int m])) D (.dK (putK kvs (Sum.inr z) (.ref t2))) t = some (.tup xs) := fun t xs w => (upd_ne (ne_of w hd6 (by intro x; cases x))).trans (e7 _ _ w)
        exact (hk6.mono fun v e ⟨t, et, w⟩ => ⟨t, et, off _ _ w⟩).put (look_none.mpr zk) ⟨t2, rfl, (upd_ne (ne_of upd_same hd7 (by intro x; cases x))).trans upd_same⟩
      · rw [keys_snoc]
        exact List.nodup_append.mpr ⟨kN, by simp, fun x hx y hy e => zk (by rw [← List.mem_singleton.mp hy, ← e]; exact hx)⟩
      · rw [keys_snoc, tk]
        intro x m
        rcases List.mem_append.mp m with m | m
        · exact List.mem_append_left _ (kS x m)
        · exact List.mem_append_right _ m
      · rw [List.length_append, List.length_singleton]
        omega
      · intro e me
        rcases List.mem_append.mp me with me | me
        · exact kI e me
        · rw [List.mem_singleton.mp me]
          exact ⟨List.mem_of_getElem? er1, List.mem_of_getElem? er2, ne, mok⟩
    · rintro σ G ⟨⟨x1, x2, x3, x4, x5, rfl⟩, B2, K3, kvs, ls, hd, hk, kN, kS, kL, kI⟩
      rw [List.length_map] at kL kS
      rw [List.take_length] at kS
      exact ⟨_, rfl, k D G kvs ls hd hk kN kS kL kI B2 K3 DN⟩
end
end SM
namespace SM
open PySem PySem.Spec PyProof.Rows L2
open Evl (tCut pss_cut)
section
variable {P : Program} {w : World} {K : PySem.W.Frag} {mg : Str → Option Value} {base : Heap} {C : Nat → Addr} {M L : Addr}
theorem sc__law_world : FnScope ["_law_bag_here", "_law_way", "_law_many", "_law_count", "_law_wells", "_law_rooms", "_law_names_here", "_law_lines_here", "_law_drains", "_law_name_here", "_law_share", "_law_sources", "_law_room"] ["_law_bag_here"] (defScope s__law_world) := ⟨rfl, rfl, rfl, by decide +kernel, rfl, by decide +kernel, by decide +kernel⟩
theorem lo_world (T : Tx K mg C M L) : OkF P w K mg base CX0 4 "_law_world" ["_law_bag_here"] (spWorld) := by
  refine T.d_world.ok sc__law_world (fun _ _ _ _ _ _ us hl => match us, hl with | [_], _ => rfl) (fun vs H Q E h => ?_) (fun f cdv Ar outer st H vs Q E hr h => ?_)
  · obtain ⟨p, q, rfl, _⟩ := h
    rfl
  · obtain ⟨p, q, rfl, B, k⟩ := h
    refine ⟨_, (pss_cons (ps_set (i := 1) sc__law_world.nd rfl (Or.inl rfl) (pe_f (ok_take T) (hr.mono (by decide)) pass0 (pa_cons (pv 0) (pa_cons pe_int pa_nil)))) (pss_cons (ps_set (i := 2) sc__law_world.nd rfl (Or.inl rfl) (pe_op op_add (pe_ix ix_list (pe_lst (pa_cons pe_int (pa_cons pe_int (pa_cons pe_int (pa_cons pe_int pa_nil))))) (pv 1) (fun _ _ => rfl)) (pe_f (ok_take T) (hr.mono (by decide)) pass0 (pa_cons (pv 0) (pa_cons (pe_ix ix_list (pe_lst (pa_cons pe_int (pa_cons pe_int (pa_cons pe_int (pa_cons pe_int pa_nil))))) (pv 1) (fun _ _ => rfl)) pa_nil))))) (pss_cons (ps_set (i := 3) sc__law_world.nd rfl (Or.inl rfl) (pe_callB (call_min2 rfl) (by rfl) T.b_min (by decide +kernel) (pa_cons pe_int (pa_cons (pe_op op_fdiv (pe_op op_mul (pv 2) (pe_ix ix_list (pe_lst (pa_cons pe_int (pa_cons pe_int (pa_cons pe_int (pa_cons pe_int pa_nil))))) (pe_f (ok_take T) (hr.mono (by decide)) pass0 (pa_cons (pv 0) (pa_cons pe_int pa_nil))) (fun _ _ => rfl))) pe_int) pa_nil)))) (pss_cons (ps_set (i := 4) sc__law_world.nd rfl (Or.inl rfl) (pe_ix ix_list (pe_lst (pa_cons pe_int (pa_cons pe_int (pa_cons pe_int (pa_cons pe_int pa_nil))))) (pe_f (ok_take T) (hr.mono (by decide)) pass0 (pa_cons (pv 0) (pa_cons pe_int pa_nil))) (fun _ _ => rfl))) (pss_cons (ps_set (i := 5) sc__law_world.nd rfl (Or.inr rfl) (pe_slice sl_list (pe_f (lo_names T) (hr.mono (by decide)) pass0 (pa_cons (pv 0) (pa_cons (pe_op op_mul pe_int (pv 2)) pa_nil))) po_none (po_some (pv 2)))) (pss_cons (ps_set (i := 6) sc__law_world.nd rfl (Or.inl rfl) (pe_f (lo_names T) (hr.mono (by decide)) pass0 (pa_cons (pv 0) (pa_cons (pe_op op_mul pe_int (pe_op op_add (pv 3) (pv 4))) pa_nil)))) (pss_cons (ps_set (i := 7) sc__law_world.nd rfl (Or.inl rfl) (pe_f (lo_lines T) (hr.mono (by decide)) pass0 (pa_cons (pv 0) (pa_cons (pv 5) (pa_cons (pe_slice sl_list (pe_slice sl_list (pv 6) (po_some (pv 4)) po_none) po_none (po_some (pv 3))) pa_nil))))) (pss_cons (ps_set (i := 8) sc__law_world.nd rfl (Or.inl rfl) (pe_callTy (call_dictP rfl) (by rfl) T.b_dict (by decide +kernel) (pa_cons (pe_lc (own := [("_law_name_here", 9)]) rfl sc__law_world.nd (pi_list (pe_slice sl_list (pv 6) po_none (po_some (pv 4)))) (blkOk_by (N := ["_law_bag_here", "_law_way", "_law_many", "_law_count", "_law_wells", "_law_rooms", "_law_names_here", "_law_lines_here", "_law_drains", "_law_name_here", "_law_share", "_law_sources", "_law_room"]) (sc := (defScope s__law_world)) (by decide +kernel)) (fun _ _ _ _ _ => (pg_name (i := 9) sc__law_world.nd rfl (Or.inl rfl))) (fun _ _ _ _ _ => pts_nil) (fun _ _ _ _ _ => (pe_tup (pa_cons (pv 9) (pa_cons (pe_ix (ix_listK (K := K) rfl) (pv 5) (pe_f (ok_take T) (hr.mono (by decide)) pass0 (pa_cons (pv 0) (pa_cons (pe_callB (call_len_seqK (K := K) rfl) (by rfl) T.b_len PySem.boot_len (pa_cons (pv 5) pa_nil)) pa_nil))) (fun _ _ => rfl)) pa_nil))))) pa_nil))) (pss_cons (ps_set (i := 10) sc__law_world.nd rfl (Or.inr rfl) (pe_ix ix_list (pe_lst (pa_cons pe_int (pa_cons pe_int (pa_cons pe_int (pa_cons pe_int pa_nil))))) (pe_f (ok_take T) (hr.mono (by decide)) pass0 (pa_cons (pv 0) (pa_cons pe_int pa_nil))) (fun _ _ => rfl))) (pss_cons (ps_setLc (i := 11) (own := [("_law_room", 12)]) rfl sc__law_world.nd rfl rfl (sw_true rfl rfl rfl (by decide +kernel)) (pi_list (pv 5)) (blkOk_by (N := ["_law_bag_here", "_law_way", "_law_many", "_law_count", "_law_wells", "_law_rooms", "_law_names_here", "_law_lines_here", "_law_drains", "_law_name_here", "_law_share", "_law_sources", "_law_room"]) (sc := (defScope s__law_world)) (by decide +kernel)) (fun _ _ _ _ _ => (pg_name (i := 12) sc__law_world.nd rfl (Or.inl rfl))) (fun _ _ _ _ _ => (pts_one (pt_cmpR op_eq (pe_f (ok_take T) (hr.mono (by decide)) pass0 (pa_cons (pv 0) (pa_cons (pv 10) pa_nil))) pe_int (nomark _)))) (fun _ _ _ _ _ => (pv 12))) (pss_one (ps_ret (pe_disp (pps_cons pe_str (pv 5) (pps_cons pe_str (pv 7) (pps_cons pe_str (pv 8) (pps_cons pe_str (pv 11) pps_nil)))) (by rfl) (by rfl) (fun z => by cases z) (by decide)))))))))))))), ?_⟩
    refine ⟨_, rfl, p, q, 4, rfl, B, by decide, by decide, fun v H1 v0 v1 B1 b1 => ?_⟩
    have K1 : Keep [p] H H1 := Keep.bag B B1 b1 (by simp)
    obtain ⟨y, t, ey, et, y1, t1, t10, yt⟩ := pickM v0 v1
    refine ⟨(by show 4 ≤ sizeLine; decide), fun l1 g1 => ?_⟩
    have s1 : Same H1 (upd H1 l1 (.lst [V.int 1, V.int 2, V.int 8, V.int 24])) := Same.newp g1
    refine ⟨_, rfl, l1, _, v, _, rfl, rfl, SqL.of upd_same, ey, _, rfl, (by show 4 ≤ sizeLine; decide), fun l2 g2 => ?_⟩
    have s2 := s1.trans (Same.newp (o := .lst [V.int 3, V.int 6, V.int 10, V.int 1]) g2)
    refine ⟨_, rfl, l2, _, v, _, rfl, rfl, SqL.of upd_same, et, p, q, t, rfl, B1.same s2, by omega, by omega, fun u H2 u0 u1 B2 b2 => ⟨_, _, rfl, rfl, ?_⟩⟩
    have K2 : Keep [p] H H2 := (K1.trans (Keep.of s2)).trans (Keep.bag (B1.same s2) B2 b2 (by simp))
    obtain ⟨M, hM, M1, M24⟩ : ∃ M : Nat, y + u = (M : Int) ∧ 1 ≤ M ∧ M ≤ 24 := ⟨(y + u).toNat, by omega, by omega, by omega⟩
    dsimp only
    rw [hM]
    clear hM ey et s1 s2
    refine ⟨_, rfl, (by show 4 ≤ sizeLine; decide), fun l3 g3 => ?_⟩
    have s3 : Same H2 (upd H2 l3 (.lst [V.int 1, V.int 2, V.int 3, V.int 40])) := Same.newp g3
    refine ⟨_, rfl, p, q, 4, rfl, B2.same s3, by decide, by decide, fun v3 H3 v30 v31 B3 b3 => ?_⟩
    have k3 : Keep [p] (upd H2 l3 (.lst [V.int 1, V.int 2, V.int 3, V.int 40])) H3 := Keep.bag (B2.same s3) B3 b3 (by simp)
    have K3 := (K2.trans (Keep.of s3)).trans k3
    obtain ⟨c, ec, c1, c40⟩ := pickC v30 v31
    refine ⟨l3, _, v3, _, rfl, rfl, SqL.of (k3.flat _ _ upd_same rfl), ec, _, _, rfl, rfl, .inl ⟨by omega, by omega⟩, _, _, rfl, rfl, ⟨by decide, by decide⟩, _, _, rfl, ?_⟩
    obtain ⟨Cn, hC, C40⟩ : ∃ Cn : Nat, (if (M : Int) * c / 2 < 40 then (M : Int) * c / 2 else 40) = (Cn : Int) ∧ Cn ≤ 40 := by
      have : 0 ≤ (M : Int) * c / 2 := Int.ediv_nonneg (Int.mul_nonneg (by omega) (by omega)) (by decide)
      by_cases h : (M : Int) * c / 2 < 40
      · rw [if_pos h]
        exact ⟨((M : Int) * c / 2).toNat, by omega, by omega⟩
      · rw [if_neg h]
        exact ⟨40, rfl, by decide⟩
    dsimp only
    rw [hC]
    clear hC ec
    refine ⟨(by show 4 ≤ sizeLine; decide), fun l4 g4 => ?_⟩
    have s4 : Same H3 (upd H3 l4 (.lst [V.int 0, V.int 2, V.int 5, V.int 12])) := Same.newp g4
    refine ⟨_, rfl, p, q, 4, rfl, B3.same s4, by decide, by decide, fun v4 H4 v40 v41 B4 b4 => ?_⟩
    have k4 : Keep [p] (upd H3 l4 (.lst [V.int 0, V.int 2, V.int 5, V.int 12])) H4 := Keep.bag (B3.same s4) B4 b4 (by simp)
    have K4 := (K3.trans (Keep.of s4)).trans k4
    obtain ⟨W, ew, W12⟩ := pickW v40 v41
    refine ⟨l4, _, v4, _, rfl, rfl, SqL.of (k4.flat _ _ upd_same rfl), ew, ?_⟩
    refine ⟨_, rfl, _, rfl, _, _, rfl, rfl, .inl ⟨by omega, by omega⟩, p, q, _, rfl, B4, by omega, by omega, fun a5 ys H5 h5 nd5 len5 pos5 ok5 B5 K5 n5 => ?_⟩
    refine ⟨_, rfl, _, rfl, a5, _, rfl, SqL.of h5, fun a6 g6 => ?_⟩
    dsimp only
    rw [cutV_take, ← List.map_take]
    have s6 : Same H5 (upd H5 a6 (.lst ((ys.take M).map V.str))) := Same.newp g6
    have rN : (ys.take M).Nodup := nd5.take
    have rl : (ys.take M).length ≤ 24 := by
      rw [List.length_take]
      omega
    have r0 : 0 < (ys.take M).length := by
      have := pos5 (by omega)
      rw [List.length_take]
      omega
    have rG : ∀ x ∈ ys.take M, okName x = true := fun x m => ok5 x (List.mem_of_mem_take m)
    generalize ys.take M = rs at s6 rN rl r0 rG ⊢
    have h6 : upd H5 a6 (.lst (rs.map V.str)) a6 = some (.lst (rs.map V.str)) := upd_same
    have K6 := (K4.trans K5).trans (Keep.of s6)
    have B6 := B5.same s6
    generalize upd H5 a6 (.lst (rs.map V.str)) = H6 at h6 K6 B6 ⊢
    clear s6 g6
    refine ⟨_, rfl, _, rfl, _, rfl, _, _, rfl, rfl, _, _, rfl, rfl, .inl ⟨by omega, by omega⟩, p, q, _, rfl, B6, by omega, by omega, fun a7 ns H7 h7 nd7 len7 pos7 ok7 B7 K7 n7 => ?_⟩
    refine ⟨_, rfl, _, rfl, _, rfl, _, rfl, _, rfl, a7, _, rfl, SqL.of h7, fun a8 g8 => ?_⟩
    dsimp only
    rw [cutV_drop, ← List.map_drop]
    have s8 : Same H7 (upd H7 a8 (.lst ((ns.drop W).map V.str))) := Same.newp g8
    refine ⟨_, rfl, _, rfl, a8, _, rfl, SqL.of upd_same, fun a9 g9 => ?_⟩
    dsimp only
    rw [cutV_take, ← List.map_take]
    have s9 := s8.trans (Same.newp (o := .lst (((ns.drop W).take Cn).map V.str)) g9)
    have h6' := K7.flat _ _ h6 (flat_strs _)
    refine ⟨p, q, a6, a9, rs, (ns.drop W).take Cn, rfl, B7.same s9, s9 _ _ h6', upd_same, rN, r0, rl, (nd7.drop).take, by rw [List.length_take]; omega, fun D H8 kvs ls hd8 hk8 kN kS kL kI B8 K8 DN => ?_⟩
    have K9 : Keep [p] H7 H8 := (Keep.of s9).trans K8
    have h6b := K9.flat _ _ h6' (flat_strs _)
    have h7b := K9.flat _ _ h7 (flat_strs _)
    have KH := (K6.trans K7).trans K9
    have l40 : ls.length ≤ 40 := by
      rw [List.length_take] at kL
      omega
    clear s8 s9
    refine ⟨_, rfl, _, rfl, _, rfl, a7, _, rfl, SqL.of h7b, fun a10 g10 => ?_⟩
    dsimp only
    rw [cutV_take, ← List.map_take]
    have s10 : Same H8 (upd H8 a10 (.lst ((ns.take W).map V.str))) := Same.newp g10
    refine ⟨a10, rfl, ⟨_, SqL.of upd_same⟩, fun C hC => ?_⟩
    have s11 : Same H8 (upd (upd H8 a10 (.lst ((ns.take W).map V.str))) C (.lst [])) := s10.trans (Same.newp hC)
    have CN : H8 C = none := s10.free hC
    have pC : p ≠ C := fun w => B8.there.1 (by rw [w]; exact CN)
    have qC : q ≠ C := fun w => B8.there.2 (by rw [w]; exact CN)
    have w12 : (ns.take W).length ≤ 12 := by
      rw [List.length_take]
      omega
    refine lc_list (K := K) (a := a10) (xs := (ns.take W).map V.str) (fun i G => Bag G p q ∧ Keep [p] H8 G ∧ G a10 = some (.lst ((ns.take W).map V.str)) ∧ ∃ (ts : List Addr) (ds : List (Str × Str)), G C = some (.lst (ts.map V.ref)) ∧ ts.length = i ∧ Paired (fun t (d : Str × Str) => G t = some (.tup [.str d.1, .str d.2])) ts ds ∧
        keys ds = (ns.take W).take i ∧ ∀ d ∈ ds, d.2 ∈ rs) ⟨B8.same s11, Keep.of s11, (upd_ne (ne_of_none upd_same hC)).trans upd_same, [], [], upd_same, rfl, .nil, rfl, (by intro d m; cases m)⟩ (fun i G _ z => SqL.of z.2.2.1) ?_ ?_
    · rintro i x G hi ⟨BG, KG, hG, ts, ds, hc, tl, hp, kd, dr⟩
      rw [List.getElem?_map] at hi
      obtain ⟨z, ez, rfl⟩ := Option.map_eq_some_iff.mp hi
      have li : i < 12 := by
        have := (List.getElem?_eq_some_iff.mp ez).1
        omega
      have ha := KG.flat _ _ h6b (flat_strs _)
      refine ⟨rfl, _, rfl, _, rfl, _, rfl, _, rfl, a6, _, rfl, .inl (SqL.of ha), p, q, _, rfl, BG, by rw [List.length_map]; omega, by rw [List.length_map]; omega, fun j G1 j0 j1 BG1 bG1 => ?_⟩
      rw [List.length_map] at j1
      obtain ⟨r, er, ar⟩ := atI_strs j0 j1
      have kG1 : Keep [p] G G1 := Keep.bag BG BG1 bG1 (by simp)
      refine ⟨a6, _, j, _, rfl, rfl, SqL.of (kG1.flat _ _ ha (flat_strs _)), ar, (by show 2 ≤ sizeLine; decide), fun t ht => ?_⟩
      have e2 : Same G1 (upd G1 t (.tup [.str z, .str r])) := Same.newp ht
      have hc1 : G1 C = some (.lst (ts.map V.ref)) := kG1.out _ _ hc (by simpa using pC.symm)
      refine ⟨_, e2 _ _ hc1, ?_, (BG1.same e2).keep (upd_ne pC) (upd_ne qC), ((KG.trans kG1).trans (Keep.of e2)).over CN, ?_, ts ++ [t], ds ++ [(z, r)], ?_, ?_, ?_, ?_, ?_⟩
      · rw [List.length_map]
        exact small1000 (by omega)
      · have na : a10 ≠ C := ne_of_none upd_same hC
        exact (upd_ne na).trans (e2 _ _ (kG1.flat _ _ hG (flat_strs _)))
      · rw [upd_same, List.map_append]
        rfl
      · rw [List.length_append, tl]
        rfl
      · have off : ∀ c xs, upd G1 t (.tup [.str z, .str r]) c = some (.tup xs) → upd (upd G1 t (.tup [.str z, .str r])) C (.lst (ts.map V.ref ++ [.ref t])) c = some (.tup xs) := fun c xs w => (upd_ne (ne_of w (e2 _ _ hc1) (by intro x; cases x))).trans w
        exact Paired.snoc (Paired.mono (fun _ _ w => off _ _ (e2 _ _ (kG1.tup _ _ w))) hp) (off _ _ upd_same)
      · rw [keys_snoc, kd, List.take_add_one, ez]
        rfl
      · intro d m
        rcases List.mem_append.mp m with m | m
        · exact dr d m
        · rw [List.mem_singleton.mp m]
          exact List.mem_of_getElem? er
    rintro G ⟨BG, KG, hG, ts, ds, hc, tl, hp, kd, dr⟩
    rw [List.length_map] at kd
    rw [List.take_length] at kd
    have dN : (keys ds).Nodup := by
      rw [kd]
      exact nd7.take
    have dl : ds.length ≤ 12 := by
      have : (keys ds).length = ds.length := by simp [keys]
      rw [← this, kd]
      exact w12
    refine ⟨C, ts, ds.map fun d => ((Sum.inr d.1 : Key), V.str d.2), rfl, SqL.of hc, dict_pairs hp, fun d hd => ?_⟩
    rw [mergeK_new (kvs := []) (by rw [List.map_map]; exact nodup_inr dN) (fun _ _ => rfl), List.nil_append]
    have e12 : Same G (upd G d (.dK (ds.map fun d => ((Sum.inr d.1 : Key), V.str d.2)))) := Same.newp hd
    have B12 := BG.same e12
    have K12 := (KH.trans KG).trans (Keep.of (ms := [p]) e12)
    have hd12 : upd G d (.dK (ds.map fun d => ((Sum.inr d.1 : Key), V.str d.2))) d = some (.dK (ds.map fun d => ((Sum.inr d.1 : Key), V.str d.2))) := upd_same
    have hl12 := e12 _ _ (KG.out _ _ hd8 (by simpa using (B8.nd hd8).1.symm))
    have hk12 := hk8.line (KG.trans (Keep.of (ms := [p]) e12))
    have ha12 := e12 _ _ (KG.flat _ _ h6b (flat_strs _))
    generalize upd G d (.dK (ds.map fun d => ((Sum.inr d.1 : Key), V.str d.2))) = G2 at B12 K12 hd12 hl12 hk12 ha12 ⊢
    clear e12 hd
    refine ⟨(by show 4 ≤ sizeLine; decide), fun l13 g13 => ?_⟩
    have s13 : Same G2 (upd G2 l13 (.lst [V.int 1, V.int 3, V.int 6, V.int 40])) := Same.newp g13
    refine ⟨_, rfl, p, q, 4, rfl, B12.same s13, by decide, by decide, fun v13 H13 v130 v131 B13 b13 => ?_⟩
    have k13 : Keep [p] (upd G2 l13 (.lst [V.int 1, V.int 3, V.int 6, V.int 40])) H13 := Keep.bag (B12.same s13) B13 b13 (by simp)
    obtain ⟨sr, es, sr1, sr40⟩ := pickS v130 v131
    refine ⟨l13, _, v13, _, rfl, rfl, SqL.of (k13.flat _ _ upd_same rfl), es, ?_⟩
    have k14 : Keep [p] G2 H13 := (Keep.of s13).trans k13
    have ha14 := k14.flat _ _ ha12 (flat_strs _)
    refine ⟨_, rfl, a6, rfl, ⟨_, SqL.of ha14⟩, fun F hF => ?_⟩
    have FN : H13 F = none := hF
    have pF : p ≠ F := fun w => B13.there.1 (by rw [w]; exact FN)
    have qF : q ≠ F := fun w => B13.there.2 (by rw [w]; exact FN)
    refine lc_list (K := K) (a := a6) (xs := rs.map V.str) (fun i G => Bag G p q ∧ Keep [p] H13 G ∧ ∃ ss : List Str, G F = some (.lst (ss.map V.str)) ∧ ss.length ≤ i ∧ ss.Sublist (rs.take i)) ⟨B13.same (Same.newp hF), Keep.of (Same.newp hF), [], upd_same, Nat.le_refl _, List.nil_sublist _⟩ (fun i G _ z => SqL.of (z.2.1.flat _ _ ha14 (flat_strs _))) ?_ ?_
    · rintro i x G hi ⟨BG, KG, ss, hc, sl, sb⟩
      rw [List.getElem?_map] at hi
      obtain ⟨z, ez, rfl⟩ := Option.map_eq_some_iff.mp hi
      have li : i < 24 := by
        have := (List.getElem?_eq_some_iff.mp ez).1
        omega
      have tk : rs.take (i + 1) = rs.take i ++ [z] := by
        rw [List.take_add_one, ez]
        rfl
      refine ⟨rfl, _, rfl, _, rfl, p, q, sr, rfl, BG, by omega, by omega, fun u G1 u0 u1 BG1 bG1 => ?_⟩
      have kG1 : Keep [p] G G1 := Keep.bag BG BG1 bG1 (by simp)
      have hc1 := kG1.flat _ _ hc (flat_strs _)
      refine ⟨rfl, _, rfl, ?_⟩
      by_cases e0 : V.int u = V.int 0
      · refine if_t (decide_eq_true e0) ⟨_, rfl, _, hc1, ?_, BG1.keep (upd_ne pF) (upd_ne qF), (KG.trans kG1).over FN, ss ++ [z], ?_, ?_, ?_⟩
        · rw [List.length_map]
          exact small1000 (by omega)
        · rw [upd_same, List.map_append]
          rfl
        · rw [List.length_append, List.length_singleton]
          omega
        · rw [tk]
          exact List.Sublist.append sb (List.Sublist.refl _)
      · refine if_f (decide_eq_false e0) ⟨BG1, KG.trans kG1, ss, hc1, by omega, ?_⟩
        rw [tk]
        exact sb.trans (List.sublist_append_left _ _)
    rintro G ⟨BG3, KG3, ss, hc3, sl3, sb3⟩
    rw [List.length_map, List.take_length] at sb3
    intro m hm
    have kk := k14.trans KG3
    have dm : ∀ c o, G c = some o → c ≠ m := fun c o w => ne_of_none w hm
    have a3 := kk.flat _ _ ha12 (flat_strs _)
    have l3 := kk.out _ _ hl12 (by simpa using (B12.nd hl12).1.symm)
    have d3 := kk.out _ _ hd12 (by simpa using (B12.nd hd12).1.symm)
    have hk3 := hk12.line kk
    have off : ∀ c o, G c = some o → ∀ u, upd (upd G m (.dK [])) m u c = some o := fun c o w u => (upd_ne (dm c o w)).trans ((upd_ne (dm c o w)).trans w)
    refine ⟨_, rfl, _, rfl, _, rfl, _, rfl, upd_same, mtop ⟨m, D, d, false⟩ a6 F, rfl, (by show 4 ≤ 15; decide), ?_⟩
    rw [mtop_merge]
    have eS : Same G (upd (upd G m (.dK [])) m (.dK (mtop ⟨m, D, d, false⟩ a6 F))) := fun c o w => off c o w _
    refine k m D d a6 F ⟨rs, ls, ds, ss⟩ _ ⟨upd_same, eS _ _ a3, ⟨_, eS _ _ l3, hk3.mono fun v e ⟨t, et, w⟩ => ⟨t, et, eS _ _ w⟩⟩, ⟨_, eS _ _ d3, drains_kr⟩, eS _ _ hc3, ?_, r0, fun x m1 m2 => ?_, ⟨(dm _ _ d3).symm, (dm _ _ l3).symm⟩⟩ (BG3.same eS) ((K12.trans kk).trans (Keep.of eS))
    · refine ⟨rN, rl, kN, l40, dN, dl, sb3.nodup rN, fun x mx => sb3.subset mx, kI, dr, rG, fun x mx => ok7 x (List.mem_of_mem_drop (List.mem_of_mem_take (kS x mx))), fun x mx => ?_⟩
      rw [show keys (⟨rs, ls, ds, ss⟩ : LS).drains = ns.take W from kd] at mx
      exact ok7 x (List.mem_of_mem_take mx)
    · have q1 := List.mem_of_mem_take (kS x m1)
      rw [show keys (⟨rs, ls, ds, ss⟩ : LS).drains = ns.take W from kd] at m2
      have n2 := nd7
      rw [← List.take_append_drop W ns] at n2
      exact (List.nodup_append.mp n2).2.2 x m2 x q1 rfl
end
end SM
namespace SM
open PySem PySem.Spec PyProof.Rows L2
open Evl (tCut pss_cut)
section
variable {P : Program} {w : World} {K : PySem.W.Frag} {mg : Str → Option Value} {base : Heap} {C : Nat → Addr} {M L : Addr}
theorem sc__law_laid : FnScope ["_law_m", "_law_layout", "_law_room", "_law_name_here", "_law_one", "_law_other", "_law_cost_here"] ["_law_m"] (defScope s__law_laid) := ⟨rfl, rfl, rfl, by decide +kernel, rfl, by decide +kernel, by decide +kernel⟩
theorem lo_laid (T : Tx K mg C M L) : OkF P w K mg base CX0 5 "_law_laid" ["_law_m"] (spLaid L) := by
  refine T.d_laid.ok sc__law_laid (fun _ _ _ _ _ _ us hl => match us, hl with | [_], _ => rfl) (fun vs H Q E h => ?_) (fun f cdv Ar outer st H vs Q E hr h => ?_)
  · obtain ⟨m, l, d, a, b, S, rfl, _⟩ := h
    rfl
  · obtain ⟨m, l, d, a, b, S, rfl, W, k⟩ := h
    have hu := hu_of hr
    obtain ⟨top, rm, ⟨k2, l1, l2⟩, ⟨k3, d1, d2⟩, sc, hS, ne0, ap, mne⟩ := id W
    refine ⟨_, (pss_cons (ps_set (i := 1) sc__law_laid.nd rfl (Or.inl rfl) (pe_mk0 T.mkL T.kL (ok_initL T.toLx) (hr.mono (by decide)) T.gL pass0)) (pss_cons (ps_for PassesOwn.never rfl (pi_list (pe_dget hu (pv 0) pe_str (fun _ _ => rfl))) (pg_name (i := 2) sc__law_laid.nd rfl (Or.inl rfl)) (pss_one (ps_expr (pe_m (ok_add_room T.toLx) T.cl (hr.mono (by decide)) passL (pv 1) (pa_cons (pv 2) pa_nil))))) (pss_cons (ps_lock (ps_for PassesOwn.never rfl (pi_keys (pe_dget hu (pv 0) pe_str (fun _ _ => rfl))) (pg_name (i := 3) sc__law_laid.nd rfl (Or.inl rfl)) (pss_one (ps_expr (pe_m (ok_add_drain T.toLx) T.cl (hr.mono (by decide)) passL (pv 1) (pa_cons (pv 3) (pa_cons (pe_dget hu (pe_dget hu (pv 0) pe_str (fun _ _ => rfl)) (pv 3) (fun _ _ => rfl)) pa_nil))))))) (pss_cons (ps_lock (ps_for PassesOwn.never rfl (pi_keys (pe_dget hu (pv 0) pe_str (fun _ _ => rfl))) (pg_name (i := 3) sc__law_laid.nd rfl (Or.inl rfl)) (pss_cons (ps_asg (pe_dget hu (pe_dget hu (pv 0) pe_str (fun _ _ => rfl)) (pv 3) (fun _ _ => rfl)) (pg_tupK (K := K) (n := 3) rfl rfl (pgs_cons (pg_name (i := 4) sc__law_laid.nd rfl (Or.inl rfl)) (pgs_cons (pg_name (i := 5) sc__law_laid.nd rfl (Or.inl rfl)) (pgs_cons (pg_name (i := 6) sc__law_laid.nd rfl (Or.inl rfl)) pgs_nil))))) (pss_one (ps_expr (pe_m (ok_add_line T.toLx) T.cl (hr.mono (by decide)) passL (pv 1) (pa_cons (pv 3) (pa_cons (pv 4) (pa_cons (pv 5) (pa_cons (pv 6) pa_nil)))))))))) (pss_cons (ps_for PassesOwn.never rfl (pi_list (pe_dget hu (pv 0) pe_str (fun _ _ => rfl))) (pg_name (i := 2) sc__law_laid.nd rfl (Or.inl rfl)) (pss_one (ps_expr (pe_m (ok_add_source T.toLx) T.cl (hr.mono (by decide)) passL (pv 1) (pa_cons (pv 2) pa_nil))))) (pss_one (ps_ret (pv 1)))))))), ?_⟩
    intro x dx0 nx ndx nex
    refine ⟨x, dx0, rfl, upd_same, fun A0 H1 eA hL1 kp fresh has => ⟨rfl, ?_⟩⟩
    obtain ⟨e1, fr1⟩ := newlay nx ndx eA kp fresh
    subst eA
    have offm : ∀ {c o}, H c = some o → c ∉ A0.ms := fun e w => by
      rw [fr1 _ w] at e
      cases e
    have top1 := e1 _ _ top
    have rm1 := e1 _ _ rm
    refine ⟨_, rfl, m, _, rfl, dget_of top1 (mtop_r ⟨m, l, d, false⟩ a b), a, rfl, ⟨_, SqL.of rm1⟩, ?_⟩
    refine for_list (K := K) (a := a) (xs := S.rooms.map V.str) (fun i σ G => (∃ x1 x2 x3 x4 x5 : Option V, σ = [some (.ref m), some (.ref A0.p), x1, x2, x3, x4, x5]) ∧ LayAt L G A0 ⟨S.rooms.take i, [], [], []⟩ ∧ (⟨S.rooms.take i, [], [], []⟩ : LS).Ok ∧ Keep A0.ms H1 G)
      ⟨⟨_, _, _, _, _, rfl⟩, hL1, okNew, Keep.refl⟩ (fun i σ G _ z => SqL.of (z.2.2.2.flat _ _ rm1 (flat_strs _))) ?_ ?_
    · rintro i y σ G hi ⟨⟨x1, x2, x3, x4, x5, rfl⟩, hL, o, kG⟩
      rw [List.getElem?_map] at hi
      obtain ⟨z, ez, rfl⟩ := Option.map_eq_some_iff.mp hi
      have tk : S.rooms.take (i + 1) = S.rooms.take i ++ [z] := by
        rw [List.take_add_one, ez]
        rfl
      have new : z ∉ S.rooms.take i := fun w => by
        have n2 : (S.rooms.take (i + 1)).Nodup := hS.rN.take
        rw [tk] at n2
        exact (List.nodup_append.mp n2).2.2 z w z (.head _) rfl
      have li : i < 24 := by
        have := (List.getElem?_eq_some_iff.mp ez).1
        have := hS.rL
        omega
      have gz := hS.rG z (List.mem_of_getElem? ez)
      have due : (⟨S.rooms.take i, [], [], []⟩ : LS).due (.addRoom z) = none := by
        show (if z ∈ S.rooms.take i then some (Rf.there z) else if 24 ≤ (S.rooms.take i).length then some (.tooMany 24) else none) = none
        rw [if_neg new, if_neg (by rw [List.length_take]; omega)]
      obtain ⟨⟨dx, ob⟩, _⟩ := id hL
      refine ⟨_, rfl, A0.p, dx, _, rfl, ob, lfl_no A0 (by decide +kernel), _, rfl, A0, .str z, true, _, rfl, hL, o, NameQ.of gz, (fun w => Bool.noConfusion w), fun z1 ez1 _ => ?_⟩
      cases ez1
      refine ⟨fun _ G1 hL2 k2 => ⟨⟨_, _, _, _, _, rfl⟩, ?_, ?_, kG.trans k2⟩, fun f df => by rw [due] at df; cases df⟩
      · rw [tk]
        exact hL2
      · rw [tk]
        exact o.put (D := .addRoom z) gz due
    rintro σ G ⟨⟨x1, x2, x3, x4, x5, rfl⟩, hL, o, kG⟩
    rw [List.length_map, List.take_length] at hL o
    have kG' := kG
    have lockN : ∀ {c kv}, H c = some (.dK kv) → c ∉ A0.ms := fun e => offm e
    have dG : G d = some (.dK k3) := kG.out _ _ (e1 _ _ d1) (lockN d1)
    refine ⟨d, _, dG, True.intro, fun od => ?_⟩
    have nmd : m ≠ d := W.mne.1
    have topG : G m = some (.dK (mtop ⟨m, l, d, false⟩ a b)) := kG.out _ _ top1 (lockN top)
    have topU : upd G d (.frz od (.dK k3)) m = some (.dK (mtop ⟨m, l, d, false⟩ a b)) := (upd_ne nmd).trans topG
    have hLU : LayAt L (upd G d (.frz od (.dK k3))) A0 ⟨S.rooms, [], [], []⟩ := hL.keep (Keep.lock (ms := [d]) dG (by simp)) (by simpa using lockN d1)
    refine ⟨_, rfl, m, _, rfl, dget_of topU (mtop_d ⟨m, l, d, false⟩ a b), d, od, rfl, .inl ⟨k3, upd_same, ?_⟩⟩
    refine for_it walk_keys (fun i σ G1 => (∃ x1 x2 x3 x4 x5 : Option V, σ = [some (.ref m), some (.ref A0.p), x1, x2, x3, x4, x5]) ∧ LayAt L G1 A0 ⟨S.rooms, [], S.drains.take i, []⟩ ∧ (⟨S.rooms, [], S.drains.take i, []⟩ : LS).Ok ∧ Keep A0.ms (upd G d (.frz od (.dK k3))) G1)
      ⟨⟨_, _, _, _, _, rfl⟩, hLU, o, Keep.refl⟩ (fun i σ G1 _ z => z.2.2.2.out _ _ upd_same (lockN d1)) ?_ ?_
    · rintro i y σ G1 G2 hi ⟨⟨x1, x2, x3, x4, x5, rfl⟩, hL, o, kG1⟩ ⟨rfl, kk, vv, ek, rfl⟩
      obtain ⟨q, eq, e3, gq⟩ := Kr.at d2 ek
      have e3' : kk = Sum.inr q.1 := e3
      have gq' : vv = .str q.2 := gq
      subst e3' gq'
      have ev : valV k3 (Sum.inr q.1) = some (.str q.2) := valV_at d2 hS.dN ek
      have mq := List.mem_of_getElem? eq
      have mk : q.1 ∈ keys S.drains := List.mem_map_of_mem mq
      have gn : okName q.1 = true := hS.dG _ mk
      have gr : okName q.2 = true := hS.rG _ (hS.dI _ mq)
      have tk : S.drains.take (i + 1) = S.drains.take i ++ [q] := by
        rw [List.take_add_one, eq]
        rfl
      have new : q.1 ∉ keys (S.drains.take i) := fun w => by
        have n2 : (keys (S.drains.take (i + 1))).Nodup := by
          rw [keys, List.map_take]
          exact hS.dN.take
        rw [tk, keys_snoc] at n2
        exact (List.nodup_append.mp n2).2.2 q.1 w q.1 (.head _) rfl
      have li : i < 12 := by
        have := (List.getElem?_eq_some_iff.mp eq).1
        have := hS.dL
        omega
      have due : (⟨S.rooms, [], S.drains.take i, []⟩ : LS).due (.addDrain q.1 q.2) = none := by
        have t0 : (⟨S.rooms, [], S.drains.take i, []⟩ : LS).taken q.1 = false := by simp [LS.taken, keys, new]; simpa [keys] using new
        show (if (⟨S.rooms, [], S.drains.take i, []⟩ : LS).taken q.1 = true then some (Rf.there q.1) else if q.2 ∉ S.rooms then some (.lacks q.2) else if 12 ≤ (S.drains.take i).length then some (.tooMany 12) else none) = none
        rw [t0, if_neg (by simp), if_neg (fun w => w (hS.dI _ mq)), if_neg (by rw [List.length_take]; omega)]
      obtain ⟨⟨dx, ob⟩, _⟩ := id hL
      have top2 := kG1.out _ _ topU (lockN top)
      have dd2 := kG1.out _ _ upd_same (lockN d1)
      refine ⟨_, rfl, A0.p, dx, _, rfl, ob, lfl_no A0 (by decide +kernel), _, rfl, _, rfl, m, _, rfl, dget_of top2 (mtop_d ⟨m, l, d, false⟩ a b), _, rfl, d, _, rfl, dget_rd (.inr ⟨od, dd2⟩) ev, ?_⟩
      refine ⟨A0, .str q.1, .str q.2, true, true, _, rfl, hL, o, NameQ.of gn, NameQ.of gr, (fun w => Bool.noConfusion w), (fun _ w => Bool.noConfusion w), fun z1 z2 ez1 ez2 _ _ => ?_⟩
      cases ez1
      cases ez2
      refine ⟨fun _ G3 hL2 k2 => ⟨⟨_, _, _, _, _, rfl⟩, ?_, ?_, kG1.trans k2⟩, fun f df => by rw [due] at df; cases df⟩
      · rw [tk]
        exact hL2
      · rw [tk]
        exact o.put (D := .addDrain q.1 q.2) ⟨gn, gr⟩ due
    rintro σ G1 ⟨⟨x1, x2, x3, x4, x5, rfl⟩, hL, o, kG1⟩
    rw [d2.len, List.take_length] at hL o
    have dd2 := kG1.out _ _ upd_same (lockN d1)
    refine ⟨dd2, ?_⟩
    have kG2 : Keep A0.ms H1 (upd G1 d (.dK k3)) := kG.trans (Keep.unlock dG kG1 (lockN d1))
    have hL' : LayAt L (upd G1 d (.dK k3)) A0 ⟨S.rooms, [], S.drains, []⟩ := hL.keep (ms := [d]) (Keep.at dd2 (.head _) (fun _ z => by cases z) (fun _ _ _ z => by cases z) fun _ z => by cases z) (by simpa using lockN d1)
    generalize upd G1 d (.dK k3) = G4 at kG2 hL' ⊢
    clear hL hLU kG1 topU dd2
    have lG : G4 l = some (.dK k2) := kG2.out _ _ (e1 _ _ l1) (lockN l1)
    have l4 : Kr (LineG G4) k2 S.lines := l2.mono fun v e ⟨t, et, w⟩ => ⟨t, et, kG2.tup _ _ (e1 _ _ w)⟩
    refine ⟨l, _, lG, True.intro, fun od2 => ?_⟩
    have topG4 : G4 m = some (.dK (mtop ⟨m, l, d, false⟩ a b)) := kG2.out _ _ top1 (lockN top)
    have topU : upd G4 l (.frz od2 (.dK k2)) m = some (.dK (mtop ⟨m, l, d, false⟩ a b)) := (upd_ne mne.2).trans topG4
    have hLU : LayAt L (upd G4 l (.frz od2 (.dK k2))) A0 ⟨S.rooms, [], S.drains, []⟩ := hL'.keep (Keep.lock (ms := [l]) lG (by simp)) (by simpa using lockN l1)
    refine ⟨_, rfl, m, _, rfl, dget_of topU (mtop_l ⟨m, l, d, false⟩ a b), l, od2, rfl, .inl ⟨k2, upd_same, ?_⟩⟩
    refine for_it walk_keys (fun i σ G1 => (∃ x1 x2 x3 x4 x5 : Option V, σ = [some (.ref m), some (.ref A0.p), x1, x2, x3, x4, x5]) ∧ LayAt L G1 A0 ⟨S.rooms, S.lines.take i, S.drains, []⟩ ∧ (⟨S.rooms, S.lines.take i, S.drains, []⟩ : LS).Ok ∧ Keep A0.ms (upd G4 l (.frz od2 (.dK k2))) G1)
      ⟨⟨_, _, _, _, _, rfl⟩, hLU, o, Keep.refl⟩ (fun i σ G1 _ z => z.2.2.2.out _ _ upd_same (lockN l1)) ?_ ?_
    · rintro i y σ G1 G2 hi ⟨⟨x1, x2, x3, x4, x5, rfl⟩, hL, o, kG1⟩ ⟨rfl, kk, vv, ek, rfl⟩
      obtain ⟨q, eq, e3, t, gq, gt⟩ := Kr.at l4 ek
      have e3' : kk = Sum.inr q.1 := e3
      have gq' : vv = .ref t := gq
      subst e3' gq'
      have ev : valV k2 (Sum.inr q.1) = some (.ref t) := valV_at l4 hS.lN ek
      have mq := List.mem_of_getElem? eq
      have mk : q.1 ∈ keys S.lines := List.mem_map_of_mem mq
      obtain ⟨i1, i2, ine, ic⟩ := hS.lI _ mq
      have gn : okName q.1 = true := hS.lG _ mk
      have g1 : okName q.2.1 = true := hS.rG _ i1
      have g2 : okName q.2.2.1 = true := hS.rG _ i2
      have tk : S.lines.take (i + 1) = S.lines.take i ++ [q] := by
        rw [List.take_add_one, eq]
        rfl
      have new : q.1 ∉ keys (S.lines.take i) := fun w => by
        have n2 : (keys (S.lines.take (i + 1))).Nodup := by
          rw [keys, List.map_take]
          exact hS.lN.take
        rw [tk, keys_snoc] at n2
        exact (List.nodup_append.mp n2).2.2 q.1 w q.1 (.head _) rfl
      have li : i < 40 := by
        have := (List.getElem?_eq_some_iff.mp eq).1
        have := hS.lL
        omega
      have due : (⟨S.rooms, S.lines.take i, S.drains, []⟩ : LS).due (.addLine q.1 q.2.1 q.2.2.1 q.2.2.2) = none := by
        have t0 : (⟨S.rooms, S.lines.take i, S.drains, []⟩ : LS).taken q.1 = false := by
          show (decide (q.1 ∈ keys (S.lines.take i)) || decide (q.1 ∈ keys S.drains)) = false
          rw [decide_eq_false new, decide_eq_false (ap _ mk)]
          rfl
        show (if (⟨S.rooms, S.lines.take i, S.drains, []⟩ : LS).taken q.1 = true then some (Rf.there q.1) else if q.2.1 ∉ S.rooms then some (.lacks q.2.1) else if q.2.2.1 ∉ S.rooms then some (.lacks q.2.2.1) else if 40 ≤ (S.lines.take i).length then some (.tooMany 40) else none) = none
        rw [t0, if_neg (by simp), if_neg (fun w => w i1), if_neg (fun w => w i2), if_neg (by rw [List.length_take]; omega)]
      obtain ⟨⟨dx, ob⟩, _⟩ := id hL
      have top2 := kG1.out _ _ topU (lockN top)
      have ll2 := kG1.out _ _ upd_same (lockN l1)
      have gt2 : G2 t = some (.tup [.str q.2.1, .str q.2.2.1, .int q.2.2.2]) := kG1.tup _ _ ((upd_ne (ne_of gt lG (by intro w; cases w))).trans gt)
      refine ⟨_, rfl, m, _, rfl, dget_of top2 (mtop_l ⟨m, l, d, false⟩ a b), _, rfl, l, _, rfl, dget_rd (.inr ⟨od2, ll2⟩) ev, ?_⟩
      refine ⟨t, _, rfl, SqT.of gt2, rfl, _, _, rfl, _, _, rfl, _, _, rfl, rfl, ?_⟩
      refine ⟨_, rfl, A0.p, dx, _, rfl, ob, lfl_no A0 (by decide +kernel), _, rfl, _, rfl, _, rfl, _, rfl, ?_⟩
      refine ⟨A0, .str q.1, .str q.2.1, .str q.2.2.1, .int q.2.2.2, true, true, true, true, _, rfl, hL, o, NameQ.of gn, NameQ.of g1, NameQ.of g2, .inl ⟨_, rfl, ic.symm⟩, (fun w => Bool.noConfusion w), (fun _ w => Bool.noConfusion w), (fun _ _ w => w.elim (fun w => Bool.noConfusion w) fun w => absurd (V.str.inj w).symm ine), (fun _ _ _ _ w => Bool.noConfusion w), fun z1 z2 z3 z4 ez1 ez2 ez3 ez4 _ _ _ _ _ => ?_⟩
      cases ez1
      cases ez2
      cases ez3
      cases ez4
      refine ⟨fun _ G3 hL2 k2 => ⟨⟨_, _, _, _, _, rfl⟩, ?_, ?_, kG1.trans k2⟩, fun f df => by rw [due] at df; cases df⟩
      · rw [tk]
        exact hL2
      · rw [tk]
        exact o.put (D := .addLine q.1 q.2.1 q.2.2.1 q.2.2.2) ⟨gn, g1, g2, ine, ic⟩ due
    rintro σ G1 ⟨⟨x1, x2, x3, x4, x5, rfl⟩, hL, o, kG1⟩
    rw [l4.len, List.take_length] at hL o
    have ll2 := kG1.out _ _ upd_same (lockN l1)
    refine ⟨ll2, ?_⟩
    have kG5 : Keep A0.ms H1 (upd G1 l (.dK k2)) := kG2.trans (Keep.unlock lG kG1 (lockN l1))
    have hL5 : LayAt L (upd G1 l (.dK k2)) A0 ⟨S.rooms, S.lines, S.drains, []⟩ := hL.keep (ms := [l]) (Keep.at ll2 (.head _) (fun _ z => by cases z) (fun _ _ _ z => by cases z) fun _ z => by cases z) (by simpa using lockN l1)
    generalize upd G1 l (.dK k2) = G5 at kG5 hL5 ⊢
    clear hL hLU kG1 topU ll2
    have top5 : G5 m = some (.dK (mtop ⟨m, l, d, false⟩ a b)) := kG5.out _ _ top1 (lockN top)
    have sc5 := kG5.flat _ _ (e1 _ _ sc) (flat_strs _)
    refine ⟨_, rfl, m, _, rfl, dget_of top5 (mtop_s ⟨m, l, d, false⟩ a b), b, rfl, ⟨_, SqL.of sc5⟩, ?_⟩
    refine for_list (K := K) (a := b) (xs := S.sources.map V.str) (fun i σ G => (∃ x1 x2 x3 x4 x5 : Option V, σ = [some (.ref m), some (.ref A0.p), x1, x2, x3, x4, x5]) ∧ LayAt L G A0 ⟨S.rooms, S.lines, S.drains, S.sources.take i⟩ ∧ (⟨S.rooms, S.lines, S.drains, S.sources.take i⟩ : LS).Ok ∧ Keep A0.ms H1 G)
      ⟨⟨_, _, _, _, _, rfl⟩, hL5, o, kG5⟩ (fun i σ G _ z => SqL.of (z.2.2.2.flat _ _ (e1 _ _ sc) (flat_strs _))) ?_ ?_
    · rintro i y σ G hi ⟨⟨x1, x2, x3, x4, x5, rfl⟩, hL, o, kG⟩
      rw [List.getElem?_map] at hi
      obtain ⟨z, ez, rfl⟩ := Option.map_eq_some_iff.mp hi
      have tk : S.sources.take (i + 1) = S.sources.take i ++ [z] := by
        rw [List.take_add_one, ez]
        rfl
      have new : z ∉ S.sources.take i := fun w => by
        have n2 : (S.sources.take (i + 1)).Nodup := hS.sN.take
        rw [tk] at n2
        exact (List.nodup_append.mp n2).2.2 z w z (.head _) rfl
      have mz := hS.sI z (List.mem_of_getElem? ez)
      have gz := hS.rG z mz
      have due : (⟨S.rooms, S.lines, S.drains, S.sources.take i⟩ : LS).due (.addSource z) = none := by
        show (if z ∉ S.rooms then some (Rf.lacks z) else if z ∈ S.sources.take i then some (.there z) else none) = none
        rw [if_neg (fun w => w mz), if_neg new]
      obtain ⟨⟨dx, ob⟩, _⟩ := id hL
      refine ⟨_, rfl, A0.p, dx, _, rfl, ob, lfl_no A0 (by decide +kernel), _, rfl, A0, .str z, true, _, rfl, hL, o, NameQ.of gz, (fun w => Bool.noConfusion w), fun z1 ez1 _ => ?_⟩
      cases ez1
      refine ⟨fun _ G1 hL2 k2 => ⟨⟨_, _, _, _, _, rfl⟩, ?_, ?_, kG.trans k2⟩, fun f df => by rw [due] at df; cases df⟩
      · rw [tk]
        exact hL2
      · rw [tk]
        exact o.put (D := .addSource z) gz due
    rintro σ G ⟨⟨x1, x2, x3, x4, x5, rfl⟩, hL, o, kG⟩
    rw [List.length_map, List.take_length] at hL o
    exact ⟨_, rfl, k A0 G hL (Keep.lifted e1 fr1 kG) fr1⟩
end
end SM
namespace SM
open PySem PySem.Spec PyProof.Rows L2
open Evl (tCut pss_cut)
section
variable {P : Program} {w : World} {K : PySem.W.Frag} {mg : Str → Option Value} {base : Heap} {C : Nat → Addr} {M L : Addr}
theorem sc__law_switches : FnScope ["_law_m", "_law_name_here"] ["_law_m"] (defScope s__law_switches) := ⟨rfl, rfl, rfl, by decide +kernel, rfl, by decide +kernel, by decide +kernel⟩
theorem lo_switches (T : Tx K mg C M L) : OkF P w K mg base CX0 1 "_law_switches" ["_law_m"] (spSwitchesL) := by
  refine T.d_switches.ok sc__law_switches (fun _ _ _ _ _ _ us hl => match us, hl with | [_], _ => rfl) (fun vs H Q E h => ?_) (fun f cdv Ar outer st H vs Q E hr h => ?_)
  · obtain ⟨m, l, d, a, b, S, rfl, _⟩ := h
    rfl
  · obtain ⟨m, l, d, a, b, S, rfl, W, k⟩ := h
    have hu := hu_of hr
    obtain ⟨top, rm, ⟨k2, l1, l2⟩, ⟨k3, d1, d2⟩, sc, hS, ne0, ap, mne⟩ := id W
    refine ⟨_, (pss_one (ps_ret (pe_lock (pe_lc (own := [("_law_name_here", 1)]) rfl sc__law_switches.nd (pi_keys (pe_dget hu (pv 0) pe_str (fun _ _ => rfl))) (blkOk_by (N := ["_law_m", "_law_name_here"]) (sc := (defScope s__law_switches)) (by decide +kernel)) (fun _ _ _ _ _ => (pg_name (i := 1) sc__law_switches.nd rfl (Or.inl rfl))) (fun _ _ _ _ _ => (pts_one (pt_cmpR op_gt (pe_ix (ix_tupK (K := K) rfl) (pe_dget hu (pe_dget hu (pv 0) pe_str (fun _ _ => rfl)) (pv 1) (fun _ _ => rfl)) pe_int (fun _ _ => rfl)) pe_int (nomark _)))) (fun _ _ _ _ _ => (pv 1)))))), ?_⟩
    refine ⟨l, _, l1, True.intro, fun od => ?_⟩
    have mL : upd H l (.frz od (.dK k2)) m = some (.dK (mtop ⟨m, l, d, false⟩ a b)) := (upd_ne mne.2).trans top
    refine ⟨_, rfl, m, _, rfl, dget_of mL (mtop_l ⟨m, l, d, false⟩ a b), l, od, rfl, .inl ⟨k2, upd_same, fun D hD => ?_⟩⟩
    refine lc_it walk_keys (fun i H1 => Same (upd H l (.frz od (.dK k2))) H1 ∧ H1 D = some (.lst ((keys ((S.lines.take i).filter fun e => decide (0 < e.2.2.2))).map V.str))) ⟨Same.newp hD, upd_same⟩ (fun _ _ _ q => q.1 _ _ upd_same) ?_ ?_
    · rintro i x H1 H2 hi ⟨e2, h1⟩ ⟨rfl, kk, vv, ek, rfl⟩
      obtain ⟨q, eq, e3, t, et, ht⟩ := Kr.at l2 ek
      have e3' : kk = Sum.inr q.1 := e3
      have et' : vv = .ref t := et
      subst e3' et'
      have ev : valV k2 (Sum.inr q.1) = some (.ref t) := valV_at l2 hS.lN ek
      have ht2 : H2 t = some (.tup [.str q.2.1, .str q.2.2.1, .int q.2.2.2]) := e2 _ _ ((upd_ne (ne_of ht l1 (by intro w; cases w))).trans ht)
      have tk : S.lines.take (i + 1) = S.lines.take i ++ [q] := by
        rw [List.take_add_one, eq]
        rfl
      refine ⟨rfl, _, rfl, m, _, rfl, dget_of (e2 _ _ mL) (mtop_l ⟨m, l, d, false⟩ a b), _, rfl, l, _, rfl, dget_rd (.inr ⟨od, e2 _ _ upd_same⟩) ev, t, _, 2, _, rfl, rfl, SqT.of ht2, rfl, _, _, rfl, rfl, _, rfl, ?_⟩
      by_cases hb : 0 < q.2.2.2
      · refine if_t (decide_eq_true hb) ⟨_, rfl, _, h1, ?_, fun c u w => ?_, ?_⟩
        · rw [List.length_map, keys, List.length_map]
          refine small1000 ?_
          have a1 := List.length_filter_le (fun e : Str × LineV => decide (0 < e.2.2.2)) (S.lines.take i)
          rw [List.length_take] at a1
          have := hS.lL
          omega
        · rw [upd_ne (ne_of_none w hD)]
          exact e2 _ _ w
        · rw [upd_same, tk, List.filter_append, List.filter_cons, if_pos (decide_eq_true hb), List.filter_nil, show keys (List.filter (fun e : Str × LineV => decide (0 < e.2.2.2)) (S.lines.take i) ++ [q]) = keys (List.filter (fun e : Str × LineV => decide (0 < e.2.2.2)) (S.lines.take i)) ++ [q.1] by simp [keys], List.map_append]
          rfl
      · refine if_f (decide_eq_false hb) ⟨e2, ?_⟩
        rw [tk, List.filter_append, List.filter_cons, if_neg (by simp [hb]), List.filter_nil, List.append_nil]
        exact h1
    · rintro H1 ⟨e2, h1⟩
      have nDl : D ≠ l := fun w => by
        rw [w, upd_same] at hD
        cases hD
      have DN : H D = none := by
        rw [upd_ne nDl] at hD
        exact hD
      rw [l2.len, List.take_length] at h1
      exact ⟨e2 _ _ upd_same, k D _ (same_unlock l1 e2) DN ((upd_ne nDl).trans h1)⟩
theorem sc__law_some : FnScope ["_law_bag_here", "_law_things", "_law_share", "_law_found", "_law_one", "_law_turn"] ["_law_bag_here", "_law_things"] (defScope s__law_some) := ⟨rfl, rfl, rfl, by decide +kernel, rfl, by decide +kernel, by decide +kernel⟩
theorem lo_some (T : Tx K mg C M L) : OkF P w K mg base CX0 2 "_law_some" ["_law_bag_here", "_law_things"] (spSomeL) := by
  refine T.d_some.ok sc__law_some (fun _ _ _ _ _ _ us hl => match us, hl with | [_, _], _ => rfl) (fun vs H Q E h => ?_) (fun f cdv Ar outer st H vs Q E hr h => ?_)
  · obtain ⟨p, q, a, xs, rfl, _⟩ := h
    rfl
  · obtain ⟨p, q, a, xs, rfl, B, ha, xN, xl, k⟩ := h
    refine ⟨_, (pss_cons (ps_set (i := 2) sc__law_some.nd rfl (Or.inr rfl) (pe_ix ix_list (pe_lst (pa_cons pe_int (pa_cons pe_int (pa_cons pe_int (pa_cons pe_int pa_nil))))) (pe_f (ok_take T) (hr.mono (by decide)) pass0 (pa_cons (pv 0) (pa_cons pe_int pa_nil))) (fun _ _ => rfl))) (pss_cons (ps_setLc (i := 3) (own := [("_law_one", 4)]) rfl sc__law_some.nd rfl rfl (sw_true rfl rfl rfl (by decide +kernel)) (pi_list (pv 1)) (blkOk_by (N := ["_law_bag_here", "_law_things", "_law_share", "_law_found", "_law_one", "_law_turn"]) (sc := (defScope s__law_some)) (by decide +kernel)) (fun _ _ _ _ _ => (pg_name (i := 4) sc__law_some.nd rfl (Or.inl rfl))) (fun _ _ _ _ _ => (pts_one (pt_cmpR op_eq (pe_f (ok_take T) (hr.mono (by decide)) pass0 (pa_cons (pv 0) (pa_cons (pv 2) pa_nil))) pe_int (nomark _)))) (fun _ _ _ _ _ => (pv 4))) (pss_cons (ps_set (i := 5) sc__law_some.nd rfl (Or.inl rfl) (pe_f (ok_take T) (hr.mono (by decide)) pass0 (pa_cons (pv 0) (pa_cons (pe_op op_add (pe_callB call_len_seq (by rfl) T.b_len PySem.boot_len (pa_cons (pv 3) pa_nil)) pe_int) pa_nil)))) (pss_cons (ps_set (i := 3) sc__law_some.nd rfl (Or.inl rfl) (pe_op op_cat (pe_slice sl_list (pv 3) (po_some (pv 5)) po_none) (pe_slice sl_list (pv 3) po_none (po_some (pv 5))))) (pss_cons (ps_if (pt_cmpR op_eq (pe_f (ok_take T) (hr.mono (by decide)) pass0 (pa_cons (pv 0) (pa_cons pe_int pa_nil))) pe_int (nomark _)) (pss_one (ps_ret (pe_revL (pv 3)))) pss_nil) (pss_one (ps_ret (pv 3)))))))), ?_⟩
    refine ⟨(by show 4 ≤ sizeLine; decide), fun l1 g1 => ?_⟩
    have s1 : Same H (upd H l1 (.lst [V.int 1, V.int 2, V.int 3, V.int 60])) := Same.newp g1
    refine ⟨_, rfl, p, q, 4, rfl, B.same s1, by decide, by decide, fun v H1 v0 v1 B1 b1 => ?_⟩
    have k1 : Keep [p] (upd H l1 (.lst [V.int 1, V.int 2, V.int 3, V.int 60])) H1 := Keep.bag (B.same s1) B1 b1 (by simp)
    have K1 : Keep [p] H H1 := (Keep.of s1).trans k1
    obtain ⟨sr, es, sr1, sr60⟩ := pickZ v0 v1
    refine ⟨l1, _, v, _, rfl, rfl, SqL.of (k1.flat _ _ upd_same rfl), es, ?_⟩
    have ha1 := K1.flat _ _ ha (flat_strs _)
    refine ⟨_, rfl, a, rfl, ⟨_, SqL.of ha1⟩, fun F hF => ?_⟩
    have pF : p ≠ F := fun w => B1.there.1 (by rw [w]; exact hF)
    have qF : q ≠ F := fun w => B1.there.2 (by rw [w]; exact hF)
    refine lc_list (K := K) (a := a) (xs := xs.map V.str) (fun i G => Bag G p q ∧ Keep [p] H1 G ∧ ∃ ss : List Str, G F = some (.lst (ss.map V.str)) ∧ ss.length ≤ i ∧ ss.Sublist (xs.take i)) ⟨B1.same (Same.newp hF), Keep.of (Same.newp hF), [], upd_same, Nat.le_refl _, List.nil_sublist _⟩ (fun i G _ z => SqL.of (z.2.1.flat _ _ ha1 (flat_strs _))) ?_ ?_
    · rintro i x G hi ⟨BG, KG, ss, hc, sl, sb⟩
      rw [List.getElem?_map] at hi
      obtain ⟨z, ez, rfl⟩ := Option.map_eq_some_iff.mp hi
      have li : i < 64 := by
        have := (List.getElem?_eq_some_iff.mp ez).1
        omega
      have tk : xs.take (i + 1) = xs.take i ++ [z] := by
        rw [List.take_add_one, ez]
        rfl
      refine ⟨rfl, _, rfl, _, rfl, p, q, sr, rfl, BG, by omega, by omega, fun u G1 u0 u1 BG1 bG1 => ?_⟩
      have kG1 : Keep [p] G G1 := Keep.bag BG BG1 bG1 (by simp)
      have hc1 := kG1.flat _ _ hc (flat_strs _)
      refine ⟨rfl, _, rfl, ?_⟩
      by_cases e0 : V.int u = V.int 0
      · refine if_t (decide_eq_true e0) ⟨_, rfl, _, hc1, ?_, BG1.keep (upd_ne pF) (upd_ne qF), (KG.trans kG1).over hF, ss ++ [z], ?_, ?_, ?_⟩
        · rw [List.length_map]
          exact small1000 (by omega)
        · rw [upd_same, List.map_append]
          rfl
        · rw [List.length_append, List.length_singleton]
          omega
        · rw [tk]
          exact List.Sublist.append sb (List.Sublist.refl _)
      · refine if_f (decide_eq_false e0) ⟨BG1, KG.trans kG1, ss, hc1, by omega, ?_⟩
        rw [tk]
        exact sb.trans (List.sublist_append_left _ _)
    rintro G ⟨BG, KG, ss, hc, sl, sb⟩
    rw [List.length_map] at sl sb
    rw [List.take_length] at sb
    refine ⟨_, rfl, _, rfl, F, _, rfl, .inl (SqL.of hc), _, _, rfl, rfl, p, q, _, rfl, BG, by rw [List.length_map]; omega, by rw [List.length_map]; omega, fun u G1 u0 u1 BG1 bG1 => ?_⟩
    obtain ⟨n, rfl⟩ := Int.eq_ofNat_of_zero_le u0
    have K2 := (K1.trans KG).trans (Keep.bag (ms := [p]) BG BG1 bG1 (by simp))
    have hc1 := (Keep.bag (ms := [p]) BG BG1 bG1 (by simp)).flat _ _ hc (flat_strs _)
    refine ⟨_, rfl, _, rfl, _, rfl, F, _, rfl, SqL.of hc1, fun r1 hr1 => ?_⟩
    dsimp only
    rw [cutV_drop, ← List.map_drop]
    have s3 : Same G1 (upd G1 r1 (.lst ((ss.drop n).map V.str))) := Same.newp hr1
    refine ⟨_, rfl, _, rfl, _, rfl, F, _, rfl, SqL.of (s3 _ _ hc1), fun r2 hr2 => ?_⟩
    dsimp only
    rw [cutV_take, ← List.map_take]
    have s4 := s3.trans (Same.newp (o := .lst ((ss.take n).map V.str)) hr2)
    refine ⟨r1, r2, _, _, rfl, rfl, (upd_ne (ne_of_none upd_same hr2)).trans upd_same, upd_same, ?_, fun r3 hr3 => ?_⟩
    · rw [List.length_map, List.length_map, List.length_drop, List.length_take]
      exact Nat.le_of_lt (small1000 (by omega))
    rw [← List.map_append]
    have s5 := s4.trans (Same.newp (o := .lst ((ss.drop n ++ ss.take n).map V.str)) hr3)
    have nd : (ss.drop n ++ ss.take n).Nodup := by
      have : (ss.take n ++ ss.drop n).Nodup := by
        rw [List.take_append_drop]
        exact sb.nodup xN
      exact List.perm_append_comm.nodup_iff.mp this
    have sub : ∀ y ∈ ss.drop n ++ ss.take n, y ∈ xs := fun y m => by
      rcases List.mem_append.mp m with m | m
      · exact sb.subset (List.mem_of_mem_drop m)
      · exact sb.subset (List.mem_of_mem_take m)
    generalize ss.drop n ++ ss.take n = ys at s5 nd sub ⊢
    have B5 := BG1.same s5
    have K5 := K2.trans (Keep.of (ms := [p]) s5)
    refine ⟨_, rfl, p, q, 2, rfl, B5, by decide, by decide, fun w G2 w0 w1 B6 b6 => ?_⟩
    have k6 : Keep [p] _ G2 := Keep.bag B5 B6 b6 (by simp)
    have h6 := k6.flat _ _ upd_same (flat_strs _)
    refine ⟨rfl, _, rfl, ?_⟩
    by_cases e0 : V.int w = V.int 0
    · refine if_t (decide_eq_true e0) ⟨_, rfl, r3, _, rfl, SqL.of h6, fun r4 hr4 => ?_⟩
      exact k r4 ys.reverse _ (by rw [upd_same, List.map_reverse]) ((List.reverse_perm ys).nodup_iff.mpr nd) (fun y m => sub y (List.mem_reverse.mp m)) (B6.same (Same.newp hr4)) ((K5.trans k6).trans (Keep.of (Same.newp hr4)))
    · exact if_f (decide_eq_false e0) ⟨_, rfl, k r3 ys _ h6 nd sub B6 (K5.trans k6)⟩
theorem sc__law_stretch : FnScope ["_law_bag_here", "_law_m", "_law_found"] ["_law_bag_here", "_law_m"] (defScope s__law_stretch) := ⟨rfl, rfl, rfl, by decide +kernel, rfl, by decide +kernel, by decide +kernel⟩
theorem lo_stretch (T : Tx K mg C M L) : OkF P w K mg base CX0 3 "_law_stretch" ["_law_bag_here", "_law_m"] (spStretchL) := by
  refine T.d_stretch.ok sc__law_stretch (fun _ _ _ _ _ _ us hl => match us, hl with | [_, _], _ => rfl) (fun vs H Q E h => ?_) (fun f cdv Ar outer st H vs Q E hr h => ?_)
  · obtain ⟨p, q, m, l, d, a, b, S, rfl, _⟩ := h
    rfl
  · obtain ⟨p, q, m, l, d, a, b, S, rfl, B, W, k⟩ := h
    have hu := hu_of hr
    have hu6 := hu64 hr
    refine ⟨_, (pss_cons (ps_set (i := 2) sc__law_stretch.nd rfl (Or.inl rfl) (pe_lst pa_nil)) (pss_cut (ps_if (pt_cmpR op_eq (pe_f (ok_take T) (hr.mono (by decide)) pass0 (pa_cons (pv 0) (pa_cons pe_int pa_nil))) pe_int (nomark _)) (pss_one (ps_set (i := 2) sc__law_stretch.nd rfl (Or.inl rfl) (pe_f (lo_some T) (hr.mono (by decide)) pass0 (pa_cons (pv 0) (pa_cons (pe_dget hu (pv 1) pe_str (fun _ _ => rfl)) pa_nil))))) pss_nil) (pss_cons (ps_if (pt_cmpR (op_eqD hu6) (pv 2) (pe_lst pa_nil) (nomark _)) (pss_one (ps_ret (pe_lst (pa_cons (pe_ix ix_list (pe_dget hu (pv 1) pe_str (fun _ _ => rfl)) (pe_f (ok_take T) (hr.mono (by decide)) pass0 (pa_cons (pv 0) (pa_cons (pe_callB call_len_seq (by rfl) T.b_len PySem.boot_len (pa_cons (pe_dget hu (pv 1) pe_str (fun _ _ => rfl)) pa_nil)) pa_nil))) (fun _ _ => rfl)) pa_nil)))) pss_nil) (pss_one (ps_ret (pv 2)))))), ?_⟩
    refine ⟨(by show 0 ≤ sizeLine; decide), fun f0 hf0 => ?_⟩
    have s0 : Same H (upd H f0 (.lst [])) := Same.newp hf0
    refine ⟨fun σ G => ∃ (r : Addr) (ys : List Str), σ = [some (.ref p), some (.ref m), some (.ref r)] ∧ G r = some (.lst (ys.map V.str)) ∧ ys.Nodup ∧ (∀ y ∈ ys, y ∈ S.rooms) ∧ Bag G p q ∧ Keep [p] H G, ?_, ?_⟩
    · refine ⟨_, rfl, p, q, 2, rfl, B.same s0, by decide, by decide, fun w G w0 w1 B1 b1 => ⟨rfl, _, rfl, ?_⟩⟩
      have k1 : Keep [p] (upd H f0 (.lst [])) G := Keep.bag (B.same s0) B1 b1 (by simp)
      have K1 := (Keep.of (ms := [p]) s0).trans k1
      by_cases e0 : V.int w = V.int 0
      · have W1 := W.keep B K1
        refine if_t (decide_eq_true e0) ⟨_, rfl, _, rfl, m, _, rfl, dget_of W1.top (mtop_r ⟨m, l, d, false⟩ a b), p, q, a, S.rooms, rfl, B1, W1.rm, W.ok.rN, by have := W.ok.rL; omega, fun r ys G2 h2 nd sub B2 k2 => ?_⟩
        exact ⟨r, ys, rfl, h2, nd, sub, B2, K1.trans k2⟩
      · exact if_f (decide_eq_false e0) ⟨f0, [], rfl, k1.flat _ _ upd_same rfl, List.nodup_nil, (by intro y m; cases m), B1, K1⟩
    rintro σ G ⟨r, ys, rfl, hr1, nd, sub, B1, K1⟩
    have W1 := W.keep B K1
    have oky : ∀ y ∈ ys, okName y = true := fun y m => W.ok.rG y (sub y m)
    have l24 : ys.length ≤ 24 := Nat.le_trans (nodup_len nd sub) W.ok.rL
    refine ⟨_, rfl, (by show 0 ≤ sizeLine; decide), fun l2 hl2 => ?_⟩
    have s2 : Same G (upd G l2 (.lst [])) := Same.newp hl2
    refine ⟨_, _, names_dp (s2 _ _ hr1), .lst (SqL.of upd_same) .nil, (names_fine oky (by omega)).shaped, fine_nil.shaped, _, rfl, ?_⟩
    rw [eqv_nil]
    have B2 := B1.same s2
    have W2 := W1.same s2
    have K2 := K1.trans (Keep.of (ms := [p]) s2)
    by_cases z0 : ys = []
    · refine if_t (decide_eq_true z0) ?_
      have rl := W.ok.rL
      refine ⟨_, rfl, m, _, rfl, dget_of W2.top (mtop_r ⟨m, l, d, false⟩ a b), _, rfl, _, rfl, m, _, rfl, dget_of W2.top (mtop_r ⟨m, l, d, false⟩ a b), a, _, rfl, .inl (SqL.of W2.rm), p, q, _, rfl, B2, by rw [List.length_map]; have := W.ne; omega, by rw [List.length_map]; omega, fun j G3 j0 j1 B3 b3 => ?_⟩
      rw [List.length_map] at j1
      obtain ⟨z, ez, az⟩ := atI_strs j0 j1
      have k3 : Keep [p] _ G3 := Keep.bag B2 B3 b3 (by simp)
      refine ⟨a, _, j, _, rfl, rfl, SqL.of (k3.flat _ _ W2.rm (flat_strs _)), az, (by show 1 ≤ sizeLine; decide), fun l3 hl3 => ?_⟩
      exact k l3 [z] _ upd_same (by simp) (Nat.le_refl _) (fun y m => by rw [List.mem_singleton.mp m]; exact List.mem_of_getElem? ez) (B3.same (Same.newp hl3)) ((K2.trans k3).trans (Keep.of (Same.newp hl3)))
    · exact if_f (decide_eq_false z0) ⟨_, rfl, k r ys _ (s2 _ _ hr1) nd (List.length_pos_iff.mpr z0) sub B2 K2⟩
end
end SM
namespace SM
open PySem PySem.Spec PyProof.Rows L2
open Evl (tCut pss_cut)
section
variable {P : Program} {w : World} {K : PySem.W.Frag} {mg : Str → Option Value} {base : Heap} {C : Nat → Addr} {M L : Addr}
end
end SM
namespace SM
open PySem PySem.Spec PyProof.Rows L2
open Evl (tCut pss_cut)
section
variable {P : Program} {w : World} {K : PySem.W.Frag} {mg : Str → Option Value} {base : Heap} {C : Nat → Addr} {M L : Addr}
theorem sc__law_best : FnScope ["_law_m", "_law_shut", "_law_rooms", "_law_best_here", "_law_room", "_law_turn", "_law_grown", "_law_name_here", "_law_one", "_law_other", "_law_cost_here", "_law_here", "_law_there", "_law_told"] ["_law_m", "_law_shut", "_law_rooms"] (defScope s__law_best) := ⟨rfl, rfl, rfl, by decide +kernel, rfl, by decide +kernel, by decide +kernel⟩
theorem lo_best (T : Tx K mg C M L) : OkF P w K mg base CX0 1 "_law_best" ["_law_m", "_law_shut", "_law_rooms"] (spBestL) := by
  refine T.d_best.ok sc__law_best (fun _ _ _ _ _ _ us hl => match us, hl with | [_, _, _], _ => rfl) (fun vs H Q E h => ?_) (fun f cdv Ar outer st H vs Q E hr h => ?_)
  · obtain ⟨m, l, d, a, b, s, r, S, sh, xs, rfl, _⟩ := h
    rfl
  · obtain ⟨m, l, d, a, b, s, r, S, sh, xs, rfl, W, hs, hx, xN, xr, xne, k⟩ := h
    have hu := hu_of hr
    have hu6 := hu64 hr
    obtain ⟨top, rm, ⟨k2, l1, l2⟩, ⟨k3, d1, d2⟩, sc, hS, ne0, ap, mne⟩ := id W
    refine ⟨_, (pss_cons (ps_set (i := 3) sc__law_best.nd rfl (Or.inl rfl) (pe_callTy (call_dictP rfl) (by rfl) T.b_dict (by decide +kernel) (pa_cons (pe_lc (own := [("_law_room", 4)]) rfl sc__law_best.nd (pi_list (pv 2)) (blkOk_by (N := ["_law_m", "_law_shut", "_law_rooms", "_law_best_here", "_law_room", "_law_turn", "_law_grown", "_law_name_here", "_law_one", "_law_other", "_law_cost_here", "_law_here", "_law_there", "_law_told"]) (sc := (defScope s__law_best)) (by decide +kernel)) (fun _ _ _ _ _ => (pg_name (i := 4) sc__law_best.nd rfl (Or.inl rfl))) (fun _ _ _ _ _ => pts_nil) (fun _ _ _ _ _ => (pe_tup (pa_cons (pv 4) (pa_cons (pe_lst (pa_cons (pv 4) pa_nil)) pa_nil))))) pa_nil))) (pss_cons (ps_for PassesOwn.never rfl (pi_range1 rfl T.b_range (pa_cons (pe_callB call_len_seq (by rfl) T.b_len PySem.boot_len (pa_cons (pe_dget hu (pv 0) pe_str (fun _ _ => rfl)) pa_nil)) pa_nil)) (pg_name (i := 5) sc__law_best.nd rfl (Or.inl rfl)) (pss_cons (ps_set (i := 6) sc__law_best.nd rfl (Or.inl rfl) pe_dnewK) (pss_cons (ps_lock (ps_for PassesOwn.never rfl (pi_keys (pe_dget hu (pv 0) pe_str (fun _ _ => rfl))) (pg_name (i := 7) sc__law_best.nd rfl (Or.inl rfl)) (pss_cons (ps_asg (pe_dget hu (pe_dget hu (pv 0) pe_str (fun _ _ => rfl)) (pv 7) (fun _ _ => rfl)) (pg_tupK (K := K) (n := 3) rfl rfl (pgs_cons (pg_name (i := 8) sc__law_best.nd rfl (Or.inl rfl)) (pgs_cons (pg_name (i := 9) sc__law_best.nd rfl (Or.inl rfl)) (pgs_cons (pg_name (i := 10) sc__law_best.nd rfl (Or.inl rfl)) pgs_nil))))) (pss_one (ps_for PassesOwn.never rfl (pi_list (pe_lst (pa_cons (pe_tup (pa_cons (pv 8) (pa_cons (pv 9) pa_nil))) (pa_cons (pe_tup (pa_cons (pv 9) (pa_cons (pv 8) pa_nil))) pa_nil)))) (pg_tupK (K := K) (n := 2) rfl rfl (pgs_cons (pg_name (i := 11) sc__law_best.nd rfl (Or.inl rfl)) (pgs_cons (pg_name (i := 12) sc__law_best.nd rfl (Or.inl rfl)) pgs_nil))) (pss_one (ps_if (pw_and (pt_cmpR (op_notIn_seqK (K := K) rfl) (pv 7) (pv 1) rfl) (pw_and (pt_cmp (pc_dnotin hu (pv 11) (pv 3))) (pw_and1 (pt_cmp (pc_din hu (pv 12) (pv 3)))))).pt (pss_cons (ps_set (i := 13) sc__law_best.nd rfl (Or.inl rfl) (pe_op op_cat (pe_lst (pa_cons (pv 11) (pa_cons (pv 7) pa_nil))) (pe_dget hu (pv 3) (pv 12) (fun _ _ => rfl)))) (pss_one (ps_dput hu (pv 6) (pv 11) (pe_callB (call_min2D rfl hu6) (by rfl) T.b_min (by decide +kernel) (pa_cons (pe_dget2 hu (pv 6) (pv 11) (pv 13) ⟨rfl, rfl, rfl, rfl⟩) (pa_cons (pv 13) pa_nil))) rfl))) pss_nil))))))) (pss_one (ps_expr (pe_bm PySem.F.plainAttrs_dict PySem.F.slot_dict_update PySem.F.type_dict_update mt_dupdate (pv 3) (pa_cons (pv 6) pa_nil))))))) (pss_one (ps_ret (pv 3))))), ?_⟩
    have x24 : xs.length ≤ 24 := Nat.le_trans (nodup_len xN xr) hS.rL
    refine ⟨_, rfl, r, rfl, ⟨_, SqL.of hx⟩, fun C hC => ?_⟩
    refine lc_list (K := K) (a := r) (xs := xs.map V.str) (fun i G => Same H G ∧ ∃ (ts : List Addr) (kvs : List (Key × V)), G C = some (.lst (ts.map V.ref)) ∧ ts.length = i ∧ Paired (fun t (kv : Key × V) => G t = some (.tup [kV kv.1, kv.2])) ts kvs ∧ Kr (ListN G) kvs ((xs.take i).map fun r => (r, [r]))) ⟨Same.newp hC, [], [], upd_same, rfl, .nil, .nil⟩ (fun i G _ z => SqL.of (z.1 _ _ hx)) ?_ ?_
    · rintro i y G hi ⟨e1, ts, kvs, hc, tl, hp, hk⟩
      rw [List.getElem?_map] at hi
      obtain ⟨z, ez, rfl⟩ := Option.map_eq_some_iff.mp hi
      have li : i < 24 := by
        have := (List.getElem?_eq_some_iff.mp ez).1
        omega
      have tk : xs.take (i + 1) = xs.take i ++ [z] := by
        rw [List.take_add_one, ez]
        rfl
      refine ⟨rfl, _, rfl, _, rfl, (by show 1 ≤ sizeLine; decide), fun g hg => ⟨(by show 2 ≤ sizeLine; decide), fun t ht => ?_⟩⟩
      have e2 : Same G (upd G g (.lst [.str z])) := Same.newp hg
      have hg' : upd G g (.lst [.str z]) g = some (.lst [.str z]) := upd_same
      generalize upd G g (.lst [.str z]) = G1 at e2 hg' ht ⊢
      have e3 : Same G1 (upd G1 t (.tup [.str z, .ref g])) := Same.newp ht
      have ht' : upd G1 t (.tup [.str z, .ref g]) t = some (.tup [.str z, .ref g]) := upd_same
      have hg2 := e3 _ _ hg'
      have e23 := e2.trans e3
      generalize upd G1 t (.tup [.str z, .ref g]) = G2 at e23 ht' hg2 ⊢
      have hc2 := e23 _ _ hc
      refine ⟨_, hc2, ?_, fun c u w => ?_, ts ++ [t], kvs ++ [(Sum.inr z, .ref g)], ?_, ?_, ?_, ?_⟩
      · rw [List.length_map]
        exact small1000 (by omega)
      · rw [upd_ne (ne_of_none w hC)]
        exact e23 _ _ (e1 _ _ w)
      · rw [upd_same, List.map_append]
        rfl
      · rw [List.length_append, tl]
        rfl
      · have off : ∀ c ys, G2 c = some (.tup ys) → upd G2 C (.lst (ts.map V.ref ++ [.ref t])) c = some (.tup ys) := fun c ys w => (upd_ne (ne_of w hc2 (by intro x; cases x))).trans w
        exact Paired.snoc (Paired.mono (fun _ _ w => off _ _ (e23 _ _ w)) hp) (off _ _ ht')
      · rw [tk, List.map_append]
        have gC : g ≠ C := fun w => by
          rw [w, hc2] at hg2
          injection hg2 with hg2
          injection hg2 with hg2
          cases ts <;> cases hg2
        exact Kr.snoc (v := .ref g) (a := [z]) ⟨g, rfl, (upd_ne gC).trans hg2, by simp⟩ ((hk.listS e23).listL hc2)
    rintro G ⟨e1, ts, kvs0, hc, tl, hp, hk0⟩
    rw [List.length_map, List.take_length] at hk0
    have kn : (kvs0.map (·.1)).Nodup := by
      rw [hk0.names]
      have kx : keys (xs.map fun r => (r, [r])) = xs := by
        unfold keys
        rw [List.map_map]
        exact List.map_id xs
      rw [kx]
      exact xN.map _ fun _ _ h w => h (Sum.inr.inj w)
    refine ⟨C, ts, kvs0, rfl, SqL.of hc, Paired.mono (fun _ _ h => SqT.of h) hp, fun D hD => ?_⟩
    rw [mergeK_new (kvs := []) kn (fun _ _ => rfl), List.nil_append]
    have DN : H D = none := e1.free hD
    have nDl : D ≠ l := fun w => by rw [w, l1] at DN; cases DN
    have eS : Same H (upd G D (.dK kvs0)) := e1.trans (Same.newp hD)
    have hk1 := hk0.listS (Same.newp (o := .dK kvs0) hD)
    have hD1 : upd G D (.dK kvs0) D = some (.dK kvs0) := upd_same
    generalize upd G D (.dK kvs0) = G0 at eS hk1 hD1 ⊢
    clear hk0 hc hp hD e1 hC
    have r24 := hS.rL
    refine ⟨_, rfl, m, _, rfl, dget_of (eS _ _ top) (mtop_r ⟨m, l, d, false⟩ a b), a, _, rfl, .inl (SqL.of (eS _ _ rm)), S.rooms.length, by rw [List.length_map], by omega, by omega, ?_⟩
    refine for_range (lo := 0) (n := S.rooms.length) (fun t σ G => (∃ x1 x2 x3 x4 x5 x6 x7 x8 x9 xa : Option V, σ = [some (.ref m), some (.ref s), some (.ref r), some (.ref D), x1, x2, x3, x4, x5, x6, x7, x8, x9, xa]) ∧ Same H G ∧ ∃ kvs tb, G D = some (.dK kvs) ∧ Kr (ListN G) kvs tb ∧ ∀ ls, Srt ls (keys S.lines) → BestAt (leadsTo S sh ls) S.rooms xs tb t)
      ⟨⟨_, _, _, _, _, _, _, _, _, _, rfl⟩, eS, _, _, hD1, hk1, fun ls _ => best_start xN xr xne⟩ ?_ ?_
    · rintro t σ G ht ⟨⟨x1, x2, x3, x4, x5, x6, x7, x8, x9, xa, rfl⟩, eG, kvs, tb, gD, hk, bt⟩
      intro E hE
      have e1 : Same G (upd G E (.dK [])) := Same.newp hE
      have hE1 : upd G E (.dK []) E = some (.dK []) := upd_same
      have nDE : D ≠ E := ne_of_none gD hE
      have EN : H E = none := eG.free hE
      generalize upd G E (.dK []) = G1 at e1 hE1 ⊢
      have eH1 := eG.trans e1
      have gD1 := e1 _ _ gD
      have hk1 := hk.listS e1
      clear e1 hE
      have nEl : E ≠ l := fun w => by rw [w, l1] at EN; cases EN
      have lG := eH1 _ _ l1
      refine ⟨l, _, lG, True.intro, fun od => ?_⟩
      have offl : ∀ {b u}, G1 b = some u → b ≠ l → (upd G1 l (.frz od (.dK k2))) b = some u := fun e n => (upd_ne n).trans e
      have top2 := offl (eH1 _ _ top) mne.2
      have gl2 : upd G1 l (.frz od (.dK k2)) l = some (.frz od (.dK k2)) := upd_same
      have gD2 := offl gD1 nDl
      have gE2 := offl hE1 nEl
      have gs2 := offl (eH1 _ _ hs) (ne_of hs l1 (by intro w; cases w))
      have tup2 : ∀ {b : Addr} {ys : List V}, H b = some (.tup ys) → (upd G1 l (.frz od (.dK k2))) b = some (.tup ys) := fun e => offl (eH1 _ _ e) (ne_of e l1 (by intro w; cases w))
      have hk2 : Kr (ListN (upd G1 l (.frz od (.dK k2)))) kvs tb := hk1.mono fun _ _ ⟨a, q1, q2, q3⟩ => ⟨a, q1, offl q2 (ne_of q2 lG (by intro w; cases w)), q3⟩
      have back : ∀ {G' : Hp}, Ex E (upd G1 l (.frz od (.dK k2))) G' → Same H (upd G' l (.dK k2)) := fun {G'} x b u e => by
        by_cases z : b = l
        · rw [z, upd_same, ← l1, ← z]
          exact e
        · rw [upd_ne z]
          exact x _ _ (offl (eH1 _ _ e) z) (ne_of_none e EN)
      generalize upd G1 l (.frz od (.dK k2)) = G2 at top2 gl2 gD2 gE2 gs2 tup2 hk2 back ⊢
      clear gD1 hk1 lG offl hE1
      obtain ⟨ls0, sl0⟩ := srt_ex (keys S.lines)
      have b0 := bt ls0 sl0
      refine ⟨_, rfl, m, _, rfl, dget_of top2 (mtop_l ⟨m, l, d, false⟩ a b), l, od, rfl, .inl ⟨k2, gl2, ?_⟩⟩
      refine for_it walk_keys (fun i σ G3 => (∃ y1 y2 y3 y4 y5 y6 y7 y8 y9 : Option V, σ = [some (.ref m), some (.ref s), some (.ref r), some (.ref D), y1, y2, some (.ref E), y3, y4, y5, y6, y7, y8, y9]) ∧ Ex E G2 G3 ∧ ∃ kvE tg, G3 E = some (.dK kvE) ∧ Kr (ListN G3) kvE tg ∧ tg.length ≤ 2 * i ∧ GrowInv tb sh tg ((S.lines.take i).flatMap dirs))
        ⟨⟨_, _, _, _, _, _, _, _, _, rfl⟩, Ex.refl, [], [], gE2, .nil, Nat.le_refl _, ⟨List.nodup_nil, (fun r c e => by cases e), fun r c ⟨d, m, _⟩ => by cases m⟩⟩ (fun i σ G3 _ z => z.2.1 _ _ gl2 nEl.symm) ?_ ?_
      · rintro i y σ G3 G3' hi ⟨⟨y1, y2, y3, y4, y5, y6, y7, y8, y9, rfl⟩, x3, kvE, tg, gE3, hkE, ltg, gi⟩ ⟨rfl, kk, vv, ek, rfl⟩
        obtain ⟨q, eq, e3, tq, et, htq⟩ := Kr.at l2 ek
        have e3' : kk = Sum.inr q.1 := e3
        have et' : vv = .ref tq := et
        subst e3' et'
        have ev : valV k2 (Sum.inr q.1) = some (.ref tq) := valV_at l2 hS.lN ek
        have mq := List.mem_of_getElem? eq
        have li : i < 40 := by
          have := (List.getElem?_eq_some_iff.mp eq).1
          have := hS.lL
          omega
        have tk : (S.lines.take (i + 1)).flatMap dirs = (S.lines.take i).flatMap dirs ++ dirs q := by
          rw [List.take_add_one, eq, List.flatMap_append]
          simp
        have ht2 := tup2 htq
        have ht3 := x3 _ _ ht2 (ne_of ht2 gE2 (by intro w; cases w))
        have top3 := x3 _ _ top2 (ne_of_none top EN)
        refine ⟨_, rfl, m, _, rfl, dget_of top3 (mtop_l ⟨m, l, d, false⟩ a b), _, rfl, l, _, rfl, dget_rd (.inr ⟨od, x3 _ _ gl2 nEl.symm⟩) ev, ?_⟩
        refine ⟨tq, _, rfl, SqT.of ht3, rfl, _, _, rfl, _, _, rfl, _, _, rfl, rfl, ?_⟩
        refine ⟨_, rfl, _, rfl, (by show 2 ≤ sizeLine; decide), fun t1 ht1 => ?_⟩
        have f1 : Same G3' (upd G3' t1 (.tup [.str q.2.1, .str q.2.2.1])) := Same.newp ht1
        have ht1' : upd G3' t1 (.tup [.str q.2.1, .str q.2.2.1]) t1 = some (.tup [.str q.2.1, .str q.2.2.1]) := upd_same
        generalize upd G3' t1 (.tup [.str q.2.1, .str q.2.2.1]) = F1 at f1 ht1' ⊢
        refine ⟨_, rfl, _, rfl, (by show 2 ≤ sizeLine; decide), fun t2 ht2' => ?_⟩
        have f2 : Same F1 (upd F1 t2 (.tup [.str q.2.2.1, .str q.2.1])) := Same.newp ht2'
        have ht2'' : upd F1 t2 (.tup [.str q.2.2.1, .str q.2.1]) t2 = some (.tup [.str q.2.2.1, .str q.2.1]) := upd_same
        have ht12 := f2 _ _ ht1'
        have f12 := f1.trans f2
        generalize upd F1 t2 (.tup [.str q.2.2.1, .str q.2.1]) = F2 at f12 ht12 ht2'' ⊢
        refine ⟨(by show 2 ≤ sizeLine; decide), fun tl htl => ?_⟩
        have f3 : Same F2 (upd F2 tl (.lst [.ref t1, .ref t2])) := Same.newp htl
        have htl' : upd F2 tl (.lst [.ref t1, .ref t2]) tl = some (.lst [.ref t1, .ref t2]) := upd_same
        have f13 := f12.trans f3
        have h1 := f3 _ _ ht12
        have h2 := f3 _ _ ht2''
        generalize upd F2 tl (.lst [.ref t1, .ref t2]) = G4 at f13 htl' h1 h2 ⊢
        clear f1 f2 f3 f12 ht1 ht2' htl ht1' ht12 ht2''
        have x4 : Ex E G2 G4 := x3.trans (Ex.of f13)
        have gE4 := f13 _ _ gE3
        have ntlE : tl ≠ E := ne_of htl' gE4 (by intro w; cases w)
        refine ⟨tl, rfl, ⟨_, SqL.of htl'⟩, ?_⟩
        refine for_list (K := K) (a := tl) (xs := [.ref t1, .ref t2]) (fun j σ G5 => (∃ y1 y2 y3 y4 y5 y6 y7 y8 : Option V, σ = [some (.ref m), some (.ref s), some (.ref r), some (.ref D), y1, y2, some (.ref E), some (.str q.1), y3, y4, y5, y6, y7, y8]) ∧ Ex E G4 G5 ∧ ∃ kvE tg, G5 E = some (.dK kvE) ∧ Kr (ListN G5) kvE tg ∧ tg.length ≤ 2 * i + j ∧ GrowInv tb sh tg ((S.lines.take i).flatMap dirs ++ (dirs q).take j))
          ⟨⟨_, _, _, _, _, _, _, _, rfl⟩, Ex.refl, kvE, tg, gE4, hkE.listS f13, by omega, by rw [List.take_zero, List.append_nil]; exact gi⟩ (fun j σ G5 _ z => SqL.of (z.2.1 _ _ htl' ntlE)) ?_ ?_
        · rintro j y σ G5 hj ⟨⟨y1, y2, y3, y4, y5, y6, y7, y8, rfl⟩, x5, kvE, tg, gE5, hkE, ltg, gi⟩
          obtain ⟨tj, here, there, rfl, htj, hdj, lj⟩ : ∃ tj here there, y = .ref tj ∧ G4 tj = some (.tup [.str here, .str there]) ∧ (dirs q)[j]? = some (q.1, here, there) ∧ j < 2 := by
            match j, hj with
            | 0, hj => cases hj; exact ⟨t1, _, _, rfl, h1, rfl, by decide⟩
            | 1, hj => cases hj; exact ⟨t2, _, _, rfl, h2, rfl, by decide⟩
          have tj2 : (dirs q).take (j + 1) = (dirs q).take j ++ [(q.1, here, there)] := by
            rw [List.take_add_one, hdj]
            rfl
          have skip : (q.1 ∈ sh ∨ here ∈ keys tb ∨ look tb there = none) → GrowInv tb sh tg ((S.lines.take i).flatMap dirs ++ (dirs q).take (j + 1)) := fun h => by
            rw [tj2, ← List.append_assoc]
            exact gi.skip (no_cand h)
          have x25 := x4.trans x5
          have gD5 := x25 _ _ gD2 nDE
          have gs5 := x25 _ _ gs2 (ne_of_none hs EN)
          have hk5 := hk2.listN gE2 x25
          have i0 : inV (.str q.1) (sh.map V.str) = decide (q.1 ∈ sh) := inV_strs _ _
          refine ⟨tj, _, rfl, SqT.of (x5 _ _ htj (ne_of htj gE4 (by intro w; cases w))), rfl, _, _, rfl, _, _, rfl, rfl, ?_⟩
          refine ⟨_, rfl, _, rfl, s, _, rfl, .inl (SqL.of gs5), rfl, flat_strs _, _, rfl, ?_⟩
          by_cases hz : q.1 ∈ sh
          · refine if_f (by show (!inV (.str q.1) (sh.map V.str)) = false; rw [i0, decide_eq_true hz]; rfl) ?_
            exact if_f rfl ⟨⟨_, _, _, _, _, _, _, _, rfl⟩, x5, kvE, tg, gE5, hkE, by omega, skip (.inl hz)⟩
          refine if_t (by show (!inV (.str q.1) (sh.map V.str)) = true; rw [i0, decide_eq_false hz]; rfl) ?_
          refine ⟨_, rfl, _, rfl, D, _, rfl, DGet.k (k := Sum.inr here) gD5, _, rfl, ?_⟩
          by_cases hk : here ∈ keys tb
          · obtain ⟨w0, ew0⟩ := key_look hk
            refine if_f (by rw [hk5.has, ew0]; rfl) ?_
            exact if_f rfl ⟨⟨_, _, _, _, _, _, _, _, rfl⟩, x5, kvE, tg, gE5, hkE, by omega, skip (.inr (.inl hk))⟩
          refine if_t (by rw [hk5.has, look_none.mpr hk]; rfl) ?_
          refine ⟨_, rfl, _, rfl, D, _, rfl, DGet.k (k := Sum.inr there) gD5, _, rfl, ?_⟩
          cases lw : look tb there with
          | none =>
            refine if_f (by rw [hk5.has, lw]; rfl) ?_
            exact ⟨⟨_, _, _, _, _, _, _, _, rfl⟩, x5, kvE, tg, gE5, hkE, by omega, skip (.inr (.inr lw))⟩
          | some w =>
          refine if_t (by rw [hk5.has, lw]; rfl) ?_
          obtain ⟨v, ev5, wa, rfl, hwa, wne⟩ := hk5.get lw
          have wl : w.length ≤ 2 * t + 1 := (b0.val _ _ lw).2.2.2
          have wl2 : w.length ≤ 49 := by omega
          refine ⟨_, rfl, _, rfl, (by show 2 ≤ sizeLine; decide), fun c1 hc1 => ?_⟩
          have g1 : Same G5 (upd G5 c1 (.lst [.str here, .str q.1])) := Same.newp hc1
          have hc1' : upd G5 c1 (.lst [.str here, .str q.1]) c1 = some (.lst ([here, q.1].map V.str)) := upd_same
          generalize upd G5 c1 (.lst [.str here, .str q.1]) = G6 at g1 hc1' ⊢
          refine ⟨_, rfl, _, rfl, D, _, rfl, dget_of (g1 _ _ gD5) ev5, ?_⟩
          refine ⟨c1, wa, _, _, rfl, rfl, hc1', g1 _ _ hwa, ?_, fun td htd => ?_⟩
          · rw [List.length_map, List.length_map]
            show 2 + w.length ≤ sizeLine
            exact Nat.le_of_lt (small1000 (by omega))
          rw [← List.map_append]
          have g2 : Same G6 (upd G6 td (.lst (([here, q.1] ++ w).map V.str))) := Same.newp htd
          have htd' : upd G6 td (.lst (([here, q.1] ++ w).map V.str)) td = some (.lst ((here :: q.1 :: w).map V.str)) := upd_same
          have g12 := g1.trans g2
          generalize upd G6 td (.lst (([here, q.1] ++ w).map V.str)) = G7 at g12 htd' ⊢
          clear g1 g2 hc1 htd hc1'
          have gE7 := g12 _ _ gE5
          have hkE7 := hkE.listS g12
          have lE : kvE.length ≤ 900 := by rw [hkE.len]; omega
          have gput := gi.put (d := (q.1, here, there)) hz hk lw
          refine ⟨_, rfl, E, rfl, .inl ⟨kvE, .inl gE7⟩, _, rfl, _, rfl, _, DGet.k (k := Sum.inr here) gE7, _, rfl, ?_⟩
          have done : ∀ {vv : V}, ListN G7 vv (better (look tg here) (here :: q.1 :: w)) → kvE.length < sizeLine ∧ ((Ex E G4 (upd G7 E (.dK (putK kvE (Sum.inr here) vv)))) ∧ ∃ kvE2 tg2, (upd G7 E (.dK (putK kvE (Sum.inr here) vv))) E = some (.dK kvE2) ∧ Kr (ListN (upd G7 E (.dK (putK kvE (Sum.inr here) vv)))) kvE2 tg2 ∧ tg2.length ≤ 2 * i + (j + 1) ∧ GrowInv tb sh tg2 ((S.lines.take i).flatMap dirs ++ (dirs q).take (j + 1))) := fun {vv} lv => by
            refine ⟨small1000 (by omega), (x5.trans (Ex.of g12)).trans Ex.put, _, setT tg here (better (look tg here) (here :: q.1 :: w)), upd_same, ?_, ?_, ?_⟩
            · exact (hkE7.set lv).listN gE7 Ex.put
            · unfold setT
              by_cases c : here ∈ keys tg
              · rw [if_pos c, List.length_map]
                omega
              · rw [if_neg c, List.length_append, List.length_singleton]
                omega
            · rw [tj2, ← List.append_assoc]
              exact gput
          cases lo : look tg here with
          | none =>
            rw [lo] at done
            rw [hkE7.no lo]
            refine ⟨_, _, wordD (here :: q.1 :: w), wordD (here :: q.1 :: w), rfl, word_dp htd', word_dp htd', words_alike _ _, words_depth _ _, ?_⟩
            rw [if_neg (by rw [dataLt_irrefl]; simp)]
            obtain ⟨sz, e1, e2⟩ := done (vv := .ref td) ⟨td, rfl, htd', by show (here :: q.1 :: w) ≠ []; simp⟩
            exact ⟨_, rfl, _, rfl, E, _, rfl, DPut.k (k := Sum.inr here) gE7 sz, ⟨_, _, _, _, _, _, _, _, rfl⟩, e1, e2⟩
          | some old =>
            rw [lo] at done
            obtain ⟨vo, evo, oa, rfl, hoa, one⟩ := hkE7.get lo
            rw [evo]
            refine ⟨_, _, wordD old, wordD (here :: q.1 :: w), rfl, word_dp hoa, word_dp htd', words_alike _ _, words_depth _ _, ?_⟩
            by_cases c : lt2 (here :: q.1 :: w) old = true
            · rw [if_pos (show PySem.W.dataLt (wordD (here :: q.1 :: w)) (wordD old) = true from c)]
              obtain ⟨sz, e1, e2⟩ := done (vv := .ref td) ⟨td, rfl, by
                show _ = some (HO.lst ((if lt2 (here :: q.1 :: w) old = true then (here :: q.1 :: w) else old).map V.str))
                rw [if_pos c]
                exact htd', by
                show (if lt2 (here :: q.1 :: w) old = true then (here :: q.1 :: w) else old) ≠ []
                rw [if_pos c]
                simp⟩
              exact ⟨_, rfl, _, rfl, E, _, rfl, DPut.k (k := Sum.inr here) gE7 sz, ⟨_, _, _, _, _, _, _, _, rfl⟩, e1, e2⟩
            · rw [if_neg (show ¬ PySem.W.dataLt (wordD (here :: q.1 :: w)) (wordD old) = true from c)]
              obtain ⟨sz, e1, e2⟩ := done (vv := .ref oa) ⟨oa, rfl, by
                show _ = some (HO.lst ((if lt2 (here :: q.1 :: w) old = true then (here :: q.1 :: w) else old).map V.str))
                rw [if_neg c]
                exact hoa, by
                show (if lt2 (here :: q.1 :: w) old = true then (here :: q.1 :: w) else old) ≠ []
                rw [if_neg c]
                exact one⟩
              exact ⟨_, rfl, _, rfl, E, _, rfl, DPut.k (k := Sum.inr here) gE7 sz, ⟨_, _, _, _, _, _, _, _, rfl⟩, e1, e2⟩
        · rintro σ G5 ⟨⟨y1, y2, y3, y4, y5, y6, y7, y8, rfl⟩, x5, kvE, tg, gE5, hkE, ltg, gi⟩
          refine ⟨⟨_, _, _, _, _, _, _, _, _, rfl⟩, x4.trans x5, kvE, tg, gE5, hkE, ?_, ?_⟩
          · have : [V.ref t1, V.ref t2].length = 2 := rfl
            omega
          · rw [tk]
            exact gi
      · rintro σ G3 ⟨⟨y1, y2, y3, y4, y5, y6, y7, y8, y9, rfl⟩, x3, kvE, tg, gE3, hkE, ltg, gi⟩
        rw [l2.len, List.take_length] at gi
        rw [l2.len] at ltg
        have l40 := hS.lL
        have gl3 := x3 _ _ gl2 nEl.symm
        refine ⟨gl3, ?_⟩
        have eG6 := back x3
        have gD6 : upd G3 l (.dK k2) D = some (.dK kvs) := (upd_ne nDl).trans (x3 _ _ gD2 nDE)
        have gE6 : upd G3 l (.dK k2) E = some (.dK kvE) := (upd_ne nEl).trans gE3
        have hk6 : Kr (ListN (upd G3 l (.dK k2))) kvs tb := (hk2.listN gE2 x3).mono fun _ _ ⟨a, q1, q2, q3⟩ => ⟨a, q1, (upd_ne (ne_of q2 gl3 (by intro w; cases w))).trans q2, q3⟩
        have hkE6 : Kr (ListN (upd G3 l (.dK k2))) kvE tg := hkE.mono fun _ _ ⟨a, q1, q2, q3⟩ => ⟨a, q1, (upd_ne (ne_of q2 gl3 (by intro w; cases w))).trans q2, q3⟩
        generalize upd G3 l (.dK k2) = G6 at eG6 gD6 gE6 hk6 hkE6 ⊢
        have tb24 : tb.length ≤ 24 := by
          have h := Nat.le_trans (nodup_len b0.nd b0.sub) r24
          unfold keys at h
          rw [List.length_map] at h
          exact h
        have dis : ∀ z ∈ keys tg, z ∉ keys tb := fun z mz => by
          obtain ⟨c, ec⟩ := key_look mz
          obtain ⟨d, _, _, _, nk, _⟩ := (gi.val z c ec).1
          exact nk
        have kn : (kvE.map (·.1)).Nodup := by
          rw [hkE6.names]
          exact gi.nd.map _ fun _ _ h w => h (Sum.inr.inj w)
        have kd : ∀ p ∈ kvE, valV kvs p.1 = none := fun p mp => by
          have mk : p.1 ∈ kvE.map (·.1) := List.mem_map_of_mem mp
          rw [hkE6.names] at mk
          obtain ⟨z, mz, ez⟩ := List.mem_map.mp mk
          rw [← ez]
          exact hk6.no (look_none.mpr (dis z mz))
        refine ⟨_, rfl, .inr (.inr (.inl ⟨rfl, .inl ⟨_, gD6⟩⟩)), _, rfl, D, E, kvs, kvE, rfl, rfl, nDE, gD6, gE6, ?_, ?_⟩
        · rw [hk6.len, hkE6.len]
          exact Nat.le_of_lt (small1000 (by omega))
        rw [mergeK_new kn kd]
        refine ⟨⟨_, _, _, _, _, _, _, _, _, _, rfl⟩, fun c0 u0 w0 => ?_, kvs ++ kvE, tb ++ tg, upd_same, (hk6.app hkE6).listN gD6 Ex.put, fun ls sl => ?_⟩
        · rw [upd_ne (ne_of_none w0 DN)]
          exact eG6 _ _ w0
        · exact (bt ls sl).next gi (fun r q h => leads_room hS h) fun r l b => leads_dirs hS (fun l m => sl.1.mem_iff.mpr m) r l b
    · rintro σ G ⟨⟨x1, x2, x3, x4, x5, x6, x7, x8, x9, xa, rfl⟩, eG, kvs, tb, gD, hk, bt⟩
      exact ⟨_, rfl, k D G kvs tb gD hk bt eG⟩
end
end SM
namespace SM
open PySem PySem.Spec PyProof.Rows L2
open Evl (tCut pss_cut)
section
variable {P : Program} {w : World} {K : PySem.W.Frag} {mg : Str → Option Value} {base : Heap} {C : Nat → Addr} {M L : Addr}
theorem sc_law : FnScope ["_law_script", "_law_bag_here", "_law_m", "_law_layout", "_law_turn", "_law_shut", "_law_rooms", "_law_best_here", "_law_starts", "_law_room", "_law_due", "_law_handed", "_law_found"] ["_law_script"] (defScope s_law) := ⟨rfl, rfl, rfl, by decide +kernel, rfl, by decide +kernel, by decide +kernel⟩
theorem lo_law (T : Tx K mg C M L) : OkQ P w K mg base CX0 10 "law" ["_law_script"] (spLawL K) := by
  refine T.d_law.okQ sc_law (fun _ _ _ _ _ _ us hl => match us, hl with | [_], _ => rfl) (fun vs H Q E h => ?_) (fun f cdv Ar outer st H vs Q E qa hr h => ?_)
  · obtain ⟨a, ns, rfl, _⟩ := h
    rfl
  · obtain ⟨a, ns, rfl, hS, hl, k⟩ := h
    have hu := hu_of hr
    have hu6 := hu64 hr
    refine ⟨_, (pss_cons (ps_set (i := 1) sc_law.nd rfl (Or.inl rfl) (pe_f (ok_bag T) (hr.mono (by decide)) pass0 (pa_cons (pv 0) pa_nil))) (pss_cons (ps_set (i := 2) sc_law.nd rfl (Or.inl rfl) (pe_f (lo_world T) (hr.mono (by decide)) pass0 (pa_cons (pv 1) pa_nil))) (pss_cons (ps_set (i := 3) sc_law.nd rfl (Or.inl rfl) (pe_f (lo_laid T) (hr.mono (by decide)) pass0 (pa_cons (pv 2) pa_nil))) (pss_cons (ps_for PassesOwn.never rfl (pi_range1 rfl T.b_range (pa_cons pe_int pa_nil)) (pg_name (i := 4) sc_law.nd rfl (Or.inl rfl)) (pss_cons (ps_set (i := 5) sc_law.nd rfl (Or.inl rfl) (pe_f (lo_some T) (hr.mono (by decide)) pass0 (pa_cons (pv 1) (pa_cons (pe_f (lo_switches T) (hr.mono (by decide)) pass0 (pa_cons (pv 2) pa_nil)) pa_nil)))) (pss_cons (ps_set (i := 6) sc_law.nd rfl (Or.inl rfl) (pe_f (lo_stretch T) (hr.mono (by decide)) pass0 (pa_cons (pv 1) (pa_cons (pv 2) pa_nil)))) (pss_cons (ps_set (i := 7) sc_law.nd rfl (Or.inr rfl) (pe_f (lo_best T) (hr.mono (by decide)) pass0 (pa_cons (pv 2) (pa_cons (pv 5) (pa_cons (pv 6) pa_nil))))) (pss_cons (ps_setLc (i := 8) (own := [("_law_room", 9)]) rfl sc_law.nd rfl rfl (sw_true rfl rfl rfl (by decide +kernel)) (pi_list (pe_dget hu (pv 2) pe_str (fun _ _ => rfl))) (blkOk_by (N := ["_law_script", "_law_bag_here", "_law_m", "_law_layout", "_law_turn", "_law_shut", "_law_rooms", "_law_best_here", "_law_starts", "_law_room", "_law_due", "_law_handed", "_law_found"]) (sc := (defScope s_law)) (by decide +kernel)) (fun _ _ _ _ _ => (pg_name (i := 9) sc_law.nd rfl (Or.inl rfl))) (fun _ _ _ _ _ => (pts_one (pt_cmp (pc_din hu (pv 9) (pv 7))))) (fun _ _ _ _ _ => (pe_tup (pa_cons (pe_callB (call_len_seqK (K := K) rfl) (by rfl) T.b_len PySem.boot_len (pa_cons (pe_dget hu (pv 7) (pv 9) (fun _ _ => rfl)) pa_nil)) (pa_cons (pe_dget hu (pv 7) (pv 9) (fun _ _ => rfl)) pa_nil))))) (pss_cons (ps_set (i := 10) sc_law.nd rfl (Or.inl rfl) pe_non) (pss_cut (ps_if (pt_cmpR (op_neD hu6) (pv 8) (pe_lst pa_nil) (nomark _)) (pss_one (ps_set (i := 10) sc_law.nd rfl (Or.inl rfl) (pe_ix ix_tup (pe_callB (cr_minD rfl hu6) (by rfl) T.b_min (by decide +kernel) (pa_cons (pv 8) pa_nil)) pe_int (fun _ _ => rfl)))) pss_nil) (pss_cons (ps_set (i := 11) sc_law.nd rfl (Or.inl rfl) (pe_lst (pa_cons (pe_callTy call_list_of (by rfl) T.b_list (by decide +kernel) (pa_cons (pv 5) pa_nil)) (pa_cons (pe_callTy call_list_of (by rfl) T.b_list (by decide +kernel) (pa_cons (pv 6) pa_nil)) pa_nil)))) (pss_cons (ps_set (i := 12) sc_law.nd rfl (Or.inl rfl) (pe_f (ro_way_to T.toRx) (hr.mono (by decide)) pass0 (pa_cons (pv 3) (pa_cons (pe_ix ix_list (pv 11) pe_int (fun _ _ => rfl)) (pa_cons (pe_ix ix_list (pv 11) pe_int (fun _ _ => rfl)) pa_nil))))) (pss_one (ps_if (pw_or (pt_cmpR (op_neD hu6) (pv 11) (pe_lst (pa_cons (pv 5) (pa_cons (pv 6) pa_nil))) (nomark _)) (pw_or1 (pt_not (pt_val (pe_q (lo_alike T) qa (hr.mono (by decide)) pass0 (pa_cons (pv 12) (pa_cons (pv 10) pa_nil))))))).pt (pss_one (ps_ret pe_bl)) pss_nil))))))))))) (pss_one (ps_ret pe_bl)))))), ?_⟩
    refine ⟨_, rfl, a, ns, rfl, hS, hl, fun H1 p q s1 hp hq B1 => ?_⟩
    refine ⟨_, rfl, p, q, rfl, B1, fun m l d ra sa S H2 W2 B2 K2 => ?_⟩
    refine ⟨_, rfl, m, l, d, ra, sa, S, rfl, W2, fun A0 H3 hL3 e3 fr3 => ?_⟩
    refine ⟨6, rfl, by decide, by decide, ?_⟩
    refine for_range (lo := 0) (n := 6) (fun i σ G => (∃ x1 x2 x3 x4 x5 x6 x7 x8 x9 : Option V, σ = [some (.ref a), some (.ref p), some (.ref m), some (.ref A0.p), x1, x2, x3, x4, x5, x6, x7, x8, x9]) ∧ WAt G m l d ra sa S ∧ LayAt L G A0 S ∧ Bag G p q)
      ⟨⟨_, _, _, _, _, _, _, _, _, rfl⟩, W2.same e3, hL3, B2.same e3⟩ ?_ ?_
    · rintro i σ G hi ⟨⟨x1, x2, x3, x4, x5, x6, x7, x8, x9, rfl⟩, W, hL, B⟩
      have hS := W.ok
      refine ⟨_, rfl, _, rfl, m, l, d, ra, sa, S, rfl, W, fun r1 G1 e1 n1 h1 => ?_⟩
      have sl : (swOf S).length ≤ 40 := Nat.le_trans (nodup_len (sw_nodup hS) (fun x => swOf_sub)) (by rw [keys, List.length_map]; exact hS.lL)
      refine ⟨p, q, r1, swOf S, rfl, B.same e1, h1, sw_nodup hS, by omega, fun r2 sh G2 h2 nd2 sub2 B2 k2 => ?_⟩
      have kA := (Keep.of (ms := [p]) e1).trans k2
      have WA := W.keep B kA
      refine ⟨_, rfl, _, rfl, p, q, m, l, d, ra, sa, S, rfl, B2, WA, fun r3 xs G3 h3 nd3 l3 sub3 B3 k3 => ?_⟩
      have kB := kA.trans k3
      have WB := W.keep B kB
      have npA : ∀ c ∈ [p], c ∉ A0.ms := fun c hc w => by
        rw [List.mem_singleton.mp hc] at w
        obtain ⟨kk, e⟩ := hL.dks _ w
        exact (B.nd e).1 rfl
      have hLB := hL.keep kB npA
      have h2B := k3.flat _ _ h2 (flat_strs _)
      have xne : xs ≠ [] := fun z => by rw [z] at l3; cases l3
      refine ⟨_, rfl, _, rfl, _, rfl, m, l, d, ra, sa, r2, r3, S, sh, xs, rfl, WB, h2B, h3, nd3, sub3, xne, fun D G4 kvs tb gD hk bt e4 => ?_⟩
      have W4 := WB.same e4
      have hL4 := hLB.same e4
      have B4 := B3.same e4
      have h24 := e4 _ _ h2B
      have h34 := e4 _ _ h3
      obtain ⟨ls0, sl0⟩ := srt_ex (keys S.lines)
      have b0 := bt ls0 sl0
      have r24 := hS.rL
      have okx : ∀ x ∈ xs, okName x = true := fun x w => hS.rG x (sub3 x w)
      have oks : ∀ x ∈ sh, okName x = true := fun x w => hS.lG x (swOf_sub (sub2 x w))
      have wok : ∀ r w, look tb r = some w → w.length ≤ 49 ∧ ∀ z ∈ w, okName z = true := fun r w e => by
        obtain ⟨⟨hs, lss, wy⟩, _, _, l⟩ := b0.val r w e
        exact ⟨by omega, way_ok hS wy fun x mx => by rw [List.mem_singleton.mp mx]; exact hS.rG _ (b0.sub _ (look_key e))⟩
      have sN := hS.sN
      have s24 : S.sources.length ≤ 24 := Nat.le_trans (nodup_len hS.sN hS.sI) r24
      refine ⟨_, rfl, m, _, rfl, dget_of W4.top (mtop_s ⟨m, l, d, false⟩ ra sa), sa, rfl, ⟨_, SqL.of W4.sc⟩, fun F hF => ?_⟩
      refine lc_list (K := K) (a := sa) (xs := S.sources.map V.str) (fun j G => Same G4 G ∧ ∃ ts : List Addr, G F = some (.lst (ts.map V.ref)) ∧ ts.length ≤ j ∧ Paired (TupG G) ts ((S.sources.take j).filterMap (look tb))) ⟨Same.newp hF, [], upd_same, Nat.le_refl _, .nil⟩ (fun j G _ z => SqL.of (z.1 _ _ W4.sc)) ?_ ?_
      · rintro j y G hj ⟨e5, ts, gF, lts, hp⟩
        rw [List.getElem?_map] at hj
        obtain ⟨z, ez, rfl⟩ := Option.map_eq_some_iff.mp hj
        have lj := (List.getElem?_eq_some_iff.mp ez).1
        have tk : S.sources.take (j + 1) = S.sources.take j ++ [z] := by
          rw [List.take_add_one, ez]
          rfl
        have gD5 := e5 _ _ gD
        have hk5 := hk.listS e5
        refine ⟨rfl, _, rfl, _, rfl, D, _, rfl, DGet.k (k := Sum.inr z) gD5, _, rfl, ?_⟩
        cases lw : look tb z with
        | none =>
          refine if_f (by rw [hk5.has, lw]; rfl) ⟨e5, ts, gF, by omega, ?_⟩
          rw [tk, List.filterMap_append, List.filterMap_cons, lw]
          simpa using hp
        | some w =>
          obtain ⟨v, ev, wa, rfl, hwa, wne⟩ := hk5.get lw
          refine if_t (by rw [hk5.has, lw]; rfl) ?_
          refine ⟨_, rfl, _, rfl, D, _, rfl, dget_of gD5 ev, wa, _, rfl, .inl (SqL.of hwa), _, rfl, _, rfl, D, _, rfl, dget_of gD5 ev, (by show 2 ≤ sizeLine; decide), fun t ht => ?_⟩
          rw [List.length_map]
          have e6 : Same G (upd G t (.tup [.int w.length, .ref wa])) := Same.newp ht
          have ht' : upd G t (.tup [.int w.length, .ref wa]) t = some (.tup [.int w.length, .ref wa]) := upd_same
          generalize upd G t (.tup [.int w.length, .ref wa]) = G6 at e6 ht' ⊢
          have gF6 := e6 _ _ gF
          have waF : wa ≠ F := fun q => by
            have h := e6 _ _ hwa
            rw [q, gF6] at h
            injection h with h
            injection h with h
            cases w with
            | nil => exact wne rfl
            | cons y r => cases ts <;> cases h
          have off : ∀ {t' : Addr} {w' : List Str}, TupG G t' w' → w' ≠ [] → TupG (upd G6 F (.lst (ts.map V.ref ++ [.ref t]))) t' w' := fun {t' w'} ⟨wb, q1, q2⟩ wn => by
            refine ⟨wb, (upd_ne (ne_of (e6 _ _ q1) gF6 (by intro x; cases x))).trans (e6 _ _ q1), ?_⟩
            have wbF : wb ≠ F := fun q => by
              have h := e6 _ _ q2
              rw [q, gF6] at h
              injection h with h
              injection h with h
              cases w' with
              | nil => exact wn rfl
              | cons y r => cases ts <;> cases h
            exact (upd_ne wbF).trans (e6 _ _ q2)
          have wn' : ∀ w' ∈ (S.sources.take j).filterMap (look tb), w' ≠ [] := fun w' mw => by
            obtain ⟨r', _, e'⟩ := List.mem_filterMap.mp mw
            obtain ⟨⟨hs, lss, wy⟩, _⟩ := b0.val r' w' e'
            exact wy.nonnil
          refine ⟨_, gF6, ?_, fun c u w' => ?_, ts ++ [t], ?_, ?_, ?_⟩
          · rw [List.length_map]
            exact small1000 (by omega)
          · rw [upd_ne (ne_of_none w' hF)]
            exact e6 _ _ (e5 _ _ w')
          · rw [upd_same, List.map_append]
            rfl
          · rw [List.length_append, List.length_singleton]
            omega
          · rw [tk, List.filterMap_append, List.filterMap_cons, lw, List.filterMap_nil]
            refine Paired.snoc (Paired.monoR hp fun t' w' mw h => off h (wn' w' mw)) ?_
            exact ⟨wa, (upd_ne (ne_of ht' gF6 (by intro x; cases x))).trans ht', (upd_ne waF).trans (e6 _ _ hwa)⟩
      rintro G5 ⟨e5, ts, gF, lts, hp⟩
      rw [List.length_map] at hp lts
      rw [List.take_length] at hp
      have wsok : ∀ w ∈ S.sources.filterMap (look tb), w.length ≤ 49 ∧ ∀ z ∈ w, okName z = true := fun w mw => by
        obtain ⟨r', _, e'⟩ := List.mem_filterMap.mp mw
        exact wok r' w e'
      have due : ∀ {ls ss : List Str} {R : Option (List Str)}, Srt ls (keys S.lines) → ss.Perm S.sources → Opt (leadsTo S sh ls) ss xs R → DueIs (S.sources.filterMap (look tb)) R := fun {ls ss R} sl p op => due_is hS (bt ls sl) p op
      have wl24 : (S.sources.filterMap (look tb)).length ≤ 24 := Nat.le_trans (List.length_filterMap_le _ _) s24
      generalize S.sources.filterMap (look tb) = ws at hp wsok due wl24
      have W5 := W4.same e5
      have hL5 := hL4.same e5
      have B5 := B4.same e5
      have h25 := e5 _ _ h24
      have h35 := e5 _ _ h34
      refine ⟨fun σ G => (∃ (x1 x2 x3 x4 x5 x6 : Option V) (dv : V), σ = [some (.ref a), some (.ref p), some (.ref m), some (.ref A0.p), x1, some (.ref r2), some (.ref r3), x2, x3, x4, some dv, x5, x6] ∧ DueW G dv ws) ∧ Same G5 G, ?_, ?_⟩
      · refine ⟨_, rfl, (by show 0 ≤ sizeLine; decide), fun z0 hz0 => ?_⟩
        have e6 : Same G5 (upd G5 z0 (.lst [])) := Same.newp hz0
        have hp6 : Paired (TupG (upd G5 z0 (.lst []))) ts ws := Paired.mono (fun t w ⟨wa, a, b⟩ => ⟨wa, e6 _ _ a, e6 _ _ b⟩) hp
        have fine := tups_fine wsok wl24
        refine ⟨.list (ws.map tupW), .list [], .lst (SqL.of (e6 _ _ gF)) (tups_dp hp6), .lst (SqL.of upd_same) .nil, fine.shaped, fine_nil.shaped, _, rfl, ?_⟩
        rw [tups_eqv]
        have gF6 := e6 _ _ gF
        generalize upd G5 z0 (.lst []) = G6 at e6 hp6 gF6 ⊢
        by_cases z : ws = []
        · rw [decide_eq_true z]
          exact if_f rfl ⟨⟨_, _, _, _, _, _, _, rfl, .inl ⟨rfl, z⟩⟩, e6⟩
        rw [decide_eq_false z]
        refine if_t rfl ?_
        obtain ⟨w0, wr, ew0⟩ : ∃ w0 wr, ws = w0 :: wr := by
          cases ws with
          | nil => exact absurd rfl z
          | cons w0 wr => exact ⟨_, _, rfl⟩
        refine ⟨_, rfl, F, ts.map V.ref, tupW w0, wr.map tupW, rfl, SqL.of gF6, by have := tups_dp (K := K) hp6; rw [ew0] at this; exact this, by have := tups_alike ws; rw [ew0] at this; exact this, by have := tups_depth ws; rw [ew0] at this; exact this, fun i v e hv he least => ?_⟩
        have he' : (ws.map tupW)[i]? = some e := by rw [ew0]; exact he
        rw [List.getElem?_map] at hv he'
        obtain ⟨t, et, rfl⟩ := Option.map_eq_some_iff.mp hv
        obtain ⟨wd, ewd, rfl⟩ := Option.map_eq_some_iff.mp he'
        obtain ⟨wd2, ewd2, wa, hta, hwa⟩ := Paired.at hp6 et
        rw [ewd] at ewd2
        cases ewd2
        refine ⟨t, _, 1, _, rfl, rfl, SqT.of hta, rfl, ?_⟩
        refine ⟨⟨_, _, _, _, _, _, _, rfl, .inr ⟨wa, wd, rfl, hwa, List.mem_of_getElem? ewd, ?_⟩⟩, e6⟩
        refine least_of fun e' m => least e' ?_
        rw [ew0] at m
        exact m
      rintro σ G ⟨⟨y1, y2, y3, y4, y5, y6, dv, rfl, hdue⟩, eG⟩
      have W6 := W5.same eG
      have hL6 := hL5.same eG
      have B6 := B5.same eG
      have h26 := eG _ _ h25
      have h36 := eG _ _ h35
      refine ⟨_, rfl, r2, _, rfl, .inl (SqL.of h26), fun t1 ht1 => ?_⟩
      have s1' : Same G (upd G t1 (.lst (sh.map V.str))) := Same.newp ht1
      refine ⟨_, rfl, r3, _, rfl, .inl (SqL.of (s1' _ _ h36)), fun t2 ht2 => ?_⟩
      have s2' : Same (upd G t1 (.lst (sh.map V.str))) (upd (upd G t1 (.lst (sh.map V.str))) t2 (.lst (xs.map V.str))) := Same.newp ht2
      refine ⟨(by show 2 ≤ sizeLine; decide), fun hd hhd => ?_⟩
      have s3' : Same (upd (upd G t1 (.lst (sh.map V.str))) t2 (.lst (xs.map V.str))) (upd (upd (upd G t1 (.lst (sh.map V.str))) t2 (.lst (xs.map V.str))) hd (.lst [.ref t1, .ref t2])) := Same.newp hhd
      have ht1' := s3' t1 _ (s2' t1 _ upd_same)
      have ht2' := s3' t2 _ upd_same
      have hhd' : upd (upd (upd G t1 (.lst (sh.map V.str))) t2 (.lst (xs.map V.str))) hd (.lst [.ref t1, .ref t2]) hd = some (.lst [.ref t1, .ref t2]) := upd_same
      have s4 := (s1'.trans s2').trans s3'
      generalize upd (upd (upd G t1 (.lst (sh.map V.str))) t2 (.lst (xs.map V.str))) hd (.lst [.ref t1, .ref t2]) = G7 at s4 ht1' ht2' hhd' ⊢
      have hL7 := hL6.same s4
      have lx : xs.length ≤ 24 := Nat.le_trans (nodup_len nd3 sub3) hS.rL
      have ls' : sh.length ≤ 40 := Nat.le_trans (nodup_len nd2 sub2) sl
      have A : Asks L G7 A0 S t1 t2 sh xs := ⟨hL7, hS, ht1', ht2', nd2, nd3, by omega, l3, sub2, sub3⟩
      refine ⟨_, rfl, _, rfl, hd, _, 0, _, rfl, rfl, SqL.of hhd', rfl, _, rfl, hd, _, 1, _, rfl, rfl, SqL.of hhd', rfl, A0, S, t1, t2, sh, xs, rfl, A, fun G8 v ls ss sls sss e8 fv res => ?_⟩
      have op := firstWay_opt (f := leadsTo S sh ls) (rs := S.rooms) (xs := ss) (es := xs) (ss := ss) hS.rL (fun r _ q mq => leads_next hS mq) (fun r => leads_sorted sls.2 (sls.1.nodup_iff.mpr hS.lN) r) (sss.1.nodup_iff.mpr hS.sN) (fun x m => hS.sI x (sss.1.mem_iff.mp m)) (List.Perm.refl _) (srt_ltS sss.2 (sss.1.nodup_iff.mpr hS.sN))
      have dd := due sls sss.1 op
      have e68 := s4.trans e8
      refine ⟨_, rfl, _, rfl, _, rfl, (by show 2 ≤ sizeLine; decide), fun hd2 hh2 => ?_⟩
      have e9 : Same G8 (upd G8 hd2 (.lst [.ref r2, .ref r3])) := Same.newp hh2
      have e89 := e8.trans e9
      have good : GoodLs [sh, xs] := fun zs m => by
        rcases List.mem_cons.mp m with e | m
        · rw [e]
          exact ⟨by omega, oks⟩
        · rw [List.mem_singleton.mp m]
          exact ⟨by omega, okx⟩
      refine ⟨rowsD [sh, xs], rowsD [sh, xs], .lst (SqL.of (e89 _ _ hhd')) (.cons (names_dp (e89 _ _ ht1')) (.cons (names_dp (e89 _ _ ht2')) .nil)), .lst (SqL.of upd_same) (.cons (names_dp (e9 _ _ (e68 _ _ h26))) (.cons (names_dp (e9 _ _ (e68 _ _ h36))) .nil)), rows_shaped good, rows_shaped good, _, rfl, ?_⟩
      rw [rows_self good]
      refine if_f rfl ?_
      have e69 := e68.trans e9
      have hd9 := hdue.same e69
      have W9 := W6.same e69
      have hL9 := hL6.same e69
      have B9 := B6.same e69
      generalize firstWay (leadsTo S sh ls) ss ss xs = R at res op dd
      have res9 : ResV (upd G8 hd2 (.lst [.ref r2, .ref r3])) v R := by
        cases R with
        | none => exact res
        | some w =>
          obtain ⟨g, rfl, hg⟩ := res
          exact ⟨g, rfl, e9 _ _ hg⟩
      generalize upd G8 hd2 (.lst [.ref r2, .ref r3]) = G9 at hd9 W9 hL9 B9 res9 ⊢
      have fin : (∃ x1 x2 x3 x4 x5 x6 x7 x8 x9 : Option V, [some (.ref a), some (.ref p), some (.ref m), some (.ref A0.p), y1, some (.ref r2), some (.ref r3), y2, y3, y4, some dv, some (.ref hd), some v] = [some (.ref a), some (.ref p), some (.ref m), some (.ref A0.p), x1, x2, x3, x4, x5, x6, x7, x8, x9]) ∧ WAt G9 m l d ra sa S ∧ LayAt L G9 A0 S ∧ Bag G9 p q := ⟨⟨_, _, _, _, _, _, _, _, _, rfl⟩, W9, hL9, B9⟩
      cases R with
      | none =>
        obtain rfl : v = .non := res9
        have wn : ws = [] := dd
        rcases hd9 with ⟨rfl, _⟩ | ⟨wa, w, _, _, mw, _⟩
        · exact ⟨_, rfl, _, rfl, _, _, .none, rfl, .non, .non, sm_none.fine (by decide) (by decide), _, rfl, if_f rfl fin⟩
        · rw [wn] at mw
          cases mw
      | some w =>
        obtain ⟨g, rfl, hg⟩ := res9
        obtain ⟨wn, wu⟩ := dd
        rcases hd9 with ⟨_, e⟩ | ⟨wa, wd, rfl, hwa, mw, le⟩
        · exact absurd e wn
        · obtain rfl := wu wd mw le
          have ow := wsok wd mw
          exact ⟨_, rfl, _, rfl, _, _, .list (wd.map PyData.str), rfl, names_dp hg, names_dp hwa, names_fine ow.2 (by omega), _, rfl, if_f rfl fin⟩
    · rintro σ G _
      exact k _
end
end SM
namespace SM
open PySem PySem.Spec PyProof.Rows L2
theorem all_mk {K : PySem.W.Frag} {h : Heap} {mg : Str → Option Value} (X : K.In h) (G : h.Ns mainGlobals mg)
    {fd0 : Addr} {fod0 kVd0 dcd0 pmd0 cdd0 ctd0 : Value} {odd0 and0 : Option Addr} {sld0 : Array (Option Value)}
    {fd1 : Addr} {fod1 kVd1 dcd1 pmd1 cdd1 ctd1 : Value} {odd1 and1 : Option Addr} {sld1 : Array (Option Value)}
    {fd2 : Addr} {fod2 kVd2 dcd2 pmd2 cdd2 ctd2 : Value} {odd2 and2 : Option Addr} {sld2 : Array (Option Value)}
    {fd3 : Addr} {fod3 kVd3 dcd3 pmd3 cdd3 ctd3 : Value} {odd3 and3 : Option Addr} {sld3 : Array (Option Value)}
    {fd4 : Addr} {fod4 kVd4 dcd4 pmd4 cdd4 ctd4 : Value} {odd4 and4 : Option Addr} {sld4 : Array (Option Value)}
    {fd5 : Addr} {fod5 kVd5 dcd5 pmd5 cdd5 ctd5 : Value} {odd5 and5 : Option Addr} {sld5 : Array (Option Value)}
    {fd6 : Addr} {fod6 kVd6 dcd6 pmd6 cdd6 ctd6 : Value} {odd6 and6 : Option Addr} {sld6 : Array (Option Value)}
    {fd7 : Addr} {fod7 kVd7 dcd7 pmd7 cdd7 ctd7 : Value} {odd7 and7 : Option Addr} {sld7 : Array (Option Value)}
    {fd8 : Addr} {fod8 kVd8 dcd8 pmd8 cdd8 ctd8 : Value} {odd8 and8 : Option Addr} {sld8 : Array (Option Value)}
    {fd9 : Addr} {fod9 kVd9 dcd9 pmd9 cdd9 ctd9 : Value} {odd9 and9 : Option Addr} {sld9 : Array (Option Value)}
    {fd10 : Addr} {fod10 kVd10 dcd10 pmd10 cdd10 ctd10 : Value} {odd10 and10 : Option Addr} {sld10 : Array (Option Value)}
    {fd11 : Addr} {fod11 kVd11 dcd11 pmd11 cdd11 ctd11 : Value} {odd11 and11 : Option Addr} {sld11 : Array (Option Value)}
    {fd12 : Addr} {fod12 kVd12 dcd12 pmd12 cdd12 ctd12 : Value} {odd12 and12 : Option Addr} {sld12 : Array (Option Value)}
    {fd13 : Addr} {fod13 kVd13 dcd13 pmd13 cdd13 ctd13 : Value} {odd13 and13 : Option Addr} {sld13 : Array (Option Value)}
    {fd14 : Addr} {fod14 kVd14 dcd14 pmd14 cdd14 ctd14 : Value} {odd14 and14 : Option Addr} {sld14 : Array (Option Value)}
    {fd15 : Addr} {fod15 kVd15 dcd15 pmd15 cdd15 ctd15 : Value} {odd15 and15 : Option Addr} {sld15 : Array (Option Value)}
    {fd16 : Addr} {fod16 kVd16 dcd16 pmd16 cdd16 ctd16 : Value} {odd16 and16 : Option Addr} {sld16 : Array (Option Value)}
    {fd17 : Addr} {fod17 kVd17 dcd17 pmd17 cdd17 ctd17 : Value} {odd17 and17 : Option Addr} {sld17 : Array (Option Value)}
    {fd18 : Addr} {fod18 kVd18 dcd18 pmd18 cdd18 ctd18 : Value} {odd18 and18 : Option Addr} {sld18 : Array (Option Value)}
    {fd19 : Addr} {fod19 kVd19 dcd19 pmd19 cdd19 ctd19 : Value} {odd19 and19 : Option Addr} {sld19 : Array (Option Value)}
    {fd20 : Addr} {fod20 kVd20 dcd20 pmd20 cdd20 ctd20 : Value} {odd20 and20 : Option Addr} {sld20 : Array (Option Value)}
    {fd21 : Addr} {fod21 kVd21 dcd21 pmd21 cdd21 ctd21 : Value} {odd21 and21 : Option Addr} {sld21 : Array (Option Value)}
    {fd22 : Addr} {fod22 kVd22 dcd22 pmd22 cdd22 ctd22 : Value} {odd22 and22 : Option Addr} {sld22 : Array (Option Value)}
    {fd23 : Addr} {fod23 kVd23 dcd23 pmd23 cdd23 ctd23 : Value} {odd23 and23 : Option Addr} {sld23 : Array (Option Value)}
    {fd24 : Addr} {fod24 kVd24 dcd24 pmd24 cdd24 ctd24 : Value} {odd24 and24 : Option Addr} {sld24 : Array (Option Value)}
    {fd25 : Addr} {fod25 kVd25 dcd25 pmd25 cdd25 ctd25 : Value} {odd25 and25 : Option Addr} {sld25 : Array (Option Value)}
    {fd26 : Addr} {fod26 kVd26 dcd26 pmd26 cdd26 ctd26 : Value} {odd26 and26 : Option Addr} {sld26 : Array (Option Value)}
    {fd27 : Addr} {fod27 kVd27 dcd27 pmd27 cdd27 ctd27 : Value} {odd27 and27 : Option Addr} {sld27 : Array (Option Value)}
    {fd28 : Addr} {fod28 kVd28 dcd28 pmd28 cdd28 ctd28 : Value} {odd28 and28 : Option Addr} {sld28 : Array (Option Value)}
    {CL : Addr}
    {fm0 : Addr} {fom0 kVm0 dcm0 pmm0 cdm0 ctm0 : Value} {odm0 anm0 : Option Addr} {slm0 : Array (Option Value)}
    {fm1 : Addr} {fom1 kVm1 dcm1 pmm1 cdm1 ctm1 : Value} {odm1 anm1 : Option Addr} {slm1 : Array (Option Value)}
    {fm2 : Addr} {fom2 kVm2 dcm2 pmm2 cdm2 ctm2 : Value} {odm2 anm2 : Option Addr} {slm2 : Array (Option Value)}
    {fm3 : Addr} {fom3 kVm3 dcm3 pmm3 cdm3 ctm3 : Value} {odm3 anm3 : Option Addr} {slm3 : Array (Option Value)}
    {fm4 : Addr} {fom4 kVm4 dcm4 pmm4 cdm4 ctm4 : Value} {odm4 anm4 : Option Addr} {slm4 : Array (Option Value)}
    {fm5 : Addr} {fom5 kVm5 dcm5 pmm5 cdm5 ctm5 : Value} {odm5 anm5 : Option Addr} {slm5 : Array (Option Value)}
    {fm6 : Addr} {fom6 kVm6 dcm6 pmm6 cdm6 ctm6 : Value} {odm6 anm6 : Option Addr} {slm6 : Array (Option Value)}
    {fm7 : Addr} {fom7 kVm7 dcm7 pmm7 cdm7 ctm7 : Value} {odm7 anm7 : Option Addr} {slm7 : Array (Option Value)}
    {fm8 : Addr} {fom8 kVm8 dcm8 pmm8 cdm8 ctm8 : Value} {odm8 anm8 : Option Addr} {slm8 : Array (Option Value)}
    {fm9 : Addr} {fom9 kVm9 dcm9 pmm9 cdm9 ctm9 : Value} {odm9 anm9 : Option Addr} {slm9 : Array (Option Value)}
    {fm10 : Addr} {fom10 kVm10 dcm10 pmm10 cdm10 ctm10 : Value} {odm10 anm10 : Option Addr} {slm10 : Array (Option Value)}
    {fm11 : Addr} {fom11 kVm11 dcm11 pmm11 cdm11 ctm11 : Value} {odm11 anm11 : Option Addr} {slm11 : Array (Option Value)}
    {fm12 : Addr} {fom12 kVm12 dcm12 pmm12 cdm12 ctm12 : Value} {odm12 anm12 : Option Addr} {slm12 : Array (Option Value)}
    {fm13 : Addr} {fom13 kVm13 dcm13 pmm13 cdm13 ctm13 : Value} {odm13 anm13 : Option Addr} {slm13 : Array (Option Value)}
    {fm14 : Addr} {fom14 kVm14 dcm14 pmm14 cdm14 ctm14 : Value} {odm14 anm14 : Option Addr} {slm14 : Array (Option Value)}
    {t_LONGEST_NAME : Tok}
    {t_HIGHEST_COST : Tok}
    {t_MOST_ROOMS : Tok}
    {t_MOST_LINES : Tok}
    {t_MOST_DRAINS : Tok}
    {t_MOST_NAMES : Tok}
    {t_MOST_IN_STRETCH : Tok}
    {CM NM : Addr} {nmM qM : Str} {bsM sbM : List Value} {snM : List Str} {abM : Bool} {coM : Option Bool} {ddM : Option Addr} {mM zM yM xM wM : Option Value}
    {C0 N0 : Addr} {nm0 q0 : Str} {bs0 sb0 : List Value} {sn0 : List Str} {ab0 : Bool} {co0 : Option Bool} {dd0 : Option Addr} {m0 z0 y0 x0 w0 : Option Value}
    {C1 N1 : Addr} {nm1 q1 : Str} {bs1 sb1 : List Value} {sn1 : List Str} {ab1 : Bool} {co1 : Option Bool} {dd1 : Option Addr} {m1 z1 y1 x1 w1 : Option Value}
    {C2 N2 : Addr} {nm2 q2 : Str} {bs2 sb2 : List Value} {sn2 : List Str} {ab2 : Bool} {co2 : Option Bool} {dd2 : Option Addr} {m2 z2 y2 x2 w2 : Option Value}
    {C3 N3 : Addr} {nm3 q3 : Str} {bs3 sb3 : List Value} {sn3 : List Str} {ab3 : Bool} {co3 : Option Bool} {dd3 : Option Addr} {m3 z3 y3 x3 w3 : Option Value}
    {g0 : Addr} {go0 gV0 gc0 gm0 gd0 gt0 : Value} {gO0 gA0 : Option Addr} {gs0 : Array (Option Value)}
    {g1 : Addr} {go1 gV1 gc1 gm1 gd1 gt1 : Value} {gO1 gA1 : Option Addr} {gs1 : Array (Option Value)}
    {g2 : Addr} {go2 gV2 gc2 gm2 gd2 gt2 : Value} {gO2 gA2 : Option Addr} {gs2 : Array (Option Value)}
    {g3 : Addr} {go3 gV3 gc3 gm3 gd3 gt3 : Value} {gO3 gA3 : Option Addr} {gs3 : Array (Option Value)}
    (ad0 : PySem.W.nsIn K mainGlobals "need" = some (some (.ref fd0)))
    (ld0 : K.lookup fd0 = some ⟨fod0, odd0, .func (PySem.W.fnOf "need" "need" (defArgs s_need) (defBody s_need) (defScope s_need) .none kVd0 dcd0 pmd0 and0 cdd0 ctd0), sld0⟩)
    (cd0 : PySem.W.codeIn K cdd0 "need" = true) (kd0 : PySem.W.keepIn K (.ref fd0) = true)
    (ad1 : PySem.W.nsIn K mainGlobals "is_whole" = some (some (.ref fd1)))
    (ld1 : K.lookup fd1 = some ⟨fod1, odd1, .func (PySem.W.fnOf "is_whole" "is_whole" (defArgs s_is_whole) (defBody s_is_whole) (defScope s_is_whole) .none kVd1 dcd1 pmd1 and1 cdd1 ctd1), sld1⟩)
    (cd1 : PySem.W.codeIn K cdd1 "is_whole" = true) (kd1 : PySem.W.keepIn K (.ref fd1) = true)
    (ad2 : PySem.W.nsIn K mainGlobals "is_name" = some (some (.ref fd2)))
    (ld2 : K.lookup fd2 = some ⟨fod2, odd2, .func (PySem.W.fnOf "is_name" "is_name" (defArgs s_is_name) (defBody s_is_name) (defScope s_is_name) .none kVd2 dcd2 pmd2 and2 cdd2 ctd2), sld2⟩)
    (cd2 : PySem.W.codeIn K cdd2 "is_name" = true) (kd2 : PySem.W.keepIn K (.ref fd2) = true)
    (ad3 : PySem.W.nsIn K mainGlobals "is_cost" = some (some (.ref fd3)))
    (ld3 : K.lookup fd3 = some ⟨fod3, odd3, .func (PySem.W.fnOf "is_cost" "is_cost" (defArgs s_is_cost) (defBody s_is_cost) (defScope s_is_cost) .none kVd3 dcd3 pmd3 and3 cdd3 ctd3), sld3⟩)
    (cd3 : PySem.W.codeIn K cdd3 "is_cost" = true) (kd3 : PySem.W.keepIn K (.ref fd3) = true)
    (ad4 : PySem.W.nsIn K mainGlobals "are_names" = some (some (.ref fd4)))
    (ld4 : K.lookup fd4 = some ⟨fod4, odd4, .func (PySem.W.fnOf "are_names" "are_names" (defArgs s_are_names) (defBody s_are_names) (defScope s_are_names) .none kVd4 dcd4 pmd4 and4 cdd4 ctd4), sld4⟩)
    (cd4 : PySem.W.codeIn K cdd4 "are_names" = true) (kd4 : PySem.W.keepIn K (.ref fd4) = true)
    (ad5 : PySem.W.nsIn K mainGlobals "is_stretch" = some (some (.ref fd5)))
    (ld5 : K.lookup fd5 = some ⟨fod5, odd5, .func (PySem.W.fnOf "is_stretch" "is_stretch" (defArgs s_is_stretch) (defBody s_is_stretch) (defScope s_is_stretch) .none kVd5 dcd5 pmd5 and5 cdd5 ctd5), sld5⟩)
    (cd5 : PySem.W.codeIn K cdd5 "is_stretch" = true) (kd5 : PySem.W.keepIn K (.ref fd5) = true)
    (ad6 : PySem.W.nsIn K mainGlobals "switches_in" = some (some (.ref fd6)))
    (ld6 : K.lookup fd6 = some ⟨fod6, odd6, .func (PySem.W.fnOf "switches_in" "switches_in" (defArgs s_switches_in) (defBody s_switches_in) (defScope s_switches_in) .none kVd6 dcd6 pmd6 and6 cdd6 ctd6), sld6⟩)
    (cd6 : PySem.W.codeIn K cdd6 "switches_in" = true) (kd6 : PySem.W.keepIn K (.ref fd6) = true)
    (ad7 : PySem.W.nsIn K mainGlobals "refuse_no_switch" = some (some (.ref fd7)))
    (ld7 : K.lookup fd7 = some ⟨fod7, odd7, .func (PySem.W.fnOf "refuse_no_switch" "refuse_no_switch" (defArgs s_refuse_no_switch) (defBody s_refuse_no_switch) (defScope s_refuse_no_switch) .none kVd7 dcd7 pmd7 and7 cdd7 ctd7), sld7⟩)
    (cd7 : PySem.W.codeIn K cdd7 "refuse_no_switch" = true) (kd7 : PySem.W.keepIn K (.ref fd7) = true)
    (ad8 : PySem.W.nsIn K mainGlobals "refuse_no_room" = some (some (.ref fd8)))
    (ld8 : K.lookup fd8 = some ⟨fod8, odd8, .func (PySem.W.fnOf "refuse_no_room" "refuse_no_room" (defArgs s_refuse_no_room) (defBody s_refuse_no_room) (defScope s_refuse_no_room) .none kVd8 dcd8 pmd8 and8 cdd8 ctd8), sld8⟩)
    (cd8 : PySem.W.codeIn K cdd8 "refuse_no_room" = true) (kd8 : PySem.W.keepIn K (.ref fd8) = true)
    (ad9 : PySem.W.nsIn K mainGlobals "_refuse_first_beside" = some (some (.ref fd9)))
    (ld9 : K.lookup fd9 = some ⟨fod9, odd9, .func (PySem.W.fnOf "_refuse_first_beside" "_refuse_first_beside" (defArgs s__refuse_first_beside) (defBody s__refuse_first_beside) (defScope s__refuse_first_beside) .none kVd9 dcd9 pmd9 and9 cdd9 ctd9), sld9⟩)
    (cd9 : PySem.W.codeIn K cdd9 "_refuse_first_beside" = true) (kd9 : PySem.W.keepIn K (.ref fd9) = true)
    (ad10 : PySem.W.nsIn K mainGlobals "leads_of" = some (some (.ref fd10)))
    (ld10 : K.lookup fd10 = some ⟨fod10, odd10, .func (PySem.W.fnOf "leads_of" "leads_of" (defArgs s_leads_of) (defBody s_leads_of) (defScope s_leads_of) .none kVd10 dcd10 pmd10 and10 cdd10 ctd10), sld10⟩)
    (cd10 : PySem.W.codeIn K cdd10 "leads_of" = true) (kd10 : PySem.W.keepIn K (.ref fd10) = true)
    (ad11 : PySem.W.nsIn K mainGlobals "first_way" = some (some (.ref fd11)))
    (ld11 : K.lookup fd11 = some ⟨fod11, odd11, .func (PySem.W.fnOf "first_way" "first_way" (defArgs s_first_way) (defBody s_first_way) (defScope s_first_way) .none kVd11 dcd11 pmd11 and11 cdd11 ctd11), sld11⟩)
    (cd11 : PySem.W.codeIn K cdd11 "first_way" = true) (kd11 : PySem.W.keepIn K (.ref fd11) = true)
    (ad12 : PySem.W.nsIn K mainGlobals "way_to" = some (some (.ref fd12)))
    (ld12 : K.lookup fd12 = some ⟨fod12, odd12, .func (PySem.W.fnOf "way_to" "way_to" (defArgs s_way_to) (defBody s_way_to) (defScope s_way_to) .none kVd12 dcd12 pmd12 and12 cdd12 ctd12), sld12⟩)
    (cd12 : PySem.W.codeIn K cdd12 "way_to" = true) (kd12 : PySem.W.keepIn K (.ref fd12) = true)
    (ad13 : PySem.W.nsIn K mainGlobals "_check_stretch" = some (some (.ref fd13)))
    (ld13 : K.lookup fd13 = some ⟨fod13, odd13, .func (PySem.W.fnOf "_check_stretch" "_check_stretch" (defArgs s__check_stretch) (defBody s__check_stretch) (defScope s__check_stretch) .none kVd13 dcd13 pmd13 and13 cdd13 ctd13), sld13⟩)
    (cd13 : PySem.W.codeIn K cdd13 "_check_stretch" = true) (kd13 : PySem.W.keepIn K (.ref fd13) = true)
    (ad14 : PySem.W.nsIn K mainGlobals "_law_bag" = some (some (.ref fd14)))
    (ld14 : K.lookup fd14 = some ⟨fod14, odd14, .func (PySem.W.fnOf "_law_bag" "_law_bag" (defArgs s__law_bag) (defBody s__law_bag) (defScope s__law_bag) .none kVd14 dcd14 pmd14 and14 cdd14 ctd14), sld14⟩)
    (cd14 : PySem.W.codeIn K cdd14 "_law_bag" = true) (kd14 : PySem.W.keepIn K (.ref fd14) = true)
    (ad15 : PySem.W.nsIn K mainGlobals "_law_take" = some (some (.ref fd15)))
    (ld15 : K.lookup fd15 = some ⟨fod15, odd15, .func (PySem.W.fnOf "_law_take" "_law_take" (defArgs s__law_take) (defBody s__law_take) (defScope s__law_take) .none kVd15 dcd15 pmd15 and15 cdd15 ctd15), sld15⟩)
    (cd15 : PySem.W.codeIn K cdd15 "_law_take" = true) (kd15 : PySem.W.keepIn K (.ref fd15) = true)
    (ad16 : PySem.W.nsIn K mainGlobals "_law_alike" = some (some (.ref fd16)))
    (ld16 : K.lookup fd16 = some ⟨fod16, odd16, .func (PySem.W.fnOf "_law_alike" "_law_alike" (defArgs s__law_alike) (defBody s__law_alike) (defScope s__law_alike) .none kVd16 dcd16 pmd16 and16 cdd16 ctd16), sld16⟩)
    (cd16 : PySem.W.codeIn K cdd16 "_law_alike" = true) (kd16 : PySem.W.keepIn K (.ref fd16) = true)
    (ad17 : PySem.W.nsIn K mainGlobals "_law_name" = some (some (.ref fd17)))
    (ld17 : K.lookup fd17 = some ⟨fod17, odd17, .func (PySem.W.fnOf "_law_name" "_law_name" (defArgs s__law_name) (defBody s__law_name) (defScope s__law_name) .none kVd17 dcd17 pmd17 and17 cdd17 ctd17), sld17⟩)
    (cd17 : PySem.W.codeIn K cdd17 "_law_name" = true) (kd17 : PySem.W.keepIn K (.ref fd17) = true)
    (ad18 : PySem.W.nsIn K mainGlobals "_law_names" = some (some (.ref fd18)))
    (ld18 : K.lookup fd18 = some ⟨fod18, odd18, .func (PySem.W.fnOf "_law_names" "_law_names" (defArgs s__law_names) (defBody s__law_names) (defScope s__law_names) .none kVd18 dcd18 pmd18 and18 cdd18 ctd18), sld18⟩)
    (cd18 : PySem.W.codeIn K cdd18 "_law_names" = true) (kd18 : PySem.W.keepIn K (.ref fd18) = true)
    (ad19 : PySem.W.nsIn K mainGlobals "_law_cost" = some (some (.ref fd19)))
    (ld19 : K.lookup fd19 = some ⟨fod19, odd19, .func (PySem.W.fnOf "_law_cost" "_law_cost" (defArgs s__law_cost) (defBody s__law_cost) (defScope s__law_cost) .none kVd19 dcd19 pmd19 and19 cdd19 ctd19), sld19⟩)
    (cd19 : PySem.W.codeIn K cdd19 "_law_cost" = true) (kd19 : PySem.W.keepIn K (.ref fd19) = true)
    (ad20 : PySem.W.nsIn K mainGlobals "_law_ends" = some (some (.ref fd20)))
    (ld20 : K.lookup fd20 = some ⟨fod20, odd20, .func (PySem.W.fnOf "_law_ends" "_law_ends" (defArgs s__law_ends) (defBody s__law_ends) (defScope s__law_ends) .none kVd20 dcd20 pmd20 and20 cdd20 ctd20), sld20⟩)
    (cd20 : PySem.W.codeIn K cdd20 "_law_ends" = true) (kd20 : PySem.W.keepIn K (.ref fd20) = true)
    (ad21 : PySem.W.nsIn K mainGlobals "_law_lines" = some (some (.ref fd21)))
    (ld21 : K.lookup fd21 = some ⟨fod21, odd21, .func (PySem.W.fnOf "_law_lines" "_law_lines" (defArgs s__law_lines) (defBody s__law_lines) (defScope s__law_lines) .none kVd21 dcd21 pmd21 and21 cdd21 ctd21), sld21⟩)
    (cd21 : PySem.W.codeIn K cdd21 "_law_lines" = true) (kd21 : PySem.W.keepIn K (.ref fd21) = true)
    (ad22 : PySem.W.nsIn K mainGlobals "_law_world" = some (some (.ref fd22)))
    (ld22 : K.lookup fd22 = some ⟨fod22, odd22, .func (PySem.W.fnOf "_law_world" "_law_world" (defArgs s__law_world) (defBody s__law_world) (defScope s__law_world) .none kVd22 dcd22 pmd22 and22 cdd22 ctd22), sld22⟩)
    (cd22 : PySem.W.codeIn K cdd22 "_law_world" = true) (kd22 : PySem.W.keepIn K (.ref fd22) = true)
    (ad23 : PySem.W.nsIn K mainGlobals "_law_laid" = some (some (.ref fd23)))
    (ld23 : K.lookup fd23 = some ⟨fod23, odd23, .func (PySem.W.fnOf "_law_laid" "_law_laid" (defArgs s__law_laid) (defBody s__law_laid) (defScope s__law_laid) .none kVd23 dcd23 pmd23 and23 cdd23 ctd23), sld23⟩)
    (cd23 : PySem.W.codeIn K cdd23 "_law_laid" = true) (kd23 : PySem.W.keepIn K (.ref fd23) = true)
    (ad24 : PySem.W.nsIn K mainGlobals "_law_switches" = some (some (.ref fd24)))
    (ld24 : K.lookup fd24 = some ⟨fod24, odd24, .func (PySem.W.fnOf "_law_switches" "_law_switches" (defArgs s__law_switches) (defBody s__law_switches) (defScope s__law_switches) .none kVd24 dcd24 pmd24 and24 cdd24 ctd24), sld24⟩)
    (cd24 : PySem.W.codeIn K cdd24 "_law_switches" = true) (kd24 : PySem.W.keepIn K (.ref fd24) = true)
    (ad25 : PySem.W.nsIn K mainGlobals "_law_some" = some (some (.ref fd25)))
    (ld25 : K.lookup fd25 = some ⟨fod25, odd25, .func (PySem.W.fnOf "_law_some" "_law_some" (defArgs s__law_some) (defBody s__law_some) (defScope s__law_some) .none kVd25 dcd25 pmd25 and25 cdd25 ctd25), sld25⟩)
    (cd25 : PySem.W.codeIn K cdd25 "_law_some" = true) (kd25 : PySem.W.keepIn K (.ref fd25) = true)
    (ad26 : PySem.W.nsIn K mainGlobals "_law_stretch" = some (some (.ref fd26)))
    (ld26 : K.lookup fd26 = some ⟨fod26, odd26, .func (PySem.W.fnOf "_law_stretch" "_law_stretch" (defArgs s__law_stretch) (defBody s__law_stretch) (defScope s__law_stretch) .none kVd26 dcd26 pmd26 and26 cdd26 ctd26), sld26⟩)
    (cd26 : PySem.W.codeIn K cdd26 "_law_stretch" = true) (kd26 : PySem.W.keepIn K (.ref fd26) = true)
    (ad27 : PySem.W.nsIn K mainGlobals "_law_best" = some (some (.ref fd27)))
    (ld27 : K.lookup fd27 = some ⟨fod27, odd27, .func (PySem.W.fnOf "_law_best" "_law_best" (defArgs s__law_best) (defBody s__law_best) (defScope s__law_best) .none kVd27 dcd27 pmd27 and27 cdd27 ctd27), sld27⟩)
    (cd27 : PySem.W.codeIn K cdd27 "_law_best" = true) (kd27 : PySem.W.keepIn K (.ref fd27) = true)
    (ad28 : PySem.W.nsIn K mainGlobals "law" = some (some (.ref fd28)))
    (ld28 : K.lookup fd28 = some ⟨fod28, odd28, .func (PySem.W.fnOf "law" "law" (defArgs s_law) (defBody s_law) (defScope s_law) .none kVd28 dcd28 pmd28 and28 cdd28 ctd28), sld28⟩)
    (cd28 : PySem.W.codeIn K cdd28 "law" = true) (kd28 : PySem.W.keepIn K (.ref fd28) = true)
    (aCL : PySem.W.nsIn K mainGlobals "Layout" = some (some (.ref CL)))
    (am0 : PySem.W.findIn K (.ref CL) "__init__" = some (some (.ref fm0))) (im0 : PySem.W.isFn K (.ref fm0) = true)
    (lm0 : K.lookup fm0 = some ⟨fom0, odm0, .func (PySem.W.fnOf "__init__" "Layout.__init__" (defArgs s_Layout___init__) (defBody s_Layout___init__) (defScope s_Layout___init__) .none kVm0 dcm0 pmm0 anm0 cdm0 ctm0), slm0⟩)
    (cm0 : PySem.W.codeIn K cdm0 "Layout.__init__" = true) (km0 : PySem.W.keepIn K (.ref fm0) = true)
    (am1 : PySem.W.findIn K (.ref CL) "add_room" = some (some (.ref fm1))) (im1 : PySem.W.isFn K (.ref fm1) = true)
    (lm1 : K.lookup fm1 = some ⟨fom1, odm1, .func (PySem.W.fnOf "add_room" "Layout.add_room" (defArgs s_Layout_add_room) (defBody s_Layout_add_room) (defScope s_Layout_add_room) .none kVm1 dcm1 pmm1 anm1 cdm1 ctm1), slm1⟩)
    (cm1 : PySem.W.codeIn K cdm1 "Layout.add_room" = true) (km1 : PySem.W.keepIn K (.ref fm1) = true)
    (am2 : PySem.W.findIn K (.ref CL) "add_line" = some (some (.ref fm2))) (im2 : PySem.W.isFn K (.ref fm2) = true)
    (lm2 : K.lookup fm2 = some ⟨fom2, odm2, .func (PySem.W.fnOf "add_line" "Layout.add_line" (defArgs s_Layout_add_line) (defBody s_Layout_add_line) (defScope s_Layout_add_line) .none kVm2 dcm2 pmm2 anm2 cdm2 ctm2), slm2⟩)
    (cm2 : PySem.W.codeIn K cdm2 "Layout.add_line" = true) (km2 : PySem.W.keepIn K (.ref fm2) = true)
    (am3 : PySem.W.findIn K (.ref CL) "add_drain" = some (some (.ref fm3))) (im3 : PySem.W.isFn K (.ref fm3) = true)
    (lm3 : K.lookup fm3 = some ⟨fom3, odm3, .func (PySem.W.fnOf "add_drain" "Layout.add_drain" (defArgs s_Layout_add_drain) (defBody s_Layout_add_drain) (defScope s_Layout_add_drain) .none kVm3 dcm3 pmm3 anm3 cdm3 ctm3), slm3⟩)
    (cm3 : PySem.W.codeIn K cdm3 "Layout.add_drain" = true) (km3 : PySem.W.keepIn K (.ref fm3) = true)
    (am4 : PySem.W.findIn K (.ref CL) "add_source" = some (some (.ref fm4))) (im4 : PySem.W.isFn K (.ref fm4) = true)
    (lm4 : K.lookup fm4 = some ⟨fom4, odm4, .func (PySem.W.fnOf "add_source" "Layout.add_source" (defArgs s_Layout_add_source) (defBody s_Layout_add_source) (defScope s_Layout_add_source) .none kVm4 dcm4 pmm4 anm4 cdm4 ctm4), slm4⟩)
    (cm4 : PySem.W.codeIn K cdm4 "Layout.add_source" = true) (km4 : PySem.W.keepIn K (.ref fm4) = true)
    (am5 : PySem.W.findIn K (.ref CL) "rooms" = some (some (.ref fm5))) (im5 : PySem.W.isFn K (.ref fm5) = true)
    (lm5 : K.lookup fm5 = some ⟨fom5, odm5, .func (PySem.W.fnOf "rooms" "Layout.rooms" (defArgs s_Layout_rooms) (defBody s_Layout_rooms) (defScope s_Layout_rooms) .none kVm5 dcm5 pmm5 anm5 cdm5 ctm5), slm5⟩)
    (cm5 : PySem.W.codeIn K cdm5 "Layout.rooms" = true) (km5 : PySem.W.keepIn K (.ref fm5) = true)
    (am6 : PySem.W.findIn K (.ref CL) "lines" = some (some (.ref fm6))) (im6 : PySem.W.isFn K (.ref fm6) = true)
    (lm6 : K.lookup fm6 = some ⟨fom6, odm6, .func (PySem.W.fnOf "lines" "Layout.lines" (defArgs s_Layout_lines) (defBody s_Layout_lines) (defScope s_Layout_lines) .none kVm6 dcm6 pmm6 anm6 cdm6 ctm6), slm6⟩)
    (cm6 : PySem.W.codeIn K cdm6 "Layout.lines" = true) (km6 : PySem.W.keepIn K (.ref fm6) = true)
    (am7 : PySem.W.findIn K (.ref CL) "drains" = some (some (.ref fm7))) (im7 : PySem.W.isFn K (.ref fm7) = true)
    (lm7 : K.lookup fm7 = some ⟨fom7, odm7, .func (PySem.W.fnOf "drains" "Layout.drains" (defArgs s_Layout_drains) (defBody s_Layout_drains) (defScope s_Layout_drains) .none kVm7 dcm7 pmm7 anm7 cdm7 ctm7), slm7⟩)
    (cm7 : PySem.W.codeIn K cdm7 "Layout.drains" = true) (km7 : PySem.W.keepIn K (.ref fm7) = true)
    (am8 : PySem.W.findIn K (.ref CL) "sources" = some (some (.ref fm8))) (im8 : PySem.W.isFn K (.ref fm8) = true)
    (lm8 : K.lookup fm8 = some ⟨fom8, odm8, .func (PySem.W.fnOf "sources" "Layout.sources" (defArgs s_Layout_sources) (defBody s_Layout_sources) (defScope s_Layout_sources) .none kVm8 dcm8 pmm8 anm8 cdm8 ctm8), slm8⟩)
    (cm8 : PySem.W.codeIn K cdm8 "Layout.sources" = true) (km8 : PySem.W.keepIn K (.ref fm8) = true)
    (am9 : PySem.W.findIn K (.ref CL) "line" = some (some (.ref fm9))) (im9 : PySem.W.isFn K (.ref fm9) = true)
    (lm9 : K.lookup fm9 = some ⟨fom9, odm9, .func (PySem.W.fnOf "line" "Layout.line" (defArgs s_Layout_line) (defBody s_Layout_line) (defScope s_Layout_line) .none kVm9 dcm9 pmm9 anm9 cdm9 ctm9), slm9⟩)
    (cm9 : PySem.W.codeIn K cdm9 "Layout.line" = true) (km9 : PySem.W.keepIn K (.ref fm9) = true)
    (am10 : PySem.W.findIn K (.ref CL) "drain" = some (some (.ref fm10))) (im10 : PySem.W.isFn K (.ref fm10) = true)
    (lm10 : K.lookup fm10 = some ⟨fom10, odm10, .func (PySem.W.fnOf "drain" "Layout.drain" (defArgs s_Layout_drain) (defBody s_Layout_drain) (defScope s_Layout_drain) .none kVm10 dcm10 pmm10 anm10 cdm10 ctm10), slm10⟩)
    (cm10 : PySem.W.codeIn K cdm10 "Layout.drain" = true) (km10 : PySem.W.keepIn K (.ref fm10) = true)
    (am11 : PySem.W.findIn K (.ref CL) "_refuse_taken" = some (some (.ref fm11))) (im11 : PySem.W.isFn K (.ref fm11) = true)
    (lm11 : K.lookup fm11 = some ⟨fom11, odm11, .func (PySem.W.fnOf "_refuse_taken" "Layout._refuse_taken" (defArgs s_Layout__refuse_taken) (defBody s_Layout__refuse_taken) (defScope s_Layout__refuse_taken) .none kVm11 dcm11 pmm11 anm11 cdm11 ctm11), slm11⟩)
    (cm11 : PySem.W.codeIn K cdm11 "Layout._refuse_taken" = true) (km11 : PySem.W.keepIn K (.ref fm11) = true)
    (am12 : PySem.W.findIn K (.ref CL) "_refuse_no_room" = some (some (.ref fm12))) (im12 : PySem.W.isFn K (.ref fm12) = true)
    (lm12 : K.lookup fm12 = some ⟨fom12, odm12, .func (PySem.W.fnOf "_refuse_no_room" "Layout._refuse_no_room" (defArgs s_Layout__refuse_no_room) (defBody s_Layout__refuse_no_room) (defScope s_Layout__refuse_no_room) .none kVm12 dcm12 pmm12 anm12 cdm12 ctm12), slm12⟩)
    (cm12 : PySem.W.codeIn K cdm12 "Layout._refuse_no_room" = true) (km12 : PySem.W.keepIn K (.ref fm12) = true)
    (am13 : PySem.W.findIn K (.ref CL) "_refuse_no_line" = some (some (.ref fm13))) (im13 : PySem.W.isFn K (.ref fm13) = true)
    (lm13 : K.lookup fm13 = some ⟨fom13, odm13, .func (PySem.W.fnOf "_refuse_no_line" "Layout._refuse_no_line" (defArgs s_Layout__refuse_no_line) (defBody s_Layout__refuse_no_line) (defScope s_Layout__refuse_no_line) .none kVm13 dcm13 pmm13 anm13 cdm13 ctm13), slm13⟩)
    (cm13 : PySem.W.codeIn K cdm13 "Layout._refuse_no_line" = true) (km13 : PySem.W.keepIn K (.ref fm13) = true)
    (am14 : PySem.W.findIn K (.ref CL) "_refuse_no_drain" = some (some (.ref fm14))) (im14 : PySem.W.isFn K (.ref fm14) = true)
    (lm14 : K.lookup fm14 = some ⟨fom14, odm14, .func (PySem.W.fnOf "_refuse_no_drain" "Layout._refuse_no_drain" (defArgs s_Layout__refuse_no_drain) (defBody s_Layout__refuse_no_drain) (defScope s_Layout__refuse_no_drain) .none kVm14 dcm14 pmm14 anm14 cdm14 ctm14), slm14⟩)
    (cm14 : PySem.W.codeIn K cdm14 "Layout._refuse_no_drain" = true) (km14 : PySem.W.keepIn K (.ref fm14) = true)
    (pg : PySem.W.plainGet K CL Str.empty = true) (hdL : PySem.W.hasDictIn K CL = true) (po : PySem.W.plainOver K CL = true) (sa : PySem.W.findIn K (.ref CL) "__setattr__" = some (some (.builtin "object.__setattr__"))) (mkL : PySem.W.makesIn K CL = true) (kL : PySem.W.keepIn K (.ref CL) = true)
    (nA_rooms : PySem.W.findIn K (.ref CL) "_rooms" = some none)
    (nA_lines : PySem.W.findIn K (.ref CL) "_lines" = some none)
    (nA_drains : PySem.W.findIn K (.ref CL) "_drains" = some none)
    (nA_sources : PySem.W.findIn K (.ref CL) "_sources" = some none)
    (g_LONGEST_NAME : PySem.W.nsIn K mainGlobals "LONGEST_NAME" = some (some (.int 8 t_LONGEST_NAME)))
    (g_HIGHEST_COST : PySem.W.nsIn K mainGlobals "HIGHEST_COST" = some (some (.int 99 t_HIGHEST_COST)))
    (g_MOST_ROOMS : PySem.W.nsIn K mainGlobals "MOST_ROOMS" = some (some (.int 24 t_MOST_ROOMS)))
    (g_MOST_LINES : PySem.W.nsIn K mainGlobals "MOST_LINES" = some (some (.int 40 t_MOST_LINES)))
    (g_MOST_DRAINS : PySem.W.nsIn K mainGlobals "MOST_DRAINS" = some (some (.int 12 t_MOST_DRAINS)))
    (g_MOST_NAMES : PySem.W.nsIn K mainGlobals "MOST_NAMES" = some (some (.int 60 t_MOST_NAMES)))
    (g_MOST_IN_STRETCH : PySem.W.nsIn K mainGlobals "MOST_IN_STRETCH" = some (some (.int 24 t_MOST_IN_STRETCH)))
    (z_len : PySem.W.nsIn K mainGlobals "len" = some none)
    (z_all : PySem.W.nsIn K mainGlobals "all" = some none)
    (z_isinstance : PySem.W.nsIn K mainGlobals "isinstance" = some none)
    (z_str : PySem.W.nsIn K mainGlobals "str" = some none)
    (z_int : PySem.W.nsIn K mainGlobals "int" = some none)
    (z_bool : PySem.W.nsIn K mainGlobals "bool" = some none)
    (z_sorted : PySem.W.nsIn K mainGlobals "sorted" = some none)
    (z_list : PySem.W.nsIn K mainGlobals "list" = some none)
    (z_set : PySem.W.nsIn K mainGlobals "set" = some none)
    (z_abs : PySem.W.nsIn K mainGlobals "abs" = some none)
    (z_range : PySem.W.nsIn K mainGlobals "range" = some none)
    (z_repr : PySem.W.nsIn K mainGlobals "repr" = some none)
    (z_enumerate : PySem.W.nsIn K mainGlobals "enumerate" = some none)
    (z_ValueError : PySem.W.nsIn K mainGlobals "ValueError" = some none)
    (z_dict : PySem.W.nsIn K mainGlobals "dict" = some none)
    (z_min : PySem.W.nsIn K mainGlobals "min" = some none)
    (eAM : PySem.W.nsIn K mainGlobals "MainsError" = some (some (.ref CM)))
    (eLM : K.lookup CM = some (excClassObj nmM qM CM NM bsM [.type "ValueError", .type "Exception", .type "BaseException", .type "object"] true snM sbM abM coM ddM mM zM yM xM wM "ValueError.__new__"))
    (eSM : PySem.W.findIn K (.ref CM) "__setattr__" = some (some (.builtin "object.__setattr__"))) (eGM : PySem.W.findIn K (.ref CM) "__getattribute__" = some (some (.builtin "BaseException.__getattribute__")))
    (eHM : PySem.W.findIn K (.ref CM) "__getattr__" = some none) (eCM : PySem.W.findIn K (.ref CM) "__class__" = some (some (.builtin "object.__class__")))
    (eKM : PySem.W.keepIn K (.ref CM) = true) (eDM : PySem.W.hasDictIn K CM = true)
    (eA0 : PySem.W.nsIn K mainGlobals "Wrong" = some (some (.ref C0)))
    (eL0 : K.lookup C0 = some (excClassObj nm0 q0 C0 N0 bs0 (bmM CM) true sn0 sb0 ab0 co0 dd0 m0 z0 y0 x0 w0 "ValueError.__new__"))
    (eS0 : PySem.W.findIn K (.ref C0) "__setattr__" = some (some (.builtin "object.__setattr__"))) (eG0 : PySem.W.findIn K (.ref C0) "__getattribute__" = some (some (.builtin "BaseException.__getattribute__")))
    (eH0 : PySem.W.findIn K (.ref C0) "__getattr__" = some none) (eC0 : PySem.W.findIn K (.ref C0) "__class__" = some (some (.builtin "object.__class__")))
    (eK0 : PySem.W.keepIn K (.ref C0) = true) (eD0 : PySem.W.hasDictIn K C0 = true)
    (eA1 : PySem.W.nsIn K mainGlobals "There" = some (some (.ref C1)))
    (eL1 : K.lookup C1 = some (excClassObj nm1 q1 C1 N1 bs1 (bmM CM) true sn1 sb1 ab1 co1 dd1 m1 z1 y1 x1 w1 "ValueError.__new__"))
    (eS1 : PySem.W.findIn K (.ref C1) "__setattr__" = some (some (.builtin "object.__setattr__"))) (eG1 : PySem.W.findIn K (.ref C1) "__getattribute__" = some (some (.builtin "BaseException.__getattribute__")))
    (eH1 : PySem.W.findIn K (.ref C1) "__getattr__" = some none) (eC1 : PySem.W.findIn K (.ref C1) "__class__" = some (some (.builtin "object.__class__")))
    (eK1 : PySem.W.keepIn K (.ref C1) = true) (eD1 : PySem.W.hasDictIn K C1 = true)
    (eA2 : PySem.W.nsIn K mainGlobals "Lacks" = some (some (.ref C2)))
    (eL2 : K.lookup C2 = some (excClassObj nm2 q2 C2 N2 bs2 (bmM CM) true sn2 sb2 ab2 co2 dd2 m2 z2 y2 x2 w2 "ValueError.__new__"))
    (eS2 : PySem.W.findIn K (.ref C2) "__setattr__" = some (some (.builtin "object.__setattr__"))) (eG2 : PySem.W.findIn K (.ref C2) "__getattribute__" = some (some (.builtin "BaseException.__getattribute__")))
    (eH2 : PySem.W.findIn K (.ref C2) "__getattr__" = some none) (eC2 : PySem.W.findIn K (.ref C2) "__class__" = some (some (.builtin "object.__class__")))
    (eK2 : PySem.W.keepIn K (.ref C2) = true) (eD2 : PySem.W.hasDictIn K C2 = true)
    (eA3 : PySem.W.nsIn K mainGlobals "TooMany" = some (some (.ref C3)))
    (eL3 : K.lookup C3 = some (excClassObj nm3 q3 C3 N3 bs3 (bmM CM) true sn3 sb3 ab3 co3 dd3 m3 z3 y3 x3 w3 "ValueError.__new__"))
    (eS3 : PySem.W.findIn K (.ref C3) "__setattr__" = some (some (.builtin "object.__setattr__"))) (eG3 : PySem.W.findIn K (.ref C3) "__getattribute__" = some (some (.builtin "BaseException.__getattribute__")))
    (eH3 : PySem.W.findIn K (.ref C3) "__getattr__" = some none) (eC3 : PySem.W.findIn K (.ref C3) "__class__" = some (some (.builtin "object.__class__")))
    (eK3 : PySem.W.keepIn K (.ref C3) = true) (eD3 : PySem.W.hasDictIn K C3 = true)
    (nF0 : PySem.W.findIn K (.ref C0) "at" = some none)
    (iF0 : PySem.W.findIn K (.ref C0) "__init__" = some (some (.ref g0))) (iT0 : PySem.W.typeIn K (.ref g0) = some (.type "function"))
    (iL0 : K.lookup g0 = some ⟨go0, gO0, .func (PySem.W.fnOf "__init__" "Wrong.__init__" (defArgs (inClass (topS 3) 0)) (defBody (inClass (topS 3) 0)) (defScope (inClass (topS 3) 0)) .none gV0 gc0 gm0 gA0 gd0 gt0), gs0⟩)
    (iC0 : PySem.W.codeIn K gd0 "Wrong.__init__" = true) (iK0 : PySem.W.keepIn K (.ref g0) = true)
    (nF1 : PySem.W.findIn K (.ref C1) "name" = some none)
    (iF1 : PySem.W.findIn K (.ref C1) "__init__" = some (some (.ref g1))) (iT1 : PySem.W.typeIn K (.ref g1) = some (.type "function"))
    (iL1 : K.lookup g1 = some ⟨go1, gO1, .func (PySem.W.fnOf "__init__" "There.__init__" (defArgs (inClass (topS 4) 0)) (defBody (inClass (topS 4) 0)) (defScope (inClass (topS 4) 0)) .none gV1 gc1 gm1 gA1 gd1 gt1), gs1⟩)
    (iC1 : PySem.W.codeIn K gd1 "There.__init__" = true) (iK1 : PySem.W.keepIn K (.ref g1) = true)
    (nF2 : PySem.W.findIn K (.ref C2) "name" = some none)
    (iF2 : PySem.W.findIn K (.ref C2) "__init__" = some (some (.ref g2))) (iT2 : PySem.W.typeIn K (.ref g2) = some (.type "function"))
    (iL2 : K.lookup g2 = some ⟨go2, gO2, .func (PySem.W.fnOf "__init__" "Lacks.__init__" (defArgs (inClass (topS 5) 0)) (defBody (inClass (topS 5) 0)) (defScope (inClass (topS 5) 0)) .none gV2 gc2 gm2 gA2 gd2 gt2), gs2⟩)
    (iC2 : PySem.W.codeIn K gd2 "Lacks.__init__" = true) (iK2 : PySem.W.keepIn K (.ref g2) = true)
    (nF3 : PySem.W.findIn K (.ref C3) "most" = some none)
    (iF3 : PySem.W.findIn K (.ref C3) "__init__" = some (some (.ref g3))) (iT3 : PySem.W.typeIn K (.ref g3) = some (.type "function"))
    (iL3 : K.lookup g3 = some ⟨go3, gO3, .func (PySem.W.fnOf "__init__" "TooMany.__init__" (defArgs (inClass (topS 6) 0)) (defBody (inClass (topS 6) 0)) (defScope (inClass (topS 6) 0)) .none gV3 gc3 gm3 gA3 gd3 gt3), gs3⟩)
    (iC3 : PySem.W.codeIn K gd3 "TooMany.__init__" = true) (iK3 : PySem.W.keepIn K (.ref g3) = true)
    (gS : PySem.W.specialIn K (.builtin "object.__class__") "__get__" = some (some (.builtin "getset_descriptor.__get__"))) (gT : PySem.W.takesIn K (.builtin "object.__class__") = some true)
    (iHa : PySem.W.findIn K (.ref CL) "__class__" = some (some (.builtin "object.__class__"))) (iHm : PySem.W.mroIn K CL (.type "object") = some true)
    (nD : ([CM, C0, C1, C2, C3] : List Addr).Nodup) :
    ∃ (C : Nat → Addr) (M L : Addr), Tx K mg C M L := by
  refine ⟨fun n => ([C0, C1, C2, C3] : List Addr).getD n 0, CM, CL, ?_⟩
  exact
    { d_need := ⟨fd0, _, fun_mk (st := s_need) ld0 cd0 kd0, PySem.W.mg_of X G ad0⟩
      d_is_whole := ⟨fd1, _, fun_mk (st := s_is_whole) ld1 cd1 kd1, PySem.W.mg_of X G ad1⟩
      d_is_name := ⟨fd2, _, fun_mk (st := s_is_name) ld2 cd2 kd2, PySem.W.mg_of X G ad2⟩
      d_is_cost := ⟨fd3, _, fun_mk (st := s_is_cost) ld3 cd3 kd3, PySem.W.mg_of X G ad3⟩
      r_are_names := ⟨fd4, _, fun_mk (st := s_are_names) ld4 cd4 kd4, PySem.W.mg_of X G ad4⟩
      r_is_stretch := ⟨fd5, _, fun_mk (st := s_is_stretch) ld5 cd5 kd5, PySem.W.mg_of X G ad5⟩
      r_switches_in := ⟨fd6, _, fun_mk (st := s_switches_in) ld6 cd6 kd6, PySem.W.mg_of X G ad6⟩
      r_refuse_no_switch := ⟨fd7, _, fun_mk (st := s_refuse_no_switch) ld7 cd7 kd7, PySem.W.mg_of X G ad7⟩
      r_refuse_no_room := ⟨fd8, _, fun_mk (st := s_refuse_no_room) ld8 cd8 kd8, PySem.W.mg_of X G ad8⟩
      r_refuse_first_beside := ⟨fd9, _, fun_mk (st := s__refuse_first_beside) ld9 cd9 kd9, PySem.W.mg_of X G ad9⟩
      r_leads_of := ⟨fd10, _, fun_mk (st := s_leads_of) ld10 cd10 kd10, PySem.W.mg_of X G ad10⟩
      r_first_way := ⟨fd11, _, fun_mk (st := s_first_way) ld11 cd11 kd11, PySem.W.mg_of X G ad11⟩
      r_way_to := ⟨fd12, _, fun_mk (st := s_way_to) ld12 cd12 kd12, PySem.W.mg_of X G ad12⟩
      r_check_stretch := ⟨fd13, _, fun_mk (st := s__check_stretch) ld13 cd13 kd13, PySem.W.mg_of X G ad13⟩
      d_bag := ⟨fd14, _, fun_mk (st := s__law_bag) ld14 cd14 kd14, PySem.W.mg_of X G ad14⟩
      d_take := ⟨fd15, _, fun_mk (st := s__law_take) ld15 cd15 kd15, PySem.W.mg_of X G ad15⟩
      d_alike := ⟨fd16, _, fun_mk (st := s__law_alike) ld16 cd16 kd16, PySem.W.mg_of X G ad16⟩
      d_name := ⟨fd17, _, fun_mk (st := s__law_name) ld17 cd17 kd17, PySem.W.mg_of X G ad17⟩
      d_names := ⟨fd18, _, fun_mk (st := s__law_names) ld18 cd18 kd18, PySem.W.mg_of X G ad18⟩
      d_cost := ⟨fd19, _, fun_mk (st := s__law_cost) ld19 cd19 kd19, PySem.W.mg_of X G ad19⟩
      d_ends := ⟨fd20, _, fun_mk (st := s__law_ends) ld20 cd20 kd20, PySem.W.mg_of X G ad20⟩
      d_lines := ⟨fd21, _, fun_mk (st := s__law_lines) ld21 cd21 kd21, PySem.W.mg_of X G ad21⟩
      d_world := ⟨fd22, _, fun_mk (st := s__law_world) ld22 cd22 kd22, PySem.W.mg_of X G ad22⟩
      d_laid := ⟨fd23, _, fun_mk (st := s__law_laid) ld23 cd23 kd23, PySem.W.mg_of X G ad23⟩
      d_switches := ⟨fd24, _, fun_mk (st := s__law_switches) ld24 cd24 kd24, PySem.W.mg_of X G ad24⟩
      d_some := ⟨fd25, _, fun_mk (st := s__law_some) ld25 cd25 kd25, PySem.W.mg_of X G ad25⟩
      d_stretch := ⟨fd26, _, fun_mk (st := s__law_stretch) ld26 cd26 kd26, PySem.W.mg_of X G ad26⟩
      d_best := ⟨fd27, _, fun_mk (st := s__law_best) ld27 cd27 kd27, PySem.W.mg_of X G ad27⟩
      d_law := ⟨fd28, _, fun_mk (st := s_law) ld28 cd28 kd28, PySem.W.mg_of X G ad28⟩
      m_init := ⟨fm0, _, fun_mk (st := s_Layout___init__) lm0 cm0 km0, ⟨am0, im0, km0⟩⟩
      m_add_room := ⟨fm1, _, fun_mk (st := s_Layout_add_room) lm1 cm1 km1, ⟨am1, im1, km1⟩⟩
      m_add_line := ⟨fm2, _, fun_mk (st := s_Layout_add_line) lm2 cm2 km2, ⟨am2, im2, km2⟩⟩
      m_add_drain := ⟨fm3, _, fun_mk (st := s_Layout_add_drain) lm3 cm3 km3, ⟨am3, im3, km3⟩⟩
      m_add_source := ⟨fm4, _, fun_mk (st := s_Layout_add_source) lm4 cm4 km4, ⟨am4, im4, km4⟩⟩
      m_rooms := ⟨fm5, _, fun_mk (st := s_Layout_rooms) lm5 cm5 km5, ⟨am5, im5, km5⟩⟩
      m_lines := ⟨fm6, _, fun_mk (st := s_Layout_lines) lm6 cm6 km6, ⟨am6, im6, km6⟩⟩
      m_drains := ⟨fm7, _, fun_mk (st := s_Layout_drains) lm7 cm7 km7, ⟨am7, im7, km7⟩⟩
      m_sources := ⟨fm8, _, fun_mk (st := s_Layout_sources) lm8 cm8 km8, ⟨am8, im8, km8⟩⟩
      m_line := ⟨fm9, _, fun_mk (st := s_Layout_line) lm9 cm9 km9, ⟨am9, im9, km9⟩⟩
      m_drain := ⟨fm10, _, fun_mk (st := s_Layout_drain) lm10 cm10 km10, ⟨am10, im10, km10⟩⟩
      m__refuse_taken := ⟨fm11, _, fun_mk (st := s_Layout__refuse_taken) lm11 cm11 km11, ⟨am11, im11, km11⟩⟩
      m__refuse_no_room := ⟨fm12, _, fun_mk (st := s_Layout__refuse_no_room) lm12 cm12 km12, ⟨am12, im12, km12⟩⟩
      m__refuse_no_line := ⟨fm13, _, fun_mk (st := s_Layout__refuse_no_line) lm13 cm13 km13, ⟨am13, im13, km13⟩⟩
      m__refuse_no_drain := ⟨fm14, _, fun_mk (st := s_Layout__refuse_no_drain) lm14 cm14 km14, ⟨am14, im14, km14⟩⟩
      mkL := mkL
      kL := kL
      gL := PySem.W.mg_of X G aCL
      cl := ⟨pg, hdL, po, sa⟩
      n_rooms := nA_rooms
      n_lines := nA_lines
      n_drains := nA_drains
      n_sources := nA_sources
      g_LONGEST_NAME := ⟨_, PySem.W.mg_of X G g_LONGEST_NAME⟩
      g_HIGHEST_COST := ⟨_, PySem.W.mg_of X G g_HIGHEST_COST⟩
      g_MOST_ROOMS := ⟨_, PySem.W.mg_of X G g_MOST_ROOMS⟩
      g_MOST_LINES := ⟨_, PySem.W.mg_of X G g_MOST_LINES⟩
      g_MOST_DRAINS := ⟨_, PySem.W.mg_of X G g_MOST_DRAINS⟩
      g_MOST_NAMES := ⟨_, PySem.W.mg_of X G g_MOST_NAMES⟩
      g_MOST_IN_STRETCH := ⟨_, PySem.W.mg_of X G g_MOST_IN_STRETCH⟩
      b_len := PySem.W.mg_none_of X G z_len
      b_all := PySem.W.mg_none_of X G z_all
      b_isinstance := PySem.W.mg_none_of X G z_isinstance
      b_str := PySem.W.mg_none_of X G z_str
      b_int := PySem.W.mg_none_of X G z_int
      b_bool := PySem.W.mg_none_of X G z_bool
      b_sorted := PySem.W.mg_none_of X G z_sorted
      b_list := PySem.W.mg_none_of X G z_list
      b_set := PySem.W.mg_none_of X G z_set
      b_abs := PySem.W.mg_none_of X G z_abs
      b_range := PySem.W.mg_none_of X G z_range
      b_repr := PySem.W.mg_none_of X G z_repr
      b_enumerate := PySem.W.mg_none_of X G z_enumerate
      b_ValueError := PySem.W.mg_none_of X G z_ValueError
      b_dict := PySem.W.mg_none_of X G z_dict
      b_min := PySem.W.mg_none_of X G z_min
      i_ha := iHa
      i_hn := gS
      i_ht := gT
      i_hm := iHm
      gM := PySem.W.mg_of X G eAM
      eM := ⟨⟨_, _, _, _, _, _, _, _, _, _, _, _, _, _, eLM⟩, by decide +kernel, eSM, eGM, eHM, eCM, eKM, eDM⟩
      e := fun n hn => match n, hn with
      | 0, _ => ⟨⟨_, _, _, _, _, _, _, _, _, _, _, _, _, _, eL0⟩, rfl, eS0, eG0, eH0, eC0, eK0, eD0⟩
      | 1, _ => ⟨⟨_, _, _, _, _, _, _, _, _, _, _, _, _, _, eL1⟩, rfl, eS1, eG1, eH1, eC1, eK1, eD1⟩
      | 2, _ => ⟨⟨_, _, _, _, _, _, _, _, _, _, _, _, _, _, eL2⟩, rfl, eS2, eG2, eH2, eC2, eK2, eD2⟩
      | 3, _ => ⟨⟨_, _, _, _, _, _, _, _, _, _, _, _, _, _, eL3⟩, rfl, eS3, eG3, eH3, eC3, eK3, eD3⟩
      | n + 4, hn => absurd hn (by omega)
      gc := ⟨gS, gT⟩
      nd := nD
      g0 := PySem.W.mg_of X G eA0
      n0 := nF0
      t0 := ⟨g0, _, fun_mk (st := (inClass (topS 3) 0)) iL0 iC0 iK0, iF0, iT0⟩
      g1 := PySem.W.mg_of X G eA1
      n1 := nF1
      t1 := ⟨g1, _, fun_mk (st := (inClass (topS 4) 0)) iL1 iC1 iK1, iF1, iT1⟩
      g2 := PySem.W.mg_of X G eA2
      n2 := nF2
      t2 := ⟨g2, _, fun_mk (st := (inClass (topS 5) 0)) iL2 iC2 iK2, iF2, iT2⟩
      g3 := PySem.W.mg_of X G eA3
      n3 := nF3
      t3 := ⟨g3, _, fun_mk (st := (inClass (topS 6) 0)) iL3 iC3 iK3, iF3, iT3⟩ }
end SM
open PySem PySem.W PyProof.Rows
set_option maxRecDepth 100000 in
set_option maxHeartbeats 0 in
theorem PySem.Challenge.cw_stillmain_k32_way_fewest_first_holds : PySem.Challenge.rw_stillmain_k32_way_fewest_first.Holds := by
  w_on; o_law; k_head; (case hw => w_witness2)
  k_fill
  refine SM.walkG (l := PySem.Challenge.rw_stillmain_k32_way_fewest_first) (n := 63) (k := 10) (x := "_law_script") (sp := SM.spLawL) rfl (by decide) rfl ⟨rfl, by decide, by decide⟩ (fun w h Y => PySem.W.kIn_of Y) ?F (fun K H a ns hl hS => ⟨a, ns, rfl, hS, hl, fun _ => rfl⟩)
  case F =>
    intro w mg fa h KX G hmg base hKb hNb
    suffices T : ∃ (C : Nat → Addr) (M L : Addr), SM.Tx _ mg C M L from by
      obtain ⟨C, M, L, T⟩ := T
      exact SM.lo_law T
    refine' SM.all_mk KX G ?ad0 ?ld0 ?cd0 ?kd0 ?ad1 ?ld1 ?cd1 ?kd1 ?ad2 ?ld2 ?cd2 ?kd2 ?ad3 ?ld3 ?cd3 ?kd3 ?ad4 ?ld4 ?cd4 ?kd4 ?ad5 ?ld5 ?cd5 ?kd5 ?ad6 ?ld6 ?cd6 ?kd6 ?ad7 ?ld7 ?cd7 ?kd7 ?ad8 ?ld8 ?cd8 ?kd8 ?ad9 ?ld9 ?cd9 ?kd9 ?ad10 ?ld10 ?cd10 ?kd10 ?ad11 ?ld11 ?cd11 ?kd11 ?ad12 ?ld12 ?cd12 ?kd12 ?ad13 ?ld13 ?cd13 ?kd13 ?ad14 ?ld14 ?cd14 ?kd14 ?ad15 ?ld15 ?cd15 ?kd15 ?ad16 ?ld16 ?cd16 ?kd16 ?ad17 ?ld17 ?cd17 ?kd17 ?ad18 ?ld18 ?cd18 ?kd18 ?ad19 ?ld19 ?cd19 ?kd19 ?ad20 ?ld20 ?cd20 ?kd20 ?ad21 ?ld21 ?cd21 ?kd21 ?ad22 ?ld22 ?cd22 ?kd22 ?ad23 ?ld23 ?cd23 ?kd23 ?ad24 ?ld24 ?cd24 ?kd24 ?ad25 ?ld25 ?cd25 ?kd25 ?ad26 ?ld26 ?cd26 ?kd26 ?ad27 ?ld27 ?cd27 ?kd27 ?ad28 ?ld28 ?cd28 ?kd28 ?aCL ?am0 ?im0 ?lm0 ?cm0 ?km0 ?am1 ?im1 ?lm1 ?cm1 ?km1 ?am2 ?im2 ?lm2 ?cm2 ?km2 ?am3 ?im3 ?lm3 ?cm3 ?km3 ?am4 ?im4 ?lm4 ?cm4 ?km4 ?am5 ?im5 ?lm5 ?cm5 ?km5 ?am6 ?im6 ?lm6 ?cm6 ?km6 ?am7 ?im7 ?lm7 ?cm7 ?km7 ?am8 ?im8 ?lm8 ?cm8 ?km8 ?am9 ?im9 ?lm9 ?cm9 ?km9 ?am10 ?im10 ?lm10 ?cm10 ?km10 ?am11 ?im11 ?lm11 ?cm11 ?km11 ?am12 ?im12 ?lm12 ?cm12 ?km12 ?am13 ?im13 ?lm13 ?cm13 ?km13 ?am14 ?im14 ?lm14 ?cm14 ?km14 ?pg ?hdL ?po ?sa ?mkL ?kL ?nA_rooms ?nA_lines ?nA_drains ?nA_sources ?g_LONGEST_NAME ?g_HIGHEST_COST ?g_MOST_ROOMS ?g_MOST_LINES ?g_MOST_DRAINS ?g_MOST_NAMES ?g_MOST_IN_STRETCH ?z_len ?z_all ?z_isinstance ?z_str ?z_int ?z_bool ?z_sorted ?z_list ?z_set ?z_abs ?z_range ?z_repr ?z_enumerate ?z_ValueError ?z_dict ?z_min ?eAM ?eLM ?eSM ?eGM ?eHM ?eCM ?eKM ?eDM ?eA0 ?eL0 ?eS0 ?eG0 ?eH0 ?eC0 ?eK0 ?eD0 ?eA1 ?eL1 ?eS1 ?eG1 ?eH1 ?eC1 ?eK1 ?eD1 ?eA2 ?eL2 ?eS2 ?eG2 ?eH2 ?eC2 ?eK2 ?eD2 ?eA3 ?eL3 ?eS3 ?eG3 ?eH3 ?eC3 ?eK3 ?eD3 ?nF0 ?iF0 ?iT0 ?iL0 ?iC0 ?iK0 ?nF1 ?iF1 ?iT1 ?iL1 ?iC1 ?iK1 ?nF2 ?iF2 ?iT2 ?iL2 ?iC2 ?iK2 ?nF3 ?iF3 ?iT3 ?iL3 ?iC3 ?iK3 ?gS ?gT ?iHa ?iHm ?nD
    (case ad0 => k_is)
    (case ld0 => k_is)
    (case cd0 => k_is)
    (case kd0 => k_is)
    (case ad1 => k_is)
    (case ld1 => k_is)
    (case cd1 => k_is)
    (case kd1 => k_is)
    (case ad2 => k_is)
    (case ld2 => k_is)
    (case cd2 => k_is)
    (case kd2 => k_is)
    (case ad3 => k_is)
    (case ld3 => k_is)
    (case cd3 => k_is)
    (case kd3 => k_is)
    (case ad4 => k_is)
    (case ld4 => k_is)
    (case cd4 => k_is)
    (case kd4 => k_is)
    (case ad5 => k_is)
    (case ld5 => k_is)
    (case cd5 => k_is)
    (case kd5 => k_is)
    (case ad6 => k_is)
    (case ld6 => k_is)
    (case cd6 => k_is)
    (case kd6 => k_is)
    (case ad7 => k_is)
    (case ld7 => k_is)
    (case cd7 => k_is)
    (case kd7 => k_is)
    (case ad8 => k_is)
    (case ld8 => k_is)
    (case cd8 => k_is)
    (case kd8 => k_is)
    (case ad9 => k_is)
    (case ld9 => k_is)
    (case cd9 => k_is)
    (case kd9 => k_is)
    (case ad10 => k_is)
    (case ld10 => k_is)
    (case cd10 => k_is)
    (case kd10 => k_is)
    (case ad11 => k_is)
    (case ld11 => k_is)
    (case cd11 => k_is)
    (case kd11 => k_is)
    (case ad12 => k_is)
    (case ld12 => k_is)
    (case cd12 => k_is)
    (case kd12 => k_is)
    (case ad13 => k_is)
    (case ld13 => k_is)
    (case cd13 => k_is)
    (case kd13 => k_is)
    (case ad14 => k_is)
    (case ld14 => k_is)
    (case cd14 => k_is)
    (case kd14 => k_is)
    (case ad15 => k_is)
    (case ld15 => k_is)
    (case cd15 => k_is)
    (case kd15 => k_is)
    (case ad16 => k_is)
    (case ld16 => k_is)
    (case cd16 => k_is)
    (case kd16 => k_is)
    (case ad17 => k_is)
    (case ld17 => k_is)
    (case cd17 => k_is)
    (case kd17 => k_is)
    (case ad18 => k_is)
    (case ld18 => k_is)
    (case cd18 => k_is)
    (case kd18 => k_is)
    (case ad19 => k_is)
    (case ld19 => k_is)
    (case cd19 => k_is)
    (case kd19 => k_is)
    (case ad20 => k_is)
    (case ld20 => k_is)
    (case cd20 => k_is)
    (case kd20 => k_is)
    (case ad21 => k_is)
    (case ld21 => k_is)
    (case cd21 => k_is)
    (case kd21 => k_is)
    (case ad22 => k_is)
    (case ld22 => k_is)
    (case cd22 => k_is)
    (case kd22 => k_is)
    (case ad23 => k_is)
    (case ld23 => k_is)
    (case cd23 => k_is)
    (case kd23 => k_is)
    (case ad24 => k_is)
    (case ld24 => k_is)
    (case cd24 => k_is)
    (case kd24 => k_is)
    (case ad25 => k_is)
    (case ld25 => k_is)
    (case cd25 => k_is)
    (case kd25 => k_is)
    (case ad26 => k_is)
    (case ld26 => k_is)
    (case cd26 => k_is)
    (case kd26 => k_is)
    (case ad27 => k_is)
    (case ld27 => k_is)
    (case cd27 => k_is)
    (case kd27 => k_is)
    (case ad28 => k_is)
    (case ld28 => k_is)
    (case cd28 => k_is)
    (case kd28 => k_is)
    (case aCL => k_is)
    (case am0 => k_is)
    (case im0 => k_is)
    (case lm0 => k_is)
    (case cm0 => k_is)
    (case km0 => k_is)
    (case am1 => k_is)
    (case im1 => k_is)
    (case lm1 => k_is)
    (case cm1 => k_is)
    (case km1 => k_is)
    (case am2 => k_is)
    (case im2 => k_is)
    (case lm2 => k_is)
    (case cm2 => k_is)
    (case km2 => k_is)
    (case am3 => k_is)
    (case im3 => k_is)
    (case lm3 => k_is)
    (case cm3 => k_is)
    (case km3 => k_is)
    (case am4 => k_is)
    (case im4 => k_is)
    (case lm4 => k_is)
    (case cm4 => k_is)
    (case km4 => k_is)
    (case am5 => k_is)
    (case im5 => k_is)
    (case lm5 => k_is)
    (case cm5 => k_is)
    (case km5 => k_is)
    (case am6 => k_is)
    (case im6 => k_is)
    (case lm6 => k_is)
    (case cm6 => k_is)
    (case km6 => k_is)
    (case am7 => k_is)
    (case im7 => k_is)
    (case lm7 => k_is)
    (case cm7 => k_is)
    (case km7 => k_is)
    (case am8 => k_is)
    (case im8 => k_is)
    (case lm8 => k_is)
    (case cm8 => k_is)
    (case km8 => k_is)
    (case am9 => k_is)
    (case im9 => k_is)
    (case lm9 => k_is)
    (case cm9 => k_is)
    (case km9 => k_is)
    (case am10 => k_is)
    (case im10 => k_is)
    (case lm10 => k_is)
    (case cm10 => k_is)
    (case km10 => k_is)
    (case am11 => k_is)
    (case im11 => k_is)
    (case lm11 => k_is)
    (case cm11 => k_is)
    (case km11 => k_is)
    (case am12 => k_is)
    (case im12 => k_is)
    (case lm12 => k_is)
    (case cm12 => k_is)
    (case km12 => k_is)
    (case am13 => k_is)
    (case im13 => k_is)
    (case lm13 => k_is)
    (case cm13 => k_is)
    (case km13 => k_is)
    (case am14 => k_is)
    (case im14 => k_is)
    (case lm14 => k_is)
    (case cm14 => k_is)
    (case km14 => k_is)
    (case pg => k_is)
    (case hdL => k_is)
    (case po => k_is)
    (case sa => k_is)
    (case mkL => k_is)
    (case kL => k_is)
    (case nA_rooms => k_is)
    (case nA_lines => k_is)
    (case nA_drains => k_is)
    (case nA_sources => k_is)
    (case g_LONGEST_NAME => k_is)
    (case g_HIGHEST_COST => k_is)
    (case g_MOST_ROOMS => k_is)
    (case g_MOST_LINES => k_is)
    (case g_MOST_DRAINS => k_is)
    (case g_MOST_NAMES => k_is)
    (case g_MOST_IN_STRETCH => k_is)
    (case z_len => k_is)
    (case z_all => k_is)
    (case z_isinstance => k_is)
    (case z_str => k_is)
    (case z_int => k_is)
    (case z_bool => k_is)
    (case z_sorted => k_is)
    (case z_list => k_is)
    (case z_set => k_is)
    (case z_abs => k_is)
    (case z_range => k_is)
    (case z_repr => k_is)
    (case z_enumerate => k_is)
    (case z_ValueError => k_is)
    (case z_dict => k_is)
    (case z_min => k_is)
    (case eAM => k_is)
    (case eLM => k_is)
    (case eSM => k_is)
    (case eGM => k_is)
    (case eHM => k_is)
    (case eCM => k_is)
    (case eKM => k_is)
    (case eDM => k_is)
    (case eA0 => k_is)
    (case eL0 => k_is)
    (case eS0 => k_is)
    (case eG0 => k_is)
    (case eH0 => k_is)
    (case eC0 => k_is)
    (case eK0 => k_is)
    (case eD0 => k_is)
    (case eA1 => k_is)
    (case eL1 => k_is)
    (case eS1 => k_is)
    (case eG1 => k_is)
    (case eH1 => k_is)
    (case eC1 => k_is)
    (case eK1 => k_is)
    (case eD1 => k_is)
    (case eA2 => k_is)
    (case eL2 => k_is)
    (case eS2 => k_is)
    (case eG2 => k_is)
    (case eH2 => k_is)
    (case eC2 => k_is)
    (case eK2 => k_is)
    (case eD2 => k_is)
    (case eA3 => k_is)
    (case eL3 => k_is)
    (case eS3 => k_is)
    (case eG3 => k_is)
    (case eH3 => k_is)
    (case eC3 => k_is)
    (case eK3 => k_is)
    (case eD3 => k_is)
    (case nF0 => k_is)
    (case iF0 => k_is)
    (case iT0 => k_is)
    (case iL0 => k_is)
    (case iC0 => k_is)
    (case iK0 => k_is)
    (case nF1 => k_is)
    (case iF1 => k_is)
    (case iT1 => k_is)
    (case iL1 => k_is)
    (case iC1 => k_is)
    (case iK1 => k_is)
    (case nF2 => k_is)
    (case iF2 => k_is)
    (case iT2 => k_is)
    (case iL2 => k_is)
    (case iC2 => k_is)
    (case iK2 => k_is)
    (case nF3 => k_is)
    (case iF3 => k_is)
    (case iT3 => k_is)
    (case iL3 => k_is)
    (case iC3 => k_is)
    (case iK3 => k_is)
    (case gS => k_is)
    (case gT => k_is)
    (case iHa => k_is)
    (case iHm => k_is)
    (case nD => decide)
